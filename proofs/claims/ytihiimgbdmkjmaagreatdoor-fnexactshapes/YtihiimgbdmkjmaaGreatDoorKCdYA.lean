import Derived.Test.YtihiimgbdmkjmaaGreatDoorKCdY
namespace Go.Proofs.YtihiimgbdmkjmaaGreatDoor
open Go.RowKit

theorem Cd.badFn_all (c : List Cd.Fn) : ∀ (l : List Cd.Fn) (k : Nat), Cd.badFn c l k = none → ∀ j (hj : j < l.length), Cd.fnOk c (k + j) l[j] = true
  | [], _, _, j, hj => by simp at hj
  | f :: r, k, h, j, hj => by
    rw [Cd.badFn] at h
    by_cases hf : Cd.fnOk c k f = true
    · rw [if_pos hf] at h
      cases j with
      | zero => exact hf
      | succ j =>
        have := Cd.badFn_all c r (k + 1) h j (by simpa using hj)
        have e : k + 1 + j = k + (j + 1) := by omega
        rw [e] at this
        simpa using this
    · rw [if_neg hf] at h; simp at h
theorem Cd.badIns_all (c : List Cd.Fn) (f : Cd.Fn) : ∀ (l : List Cd.Ins) (k : Nat), Cd.badIns c f l k = none → ∀ j (hj : j < l.length), Cd.insOk c f l[j] = true
  | [], _, _, j, hj => by simp at hj
  | i :: r, k, h, j, hj => by
    rw [Cd.badIns] at h
    by_cases hf : Cd.insOk c f i = true
    · rw [if_pos hf] at h
      cases j with
      | zero => exact hf
      | succ j => simpa using Cd.badIns_all c f r (k + 1) h j (by simpa using hj)
    · rw [if_neg hf] at h; simp at h
theorem Cd.badCode_all (c : List Cd.Fn) : ∀ (l : List Cd.Fn) (k : Nat), Cd.badCode c l k = none → ∀ j (hj : j < l.length), Cd.badIns c l[j] l[j].ins 0 = none
  | [], _, _, j, hj => by simp at hj
  | f :: r, k, h, j, hj => by
    rw [Cd.badCode] at h
    cases hb : Cd.badIns c f f.ins 0 with
    | some i => rw [hb] at h; simp at h
    | none =>
      rw [hb] at h
      cases j with
      | zero => exact hb
      | succ j => simpa using Cd.badCode_all c r (k + 1) h j (by simpa using hj)
/-- A code of which nothing is wrong but perhaps its shapes. -/
structure Cd.Sound (c : List Cd.Fn) : Prop where
  len : c.length ≤ 60
  fns : ∀ k (hk : k < c.length), Cd.fnOk c k c[k] = true
  ins : ∀ k (hk : k < c.length) i (hi : i < c[k].ins.length), Cd.insOk c c[k] c[k].ins[i] = true
theorem Cd.plain_sound {c : List Cd.Fn} (h : (Cd.plain c).1 = 0) : Cd.Sound c := by
  unfold Cd.plain at h
  by_cases h1 : c.length = 0 ∨ 60 < c.length
  · rw [if_pos h1] at h; simp at h
  · rw [if_neg h1] at h
    cases h2 : Cd.badFn c c 0 with
    | some k => rw [h2] at h; simp at h
    | none =>
      rw [h2] at h
      cases h3 : Cd.badCode c c 0 with
      | some p => rw [h3] at h; simp at h
      | none =>
        refine ⟨by omega, fun k hk => ?_, fun k hk i hi => Cd.badIns_all c c[k] _ 0 (Cd.badCode_all c c 0 h3 k hk) i hi⟩
        have := Cd.badFn_all c c 0 h2 k hk
        rw [Nat.zero_add] at this; exact this
theorem Cd.Sound.pl {c : List Cd.Fn} (h : Cd.Sound c) : ∀ g ∈ c, g.params.length ≤ 8 := fun g hg => by
  obtain ⟨k, hk, rfl⟩ := List.getElem_of_mem hg
  exact (Cd.fnOk_bd (h.fns k hk)).2.2.2.2.1
theorem Cd.Sound.shapes {c : List Cd.Fn} (h : Cd.Sound c) (k : Nat) (hk : k < c.length) (ca : Option Addr) (cc : Nat) (w : World) (hC : Cd.CodeAt w.heap.size w (.slice ca c.length cc) c) : Calls Tryz.prog 16 #[.agg #[.slice ca c.length cc], .int .i64 (k : Int)] w (Cd.ShapesPost c c[k] w) :=
  Cd.shapes_any c k hk c[k] rfl ca cc h.len (h.fns k hk) h.pl (h.ins k hk) w hC
end Go.Proofs.YtihiimgbdmkjmaaGreatDoor
namespace Go.Proofs.YtihiimgbdmkjmaaGreatDoor
open Go.RowKit
end Go.Proofs.YtihiimgbdmkjmaaGreatDoor
