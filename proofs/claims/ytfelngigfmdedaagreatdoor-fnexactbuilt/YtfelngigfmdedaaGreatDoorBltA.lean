import Derived.Test.YtfelngigfmdedaaGreatDoorValE
import Derived.OwnWalk
import Derived.Maps.AppendAt
import Derived.Deep.Onto
import Derived.Deep.RegionHeld3
namespace Go.Proofs.YtfelngigfmdedaaGreatDoor
open Go.RowKit

def Val.vC (d : Val.V) : List Value := [.int .i64 d.type, .int .i64 d.n, .string d.text]
def Val.vCs (l : List Val.V) : List Value := l.flatMap Val.vC
theorem Val.vCs_length (ts : List Val.V) : (Val.vCs ts).length = ts.length * 3 := by
  induction ts with
  | nil => rfl
  | cons t r ih => simp [Val.vCs, Val.vC] at ih ⊢; omega
theorem Val.vCs_at (ts : List Val.V) (i : Nat) (h : i < ts.length) (j : Nat) (hj : j < 3) : (Val.vCs ts)[i * 3 + j]? = (Val.vC ts[i])[j]? := by
  induction ts generalizing i with
  | nil => simp at h
  | cons t r ih =>
    cases i with
    | zero =>
      simp only [Val.vCs, List.flatMap_cons, Nat.zero_mul, Nat.zero_add]
      rw [List.getElem?_append_left (by simp [Val.vC]; omega)]; rfl
    | succ i =>
      simp only [Val.vCs, List.flatMap_cons]
      rw [List.getElem?_append_right (by simp [Val.vC]; omega)]
      have e : (i + 1) * 3 + j - (Val.vC t).length = i * 3 + j := by simp [Val.vC]; omega
      rw [e]
      exact ih i (by simpa using h)
def Val.VsAt (w : World) (v : Value) (ns : List Val.V) : Prop :=
  ∃ a cap, v = .slice a ns.length cap ∧ ∀ i (hi : i < ns.length), ∃ g, a = some ⟨g, 0, none⟩ ∧ g < w.heap.size ∧ ∀ j, j < 3 → w.cell? ⟨g, i * 3 + j, none⟩ = (Val.vC ns[i])[j]?
theorem Val.vsAt_own {w : World} {B : Nat} {v : Value} {ns : List Val.V} {e : TypeId} (h : w.ownsRow B e 3 v ns.length (Val.vCs ns)) : Val.VsAt w v ns := by
  rcases h.2 with ⟨rfl, h0⟩ | ⟨g, cap, cur, rfl, hg, hgg, _⟩
  · exact ⟨none, 0, by rw [h0], fun i hi => by omega⟩
  · refine ⟨_, _, rfl, fun i hi => ⟨g, rfl, (Array.getElem?_eq_some_iff.1 hgg).1, fun j hj => ?_⟩⟩
    rw [h.cellAt (i * 3 + j) (by omega), Val.vCs_at ns i hi j hj]
theorem Val.vsAt_below {w w' : World} {v : Value} {ns : List Val.V} (h : Val.VsAt w v ns) (hb : Below w.heap.size w w') : Val.VsAt w' v ns := by
  obtain ⟨a, cap, rfl, hc⟩ := h
  refine ⟨a, cap, rfl, fun i hi => ?_⟩
  obtain ⟨g, ha, hg, hcell⟩ := hc i hi
  refine ⟨g, ha, Nat.lt_of_lt_of_le hg hb.size, fun j hj => ?_⟩
  rw [hb.cell (p := ⟨g, i * 3 + j, none⟩) hg]; exact hcell j hj
def Val.VsOff (w : World) (v : Value) (ns : List Val.V) : Prop :=
  ∃ a cap, v = .slice a ns.length cap ∧ ∀ i (hi : i < ns.length), ∃ g o, a = some ⟨g, o, none⟩ ∧ g < w.heap.size ∧ ∀ j, j < 3 → w.cell? ⟨g, o + i * 3 + j, none⟩ = (Val.vC ns[i])[j]?
theorem Val.vsOff_below {w w' : World} {v : Value} {ns : List Val.V} (h : Val.VsOff w v ns) (hb : Below w.heap.size w w') : Val.VsOff w' v ns := by
  obtain ⟨a, cap, rfl, hc⟩ := h
  refine ⟨a, cap, rfl, fun i hi => ?_⟩
  obtain ⟨g, o, ha, hg, hcell⟩ := hc i hi
  refine ⟨g, o, ha, Nat.lt_of_lt_of_le hg hb.size, fun j hj => ?_⟩
  rw [hb.cell (p := ⟨g, o + i * 3 + j, none⟩) hg]; exact hcell j hj
def Val.szL : List Val.V → Int → Int
  | [], l => l
  | d :: r, l => if l - (d.text.size : Int) < 0 then -1 else Val.szL r (l - (d.text.size : Int))
theorem Val.rowLen {w : World} {B e size n : Nat} {v : Value} {xs : List Value} (h : w.ownsRow B e size v n xs) : ∃ a cap, v = .slice a n cap := by
  rcases h.2 with ⟨rfl, h0⟩ | ⟨g, cap, cur, rfl, _⟩
  · exact ⟨none, 0, by rw [h0]⟩
  · exact ⟨_, _, rfl⟩
theorem Val.own_next {W W' : World} {B e size n : Nat} {v : Value} {xs : List Value} (h : W.ownsRow B e size v n xs) (hb : Below W.heap.size W W') : W'.ownsRow B e size v n xs := by
  refine ⟨h.1, ?_⟩
  rcases h.2 with hn | ⟨g, cap, cur, hv, hg, hgg, rest⟩
  · exact .inl hn
  · exact .inr ⟨g, cap, cur, hv, hg, by rw [hb.block g (Array.getElem?_eq_some_iff.1 hgg).1]; exact hgg, rest⟩

set_option maxRecDepth 100000 in
set_option maxHeartbeats 1000000 in
theorem Val.szValueS_any (ns : List Val.V) (v : Value) (l : Int) (h0 : 0 ≤ l) (h1 : l ≤ 1048576) (hn : ns.length ≤ 9223372036854775807) (hx : ∀ d ∈ ns, d.text.size ≤ 9223372036854775807) (w : World) (hN : Val.VsOff w v ns) :
    Calls Tryz.prog 4 #[v, .int .i64 l] w fun e w' => e = .returned (.int .i64 (if l - (ns.length : Int) < 0 then -1 else Val.szL ns (l - (ns.length : Int)))) ∧ Below w.heap.size w w' := by
  obtain ⟨a, cap, rfl, hc⟩ := hN
  obtain ⟨n, HN⟩ : ∃ n, Hid (ns.length = n) := ⟨_, (rfl : ns.length = _)⟩
  have HC : Hid (∀ i (hi : i < ns.length), ∃ g o, a = some ⟨g, o, none⟩ ∧ g < w.heap.size ∧ ∀ j, j < 3 → w.cell? ⟨g, o + i * 3 + j, none⟩ = (Val.vC ns[i])[j]?) := hc
  clear hc
  rw [HN.out] at hn
  simp only [HN.out]
  by_cases hl : l - (n : Int) < 0
  · rw [if_pos hl]
    go_enter Tryz.func4, Tryz.ntmps4
    go_wp2
    go_ret
    exact ⟨rfl, Below.refl _ _⟩
  · rw [if_neg hl]
    go_enter Tryz.func4, Tryz.ntmps4
    go_wp2
    go_loopw [1, 5] (fun tl tv wr => ∃ (i : Nat) (q : Int), i ≤ n ∧ tv = .int .i64 (i : Int) ∧ tl = .int .i64 q ∧ 0 ≤ q ∧ q ≤ 1048576 ∧ Val.szL (ns.drop i) q = Val.szL ns (l - (n : Int)) ∧ Below w.heap.size w wr) (fun _ tv _ => n - (intOf tv).toNat)
    case atStart => exact ⟨0, l - (n : Int), by omega, rfl, rfl, by omega, by omega, rfl, Below.refl _ _⟩
    case round =>
      obtain ⟨i, q, hi, rfl, rfl, hq0, hq1, hu, hbw⟩ := hrel
      have hz := hbw.size
      by_cases hlt : i < n
      · have hil : i < ns.length := by rw [HN.out]; exact hlt
        obtain ⟨g, o, rfl, hg, hcell⟩ := HC.out i hil
        rw [List.drop_eq_getElem_cons hil, Val.szL] at hu
        have hxd := hx ns[i] (List.getElem_mem hil)
        have hq : ∀ m, m < 3 → wr.cell? ⟨g, o + i * 3 + m, none⟩ = (Val.vC ns[i])[m]? := fun m hm => by rw [hbw.cell (p := ⟨g, o + i * 3 + m, none⟩) hg, hcell m hm]
        generalize ns[i] = d at *
        have e0 := hq 0 (by omega); have e1 := hq 1 (by omega); have e2 := hq 2 (by omega)
        simp only [Val.vC, Nat.add_zero, List.getElem?_cons_zero, List.getElem?_cons_succ] at e0 e1 e2
        clear hq hcell HC
        obtain ⟨kt, ky, kx⟩ := d
        simp only at *
        by_cases hlq : q - (kx.size : Int) < 0
        · have HU : Hid (Val.szL ns (l - (n : Int)) = -1) := by rw [if_pos hlq] at hu; exact hu.symm
          clear hu
          go_wp2_with (go_at_call 10; (refine (Val.szValue_any _ _ _ _ hxd hq0 hq1 _).mono ?_; rintro e w1 ⟨rfl, hb1⟩; rw [Val.sz, if_pos hlq]))
          go_ret
          exact ⟨Val.ret_i HU.out.symm, hbw.trans (hb1.mono hz)⟩
        · have HU : Hid (Val.szL (ns.drop (i + 1)) (q - (kx.size : Int)) = Val.szL ns (l - (n : Int))) := by rw [if_neg hlq] at hu; exact hu
          clear hu
          go_wp2_with (go_at_call 10; (refine (Val.szValue_any _ _ _ _ hxd hq0 hq1 _).mono ?_; rintro e w1 ⟨rfl, hb1⟩; rw [Val.sz, if_neg hlq]))
          go_roundw
          case rel => exact ⟨i + 1, q - (kx.size : Int), by omega, by go_num, rfl, by omega, by omega, HU.out, hbw.trans (hb1.mono hz)⟩
          case measure => simp [intOf]; omega
      · have HU : Hid (Val.szL ns (l - (n : Int)) = q) := by rw [List.drop_of_length_le (by rw [HN.out]; omega)] at hu; exact hu.symm
        clear hu HC
        go_wp2
        go_ret
        exact ⟨Val.ret_i HU.out.symm, hbw⟩

set_option maxRecDepth 100000 in
set_option maxHeartbeats 1000000 in
theorem Val.eqValueS_same (ns : List Val.V) (va vb : Value) (w : World) (ha : Val.VsAt w va ns) (hb : Val.VsAt w vb ns) (hl : ns.length ≤ 1048576) :
    Calls Tryz.prog 9 #[va, vb] w fun e w' => e = .returned (.bool true) ∧ Below w.heap.size w w' := by
  obtain ⟨a, cap, rfl, hc⟩ := ha
  obtain ⟨b, cbp, rfl, hd⟩ := hb
  obtain ⟨n, HN⟩ : ∃ n, Hid (ns.length = n) := ⟨_, (rfl : ns.length = _)⟩
  have HC : Hid (∀ i (hi : i < ns.length), ∃ g, a = some ⟨g, 0, none⟩ ∧ g < w.heap.size ∧ ∀ j, j < 3 → w.cell? ⟨g, i * 3 + j, none⟩ = (Val.vC ns[i])[j]?) := hc
  have HD : Hid (∀ i (hi : i < ns.length), ∃ g, b = some ⟨g, 0, none⟩ ∧ g < w.heap.size ∧ ∀ j, j < 3 → w.cell? ⟨g, i * 3 + j, none⟩ = (Val.vC ns[i])[j]?) := hd
  clear hc hd
  rw [HN.out] at hl
  simp only [HN.out]
  have hne : ((n : Int) != (n : Int)) = false := by simp
  go_enter Tryz.func9, Tryz.ntmps9
  go_wp2
  go_loopw [5] (fun t wr => ∃ i : Nat, i ≤ n ∧ t = .int .i64 (i : Int) ∧ Below w.heap.size w wr) (fun t _ => n - (intOf t).toNat)
  case atStart => exact ⟨0, by omega, rfl, Below.refl _ _⟩
  case round =>
    obtain ⟨i, hi, rfl, hbw⟩ := hrel
    have hz : w.heap.size ≤ wr.heap.size := hbw.size
    by_cases hlt : i < n
    · have hil : i < ns.length := by rw [HN.out]; exact hlt
      obtain ⟨ga, rfl, hga, hca⟩ := HC.out i hil
      obtain ⟨gb, rfl, hgb, hcb⟩ := HD.out i hil
      have hA : ∀ m, m < 3 → wr.cell? ⟨ga, i * 3 + m, none⟩ = (Val.vC ns[i])[m]? := fun m hm => by rw [hbw.cell (p := ⟨ga, i * 3 + m, none⟩) hga, hca m hm]
      have hB : ∀ m, m < 3 → wr.cell? ⟨gb, i * 3 + m, none⟩ = (Val.vC ns[i])[m]? := fun m hm => by rw [hbw.cell (p := ⟨gb, i * 3 + m, none⟩) hgb, hcb m hm]
      generalize ns[i] = d at *
      have a0 := hA 0 (by omega); have a1 := hA 1 (by omega); have a2 := hA 2 (by omega)
      have b0 := hB 0 (by omega); have b1 := hB 1 (by omega); have b2 := hB 2 (by omega)
      simp only [Val.vC, List.getElem?_cons_zero, List.getElem?_cons_succ, Nat.add_zero] at a0 a1 a2 b0 b1 b2
      clear hA hB hca hcb HC HD
      go_wp2_with fail
      go_region_with (go_at_call 8; refine (Val.eqValue_same _ _ _ _).mono ?_; rintro e w1 ⟨rfl, hb1⟩)
      all_goals
        have hbw2 : Below w.heap.size w w1 := hbw.trans (by have := hb1.mono (B' := w.heap.size) (by simpa using hz); exact ⟨this.os, this.tape, this.output, this.size, this.block⟩)
        clear a0 a1 a2 b0 b1 b2
        go_wp2
        go_roundw
        case rel => exact ⟨i + 1, by omega, by go_num, hbw2⟩
        case measure => simp [intOf]; omega
    · clear HC HD
      go_wp2
      go_ret
      exact ⟨rfl, hbw⟩
end Go.Proofs.YtfelngigfmdedaaGreatDoor
