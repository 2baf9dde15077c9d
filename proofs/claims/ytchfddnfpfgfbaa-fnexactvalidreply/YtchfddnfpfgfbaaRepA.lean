import Derived.Test.YtchfddnfpfgfbaaProg
import Derived.WalkKit
import Derived.ProofKit
namespace Go.Proofs.Ytchfddnfpfgfbaa
open Go.RowKit

def Rp.sz (x : ByteArray) (l : Int) : Int := if l - (x.size : Int) < 0 then -1 else l - (x.size : Int)
set_option maxRecDepth 100000 in
set_option maxHeartbeats 1000000 in
theorem Rp.szReply_any (t : Int) (x : ByteArray) (l : Int) (hx : x.size ≤ 9223372036854775807) (h0 : 0 ≤ l) (h1 : l ≤ 1048576) (w : World) :
    Calls Try.prog 10 #[.agg #[.int .i64 t, .string x], .int .i64 l] w fun e w' => e = .returned (.int .i64 (Rp.sz x l)) ∧ Below w.heap.size w w' := by
  unfold Rp.sz
  by_cases h : l - (x.size : Int) < 0
  · rw [if_pos h]
    go_enter Try.func10, Try.ntmps10
    go_wp2
    go_ret
    exact ⟨rfl, (Below.refl _ w).alloc (Nat.le_refl _) _⟩
  · rw [if_neg h]
    go_enter Try.func10, Try.ntmps10
    go_wp2
    go_ret
    exact ⟨rfl, (Below.refl _ w).alloc (Nat.le_refl _) _⟩
set_option maxRecDepth 100000 in
set_option maxHeartbeats 1000000 in
theorem Rp.toReply_any (t : Int) (x : ByteArray) (w : World) :
    Calls Try.prog 12 #[.agg #[.int .i64 t, .string x]] w fun e w' => e = .returned (.agg #[.int .i64 t, .string x]) ∧ Below w.heap.size w w' := by
  go_enter Try.func12, Try.ntmps12
  go_wp2
  exact bodyPost_ret (v := .agg #[.int .i64 t, .string x]) (by simp [results, Try.results12, go_sem]) rfl ⟨rfl, (((Below.refl _ w).alloc (Nat.le_refl _) _).alloc (by simp) _).alloc (by simp only [World.size_alloc]; omega) _⟩
def Rp.ok (t : Int) (x : ByteArray) : Bool := if t = 0 then decide ((x.size : Int) ≤ 3000) else ((t == 4 || t == 5) && x.toList.isEmpty)
set_option maxRecDepth 100000 in
set_option maxHeartbeats 1000000 in
theorem Rp.spec_any (t : Int) (x : ByteArray) (w : World) (_hx : x.size ≤ 1048576) :
    Calls Try.prog 11 #[.agg #[.int .i64 t, .string x]] w fun e w' => e = .returned (.bool (Rp.ok t x)) ∧ Below w.heap.size w w' := by
  unfold Rp.ok
  by_cases h0 : t = 0
  · subst h0
    by_cases h1 : (x.size : Int) ≤ 3000
    · go_enter Try.func11, Try.ntmps11
      go_wp2
      go_ret
      refine ⟨by simp, (Below.refl _ w).alloc (Nat.le_refl _) _⟩
    · go_enter Try.func11, Try.ntmps11
      go_wp2
      go_ret
      refine ⟨by simp [h1], (Below.refl _ w).alloc (Nat.le_refl _) _⟩
  · by_cases h4 : t = 4
    · subst h4
      go_enter Try.func11, Try.ntmps11
      go_wp2
      go_ret
      refine ⟨by simp, (Below.refl _ w).alloc (Nat.le_refl _) _⟩
    · by_cases h5 : t = 5
      · subst h5
        go_enter Try.func11, Try.ntmps11
        go_wp2
        go_ret
        refine ⟨by simp, (Below.refl _ w).alloc (Nat.le_refl _) _⟩
      · have h0b : (t == 0) = false := by simp [h0]
        have h4b : (t == 4) = false := by simp [h4]
        have h5b : (t == 5) = false := by simp [h5]
        go_enter Try.func11, Try.ntmps11
        go_wp2
        go_ret
        refine ⟨by simp, (Below.refl _ w).alloc (Nat.le_refl _) _⟩
set_option maxRecDepth 100000 in
set_option maxHeartbeats 1000000 in
theorem Rp.impl_any (t : Int) (x : ByteArray) (w : World) (_hx : x.size ≤ 1048576) :
    Calls Try.prog 13 #[.agg #[.int .i64 t, .string x]] w fun e w' => e = .returned (.bool (Rp.ok t x)) ∧ Below w.heap.size w w' := by
  unfold Rp.ok
  by_cases h0 : t = 0
  · subst h0
    by_cases h1 : (x.size : Int) ≤ 3000
    · go_enter Try.func13, Try.ntmps13
      go_wp2
      go_ret
      refine ⟨by simp, (Below.refl _ w).alloc (Nat.le_refl _) _⟩
    · go_enter Try.func13, Try.ntmps13
      go_wp2
      go_ret
      refine ⟨by simp [h1], (Below.refl _ w).alloc (Nat.le_refl _) _⟩
  · by_cases h4 : t = 4
    · subst h4
      go_enter Try.func13, Try.ntmps13
      go_wp2
      go_ret
      refine ⟨by simp, (Below.refl _ w).alloc (Nat.le_refl _) _⟩
    · by_cases h5 : t = 5
      · subst h5
        go_enter Try.func13, Try.ntmps13
        go_wp2
        go_ret
        refine ⟨by simp, (Below.refl _ w).alloc (Nat.le_refl _) _⟩
      · have h0b : (t == 0) = false := by simp [h0]
        have h4b : (t == 4) = false := by simp [h4]
        have h5b : (t == 5) = false := by simp [h5]
        go_enter Try.func13, Try.ntmps13
        go_wp2
        go_ret
        refine ⟨by simp, (Below.refl _ w).alloc (Nat.le_refl _) _⟩
theorem Rp.row2 {w w1 : World} {a0 a1 : Value} {t : TypeId} (hb : Below (w.heap.size + 1) (w.alloc (.cells #[a0, a1] t)) w1) :
    w1.cell? ⟨w.heap.size, 0, none⟩ = some a0 ∧ w1.cell? ⟨w.heap.size, 1, none⟩ = some a1 := by
  have h1 := hb.block w.heap.size (by omega)
  rw [(MapKept.heap_alloc w _).1] at h1
  simp [World.cell?, h1]
theorem Rp.row2n {w1 w2 : World} {g : Nat} {a0 a1 : Value} (h : w1.cell? ⟨g, 0, none⟩ = some a0 ∧ w1.cell? ⟨g, 1, none⟩ = some a1) (hg : g < w1.heap.size) (hb : Below w1.heap.size w1 w2) :
    w2.cell? ⟨g, 0, none⟩ = some a0 ∧ w2.cell? ⟨g, 1, none⟩ = some a1 :=
  ⟨by rw [hb.cell (p := ⟨g, 0, none⟩) hg]; exact h.1, by rw [hb.cell (p := ⟨g, 1, none⟩) hg]; exact h.2⟩
set_option maxRecDepth 100000 in
set_option maxHeartbeats 2000000 in
theorem Rp.law_any (t : Int) (x : ByteArray) (hx : x.size ≤ 9223372036854775807) (w : World) :
    Calls Try.prog 4 #[.agg #[.int .i64 t, .string x]] w fun e w' => e = .returned (.bool true) ∧ Below w.heap.size w w' := by
  have hal : ∀ o : Obj, Below w.heap.size w (w.alloc o) := fun o => (Below.refl _ w).alloc (Nat.le_refl _) o
  obtain ⟨q, HQ⟩ : ∃ q, Hid (Rp.sz x 1048576 = q) := ⟨_, (rfl : Rp.sz x 1048576 = _)⟩
  by_cases hq : q < 0
  · go_enter Try.func4, Try.ntmps4
    go_wp2_with (go_at_call 10; (refine (Rp.szReply_any t x 1048576 hx (by omega) (by omega) _).mono ?_; rintro e w1 ⟨rfl, hb1⟩; rw [HQ.out]; simp only [World.size_alloc] at hb1))
    go_ret
    exact ⟨rfl, (hal _).trans (hb1.mono (by omega))⟩
  · have hsz : x.size ≤ 1048576 := by have h := HQ.out; unfold Rp.sz at h; split at h <;> omega
    obtain ⟨b, HB⟩ : ∃ b, Hid (Rp.ok t x = b) := ⟨_, (rfl : Rp.ok t x = _)⟩
    go_enter Try.func4, Try.ntmps4
    go_wp2_with (first
      | (go_at_call 10; (refine (Rp.szReply_any t x 1048576 hx (by omega) (by omega) _).mono ?_; rintro e w1 ⟨rfl, hb1⟩; rw [HQ.out]; simp only [World.size_alloc] at hb1; have hw1 : Below w.heap.size w w1 := (hal _).trans (hb1.mono (by omega)); obtain ⟨c0, c1⟩ := Rp.row2 hb1; have z1 := hb1.size; simp only [World.size_alloc] at z1))
      | (go_at_call 12; (refine (Rp.toReply_any t x w1).mono ?_; rintro e w2 ⟨rfl, hb2⟩; have z2 := hb2.size))
      | (go_at_call 11; (refine (Rp.spec_any t x w2 hsz).mono ?_; rintro e w3 ⟨rfl, hb3⟩; rw [HB.out]; have z3 := hb3.size; have hw3 : Below w1.heap.size w1 w3 := hb2.trans (hb3.mono z2); obtain ⟨d0, d1⟩ := Rp.row2n ⟨c0, c1⟩ (by omega) hw3; clear c0 c1)))
    go_wp2_with (first
      | (go_at_call 12; (refine (Rp.toReply_any t x w3).mono ?_; rintro e w4 ⟨rfl, hb4⟩; have z4 := hb4.size; have hw4 : Below w.heap.size w w4 := (hw1.trans (hw3.mono (by omega))).trans (hb4.mono (by omega))))
      | (go_at_call 13; (refine (Rp.impl_any t x w4 hsz).mono ?_; rintro e w5 ⟨rfl, hb5⟩; rw [HB.out])))
    go_ret
    exact ⟨rfl, hw4.trans (hb5.mono (by have := hw4.size; omega))⟩
end Go.Proofs.Ytchfddnfpfgfbaa
