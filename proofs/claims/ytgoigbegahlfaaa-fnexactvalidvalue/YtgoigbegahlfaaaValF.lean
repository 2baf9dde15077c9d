import Derived.Test.YtgoigbegahlfaaaValE
namespace Go.Proofs.Ytgoigbegahlfaaa
open Go.RowKit

theorem Val.row3' {w w1 : World} {a0 a1 a2 : Value} {t : TypeId} (hb : Below (w.heap.size + 1) (w.alloc (.cells #[a0, a1, a2] t)) w1) :
    (w1.cell? ⟨w.heap.size, 0, none⟩ = some a0 ∧ w1.cell? ⟨w.heap.size, 1, none⟩ = some a1 ∧ w1.cell? ⟨w.heap.size, 2, none⟩ = some a2) ∧ w1.frozen? ⟨w.heap.size, 0, none⟩ = false ∧ w1.frozen? ⟨w.heap.size, 1, none⟩ = false ∧ w1.frozen? ⟨w.heap.size, 2, none⟩ = false :=
  Val.row3 (t := t) hb (by omega) (Val.new_at w _)
theorem Val.row3n {w1 w2 : World} {g : Nat} {a0 a1 a2 : Value} (h : (w1.cell? ⟨g, 0, none⟩ = some a0 ∧ w1.cell? ⟨g, 1, none⟩ = some a1 ∧ w1.cell? ⟨g, 2, none⟩ = some a2)) (hg : g < w1.heap.size) (hb : Below w1.heap.size w1 w2) :
    w2.cell? ⟨g, 0, none⟩ = some a0 ∧ w2.cell? ⟨g, 1, none⟩ = some a1 ∧ w2.cell? ⟨g, 2, none⟩ = some a2 :=
  ⟨by rw [hb.cell (p := ⟨g, 0, none⟩) hg]; exact h.1, by rw [hb.cell (p := ⟨g, 1, none⟩) hg]; exact h.2.1, by rw [hb.cell (p := ⟨g, 2, none⟩) hg]; exact h.2.2⟩

set_option maxRecDepth 100000 in
set_option maxHeartbeats 2000000 in
theorem Val.lawValid (G : World → Prop) (hGb : Hid (∀ w w' : World, G w → Below w.heap.size w w' → G w'))
    (hI : Hid (∀ (t n : Int) (x : ByteArray) (w : World), (-9223372036854775808 ≤ n ∧ n ≤ 9223372036854775807) → x.size ≤ 1048576 → G w → Calls Try.prog 7 #[.agg #[.int .i64 t, .int .i64 n, .string x]] w fun e w' => e = .returned (.bool (Val.valid ⟨t, n, x⟩)) ∧ Below w.heap.size w w'))
    (t n : Int) (x : ByteArray) (hn : -9223372036854775808 ≤ n ∧ n ≤ 9223372036854775807) (hx : x.size ≤ 9223372036854775807) (w : World) (hG : G w) :
    Calls Try.prog 3 #[.agg #[.int .i64 t, .int .i64 n, .string x]] w fun e w' => e = .returned (.bool true) ∧ Below w.heap.size w w' := by
  have hal : ∀ o : Obj, Below w.heap.size w (w.alloc o) := fun o => (Below.refl _ w).alloc (Nat.le_refl _) o
  obtain ⟨q, HQ⟩ : ∃ q, Hid (Val.sz x 1048576 = q) := ⟨_, (rfl : Val.sz x 1048576 = _)⟩
  by_cases hq : q < 0
  · go_enter Try.func3, Try.ntmps3
    go_wp2_with (go_at_call 4; (refine (Val.szValue_any t n x 1048576 hx (by omega) (by omega) _).mono ?_; rintro e w1 ⟨rfl, hb1⟩; rw [HQ.out]; simp only [World.size_alloc] at hb1))
    go_ret
    exact ⟨rfl, (hal _).trans (hb1.mono (by omega))⟩
  · have hsz : x.size ≤ 1048576 := by have h := HQ.out; unfold Val.sz at h; split at h <;> omega
    obtain ⟨b, HB⟩ : ∃ b, Hid (Val.valid ⟨t, n, x⟩ = b) := ⟨_, (rfl : Val.valid ⟨t, n, x⟩ = _)⟩
    go_enter Try.func3, Try.ntmps3
    go_wp2_with (first
      | (go_at_call 4; (refine (Val.szValue_any t n x 1048576 hx (by omega) (by omega) _).mono ?_; rintro e w1 ⟨rfl, hb1⟩; rw [HQ.out]; simp only [World.size_alloc] at hb1; have hw1 : Below w.heap.size w w1 := (hal _).trans (hb1.mono (by omega)); obtain ⟨⟨c0, c1, c2⟩, _⟩ := Val.row3' hb1; have z1 := hb1.size; simp only [World.size_alloc] at z1))
      | (go_at_call 6; (refine (Val.toValue_any t n x w1).mono ?_; rintro e w2 ⟨rfl, hb2⟩; have z2 := hb2.size))
      | (go_at_call 5; (refine (Val.valid_is b ⟨t, n, x⟩ HB w2).mono ?_; rintro e w3 ⟨rfl, hb3⟩; have z3 := hb3.size; have hw3 : Below w1.heap.size w1 w3 := hb2.trans (hb3.mono z2); obtain ⟨d0, d1, d2⟩ := Val.row3n ⟨c0, c1, c2⟩ (by omega) hw3; clear c0 c1 c2)))
    go_wp2_with (first
      | (go_at_call 6; (refine (Val.toValue_any t n x w3).mono ?_; rintro e w4 ⟨rfl, hb4⟩; have z4 := hb4.size; have hw4 : Below w.heap.size w w4 := (hw1.trans (hw3.mono (by omega))).trans (hb4.mono (by omega))))
      | (go_at_call 7; (refine (hI.out t n x w4 hn hsz (hGb.out _ _ hG hw4)).mono ?_; rintro e w5 ⟨rfl, hb5⟩; rw [HB.out])))
    go_ret
    exact ⟨rfl, hw4.trans (hb5.mono (by have := hw4.size; omega))⟩
end Go.Proofs.Ytgoigbegahlfaaa
