import Derived.Test.YtgoigbegahlfaaaDoorValF
import Derived.Test.YtgoigbegahlfaaaDoorValD
namespace Go.Proofs.YtgoigbegahlfaaaDoor
open Go.RowKit

theorem Val.unary_is (op t n : Int) (x : ByteArray) (rt rn : Int) (rx ry : ByteArray) (h : Hid (Val.unary op ⟨t, n, x⟩ = (⟨rt, rn, rx⟩, ry))) (w : World) :
    Calls Tryd.prog 6 #[.int .i64 op, .agg #[.int .i64 t, .int .i64 n, .string x]] w fun e w' => e = .returned (.tuple #[.agg #[.int .i64 rt, .int .i64 rn, .string rx], .string ry]) ∧ Below w.heap.size w w' := by
  have := Val.unary_any op t n x w
  rw [h.out] at this
  exact this

set_option maxRecDepth 100000 in
set_option maxHeartbeats 2000000 in
theorem Val.lawUnary (G : World → Prop) (hGb : Hid (∀ w w' : World, G w → Below w.heap.size w w' → G w'))
    (hI : Hid (∀ (op t n : Int) (x : ByteArray) (rt rn : Int) (rx ry : ByteArray) (w : World), (-9223372036854775808 ≤ n ∧ n ≤ 9223372036854775807) → x.size ≤ 1048576 → G w → Val.unary op ⟨t, n, x⟩ = (⟨rt, rn, rx⟩, ry) → Calls Tryd.prog 8 #[.int .i64 op, .agg #[.int .i64 t, .int .i64 n, .string x]] w fun e w' => e = .returned (.tuple #[.agg #[.int .i64 rt, .int .i64 rn, .string rx], .string ry]) ∧ Below w.heap.size w w'))
    (op t n : Int) (x : ByteArray) (hn : -9223372036854775808 ≤ n ∧ n ≤ 9223372036854775807) (hx : x.size ≤ 9223372036854775807) (w : World) (hG : G w) :
    Calls Tryd.prog 3 #[.int .i64 op, .agg #[.int .i64 t, .int .i64 n, .string x]] w fun e w' => e = .returned (.bool true) ∧ Below w.heap.size w w' := by
  have hal : ∀ o : Obj, Below w.heap.size w (w.alloc o) := fun o => (Below.refl _ w).alloc (Nat.le_refl _) o
  obtain ⟨q, HQ⟩ : ∃ q, Hid (Val.sz x 1048576 = q) := ⟨_, (rfl : Val.sz x 1048576 = _)⟩
  by_cases hq : q < 0
  · go_enter Tryd.func3, Tryd.ntmps3
    go_wp2_with (go_at_call 5; (refine (Val.szValue_any t n x 1048576 hx (by omega) (by omega) _).mono ?_; rintro e w1 ⟨rfl, hb1⟩; rw [HQ.out]; simp only [World.size_alloc] at hb1))
    go_ret
    exact ⟨rfl, (hal _).trans (hb1.mono (by omega))⟩
  · have hsz : x.size ≤ 1048576 := by have h := HQ.out; unfold Val.sz at h; split at h <;> omega
    obtain ⟨rt, rn, rx, ry, HB⟩ : ∃ rt rn rx ry, Hid (Val.unary op ⟨t, n, x⟩ = (⟨rt, rn, rx⟩, ry)) := ⟨_, _, _, _, (rfl : Val.unary op ⟨t, n, x⟩ = _)⟩
    go_enter Tryd.func3, Tryd.ntmps3
    go_wp2_with (first
      | (go_at_call 5; (refine (Val.szValue_any t n x 1048576 hx (by omega) (by omega) _).mono ?_; rintro e w1 ⟨rfl, hb1⟩; rw [HQ.out]; simp only [World.size_alloc] at hb1; have hw1 : Below w.heap.size w w1 := (hal _).trans (hb1.mono (by omega)); obtain ⟨⟨c0, c1, c2⟩, _⟩ := Val.row3' hb1; have z1 := hb1.size; simp only [World.size_alloc] at z1))
      | (go_at_call 7; (refine (Val.toValue_any t n x w1).mono ?_; rintro e w2 ⟨rfl, hb2⟩; have z2 := hb2.size))
      | (go_at_call 6; (refine (Val.unary_is op t n x rt rn rx ry HB w2).mono ?_; rintro e w3 ⟨rfl, hb3⟩; have z3 := hb3.size; have hw3 : Below w1.heap.size w1 w3 := hb2.trans (hb3.mono z2); obtain ⟨d0, d1, d2⟩ := Val.row3n ⟨c0, c1, c2⟩ (by omega) (hw3.alloc (by omega) (.cells #[.int .i64 rt, .int .i64 rn, .string rx] 25)); clear c0 c1 c2)))
    have hw3a : Below w.heap.size w (w3.alloc (.cells #[.int .i64 rt, .int .i64 rn, .string rx] 25)) := (hw1.trans (hw3.mono (by omega))).alloc (by omega) _
    go_wp2_with (first
      | (go_at_call 7; (refine (Val.toValue_any t n x (w3.alloc (.cells #[.int .i64 rt, .int .i64 rn, .string rx] 25))).mono ?_; rintro e w4 ⟨rfl, hb4⟩; have z4 := hb4.size; simp only [World.size_alloc] at hb4 z4; have hw4 : Below w.heap.size w w4 := hw3a.trans (hb4.mono (by omega))))
      | (go_at_call 8; (refine (hI.out op t n x rt rn rx ry w4 hn hsz (hGb.out _ _ hG hw4) HB.out).mono ?_; rintro e w5 ⟨rfl, hb5⟩; have z5 := hb5.size; obtain ⟨⟨e0, e1, e2⟩, _⟩ := Val.row3' ((hb4.trans (hb5.mono z4)).alloc (by omega) (.cells #[.int .i64 rt, .int .i64 rn, .string rx] 25))))
      | (go_at_call 9; (refine (Val.eqValue_same rt rn rx _).mono ?_; rintro e w6 ⟨rfl, hb6⟩; simp only [World.size_alloc] at hb6)))
    go_ret
    exact ⟨rfl, ((hw4.trans (hb5.mono (by have := hw4.size; omega))).alloc (by have := hw4.size; omega) _).trans (hb6.mono (by have := hw4.size; omega))⟩
theorem Val.convert_is (op t n : Int) (x : ByteArray) (rt rn : Int) (rx ry : ByteArray) (h : Hid (Val.convert ⟨t, n, x⟩ op = (⟨rt, rn, rx⟩, ry))) (w : World) :
    Calls Tryd.prog 10 #[.agg #[.int .i64 t, .int .i64 n, .string x], .int .i64 op] w fun e w' => e = .returned (.tuple #[.agg #[.int .i64 rt, .int .i64 rn, .string rx], .string ry]) ∧ Below w.heap.size w w' := by
  have := Val.convert_any t n x op w
  rw [h.out] at this
  exact this

set_option maxRecDepth 100000 in
set_option maxHeartbeats 2000000 in
theorem Val.lawConvert (G : World → Prop) (hGb : Hid (∀ w w' : World, G w → Below w.heap.size w w' → G w'))
    (hI : Hid (∀ (op t n : Int) (x : ByteArray) (rt rn : Int) (rx ry : ByteArray) (w : World), (-9223372036854775808 ≤ n ∧ n ≤ 9223372036854775807) → x.size ≤ 1048576 → G w → Val.convert ⟨t, n, x⟩ op = (⟨rt, rn, rx⟩, ry) → Calls Tryd.prog 11 #[.agg #[.int .i64 t, .int .i64 n, .string x], .int .i64 op] w fun e w' => e = .returned (.tuple #[.agg #[.int .i64 rt, .int .i64 rn, .string rx], .string ry]) ∧ Below w.heap.size w w'))
    (op t n : Int) (x : ByteArray) (hn : -9223372036854775808 ≤ n ∧ n ≤ 9223372036854775807) (hx : x.size ≤ 9223372036854775807) (w : World) (hG : G w) :
    Calls Tryd.prog 4 #[.agg #[.int .i64 t, .int .i64 n, .string x], .int .i64 op] w fun e w' => e = .returned (.bool true) ∧ Below w.heap.size w w' := by
  have hal : ∀ o : Obj, Below w.heap.size w (w.alloc o) := fun o => (Below.refl _ w).alloc (Nat.le_refl _) o
  obtain ⟨q, HQ⟩ : ∃ q, Hid (Val.sz x 1048576 = q) := ⟨_, (rfl : Val.sz x 1048576 = _)⟩
  by_cases hq : q < 0
  · go_enter Tryd.func4, Tryd.ntmps4
    go_wp2_with (go_at_call 5; (refine (Val.szValue_any t n x 1048576 hx (by omega) (by omega) _).mono ?_; rintro e w1 ⟨rfl, hb1⟩; rw [HQ.out]; simp only [World.size_alloc] at hb1))
    go_ret
    exact ⟨rfl, (hal _).trans (hb1.mono (by omega))⟩
  · have hsz : x.size ≤ 1048576 := by have h := HQ.out; unfold Val.sz at h; split at h <;> omega
    obtain ⟨rt, rn, rx, ry, HB⟩ : ∃ rt rn rx ry, Hid (Val.convert ⟨t, n, x⟩ op = (⟨rt, rn, rx⟩, ry)) := ⟨_, _, _, _, (rfl : Val.convert ⟨t, n, x⟩ op = _)⟩
    go_enter Tryd.func4, Tryd.ntmps4
    go_wp2_with (first
      | (go_at_call 5; (refine (Val.szValue_any t n x 1048576 hx (by omega) (by omega) _).mono ?_; rintro e w1 ⟨rfl, hb1⟩; rw [HQ.out]; simp only [World.size_alloc] at hb1; have hw1 : Below w.heap.size w w1 := (hal _).trans (hb1.mono (by omega)); obtain ⟨⟨c0, c1, c2⟩, _⟩ := Val.row3' hb1; have z1 := hb1.size; simp only [World.size_alloc] at z1))
      | (go_at_call 7; (refine (Val.toValue_any t n x w1).mono ?_; rintro e w2 ⟨rfl, hb2⟩; have z2 := hb2.size))
      | (go_at_call 10; (refine (Val.convert_is op t n x rt rn rx ry HB w2).mono ?_; rintro e w3 ⟨rfl, hb3⟩; have z3 := hb3.size; have hw3 : Below w1.heap.size w1 w3 := hb2.trans (hb3.mono z2); obtain ⟨d0, d1, d2⟩ := Val.row3n ⟨c0, c1, c2⟩ (by omega) (hw3.alloc (by omega) (.cells #[.int .i64 rt, .int .i64 rn, .string rx] 25)); clear c0 c1 c2)))
    have hw3a : Below w.heap.size w (w3.alloc (.cells #[.int .i64 rt, .int .i64 rn, .string rx] 25)) := (hw1.trans (hw3.mono (by omega))).alloc (by omega) _
    go_wp2_with (first
      | (go_at_call 7; (refine (Val.toValue_any t n x (w3.alloc (.cells #[.int .i64 rt, .int .i64 rn, .string rx] 25))).mono ?_; rintro e w4 ⟨rfl, hb4⟩; have z4 := hb4.size; simp only [World.size_alloc] at hb4 z4; have hw4 : Below w.heap.size w w4 := hw3a.trans (hb4.mono (by omega))))
      | (go_at_call 11; (refine (hI.out op t n x rt rn rx ry w4 hn hsz (hGb.out _ _ hG hw4) HB.out).mono ?_; rintro e w5 ⟨rfl, hb5⟩; have z5 := hb5.size; obtain ⟨⟨e0, e1, e2⟩, _⟩ := Val.row3' ((hb4.trans (hb5.mono z4)).alloc (by omega) (.cells #[.int .i64 rt, .int .i64 rn, .string rx] 25))))
      | (go_at_call 9; (refine (Val.eqValue_same rt rn rx _).mono ?_; rintro e w6 ⟨rfl, hb6⟩; simp only [World.size_alloc] at hb6)))
    go_ret
    exact ⟨rfl, ((hw4.trans (hb5.mono (by have := hw4.size; omega))).alloc (by have := hw4.size; omega) _).trans (hb6.mono (by have := hw4.size; omega))⟩
end Go.Proofs.YtgoigbegahlfaaaDoor
