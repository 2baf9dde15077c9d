import Derived.Test.YtchfddnfpfgfbaaJobD
import Derived.Deep.RegionWith
namespace Go.Proofs.Ytchfddnfpfgfbaa
open Go.RowKit

theorem Jb.off_slice {w : World} {v : Value} {xs : List ByteArray} (h : Jb.Off w v xs) : ∃ p c, v = .slice p xs.length c := by
  obtain ⟨p, c, h, _⟩ := h; exact ⟨p, c, h⟩
set_option maxRecDepth 100000 in
set_option maxHeartbeats 2000000 in
theorem Jb.law_any (a : ByteArray) (xs : List ByteArray) (v : Value) (ha : a.size ≤ 9223372036854775807) (hn : xs.length ≤ 9223372036854775807) (hx : ∀ d ∈ xs, d.size ≤ 9223372036854775807) (w : World) (hN : Jb.Off w v xs) :
    Calls Try.prog 3 #[.agg #[.string a, v]] w fun e w' => e = .returned (.bool true) ∧ Below w.heap.size w w' := by
  have hal : ∀ o : Obj, Below w.heap.size w (w.alloc o) := fun o => (Below.refl _ w).alloc (Nat.le_refl _) o
  obtain ⟨q, HQ⟩ : ∃ q, Hid (Jb.sz a xs 1048576 = q) := ⟨_, (rfl : Jb.sz a xs 1048576 = _)⟩
  have hvs : ∃ p c, v = .slice p xs.length c := by obtain ⟨p, c, h, _⟩ := hN; exact ⟨p, c, h⟩
  obtain ⟨p, c, rfl⟩ := hvs
  have HZ : Hid (∀ w, Jb.Off w (.slice p xs.length c) xs → Calls Try.prog 5 #[.agg #[.string a, .slice p xs.length c], .int .i64 1048576] w fun e w' => e = .returned (.int .i64 q) ∧ Below w.heap.size w w') := fun w h => by
    have := Jb.szJob_any a xs _ 1048576 ha (by omega) (by omega) hn hx w h
    rw [HQ.out] at this; exact this
  by_cases hq : q < 0
  · have HO : Hid (∀ o, Jb.Off (w.alloc o) (.slice p xs.length c) xs) := fun o => hN.below (hal o)
    clear HQ hN hx
    revert HZ HO
    generalize xs.length = n
    intro HZ HO
    go_enter Try.func3, Try.ntmps3
    go_wp2_with (go_at_call 5; (refine (HZ.out _ (HO.out _)).mono ?_; rintro e w1 ⟨rfl, hb1⟩; simp only [World.size_alloc] at hb1))
    go_ret
    exact ⟨rfl, (hal _).trans (hb1.mono (by omega))⟩
  · obtain ⟨ha2, hn2, hx2⟩ := Jb.sz_le a xs 1048576 (by rw [HQ.out]; omega)
    obtain ⟨b, HB⟩ : ∃ b, Hid (Jb.ok a xs = b) := ⟨_, (rfl : Jb.ok a xs = _)⟩
    have HT : Hid (∀ w v, Jb.Off w v xs → Calls Try.prog 7 #[.agg #[.string a, v]] w fun e w' => ∃ v', e = .returned (.agg #[.string a, v']) ∧ Jb.Off w' v' xs ∧ Below w.heap.size w w') := fun w v h => Jb.toJob_any a xs v w h (by omega)
    have HS : Hid (∀ w v, Jb.Off w v xs → Calls Try.prog 6 #[.agg #[.string a, v]] w fun e w' => e = .returned (.bool b) ∧ Below w.heap.size w w') := fun w v h => by
      have := Jb.spec_any a xs v w (by omega) (by omega) (fun d hd => by have := hx2 d hd; omega) h
      rw [HB.out] at this; exact this
    have HI : Hid (∀ w v, Jb.Off w v xs → Calls Try.prog 8 #[.agg #[.string a, v]] w fun e w' => e = .returned (.bool b) ∧ Below w.heap.size w w') := fun w v h => by
      have := Jb.impl_any a xs v w (by omega) (by omega) (fun d hd => by have := hx2 d hd; omega) h
      rw [HB.out] at this; exact this
    have HE : Hid (∀ w v v', Jb.Off w v xs → Jb.Off w v' xs → Calls Try.prog 9 #[.agg #[.string a, v], .agg #[.string a, v']] w fun e w' => e = .returned (.bool true) ∧ Below w.heap.size w w') := fun w v v' h h' => Jb.eqJob_same a xs v v' w h h' (by omega)
    have HN : Hid (Jb.Off w (.slice p xs.length c) xs) := hN
    clear hN HB HQ hx hx2 hn2 ha2
    revert HN HZ
    generalize xs.length = n at *
    intro HZ HN
    go_enter Try.func3, Try.ntmps3
    go_wp2_with (first
      | (go_at_call 5; (refine (HZ.out _ (HN.out.below (hal _))).mono ?_; rintro e w1 ⟨rfl, hb1⟩; simp only [World.size_alloc] at hb1; have hw1 : Below w.heap.size w w1 := (hal _).trans (hb1.mono (by omega)); obtain ⟨c0, c1⟩ := Rp.row2 hb1; have z1 := hb1.size; simp only [World.size_alloc] at z1))
      | (go_at_call 7; (refine (HT.out w1 _ (HN.out.below hw1)).mono ?_; rintro e w2 ⟨v2, rfl, hO2, hb2⟩; have HO2 : Hid (Jb.Off w2 v2 xs) := hO2; clear hO2; have z2 := hb2.size))
      | (go_at_call 6; (refine (HS.out w2 _ HO2.out).mono ?_; rintro e w3 ⟨rfl, hb3⟩; have z3 := hb3.size; have hw3 : Below w1.heap.size w1 w3 := hb2.trans (hb3.mono z2); have hv3 : Below w.heap.size w w3 := hw1.trans (hw3.mono (by omega)); obtain ⟨d0, d1⟩ := Rp.row2n ⟨c0, c1⟩ (by omega) hw3; clear c0 c1)))
    go_wp2_with (first
      | (go_at_call 7; (refine (HT.out w3 _ (HN.out.below hv3)).mono ?_; rintro e w4 ⟨v4, rfl, hO4, hb4⟩; obtain ⟨p4, c4, e4⟩ := Jb.off_slice hO4; subst e4; have HO4 : Hid (Jb.Off w4 (.slice p4 xs.length c4) xs) := hO4; clear hO4; have z4 := hb4.size))
      | (go_at_call 8; (refine (HI.out _ _ (HO4.out.below ((Below.refl _ w4).alloc (Nat.le_refl _) _))).mono ?_; rintro e w5 ⟨rfl, hb5⟩; simp only [World.size_alloc] at hb5; obtain ⟨x0, x1⟩ := Rp.row2 hb5; have z5 := hb5.size; simp only [World.size_alloc] at z5; have hu5 : Below w4.heap.size w4 w5 := ((Below.refl _ w4).alloc (Nat.le_refl _) _).trans (hb5.mono (by omega)); have hw5 : Below w3.heap.size w3 w5 := hb4.trans (hu5.mono z4); have hv5 : Below w.heap.size w w5 := hv3.trans (hw5.mono (by have := hv3.size; omega)); obtain ⟨f0, f1⟩ := Rp.row2n ⟨d0, d1⟩ (by omega) hw5; clear d0 d1)))
    have hv5z := hv5.size
    go_region_with (first
      | (go_at_call 7; (refine (HT.out _ _ (HN.out.below (by first | exact hv5 | exact hv5.drew | exact hv5.drew.drew | exact hv5.drew.drew.drew))).mono ?_; rintro e w6 ⟨v6, rfl, hO6, hb6⟩; obtain ⟨p6, c6, e6⟩ := Jb.off_slice hO6; subst e6; have HO6 : Hid (Jb.Off w6 (.slice p6 xs.length c6) xs) := hO6; clear hO6; have z6 := hb6.size; have hw56 : Below w5.heap.size w5 w6 := ⟨hb6.os, hb6.tape, hb6.output, hb6.size, hb6.block⟩; obtain ⟨y0, y1⟩ := Rp.row2n ⟨x0, x1⟩ (by omega) hw56))
      | (go_at_call 9; (refine (HE.out _ _ _ (HO4.out.below (hu5.trans (hw56.mono (by omega)))) HO6.out).mono ?_; rintro e w7 ⟨rfl, hb7⟩)))
    all_goals
      have z56 : w5.heap.size ≤ w6.heap.size := hw56.size
      have hw67 : Below w6.heap.size w6 w7 := ⟨hb7.os, hb7.tape, hb7.output, hb7.size, hb7.block⟩
      have hw7 : Below w.heap.size w w7 := (hv5.trans (hw56.mono (by omega))).trans (hw67.mono (by omega))
      clear hb7 hb6 hb5 hb4 hb3 hb2 hb1 x0 x1 y0 y1 f0 f1
      go_wp2
      go_ret
      exact ⟨rfl, hw7⟩
end Go.Proofs.Ytchfddnfpfgfbaa
