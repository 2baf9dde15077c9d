import Derived.Test.YtdapajkckocmbaaBoxC
import Derived.Deep.RegionWith
namespace Go.Proofs.Ytdapajkckocmbaa
open Go.RowKit

theorem Bx.row1 {w w1 : World} {a0 : Value} {t : TypeId} (hb : Below (w.heap.size + 1) (w.alloc (.cells #[a0] t)) w1) : w1.cell? ⟨w.heap.size, 0, none⟩ = some a0 := by
  have h1 := hb.block w.heap.size (by omega)
  rw [(MapKept.heap_alloc w _).1] at h1
  simp [World.cell?, h1]
theorem Bx.row1n {w1 w2 : World} {g : Nat} {a0 : Value} (h : w1.cell? ⟨g, 0, none⟩ = some a0) (hg : g < w1.heap.size) (hb : Below w1.heap.size w1 w2) : w2.cell? ⟨g, 0, none⟩ = some a0 := by
  rw [hb.cell (p := ⟨g, 0, none⟩) hg]; exact h
set_option maxRecDepth 100000 in
set_option maxHeartbeats 2000000 in
theorem Bx.lawPlace_any (fs : List Bx.Fl) (v : Value) (hn : fs.length ≤ 9223372036854775807) (hx : ∀ d ∈ fs, d.name.size ≤ 9223372036854775807 ∧ d.text.size ≤ 9223372036854775807) (w : World) (hN : Bx.Off w v fs) :
    Calls Try.prog 3 #[.agg #[v]] w fun e w' => e = .returned (.bool true) ∧ Below w.heap.size w w' := by
  have hal : ∀ o : Obj, Below w.heap.size w (w.alloc o) := fun o => (Below.refl _ w).alloc (Nat.le_refl _) o
  obtain ⟨q, HQ⟩ : ∃ q, Hid (Bx.sz fs 1048576 = q) := ⟨_, (rfl : Bx.sz fs 1048576 = _)⟩
  obtain ⟨p, c, rfl⟩ := hN.slice
  have HZ : Hid (∀ w, Bx.Off w (.slice p fs.length c) fs → Calls Try.prog 7 #[.agg #[.slice p fs.length c], .int .i64 1048576] w fun e w' => e = .returned (.int .i64 q) ∧ Below w.heap.size w w') := fun w h => by
    have := Bx.szPlace_any fs _ 1048576 (by omega) (by omega) hn hx w h
    rw [HQ.out] at this; exact this
  by_cases hq : q < 0
  · have HO : Hid (∀ o, Bx.Off (w.alloc o) (.slice p fs.length c) fs) := fun o => hN.below (hal o)
    clear HQ hN hx
    revert HZ HO
    generalize fs.length = n
    intro HZ HO
    go_enter Try.func3, Try.ntmps3
    go_wp2_with (go_at_call 7; (refine (HZ.out _ (HO.out _)).mono ?_; rintro e w1 ⟨rfl, hb1⟩; simp only [World.size_alloc] at hb1))
    go_ret
    exact ⟨rfl, (hal _).trans (hb1.mono (by omega))⟩
  · obtain ⟨hn2, hx2⟩ := (Bx.sz_bd fs 1048576 (by omega)).2.2 (by rw [HQ.out]; omega)
    have hn3 : fs.length ≤ 1048576 := by omega
    have hx3 : ∀ d ∈ fs, d.name.size ≤ 1048576 ∧ d.text.size ≤ 1048576 := fun d hd => by obtain ⟨h1, h2⟩ := hx2 d hd; exact ⟨by omega, by omega⟩
    obtain ⟨b, HB⟩ : ∃ b, Hid (Bx.ok fs 40 = b) := ⟨_, (rfl : Bx.ok fs 40 = _)⟩
    have HT : Hid (∀ w v, Bx.Off w v fs → Calls Try.prog 9 #[.agg #[v]] w fun e w' => ∃ v', e = .returned (.agg #[v']) ∧ Bx.Off w' v' fs ∧ Below w.heap.size w w') := fun w v h => (Bx.toPlace_any fs v w h hn3).mono fun e w' ⟨v', he, ho, hb⟩ => ⟨v', he, Bx.own_off ho, hb⟩
    have HS : Hid (∀ w v, Bx.Off w v fs → Calls Try.prog 8 #[.agg #[v]] w fun e w' => e = .returned (.bool b) ∧ Below w.heap.size w w') := fun w v h => by
      have := Bx.specPlace_any fs v w hn3 hx3 h
      rw [HB.out] at this; exact this
    have HI : Hid (∀ w v, Bx.Off w v fs → Calls Try.prog 10 #[.agg #[v]] w fun e w' => e = .returned (.bool b) ∧ Below w.heap.size w w') := fun w v h => by
      have := Bx.implPlace_any fs v w hn3 hx3 h
      rw [HB.out] at this; exact this
    have HE : Hid (∀ w v v', Bx.Off w v fs → Bx.Off w v' fs → Calls Try.prog 11 #[.agg #[v], .agg #[v']] w fun e w' => e = .returned (.bool true) ∧ Below w.heap.size w w') := fun w v v' h h' => Bx.eqPlace_same fs v v' w h h' hn3
    have HN : Hid (Bx.Off w (.slice p fs.length c) fs) := hN
    clear hN HB HQ hx hx2 hx3 hn2 hn3
    revert HN HZ
    generalize fs.length = n at *
    intro HZ HN
    go_enter Try.func3, Try.ntmps3
    go_wp2_with (first
      | (go_at_call 7; (refine (HZ.out _ (HN.out.below (hal _))).mono ?_; rintro e w1 ⟨rfl, hb1⟩; simp only [World.size_alloc] at hb1; have hw1 : Below w.heap.size w w1 := (hal _).trans (hb1.mono (by omega)); have c0 := Bx.row1 hb1; have z1 := hb1.size; simp only [World.size_alloc] at z1))
      | (go_at_call 9; (refine (HT.out w1 _ (HN.out.below hw1)).mono ?_; rintro e w2 ⟨v2, rfl, hO2, hb2⟩; have HO2 : Hid (Bx.Off w2 v2 fs) := hO2; clear hO2; have z2 := hb2.size))
      | (go_at_call 8; (refine (HS.out w2 _ HO2.out).mono ?_; rintro e w3 ⟨rfl, hb3⟩; have z3 := hb3.size; have hw3 : Below w1.heap.size w1 w3 := hb2.trans (hb3.mono z2); have hv3 : Below w.heap.size w w3 := hw1.trans (hw3.mono (by omega)); have d0 := Bx.row1n c0 (by omega) hw3; clear c0)))
    go_wp2_with (first
      | (go_at_call 9; (refine (HT.out w3 _ (HN.out.below hv3)).mono ?_; rintro e w4 ⟨v4, rfl, hO4, hb4⟩; obtain ⟨p4, c4, e4⟩ := hO4.slice; subst e4; have HO4 : Hid (Bx.Off w4 (.slice p4 fs.length c4) fs) := hO4; clear hO4; have z4 := hb4.size))
      | (go_at_call 10; (refine (HI.out _ _ (HO4.out.below ((Below.refl _ w4).alloc (Nat.le_refl _) _))).mono ?_; rintro e w5 ⟨rfl, hb5⟩; simp only [World.size_alloc] at hb5; have x0 := Bx.row1 hb5; have z5 := hb5.size; simp only [World.size_alloc] at z5; have hu5 : Below w4.heap.size w4 w5 := ((Below.refl _ w4).alloc (Nat.le_refl _) _).trans (hb5.mono (by omega)); have hw5 : Below w3.heap.size w3 w5 := hb4.trans (hu5.mono z4); have hv5 : Below w.heap.size w w5 := hv3.trans (hw5.mono (by have := hv3.size; omega)); have f0 := Bx.row1n d0 (by omega) hw5; clear d0)))
    have hv5z := hv5.size
    go_region_with (first
      | (go_at_call 9; (refine (HT.out _ _ (HN.out.below (by first | exact hv5 | exact hv5.drew | exact hv5.drew.drew | exact hv5.drew.drew.drew))).mono ?_; rintro e w6 ⟨v6, rfl, hO6, hb6⟩; obtain ⟨p6, c6, e6⟩ := hO6.slice; subst e6; have HO6 : Hid (Bx.Off w6 (.slice p6 fs.length c6) fs) := hO6; clear hO6; have z6 := hb6.size; have hw56 : Below w5.heap.size w5 w6 := ⟨hb6.os, hb6.tape, hb6.output, hb6.size, hb6.block⟩; have y0 := Bx.row1n x0 (by omega) hw56))
      | (go_at_call 11; (refine (HE.out _ _ _ (HO4.out.below (hu5.trans (hw56.mono (by omega)))) HO6.out).mono ?_; rintro e w7 ⟨rfl, hb7⟩)))
    all_goals
      have z56 : w5.heap.size ≤ w6.heap.size := hw56.size
      have hw67 : Below w6.heap.size w6 w7 := ⟨hb7.os, hb7.tape, hb7.output, hb7.size, hb7.block⟩
      have hw7 : Below w.heap.size w w7 := (hv5.trans (hw56.mono (by omega))).trans (hw67.mono (by omega))
      clear hb7 hb6 hb5 hb4 hb3 hb2 hb1 x0 y0 f0
      go_wp2
      go_ret
      exact ⟨rfl, hw7⟩
end Go.Proofs.Ytdapajkckocmbaa
