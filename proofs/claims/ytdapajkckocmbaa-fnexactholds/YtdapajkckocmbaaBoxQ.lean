import Derived.Test.YtdapajkckocmbaaBoxP
namespace Go.Proofs.Ytdapajkckocmbaa
open Go.RowKit Go.Maps Go.WideMaps

set_option maxRecDepth 100000 in
set_option maxHeartbeats 1000000 in
theorem Bx.eqReply_same (c : Int) (x : ByteArray) (w : World) :
    Calls Try.prog 14 #[.agg #[.int .i64 c, .string x], .agg #[.int .i64 c, .string x]] w fun e w' => e = .returned (.bool true) ∧ Below w.heap.size w w' := by
  have h1 : (c != c) = false := by simp
  go_enter Try.func14, Try.ntmps14
  go_wp2
  all_goals go_ret
  all_goals exact ⟨rfl, ((Below.refl _ w).alloc (Nat.le_refl _) _).alloc (by simp) _⟩
set_option maxRecDepth 100000 in
set_option maxHeartbeats 2000000 in
theorem Bx.lawSee_any (fs : List Bx.Fl) (v : Value) (k : Int) (x : ByteArray) (hn : fs.length ≤ 9223372036854775807) (hx : ∀ d ∈ fs, d.name.size ≤ 9223372036854775807 ∧ d.text.size ≤ 9223372036854775807) (w : World) (hN : Bx.Off w v fs) :
    Calls Try.prog 4 #[.agg #[v], .int .i64 k, .string x] w fun e w' => e = .returned (.bool true) ∧ Below w.heap.size w w' := by
  have hal : ∀ o : Obj, Below w.heap.size w (w.alloc o) := fun o => (Below.refl _ w).alloc (Nat.le_refl _) o
  obtain ⟨q, HQ⟩ : ∃ q, Hid (Bx.sz fs 1048576 = q) := ⟨_, (rfl : Bx.sz fs 1048576 = _)⟩
  obtain ⟨p, c, rfl⟩ := hN.slice
  have HZ : Hid (∀ w, Bx.Off w (.slice p fs.length c) fs → Calls Try.prog 7 #[.agg #[.slice p fs.length c], .int .i64 1048576] w fun e w' => e = .returned (.int .i64 q) ∧ Below w.heap.size w w') := fun w h => by
    have := Bx.szPlace_any fs _ 1048576 (by omega) (by omega) hn hx w h
    rw [HQ.out] at this; exact this
  by_cases hs : x.size ≤ 1048576
  · by_cases hq : q < 0
    · have HO : Hid (∀ o, Bx.Off (w.alloc o) (.slice p fs.length c) fs) := fun o => hN.below (hal o)
      clear HQ hN hx
      revert HZ HO
      generalize fs.length = n
      intro HZ HO
      go_enter Try.func4, Try.ntmps4
      go_wp2_with (go_at_call 7; (refine (HZ.out _ (HO.out _)).mono ?_; rintro e w1 ⟨rfl, hb1⟩; simp only [World.size_alloc] at hb1))
      go_ret
      exact ⟨rfl, (hal _).trans (hb1.mono (by omega))⟩
    · obtain ⟨hn2, hx2⟩ := (Bx.sz_bd fs 1048576 (by omega)).2.2 (by rw [HQ.out]; omega)
      have hn3 : fs.length ≤ 1048576 := by omega
      have hx3 : ∀ d ∈ fs, d.name.size ≤ 1048576 ∧ d.text.size ≤ 1048576 := fun d hd => by obtain ⟨h1, h2⟩ := hx2 d hd; exact ⟨by omega, by omega⟩
      have HT : Hid (∀ w v, Bx.Off w v fs → Calls Try.prog 9 #[.agg #[v]] w fun e w' => ∃ v', e = .returned (.agg #[v']) ∧ Bx.Off w' v' fs ∧ Below w.heap.size w w') := fun w v h => (Bx.toPlace_any fs v w h hn3).mono fun e w' ⟨v', he, ho, hb⟩ => ⟨v', he, Bx.own_off ho, hb⟩
      have HS0 := fun w v (h : Bx.Off w v fs) => Bx.specSee_any fs v k x w hn3 hx3 hs h
      have HI0 := fun w v (h : Bx.Off w v fs) => Bx.implSee_any fs v k x w hn3 hx3 hs h
      generalize Bx.seeP fs k x = r at HS0 HI0
      obtain ⟨rc, rt⟩ := r
      have HS : Hid (∀ w v, Bx.Off w v fs → Calls Try.prog 12 #[.agg #[v], .int .i64 k, .string x] w fun e w' => e = .returned (.agg #[.int .i64 rc, .string rt]) ∧ Below w.heap.size w w') := HS0
      have HI : Hid (∀ w v, Bx.Off w v fs → Calls Try.prog 13 #[.agg #[v], .int .i64 k, .string x] w fun e w' => e = .returned (.agg #[.int .i64 rc, .string rt]) ∧ Below w.heap.size w w') := HI0
      have HE : Hid (∀ w v v', Bx.Off w v fs → Bx.Off w v' fs → Calls Try.prog 11 #[.agg #[v], .agg #[v']] w fun e w' => e = .returned (.bool true) ∧ Below w.heap.size w w') := fun w v v' h h' => Bx.eqPlace_same fs v v' w h h' hn3
      have HN : Hid (Bx.Off w (.slice p fs.length c) fs) := hN
      clear hN HQ hx hx2 hx3 hn2 hn3 HS0 HI0
      revert HN HZ
      generalize fs.length = n at *
      intro HZ HN
      go_enter Try.func4, Try.ntmps4
      go_wp2_with (first
        | (go_at_call 7; (refine (HZ.out _ (HN.out.below (hal _))).mono ?_; rintro e w1 ⟨rfl, hb1⟩; simp only [World.size_alloc] at hb1; have hw1 : Below w.heap.size w w1 := (hal _).trans (hb1.mono (by omega)); have c0 := Bx.row1 hb1; have z1 := hb1.size; simp only [World.size_alloc] at z1))
        | (go_at_call 9; (refine (HT.out w1 _ (HN.out.below hw1)).mono ?_; rintro e w2 ⟨v2, rfl, hO2, hb2⟩; have HO2 : Hid (Bx.Off w2 v2 fs) := hO2; clear hO2; have z2 := hb2.size))
        | (go_at_call 12; (refine (HS.out w2 _ HO2.out).mono ?_; rintro e w3 ⟨rfl, hb3⟩; have z3 := hb3.size; have hw3 : Below w1.heap.size w1 w3 := hb2.trans (hb3.mono z2); have hv3 : Below w.heap.size w w3 := hw1.trans (hw3.mono (by omega)); have d0 := Bx.row1n c0 (by omega) hw3; clear c0; have hlt3 : w.heap.size < w3.heap.size := (by omega); obtain ⟨W3, hW3⟩ : ∃ W3, w3.alloc (.cells #[.int .i64 rc, .string rt] 34) = W3 := ⟨_, rfl⟩; have hb3a : Below w3.heap.size w3 W3 := (by rw [← hW3]; exact (Below.refl _ _).alloc (Nat.le_refl _) _); have z3a : W3.heap.size = w3.heap.size + 1 := (by rw [← hW3]; simp); have d1 := Bx.row1n d0 hlt3 hb3a; have hv3a : Below w.heap.size w W3 := hv3.trans (hb3a.mono (by omega)); obtain ⟨t0, t1⟩ : W3.cell? ⟨w3.heap.size, 0, none⟩ = some (.int .i64 rc) ∧ W3.cell? ⟨w3.heap.size, 1, none⟩ = some (.string rt) := (by rw [← hW3]; exact Rp.row2 (Below.refl _ _)))))
      go_wp2_with (first
        | (go_at_call 9; (refine (HT.out W3 _ (HN.out.below hv3a)).mono ?_; rintro e w4 ⟨v4, rfl, hO4, hb4⟩; obtain ⟨p4, c4, e4⟩ := hO4.slice; subst e4; have HO4 : Hid (Bx.Off w4 (.slice p4 fs.length c4) fs) := hO4; clear hO4; have z4 := hb4.size))
        | (go_at_call 13; (refine (HI.out _ _ (HO4.out.below ((Below.refl _ w4).alloc (Nat.le_refl _) _))).mono ?_; rintro e w5 ⟨rfl, hb5⟩; simp only [World.size_alloc] at hb5; have x0 := Bx.row1 hb5; have z5 := hb5.size; simp only [World.size_alloc] at z5; have hu5 : Below w4.heap.size w4 w5 := ((Below.refl _ w4).alloc (Nat.le_refl _) _).trans (hb5.mono (by omega)); have hw5 : Below W3.heap.size W3 w5 := hb4.trans (hu5.mono z4); have hv5 : Below w.heap.size w w5 := hv3a.trans (hw5.mono (by have := hv3a.size; omega)); have f0 := Bx.row1n d1 (by omega) hw5; obtain ⟨t2, t3⟩ := Rp.row2n ⟨t0, t1⟩ (by omega) hw5; clear t0 t1 d1; obtain ⟨W5, hW5⟩ : ∃ W5, w5.alloc (.cells #[.int .i64 rc, .string rt] 34) = W5 := ⟨_, rfl⟩; have hb5a : Below w5.heap.size w5 W5 := (by rw [← hW5]; exact (Below.refl _ _).alloc (Nat.le_refl _) _); have z5a : W5.heap.size = w5.heap.size + 1 := (by rw [← hW5]; simp); have f1 := Bx.row1n f0 (by omega) hb5a; have x1 := Bx.row1n x0 (by omega) hb5a; have hv5a : Below w.heap.size w W5 := hv5.trans (hb5a.mono (by omega)); obtain ⟨t4, t5⟩ := Rp.row2n ⟨t2, t3⟩ (by omega) hb5a; obtain ⟨t6, t7⟩ : W5.cell? ⟨w5.heap.size, 0, none⟩ = some (.int .i64 rc) ∧ W5.cell? ⟨w5.heap.size, 1, none⟩ = some (.string rt) := (by rw [← hW5]; exact Rp.row2 (Below.refl _ _))))
        | (go_at_call 14; refine (Bx.eqReply_same rc rt W5).mono ?_; rintro e w6 ⟨rfl, hb6⟩; have z6 := hb6.size; have f2 := Bx.row1n f1 (by omega) hb6; have x2 := Bx.row1n x1 (by omega) hb6; have hv6 : Below w.heap.size w w6 := hv5a.trans (hb6.mono (by omega)); have hu6 : Below w4.heap.size w4 w6 := (hu5.trans (hb5a.mono (by omega))).trans (hb6.mono (by omega))))
      have hv6z := hv6.size
      clear f0 f1 x0 x1 t2 t3 t4 t5 t6 t7 d0
      go_region_with (first
        | (go_at_call 9; (refine (HT.out _ _ (HN.out.below (by first | exact hv6 | exact hv6.drew | exact hv6.drew.drew | exact hv6.drew.drew.drew))).mono ?_; rintro e w7 ⟨v7, rfl, hO7, hb7⟩; obtain ⟨p7, c7, e7⟩ := hO7.slice; subst e7; have HO7 : Hid (Bx.Off w7 (.slice p7 fs.length c7) fs) := hO7; clear hO7; have z7 := hb7.size; have hw67 : Below w6.heap.size w6 w7 := ⟨hb7.os, hb7.tape, hb7.output, hb7.size, hb7.block⟩; have y0 := Bx.row1n x2 (by omega) hw67))
        | (go_at_call 11; (refine (HE.out _ _ _ (HO4.out.below (hu6.trans (hw67.mono (by omega)))) HO7.out).mono ?_; rintro e w8 ⟨rfl, hb8⟩)))
      all_goals
        have z67 : w6.heap.size ≤ w7.heap.size := hw67.size
        have hw78 : Below w7.heap.size w7 w8 := ⟨hb8.os, hb8.tape, hb8.output, hb8.size, hb8.block⟩
        have hw8 : Below w.heap.size w w8 := (hv6.trans (hw67.mono (by omega))).trans (hw78.mono (by omega))
        clear hb8 hb7 hb6 hb5 hb4 hb3 hb2 hb1 x2 y0 f2
        go_wp2
        go_ret
        exact ⟨rfl, hw8⟩
  · have hs2 : ¬ ((x.size : Int) ≤ 1048576) := by omega
    clear HZ HQ hN hx
    generalize fs.length = n at *
    go_enter Try.func4, Try.ntmps4
    go_wp2
    go_ret
    exact ⟨rfl, hal _⟩
end Go.Proofs.Ytdapajkckocmbaa
