import Derived.Test.YtdapajkckocmbaaHolE
namespace Go.Proofs.Ytdapajkckocmbaa
open Go.RowKit Go.Maps Go.WideMaps

set_option maxRecDepth 100000 in
set_option maxHeartbeats 2000000 in
theorem Bx.lawHolds_any (fs : List Bx.Fl) (ss : List Bx.Sn) (v u : Value) (hn : fs.length ≤ 9223372036854775807) (hx : ∀ d ∈ fs, d.name.size ≤ 9223372036854775807 ∧ d.text.size ≤ 9223372036854775807) (hm : ss.length ≤ 9223372036854775807) (hy : ∀ d ∈ ss, d.name.size ≤ 9223372036854775807 ∧ d.text.size ≤ 9223372036854775807) (w : World) (hN : Bx.Off w v fs) (hS : Bx.SOff w u ss) :
    Calls Try.prog 6 #[.agg #[v], u] w fun e w' => e = .returned (.bool true) ∧ Below w.heap.size w w' := by
  have hal : ∀ o : Obj, Below w.heap.size w (w.alloc o) := fun o => (Below.refl _ w).alloc (Nat.le_refl _) o
  obtain ⟨q, HQ⟩ : ∃ q, Hid (Bx.sz fs 1048576 = q) := ⟨_, (rfl : Bx.sz fs 1048576 = _)⟩
  obtain ⟨p, c, rfl⟩ := hN.slice
  obtain ⟨p2, c2, rfl⟩ := hS.slice
  have HZ : Hid (∀ w, Bx.Off w (.slice p fs.length c) fs → Calls Try.prog 7 #[.agg #[.slice p fs.length c], .int .i64 1048576] w fun e w' => e = .returned (.int .i64 q) ∧ Below w.heap.size w w') := fun w h => by
    have := Bx.szPlace_any fs _ 1048576 (by omega) (by omega) hn hx w h
    rw [HQ.out] at this; exact this
  by_cases hq : q < 0
  · have HO : Hid (∀ o, Bx.Off (w.alloc o) (.slice p fs.length c) fs) := fun o => hN.below (hal o)
    clear HQ hN hx hS hy
    generalize ss.length = m at *
    revert HZ HO
    generalize fs.length = n
    intro HZ HO
    go_enter Try.func6, Try.ntmps6
    go_wp2_with (go_at_call 7; (refine (HZ.out _ (HO.out _)).mono ?_; rintro e w1 ⟨rfl, hb1⟩; simp only [World.size_alloc] at hb1))
    go_ret
    exact ⟨rfl, (hal _).trans (hb1.mono (by omega))⟩
  · obtain ⟨hn2, hx2⟩ := (Bx.sz_bd fs 1048576 (by omega)).2.2 (by rw [HQ.out]; omega)
    have hq2 : q ≤ 1048576 := by have := (Bx.sz_bd fs 1048576 (by omega)).2.1; rw [HQ.out] at this; exact this
    obtain ⟨q2, HQ2⟩ : ∃ q2, Hid (Bx.sz (ss.map Bx.sfl) q = q2) := ⟨_, (rfl : Bx.sz (ss.map Bx.sfl) q = _)⟩
    have HZ2 : Hid (∀ w, Bx.SOff w (.slice p2 ss.length c2) ss → Calls Try.prog 23 #[.slice p2 ss.length c2, .int .i64 q] w fun e w' => e = .returned (.int .i64 q2) ∧ Below w.heap.size w w') := fun w h => by
      have := Bx.szSeenS_any ss _ q (by omega) hq2 hm hy w h
      rw [HQ2.out] at this; exact this
    have HN : Hid (∀ W, Below w.heap.size w W → Bx.Off W (.slice p fs.length c) fs) := fun W hW => hN.below hW
    have HSS : Hid (∀ W, Below w.heap.size w W → Bx.SOff W (.slice p2 ss.length c2) ss) := fun W hW => hS.below hW
    by_cases hqq : q2 < 0
    · clear HQ hN hx hS hy hx2 HQ2 hn2
      revert HZ2 HSS
      generalize ss.length = m at *
      intro HZ2 HSS
      revert HZ HN
      generalize fs.length = n
      intro HZ HN
      go_enter Try.func6, Try.ntmps6
      go_wp2_with (first | (go_at_call 7; (refine (HZ.out _ (HN.out _ (hal _))).mono ?_; rintro e w1 ⟨rfl, hb1⟩; simp only [World.size_alloc] at hb1; have hw1 : Below w.heap.size w w1 := (hal _).trans (hb1.mono (by omega)))) | (go_at_call 23; refine (HZ2.out w1 (HSS.out w1 hw1)).mono ?_; rintro e w2 ⟨rfl, hb2⟩))
      go_ret
      exact ⟨rfl, hw1.trans (hb2.mono hw1.size)⟩
    · obtain ⟨hm2, hy2⟩ := (Bx.sz_bd (ss.map Bx.sfl) q (by omega)).2.2 (by rw [HQ2.out]; omega)
      rw [List.length_map] at hm2
      have hn3 : fs.length ≤ 1048576 := by omega
      have hm3 : ss.length ≤ 1048576 := by omega
      have hx3 : ∀ d ∈ fs, d.name.size ≤ 1048576 ∧ d.text.size ≤ 1048576 := fun d hd => by obtain ⟨h1, h2⟩ := hx2 d hd; exact ⟨by omega, by omega⟩
      have hy3 : ∀ d ∈ ss, d.name.size ≤ 1048576 := fun d hd => by have h1 := (hy2 (Bx.sfl d) (List.mem_map_of_mem hd)).1; have h2 : ((Bx.sfl d).name.size : Int) = d.name.size := rfl; omega
      obtain ⟨b, HB⟩ : ∃ b, Hid (Bx.holds fs ss = b) := ⟨_, (rfl : Bx.holds fs ss = _)⟩
      have HT : Hid (∀ w v, Bx.Off w v fs → Calls Try.prog 9 #[.agg #[v]] w fun e w' => ∃ v', e = .returned (.agg #[v']) ∧ Bx.Off w' v' fs ∧ Below w.heap.size w w') := fun w v h => (Bx.toPlace_any fs v w h hn3).mono fun e w' ⟨v', he, ho, hb⟩ => ⟨v', he, Bx.own_off ho, hb⟩
      have HTS : Hid (∀ w v, Bx.SOff w v ss → Calls Try.prog 25 #[v] w fun e w' => ∃ v', e = .returned v' ∧ Bx.SOff w' v' ss ∧ Below w.heap.size w w') := fun w v h => (Bx.toSeenS_any ss v w h hm3).mono fun e w' ⟨v', he, ho, hb⟩ => ⟨v', he, Bx.own_soff ho, hb⟩
      have HS : Hid (∀ w v u, Bx.Off w v fs → Bx.SOff w u ss → Calls Try.prog 24 #[.agg #[v], u] w fun e w' => e = .returned (.bool b) ∧ Below w.heap.size w w') := fun w v u h1 h2 => by
        have := Bx.specHolds_any fs ss v u w hn3 hx3 hm3 hy3 h1 h2
        rw [HB.out] at this; exact this
      have HI : Hid (∀ w v u, Bx.Off w v fs → Bx.SOff w u ss → Calls Try.prog 26 #[.agg #[v], u] w fun e w' => e = .returned (.bool b) ∧ Below w.heap.size w w') := fun w v u h1 h2 => by
        have := Bx.implHolds_any fs ss v u w hn3 hx3 hm3 hy3 h1 h2
        rw [HB.out] at this; exact this
      have HE : Hid (∀ w v v', Bx.Off w v fs → Bx.Off w v' fs → Calls Try.prog 11 #[.agg #[v], .agg #[v']] w fun e w' => e = .returned (.bool true) ∧ Below w.heap.size w w') := fun w v v' h h' => Bx.eqPlace_same fs v v' w h h' hn3
      have HES : Hid (∀ w v v', Bx.SOff w v ss → Bx.SOff w v' ss → Calls Try.prog 27 #[v, v'] w fun e w' => e = .returned (.bool true) ∧ Below w.heap.size w w') := fun w v v' h h' => Bx.eqSeenS_same ss v v' w h h' hm3
      clear hN hS HQ HQ2 HB hx hx2 hx3 hy hy2 hy3 hn2 hm2 hn3 hm3
      revert HZ2 HSS
      generalize ss.length = m at *
      intro HZ2 HSS
      revert HZ HN
      generalize fs.length = n at *
      intro HZ HN
      go_enter Try.func6, Try.ntmps6
      go_wp2_with (first
        | (go_at_call 7; (refine (HZ.out _ (HN.out _ (hal _))).mono ?_; rintro e w1 ⟨rfl, hb1⟩; simp only [World.size_alloc] at hb1; have hw1 : Below w.heap.size w w1 := (hal _).trans (hb1.mono (by omega)); have c0 := Bx.row1 hb1; have z1 := hb1.size; simp only [World.size_alloc] at z1))
        | (go_at_call 23; refine (HZ2.out w1 (HSS.out w1 hw1)).mono ?_; rintro e w2 ⟨rfl, hb2⟩; have z2 := hb2.size; have hw2 : Below w.heap.size w w2 := hw1.trans (hb2.mono (by omega)); have c3 := Bx.row1n c0 (by omega) hb2; clear c0)
        | (go_at_call 9; (refine (HT.out w2 _ (HN.out w2 hw2)).mono ?_; rintro e w3 ⟨v3, rfl, hO3, hb3⟩; have HO3 : Hid (Bx.Off w3 v3 fs) := hO3; clear hO3; have z3 := hb3.size; have hw3 : Below w.heap.size w w3 := hw2.trans (hb3.mono (by omega))))
        | (go_at_call 25; (refine (HTS.out w3 _ (HSS.out w3 hw3)).mono ?_; rintro e w4 ⟨u4, rfl, hU4, hb4⟩; have HU4 : Hid (Bx.SOff w4 u4 ss) := hU4; clear hU4; have z4 := hb4.size; have hw4 : Below w.heap.size w w4 := hw3.trans (hb4.mono (by omega))))
        | (go_at_call 24; (refine (HS.out w4 _ _ (HO3.out.below hb4) HU4.out).mono ?_; rintro e w5 ⟨rfl, hb5⟩; have z5 := hb5.size; have hw5 : Below w.heap.size w w5 := hw4.trans (hb5.mono (by omega)); have hw25 : Below w2.heap.size w2 w5 := hb3.trans ((hb4.trans (hb5.mono (by omega))).mono (by omega)); have c5 := Bx.row1n c3 (by omega) hw25; clear c3 HO3 HU4)))
      go_wp2_with (first
        | (go_at_call 9; (refine (HT.out w5 _ (HN.out w5 hw5)).mono ?_; rintro e w6 ⟨v6, rfl, hO6, hb6⟩; obtain ⟨p6, c6, e6⟩ := hO6.slice; subst e6; have HO6 : Hid (Bx.Off w6 (.slice p6 fs.length c6) fs) := hO6; clear hO6; have z6 := hb6.size; obtain ⟨W6, hW6⟩ : ∃ W6, w6.alloc (.cells #[.slice p6 fs.length c6] 29) = W6 := ⟨_, rfl⟩; have hb6a : Below w6.heap.size w6 W6 := (by rw [← hW6]; exact (Below.refl _ _).alloc (Nat.le_refl _) _); have z6a : W6.heap.size = w6.heap.size + 1 := (by rw [← hW6]; simp); have hw6 : Below w.heap.size w W6 := (hw5.trans (hb6.mono (by omega))).trans (hb6a.mono (by omega)); have x0 : W6.cell? ⟨w6.heap.size, 0, none⟩ = some (.slice p6 fs.length c6) := (by rw [← hW6]; exact Bx.row1 (Below.refl _ _)); have hw56 : Below w5.heap.size w5 W6 := hb6.trans (hb6a.mono (by omega))))
        | (go_at_call 25; (refine (HTS.out W6 _ (HSS.out W6 hw6)).mono ?_; rintro e w7 ⟨u7, rfl, hU7, hb7⟩; have HU7 : Hid (Bx.SOff w7 u7 ss) := hU7; clear hU7; have z7 := hb7.size; have hw7 : Below w.heap.size w w7 := hw6.trans (hb7.mono (by omega)); have x1 := Bx.row1n x0 (by omega) hb7))
        | (go_at_call 26; (refine (HI.out w7 _ _ (HO6.out.below (hb6a.trans (hb7.mono (by omega)))) HU7.out).mono ?_; rintro e w8 ⟨rfl, hb8⟩; have z8 := hb8.size; have hw8 : Below w.heap.size w w8 := hw7.trans (hb8.mono (by omega)); have x2 := Bx.row1n x1 (by omega) hb8; have hu8 : Below w6.heap.size w6 w8 := hb6a.trans ((hb7.trans (hb8.mono (by omega))).mono (by omega)); have c8 := Bx.row1n c5 (by omega) (hw56.trans ((hb7.trans (hb8.mono (by omega))).mono (by omega))); clear x0 x1 c5)))
      have hw8z := hw8.size
      go_region_with (first
        | (go_at_call 9; (refine (HT.out _ _ (HN.out _ (by first | exact hw8 | exact hw8.drew | exact hw8.drew.drew | exact hw8.drew.drew.drew))).mono ?_; rintro e w9 ⟨v9, rfl, hO9, hb9⟩; obtain ⟨p9, c9, e9⟩ := hO9.slice; subst e9; have HO9 : Hid (Bx.Off w9 (.slice p9 fs.length c9) fs) := hO9; clear hO9; have z9 := hb9.size; have hw89 : Below w8.heap.size w8 w9 := ⟨hb9.os, hb9.tape, hb9.output, hb9.size, hb9.block⟩; have y0 := Bx.row1n x2 (by omega) hw89))
        | (go_at_call 11; (refine (HE.out _ _ _ (HO6.out.below (hu8.trans (hw89.mono (by omega)))) HO9.out).mono ?_; rintro e w10 ⟨rfl, hb10⟩)))
      all_goals
        have z89 : w8.heap.size ≤ w9.heap.size := hw89.size
        have hw910 : Below w9.heap.size w9 w10 := ⟨hb10.os, hb10.tape, hb10.output, hb10.size, hb10.block⟩
        have z910 := hw910.size
        have hw810 : Below w8.heap.size w8 w10 := hw89.trans (hw910.mono z89)
        have hw10 : Below w.heap.size w w10 := hw8.trans (hw810.mono (by omega))
        have HU10 : Hid (Bx.SOff w10 u7 ss) := (HU7.out.below hb8).below hw810
        clear hb10 hb9 hb8 hb7 hb6 hb5 hb4 hb3 hb2 hb1 x2 y0 c8
        go_wp2_with (first
          | (go_at_call 25; (refine (HTS.out w10 _ (HSS.out w10 hw10)).mono ?_; rintro e w11 ⟨u11, rfl, hU11, hb11⟩; have HU11 : Hid (Bx.SOff w11 u11 ss) := hU11; clear hU11))
          | (go_at_call 27; (refine (HES.out w11 _ _ (HU10.out.below hb11) HU11.out).mono ?_; rintro e w12 ⟨rfl, hb12⟩)))
        go_ret
        exact ⟨rfl, (hw10.trans (hb11.mono hw10.size)).trans (hb12.mono (Nat.le_trans hw10.size hb11.size))⟩
end Go.Proofs.Ytdapajkckocmbaa
