import Derived.Test.YtdapajkckocmbaaLayF
import Derived.Test.YtdapajkckocmbaaLayG
namespace Go.Proofs.Ytdapajkckocmbaa
open Go.RowKit

theorem Bx.lay_len (fs ss : List Bx.Fl) : (Bx.lay fs ss).1.length ≤ 40 := by
  unfold Bx.lay
  split
  · simp
  · split
    · simp
    · simp only; omega
/-- A variable at block b that holds a row of files of its own. -/
structure Bx.It (B : Nat) (W : World) (b : Nat) (v : Value) (fs : List Bx.Fl) : Prop where
  cell : W.cell? ⟨b, 0, none⟩ = some v
  lt : b < W.heap.size
  own : W.ownsRow B 55 2 v fs.length (Bx.fCs fs)
  row : ∀ g, v.ownBlock = some g → B ≤ g ∧ g < b
theorem Bx.It.kept {B b : Nat} {W W' : World} {v : Value} {fs : List Bx.Fl} {r : Option Nat} (h : Bx.It B W b v fs) (hg : W.grownBy W' r) (hr : ∀ g, r = some g → b < g ∨ g < B) (hB : B ≤ b) : Bx.It B W' b v fs := by
  refine ⟨hg.cell h.cell (fun e => ?_), Nat.lt_of_lt_of_le h.lt hg.size, h.own.kept hg ?_, h.row⟩
  · rcases hr b e.symm with h1 | h1
    · exact Nat.lt_irrefl _ h1
    · omega
  · cases e : v.ownBlock with
    | none => exact .inl rfl
    | some g =>
      refine .inr fun e2 => ?_
      have h1 := h.row g e
      rcases hr g e2.symm with h2 | h2 <;> omega
theorem Bx.It.below {B b : Nat} {W W' : World} {v : Value} {fs : List Bx.Fl} (h : Bx.It B W b v fs) (hb : Below W.heap.size W W') : Bx.It B W' b v fs :=
  ⟨by rw [hb.cell (p := ⟨b, 0, none⟩) h.lt]; exact h.cell, Nat.lt_of_lt_of_le h.lt hb.size, Bx.own_below h.own hb, h.row⟩
/-- A new variable. -/
theorem Bx.It.new {B : Nat} {w : World} {v : Value} {fs : List Bx.Fl} {t : TypeId} (h : w.ownsRow B 55 2 v fs.length (Bx.fCs fs)) : Bx.It B (w.alloc (.cells #[v] t)) w.heap.size v fs :=
  ⟨Bx.row1 (Below.refl _ _), by simp, h.alloc _, h.lt⟩
theorem Bx.It.off {B b : Nat} {W : World} {v : Value} {fs : List Bx.Fl} (h : Bx.It B W b v fs) : Bx.Off W v fs := Bx.own_off h.own
theorem Bx.It.marked {B b : Nat} {W W' : World} {v : Value} {fs fs' : List Bx.Fl} (h : Bx.It B W b v fs) (ho : W'.ownsRow B 55 2 v fs'.length (Bx.fCs fs')) (hg : W.grownBy W' v.ownBlock) : Bx.It B W' b v fs' := by
  refine ⟨hg.cell h.cell (fun e => ?_), Nat.lt_of_lt_of_le h.lt hg.size, ho, h.row⟩
  have := (h.row b e.symm).2
  omega

theorem Bx.own_kept {w w' : World} {B e size n : Nat} {v : Value} {xs : List Value} {r : Option Nat} (h : w.ownsRow B e size v n xs) (hg : w.grownBy w' r) (hr : ∀ g, r = some g → ∀ g', v.ownBlock = some g' → g ≠ g') : w'.ownsRow B e size v n xs := by
  refine h.kept hg ?_
  cases e1 : v.ownBlock with
  | none => exact .inl rfl
  | some g => exact .inr fun e2 => hr g e2.symm g e1 rfl
theorem Bx.cell_kept {w w' : World} {b : Nat} {v : Value} {r : Option Nat} (h : w.cell? ⟨b, 0, none⟩ = some v) (hg : w.grownBy w' r) (hr : ∀ g, r = some g → b ≠ g) : w'.cell? ⟨b, 0, none⟩ = some v :=
  hg.cell h (fun e => hr b e.symm rfl)

set_option maxRecDepth 100000 in
set_option maxHeartbeats 4000000 in
theorem Bx.lawLay_any (fs ss : List Bx.Fl) (v u : Value) (hn : fs.length ≤ 9223372036854775807) (hx : ∀ d ∈ fs, d.name.size ≤ 9223372036854775807 ∧ d.text.size ≤ 9223372036854775807) (hm : ss.length ≤ 9223372036854775807) (hy : ∀ d ∈ ss, d.name.size ≤ 9223372036854775807 ∧ d.text.size ≤ 9223372036854775807) (w : World) (hN : Bx.Off w v fs) (hS : Bx.Off w u ss) :
    Calls Try.prog 5 #[.agg #[v], u] w fun e w' => e = .returned (.bool true) ∧ Below w.heap.size w w' := by
  have hal : ∀ o : Obj, Below w.heap.size w (w.alloc o) := fun o => (Below.refl _ w).alloc (Nat.le_refl _) o
  obtain ⟨q, HQ⟩ : ∃ q, Hid (Bx.sz fs 1048576 = q) := ⟨_, (rfl : Bx.sz fs 1048576 = _)⟩
  obtain ⟨p, c, rfl⟩ := hN.slice
  obtain ⟨p2, c2, rfl⟩ := hS.slice
  have HZ : Hid (∀ w, Bx.Off w (.slice p fs.length c) fs → Calls Try.prog 7 #[.agg #[.slice p fs.length c], .int .i64 1048576] w fun e w' => e = .returned (.int .i64 q) ∧ Below w.heap.size w w') := fun w h => by
    have := Bx.szPlace_any fs _ 1048576 (by omega) (by omega) hn hx w h
    rw [HQ.out] at this; exact this
  by_cases hq : q < 0
  · have HO : Hid (∀ o, Bx.Off (w.alloc o) (.slice p fs.length c) fs) := fun o => hN.below (hal o)
    clear HQ hN hx hS hy
    generalize ss.length = m at *
    revert HZ HO
    generalize fs.length = n
    intro HZ HO
    go_enter Try.func5, Try.ntmps5
    go_wp2_with (go_at_call 7; (refine (HZ.out _ (HO.out _)).mono ?_; rintro e w1 ⟨rfl, hb1⟩; simp only [World.size_alloc] at hb1))
    go_ret
    exact ⟨rfl, (hal _).trans (hb1.mono (by omega))⟩
  · obtain ⟨hn2, hx2⟩ := (Bx.sz_bd fs 1048576 (by omega)).2.2 (by rw [HQ.out]; omega)
    have hq2 : q ≤ 1048576 := by have := (Bx.sz_bd fs 1048576 (by omega)).2.1; rw [HQ.out] at this; exact this
    obtain ⟨q2, HQ2⟩ : ∃ q2, Hid (Bx.sz ss q = q2) := ⟨_, (rfl : Bx.sz ss q = _)⟩
    have HZ2 : Hid (∀ w, Bx.Off w (.slice p2 ss.length c2) ss → Calls Try.prog 15 #[.slice p2 ss.length c2, .int .i64 q] w fun e w' => e = .returned (.int .i64 q2) ∧ Below w.heap.size w w') := fun w h => by
      have := Bx.szFileS_any ss _ q (by omega) hq2 hm hy w h
      rw [HQ2.out] at this; exact this
    have HN : Hid (∀ W, Below w.heap.size w W → Bx.Off W (.slice p fs.length c) fs) := fun W hW => hN.below hW
    have HSS : Hid (∀ W, Below w.heap.size w W → Bx.Off W (.slice p2 ss.length c2) ss) := fun W hW => hS.below hW
    by_cases hqq : q2 < 0
    · clear HQ hN hx hS hy hx2 HQ2 hn2
      revert HZ2 HSS
      generalize ss.length = m at *
      intro HZ2 HSS
      revert HZ HN
      generalize fs.length = n
      intro HZ HN
      go_enter Try.func5, Try.ntmps5
      go_wp2_with (first | (go_at_call 7; (refine (HZ.out _ (HN.out _ (hal _))).mono ?_; rintro e w1 ⟨rfl, hb1⟩; simp only [World.size_alloc] at hb1; have hw1 : Below w.heap.size w w1 := (hal _).trans (hb1.mono (by omega)))) | (go_at_call 15; refine (HZ2.out w1 (HSS.out w1 hw1)).mono ?_; rintro e w2 ⟨rfl, hb2⟩))
      go_ret
      exact ⟨rfl, hw1.trans (hb2.mono hw1.size)⟩
    · obtain ⟨hm2, hy2⟩ := (Bx.sz_bd ss q (by omega)).2.2 (by rw [HQ2.out]; omega)
      have hn3 : fs.length ≤ 1048576 := by omega
      have hm3 : ss.length ≤ 1048576 := by omega
      have hx3 : ∀ d ∈ fs, d.name.size ≤ 1048576 ∧ d.text.size ≤ 1048576 := fun d hd => by obtain ⟨h1, h2⟩ := hx2 d hd; exact ⟨by omega, by omega⟩
      have hy3 : ∀ d ∈ ss, d.name.size ≤ 1048576 ∧ d.text.size ≤ 1048576 := fun d hd => by obtain ⟨h1, h2⟩ := hy2 d hd; exact ⟨by omega, by omega⟩
      have hL : (Bx.lay fs ss).1.length ≤ 1048576 := by have := Bx.lay_len fs ss; omega
      have HS0 : Hid (∀ w v u, Bx.Off w v fs → Bx.Off w u ss → Calls Try.prog 16 #[.agg #[v], u] w (Bx.LayPost (Bx.lay fs ss).1 (Bx.lay fs ss).2 w)) := fun w v u h1 h2 => Bx.specLay_any fs ss v u w hn3 hx3 hm3 hy3 h1 h2
      have HI0 : Hid (∀ w v u, Bx.Off w v fs → Bx.Off w u ss → Calls Try.prog 18 #[.agg #[v], u] w (Bx.LayPost (Bx.lay fs ss).1 (Bx.lay fs ss).2 w)) := fun w v u h1 h2 => Bx.implLay_any fs ss v u w hn3 hx3 hm3 hy3 h1 h2
      revert HS0 HI0 hL
      generalize (Bx.lay fs ss).1 = L
      generalize (Bx.lay fs ss).2 = C
      intro hL HS0 HI0
      have HT : Hid (∀ w v, Bx.Off w v fs → Calls Try.prog 9 #[.agg #[v]] w fun e w' => ∃ a k, e = .returned (.agg #[.slice a fs.length k]) ∧ w'.ownsRow w.heap.size 55 2 (.slice a fs.length k) fs.length (Bx.fCs fs) ∧ Below w.heap.size w w') := fun w v h => (Bx.toPlace_any fs v w h hn3).mono fun e w' ⟨v', he, ho, hb⟩ => (by obtain ⟨a, k, rfl⟩ := Bx.rowLen ho; exact ⟨a, k, he, ho, hb⟩)
      have HTS : Hid (∀ w v, Bx.Off w v ss → Calls Try.prog 17 #[v] w fun e w' => ∃ a k, e = .returned (.slice a ss.length k) ∧ w'.ownsRow w.heap.size 55 2 (.slice a ss.length k) ss.length (Bx.fCs ss) ∧ Below w.heap.size w w') := fun w v h => (Bx.toFileS_any ss v w h hm3).mono fun e w' ⟨v', he, ho, hb⟩ => (by obtain ⟨a, k, rfl⟩ := Bx.rowLen ho; exact ⟨a, k, he, ho, hb⟩)
      have HE : Hid (∀ w v v', Bx.Off w v fs → Bx.Off w v' fs → Calls Try.prog 11 #[.agg #[v], .agg #[v']] w fun e w' => e = .returned (.bool true) ∧ Below w.heap.size w w') := fun w v v' h h' => Bx.eqPlace_same fs v v' w h h' hn3
      have HEL : Hid (∀ w v v', Bx.Off w v L → Bx.Off w v' L → Calls Try.prog 11 #[.agg #[v], .agg #[v']] w fun e w' => e = .returned (.bool true) ∧ Below w.heap.size w w') := fun w v v' h h' => Bx.eqPlace_same L v v' w h h' hL
      have HES : Hid (∀ w v v', Bx.Off w v ss → Bx.Off w v' ss → Calls Try.prog 19 #[v, v'] w fun e w' => e = .returned (.bool true) ∧ Below w.heap.size w w') := fun w v v' h h' => Bx.eqFileS_same ss v v' w h h' hm3
      clear hN hS HQ HQ2 hx hx2 hx3 hy hy2 hy3 hn2 hm2
      have nC : (C != C) = false := by simp
      go_enter Try.func5, Try.ntmps5
      go_wp2_with (first
        | (go_at_call 7; (refine (HZ.out _ (HN.out _ (hal _))).mono ?_; rintro e w1 ⟨rfl, hb1⟩; simp only [World.size_alloc] at hb1; have hw1 : Below w.heap.size w w1 := (hal _).trans (hb1.mono (by omega)); have c0 := Bx.row1 hb1; have z1 := hb1.size; simp only [World.size_alloc] at z1))
        | (go_at_call 15; refine (HZ2.out w1 (HSS.out w1 hw1)).mono ?_; rintro e w2 ⟨rfl, hb2⟩; have z2 := hb2.size; have hw2 : Below w.heap.size w w2 := hw1.trans (hb2.mono (by omega)); have c3 := Bx.row1n c0 (by omega) hb2; clear c0)
        | (go_at_call 9; (refine (HT.out w2 _ (HN.out w2 hw2)).mono ?_; rintro e w3 ⟨a3, k3, rfl, hO3, hb3⟩; have HO3 : Hid (Bx.Off w3 (.slice a3 fs.length k3) fs) := Bx.own_off hO3; clear hO3; have z3 := hb3.size; have hw3 : Below w.heap.size w w3 := hw2.trans (hb3.mono (by omega))))
        | (go_at_call 17; (refine (HTS.out w3 _ (HSS.out w3 hw3)).mono ?_; rintro e w4 ⟨a4, k4, rfl, hU4, hb4⟩; have HU4 : Hid (Bx.Off w4 (.slice a4 ss.length k4) ss) := Bx.own_off hU4; clear hU4; have z4 := hb4.size; have hw4 : Below w.heap.size w w4 := hw3.trans (hb4.mono (by omega))))
        | (go_at_call 16; (refine (HS0.out w4 _ _ (HO3.out.below hb4) HU4.out).mono ?_; rintro e w5 ⟨aw, kw, rfl, hO5, hb5⟩; have z5 := hb5.size; obtain ⟨W5, hW5⟩ : ∃ W5, w5.alloc (.cells #[.slice aw L.length kw] 29) = W5 := ⟨_, rfl⟩; have hb5a : Below w5.heap.size w5 W5 := (by rw [← hW5]; exact (Below.refl _ _).alloc (Nat.le_refl _) _); have z5a : W5.heap.size = w5.heap.size + 1 := (by rw [← hW5]; simp); have IW : Hid (Bx.It w4.heap.size W5 w5.heap.size (.slice aw L.length kw) L) := (by rw [← hW5]; exact Bx.It.new hO5); clear hO5; have hw25 : Below w2.heap.size w2 W5 := hb3.trans ((hb4.trans ((hb5.trans (hb5a.mono (by omega))).mono (by omega))).mono (by omega)); have hw5 : Below w.heap.size w W5 := hw2.trans (hw25.mono (by omega)); have c5 := Bx.row1n c3 (by omega) hw25; clear c3 HO3 HU4))
        | (go_at_call 9; (refine (HT.out W5 _ (HN.out W5 hw5)).mono ?_; rintro e w6 ⟨a6, k6, rfl, hO6, hb6⟩; have z6 := hb6.size; obtain ⟨W6, hW6⟩ : ∃ W6, w6.alloc (.cells #[.slice a6 fs.length k6] 29) = W6 := ⟨_, rfl⟩; have hb6a : Below w6.heap.size w6 W6 := (by rw [← hW6]; exact (Below.refl _ _).alloc (Nat.le_refl _) _); have z6a : W6.heap.size = w6.heap.size + 1 := (by rw [← hW6]; simp); have IX : Hid (Bx.It W5.heap.size W6 w6.heap.size (.slice a6 fs.length k6) fs) := (by rw [← hW6]; exact Bx.It.new hO6); clear hO6; have hw56 : Below W5.heap.size W5 W6 := hb6.trans (hb6a.mono (by omega)); have hw6 : Below w.heap.size w W6 := hw5.trans (hw56.mono (by omega)); have c6 := Bx.row1n c5 (by omega) hw56; have IW6 : Hid (Bx.It w4.heap.size W6 w5.heap.size (.slice aw L.length kw) L) := IW.out.below hw56; clear IW c5))
        | (go_at_call 17; (refine (HTS.out W6 _ (HSS.out W6 hw6)).mono ?_; rintro e w7 ⟨a7, k7, rfl, hO7, hb7⟩; have z7 := hb7.size; have HR7 : Hid (∀ g, (Value.slice a7 ss.length k7).ownBlock = some g → W6.heap.size ≤ g ∧ g < w7.heap.size) := hO7.lt; have HO7 : Hid (w7.ownsRow W6.heap.size 55 2 (.slice a7 ss.length k7) ss.length (Bx.fCs ss)) := hO7; clear hO7; have hw7 : Below w.heap.size w w7 := hw6.trans (hb7.mono (by omega)); have c7 := Bx.row1n c6 (by omega) hb7; have IW7 : Hid (Bx.It w4.heap.size w7 w5.heap.size (.slice aw L.length kw) L) := IW6.out.below hb7; have IX7 : Hid (Bx.It W5.heap.size w7 w6.heap.size (.slice a6 fs.length k6) fs) := IX.out.below hb7; have x7 := IX7.out.cell; clear IW6 IX c6))
        | (go_at_call 18; (refine (HI0.out w7 _ _ IX7.out.off (Bx.own_off HO7.out)).mono ?_; rintro e w8 ⟨ag, kg, rfl, hO8, hb8⟩; have z8 := hb8.size; obtain ⟨W8, hW8⟩ : ∃ W8, w8.alloc (.cells #[.slice ag L.length kg] 29) = W8 := ⟨_, rfl⟩; have hb8a : Below w8.heap.size w8 W8 := (by rw [← hW8]; exact (Below.refl _ _).alloc (Nat.le_refl _) _); have z8a : W8.heap.size = w8.heap.size + 1 := (by rw [← hW8]; simp); have IG : Hid (Bx.It w7.heap.size W8 w8.heap.size (.slice ag L.length kg) L) := (by rw [← hW8]; exact Bx.It.new hO8); clear hO8; have hw78 : Below w7.heap.size w7 W8 := hb8.trans (hb8a.mono (by omega)); have hw8 : Below w.heap.size w W8 := hw7.trans (hw78.mono (by omega)); have c8 := Bx.row1n c7 (by omega) hw78; have IW8 : Hid (Bx.It w4.heap.size W8 w5.heap.size (.slice aw L.length kw) L) := IW7.out.below hw78; have IX8 : Hid (Bx.It W5.heap.size W8 w6.heap.size (.slice a6 fs.length k6) fs) := IX7.out.below hw78; have HO8 : Hid (W8.ownsRow W6.heap.size 55 2 (.slice a7 ss.length k7) ss.length (Bx.fCs ss)) := Bx.own_below HO7.out hw78; have g8 := IG.out.cell; have y8 := IW8.out.cell; clear IW7 IX7 HO7 x7 c7))
        | (go_at_call 11; (refine (HEL.out W8 _ _ IG.out.off IW8.out.off).mono ?_; rintro e w9 ⟨rfl, hb9⟩; have z9 := hb9.size; have hw9 : Below w.heap.size w w9 := hw8.trans (hb9.mono (by omega)); have c9 := Bx.row1n c8 (by omega) hb9; have IG9 : Hid (Bx.It w7.heap.size w9 w8.heap.size (.slice ag L.length kg) L) := IG.out.below hb9; have IW9 : Hid (Bx.It w4.heap.size w9 w5.heap.size (.slice aw L.length kw) L) := IW8.out.below hb9; have IX9 : Hid (Bx.It W5.heap.size w9 w6.heap.size (.slice a6 fs.length k6) fs) := IX8.out.below hb9; have HO9 : Hid (w9.ownsRow W6.heap.size 55 2 (.slice a7 ss.length k7) ss.length (Bx.fCs ss)) := Bx.own_below HO8.out hb9; have x9 := IX9.out.cell; clear IG IW8 IX8 HO8 c8 g8 y8)))
      have HRX : Hid (∀ g, (Value.slice a6 fs.length k6).ownBlock = some g → W5.heap.size ≤ g ∧ g < w6.heap.size) := IX9.out.row
      have HRG : Hid (∀ g, (Value.slice ag L.length kg).ownBlock = some g → w7.heap.size ≤ g ∧ g < w8.heap.size) := IG9.out.row
      have HMX : Hid (∀ W xs, W.ownsRow W5.heap.size 55 2 (.slice a6 fs.length k6) fs.length xs → Calls Try.prog 20 #[.agg #[.slice a6 fs.length k6], .int .i64 1] W fun e w' => e = .returned (.int .i64 (1 + 2 * (fs.length : Int))) ∧ W.grownBy w' (Value.slice a6 fs.length k6).ownBlock) := fun W xs h => (Bx.markPlace_any _ xs _ 1 _ W h hn3 (by omega) (by omega)).mono fun e w' ⟨h1, _, h3⟩ => ⟨h1, h3⟩
      obtain ⟨k1, HK1⟩ : ∃ k1, Hid (1 + 2 * (fs.length : Int) = k1) := ⟨_, (rfl : _ = _)⟩
      have hk1 : 1 ≤ k1 ∧ k1 ≤ 4000000 := by have := HK1.out; omega
      rw [HK1.out] at HMX
      obtain ⟨k2, HK2⟩ : ∃ k2, Hid (k1 + 2 * (ss.length : Int) = k2) := ⟨_, (rfl : _ = _)⟩
      have hk2 : 0 ≤ k2 := by have := HK2.out; omega
      have HMY : Hid (∀ W xs, W.ownsRow W6.heap.size 55 2 (.slice a7 ss.length k7) ss.length xs → Calls Try.prog 21 #[.slice a7 ss.length k7, .int .i64 k1] W fun e w' => e = .returned (.int .i64 k2) ∧ W.grownBy w' (Value.slice a7 ss.length k7).ownBlock) := fun W xs h => by
        have := (Bx.markFileS_any _ xs _ k1 _ W h hm3 hk1.1 hk1.2)
        rw [HK2.out] at this
        exact this.mono fun e w' ⟨h1, _, h3⟩ => ⟨h1, h3⟩
      obtain ⟨m1, HM1⟩ : ∃ m1, Hid (1 + 2 * (L.length : Int) = m1) := ⟨_, (rfl : _ = _)⟩
      have hm1 : 0 ≤ m1 := by have := HM1.out; omega
      have HMG : Hid (∀ W xs, W.ownsRow w7.heap.size 55 2 (.slice ag L.length kg) L.length xs → Calls Try.prog 20 #[.agg #[.slice ag L.length kg], .int .i64 1] W fun e w' => e = .returned (.int .i64 m1) ∧ w'.ownsRow w7.heap.size 55 2 (.slice ag L.length kg) L.length (Bx.fCs (Bx.marked 1 L.length)) ∧ W.grownBy w' (Value.slice ag L.length kg).ownBlock) := fun W xs h => by
        have := Bx.markPlace_any _ xs _ 1 _ W h hL (by omega) (by omega)
        rw [HM1.out] at this; exact this
      have HH : Hid (∀ W, Bx.Off W (.slice ag L.length kg) (Bx.marked 1 L.length) → Calls Try.prog 22 #[.agg #[.slice ag L.length kg], .int .i64 1] W fun e w' => e = .returned (.int .i64 m1) ∧ Below W.heap.size W w') := fun W h => by
        have := Bx.heldPlace_any _ _ 1 W h hL (by omega) (by omega)
        rw [HM1.out] at this; exact this
      have nM : (m1 != m1) = false := by simp
      clear HK1 HK2 HM1 HZ HZ2 HS0 hq hqq
      go_region_with (first
        | (go_at_call 9; (refine (HT.out _ _ (HN.out _ (by first | exact hw9 | exact hw9.drew | exact hw9.drew.drew | exact hw9.drew.drew.drew))).mono ?_; rintro e w10 ⟨a10, k10, rfl, hO10, hb10⟩; have HO10 : Hid (Bx.Off w10 (.slice a10 fs.length k10) fs) := Bx.own_off hO10; clear hO10; have hw910 : Below w9.heap.size w9 w10 := ⟨hb10.os, hb10.tape, hb10.output, hb10.size, hb10.block⟩; clear hb10; have x10 := (IX9.out.below hw910).cell))
        | (go_at_call 11; (refine (HE.out _ _ _ (IX9.out.below hw910).off HO10.out).mono ?_; rintro e w11 ⟨rfl, hb11⟩)))
      all_goals
        have z910 := hw910.size
        have hw1011 : Below w10.heap.size w10 w11 := ⟨hb11.os, hb11.tape, hb11.output, hb11.size, hb11.block⟩
        have hw911 : Below w9.heap.size w9 w11 := hw910.trans (hw1011.mono z910)
        have z11 := hw911.size
        have hw11 : Below w.heap.size w w11 := hw9.trans (hw911.mono (by omega))
        have IG11 : Hid (Bx.It w7.heap.size w11 w8.heap.size (.slice ag L.length kg) L) := IG9.out.below hw911
        have IW11 : Hid (Bx.It w4.heap.size w11 w5.heap.size (.slice aw L.length kw) L) := IW9.out.below hw911
        have IX11 : Hid (Bx.It W5.heap.size w11 w6.heap.size (.slice a6 fs.length k6) fs) := IX9.out.below hw911
        have HO11 : Hid (w11.ownsRow W6.heap.size 55 2 (.slice a7 ss.length k7) ss.length (Bx.fCs ss)) := Bx.own_below HO9.out hw911
        have c11 := Bx.row1n c9 (by omega) hw911
        clear IG9 IW9 IX9 HO9 c9 x9 x10 hb11 hw1011 hw910 HO10 hw911 hw9 z910 HE
        go_wp2_with (first
          | (go_at_call 17; (refine (HTS.out w11 _ (HSS.out w11 hw11)).mono ?_; rintro e w12 ⟨a12, k12, rfl, hO12, hb12⟩; have z12 := hb12.size; have HO12 : Hid (Bx.Off w12 (.slice a12 ss.length k12) ss) := Bx.own_off hO12; clear hO12))
          | (go_at_call 19; (refine (HES.out w12 _ _ (Bx.own_off (Bx.own_below HO11.out hb12)) HO12.out).mono ?_; rintro e w13 ⟨rfl, hb13⟩; have z13 := hb13.size; have hw1113 : Below w11.heap.size w11 w13 := hb12.trans (hb13.mono (by omega)); have hw13 : Below w.heap.size w w13 := hw11.trans (hw1113.mono (by omega)); have IG13 : Hid (Bx.It w7.heap.size w13 w8.heap.size (.slice ag L.length kg) L) := IG11.out.below hw1113; have IW13 : Hid (Bx.It w4.heap.size w13 w5.heap.size (.slice aw L.length kw) L) := IW11.out.below hw1113; have IX13 : Hid (Bx.It W5.heap.size w13 w6.heap.size (.slice a6 fs.length k6) fs) := IX11.out.below hw1113; have HO13 : Hid (w13.ownsRow W6.heap.size 55 2 (.slice a7 ss.length k7) ss.length (Bx.fCs ss)) := Bx.own_below HO11.out hw1113; have c13 := Bx.row1n c11 (by omega) hw1113; have x13 := IX13.out.cell; clear IG11 IW11 IX11 HO11 c11 HO12 hb12 hb13 hw1113 HES))
          | (go_at_call 20; (refine (HMX.out w13 _ IX13.out.own).mono ?_; rintro e w14 ⟨rfl, hg14⟩; have z14 := hg14.size; have hw14 : Below w.heap.size w w14 := hw13.grown hg14 (by omega) (fun g hg => by have := HRX.out g hg; omega); have IG14 : Hid (Bx.It w7.heap.size w14 w8.heap.size (.slice ag L.length kg) L) := IG13.out.kept hg14 (fun g hg => by have := HRX.out g hg; omega) (by omega); have IW14 : Hid (Bx.It w4.heap.size w14 w5.heap.size (.slice aw L.length kw) L) := IW13.out.kept hg14 (fun g hg => by have := HRX.out g hg; omega) (by omega); have HO14 : Hid (w14.ownsRow W6.heap.size 55 2 (.slice a7 ss.length k7) ss.length (Bx.fCs ss)) := Bx.own_kept HO13.out hg14 (fun g hg g' hg' => by have := HRX.out g hg; have := HR7.out g' hg'; omega); have c14 := Bx.cell_kept c13 hg14 (fun g hg => by have := HRX.out g hg; omega); clear IG13 IW13 IX13 HO13 c13 x13 hg14 HMX))
          | (go_at_call 21; (refine (HMY.out w14 _ HO14.out).mono ?_; rintro e w15 ⟨rfl, hg15⟩; have z15 := hg15.size; have hw15 : Below w.heap.size w w15 := hw14.grown hg15 (by omega) (fun g hg => by have := HR7.out g hg; omega); have IG15 : Hid (Bx.It w7.heap.size w15 w8.heap.size (.slice ag L.length kg) L) := IG14.out.kept hg15 (fun g hg => by have := HR7.out g hg; omega) (by omega); have IW15 : Hid (Bx.It w4.heap.size w15 w5.heap.size (.slice aw L.length kw) L) := IW14.out.kept hg15 (fun g hg => by have := HR7.out g hg; omega) (by omega); have c15 := Bx.cell_kept c14 hg15 (fun g hg => by have := HR7.out g hg; omega); have g15 := IG15.out.cell; have y15 := IW15.out.cell; clear IG14 IW14 HO14 c14 hg15 HMY))
          | (go_at_call 11; (refine (HEL.out w15 _ _ IG15.out.off IW15.out.off).mono ?_; rintro e w16 ⟨rfl, hb16⟩; have z16 := hb16.size; have hw16 : Below w.heap.size w w16 := hw15.trans (hb16.mono (by omega)); have IG16 : Hid (Bx.It w7.heap.size w16 w8.heap.size (.slice ag L.length kg) L) := IG15.out.below hb16; have IW16 : Hid (Bx.It w4.heap.size w16 w5.heap.size (.slice aw L.length kw) L) := IW15.out.below hb16; have c16 := Bx.row1n c15 (by omega) hb16; have g16 := IG16.out.cell; clear IG15 IW15 c15 hb16 g15 y15))
          | (go_at_call 20; (refine (HMG.out w16 _ IG16.out.own).mono ?_; rintro e w17 ⟨rfl, hO17, hg17⟩; have z17 := hg17.size; have hw17 : Below w.heap.size w w17 := hw16.grown hg17 (by omega) (fun g hg => by have := HRG.out g hg; omega); have IG17 : Hid (Bx.It w7.heap.size w17 w8.heap.size (.slice ag L.length kg) (Bx.marked 1 L.length)) := IG16.out.marked (by rw [Bx.marked_len]; exact hO17) hg17; have IW17 : Hid (Bx.It w4.heap.size w17 w5.heap.size (.slice aw L.length kw) L) := IW16.out.kept hg17 (fun g hg => by have := HRG.out g hg; omega) (by omega); have c17 := Bx.cell_kept c16 hg17 (fun g hg => by have := HRG.out g hg; omega); have g17 := IG17.out.cell; clear IG16 IW16 c16 g16 hO17 hg17 HMG))
          | (go_at_call 22; (refine (HH.out w17 IG17.out.off).mono ?_; rintro e w18 ⟨rfl, hb18⟩; have z18 := hb18.size; have hw18 : Below w.heap.size w w18 := hw17.trans (hb18.mono (by omega)); have IG18 : Hid (Bx.It w7.heap.size w18 w8.heap.size (.slice ag L.length kg) (Bx.marked 1 L.length)) := IG17.out.below hb18; have IW18 : Hid (Bx.It w4.heap.size w18 w5.heap.size (.slice aw L.length kw) L) := IW17.out.below hb18; have c18 := Bx.row1n c17 (by omega) hb18; clear IG17 IW17 c17 g17 hb18))
          | (go_at_call 9; (refine (HT.out w18 _ (HN.out w18 hw18)).mono ?_; rintro e w19 ⟨a19, k19, rfl, hO19, hb19⟩; have z19 := hb19.size; have hw19 : Below w.heap.size w w19 := hw18.trans (hb19.mono (by omega)); have HO19 : Hid (Bx.Off w19 (.slice a19 fs.length k19) fs) := Bx.own_off hO19; clear hO19 c18))
          | (go_at_call 17; (refine (HTS.out w19 _ (HSS.out w19 hw19)).mono ?_; rintro e w20 ⟨a20, k20, rfl, hO20, hb20⟩; have z20 := hb20.size; have HO20 : Hid (Bx.Off w20 (.slice a20 ss.length k20) ss) := Bx.own_off hO20; clear hO20))
          | (go_at_call 18; (refine (HI0.out w20 _ _ (HO19.out.below hb20) HO20.out).mono ?_; rintro e w21 ⟨ah, kh, rfl, hO21, hb21⟩; have z21 := hb21.size; obtain ⟨W21, hW21⟩ : ∃ W21, w21.alloc (.cells #[.slice ah L.length kh] 29) = W21 := ⟨_, rfl⟩; have hb21a : Below w21.heap.size w21 W21 := (by rw [← hW21]; exact (Below.refl _ _).alloc (Nat.le_refl _) _); have z21a : W21.heap.size = w21.heap.size + 1 := (by rw [← hW21]; simp); have IH : Hid (Bx.It w20.heap.size W21 w21.heap.size (.slice ah L.length kh) L) := (by rw [← hW21]; exact Bx.It.new hO21); clear hO21; have hw1821 : Below w18.heap.size w18 W21 := hb19.trans ((hb20.trans ((hb21.trans (hb21a.mono (by omega))).mono (by omega))).mono (by omega)); have hw21 : Below w.heap.size w W21 := hw18.trans (hw1821.mono (by omega)); have IG21 : Hid (Bx.It w7.heap.size W21 w8.heap.size (.slice ag L.length kg) (Bx.marked 1 L.length)) := IG18.out.below hw1821; have IW21 : Hid (Bx.It w4.heap.size W21 w5.heap.size (.slice aw L.length kw) L) := IW18.out.below hw1821; have h21 := IH.out.cell; have y21 := IW21.out.cell; clear IG18 IW18 HO19 HO20))
          | (go_at_call 11; (refine (HEL.out W21 _ _ IH.out.off IW21.out.off).mono ?_; rintro e w22 ⟨rfl, hb22⟩; have z22 := hb22.size; have hw22 : Below w.heap.size w w22 := hw21.trans (hb22.mono (by omega)); have IG22 : Hid (Bx.It w7.heap.size w22 w8.heap.size (.slice ag L.length kg) (Bx.marked 1 L.length)) := IG21.out.below hb22; have g22 := IG22.out.cell; clear IG21 IW21 IH h21 y21))
          | (go_at_call 22; (refine (HH.out w22 IG22.out.off).mono ?_; rintro e w23 ⟨rfl, hb23⟩; have hw23 : Below w.heap.size w w23 := hw22.trans (hb23.mono (by omega)))))
        go_ret
        exact ⟨rfl, hw23⟩
end Go.Proofs.Ytdapajkckocmbaa
