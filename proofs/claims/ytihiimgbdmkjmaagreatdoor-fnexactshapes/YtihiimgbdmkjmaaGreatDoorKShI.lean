import Derived.Test.YtihiimgbdmkjmaaGreatDoorKShH
import Derived.Test.YtihiimgbdmkjmaaGreatDoorKShE
import Derived.Test.YtihiimgbdmkjmaaGreatDoorKShC
import Derived.Test.YtihiimgbdmkjmaaGreatDoorKCgG
import Derived.Test.YtihiimgbdmkjmaaGreatDoorKCgB
import Derived.Deep.RegionWith
namespace Go.Proofs.YtihiimgbdmkjmaaGreatDoor
open Go.RowKit

theorem Cd.row1 {w w1 : World} {a0 : Value} {t : TypeId} (hb : Below (w.heap.size + 1) (w.alloc (.cells #[a0] t)) w1) : w1.cell? ⟨w.heap.size, 0, none⟩ = some a0 := by
  have h1 := hb.block w.heap.size (by omega)
  rw [(MapKept.heap_alloc w _).1] at h1
  simp [World.cell?, h1]
theorem Cd.row1n {w1 w2 : World} {g : Nat} {a0 : Value} (h : w1.cell? ⟨g, 0, none⟩ = some a0) (hg : g < w1.heap.size) (hb : Below w1.heap.size w1 w2) : w2.cell? ⟨g, 0, none⟩ = some a0 := by
  rw [hb.cell (p := ⟨g, 0, none⟩) hg]; exact h
theorem Cd.row1t {w1 w2 : World} {g : Nat} {a0 : Value} {S : Nat → Prop} (h : w1.cell? ⟨g, 0, none⟩ = some a0) (hg : g < w1.heap.size) (ht : Cd.Tch S w1 w2) (hs : ¬ S g) : w2.cell? ⟨g, 0, none⟩ = some a0 := by
  rw [World.cell?_of_block (a := ⟨g, 0, none⟩) (ht.keep g hg hs)]; exact h
/-- A row of shapes that has been marked. -/
def Cd.MkdAt (A : Nat) (w : World) (v : Value) (E : List Cd.En) : Prop :=
  ∃ a cap, v = .slice a E.length cap ∧ (0 < E.length → ∃ g, a = some ⟨g, 0, none⟩ ∧ A ≤ g ∧ Cd.Frm g cap E w ∧ ∀ u (hu : u < E.length), Cd.MkAt g u E[u] (Cd.kAt E u) w)
theorem Cd.MkdAt.below {A : Nat} {w w' : World} {v : Value} {E : List Cd.En} (h : Cd.MkdAt A w v E) (hb : Below w.heap.size w w') : Cd.MkdAt A w' v E := by
  obtain ⟨a, cap, rfl, h⟩ := h
  refine ⟨a, cap, rfl, fun h0 => ?_⟩
  obtain ⟨g, h1, h2, h3, h4⟩ := h h0
  refine ⟨g, h1, h2, h3.tch (Cd.Tch.of_below (S := fun _ => False) hb) id, fun u hu => ?_⟩
  obtain ⟨N, cur, hr, -⟩ := h3.row
  obtain ⟨⟨_, r1⟩, ⟨_, r2⟩⟩ := h3.rows u hu
  exact (h4 u hu).keep (hb.cell (p := ⟨g, u * 3, none⟩) hr.lt) (hb.block _ r1.lt) (hb.block _ r2.lt)
set_option maxRecDepth 100000 in
set_option maxHeartbeats 1000000 in
theorem Cd.markShapeS_zero (a : Option Addr) (cap : Nat) (w : World) : Calls Tryz.prog 11 #[.slice a 0 cap, .int .i64 1] w fun e w' => e = .returned (.int .i64 1) ∧ w' = w := by
  go_enter Tryz.func11, Tryz.ntmps11
  go_wp2
  refine wp_loop_rounds 1 ?_
  rw [rounds_succ]
  go_wp2
  go_ret
  exact ⟨rfl, rfl⟩
set_option maxRecDepth 100000 in
set_option maxHeartbeats 1000000 in
theorem Cd.heldShapeS_zero (a : Option Addr) (cap : Nat) (w : World) : Calls Tryz.prog 12 #[.slice a 0 cap, .int .i64 1] w fun e w' => e = .returned (.int .i64 1) ∧ w' = w := by
  go_enter Tryz.func12, Tryz.ntmps12
  go_wp2
  refine wp_loop_rounds 1 ?_
  rw [rounds_succ]
  go_wp2
  go_ret
  exact ⟨rfl, rfl⟩
theorem Cd.mark_any (E : List Cd.En) (v : Value) (A : Nat) (hl : E.length ≤ 1048576) (hE : ∀ e ∈ E, e.s.length ≤ 1048576 ∧ e.k.length ≤ 1048576) (w : World) (h : Cd.OwnAt A w v E) :
    Calls Tryz.prog 11 #[v, .int .i64 1] w fun e w' => e = .returned (.int .i64 (Cd.kAt E E.length)) ∧ Cd.MkdAt A w' v E ∧ Cd.Tch (fun j => A ≤ j) w w' := by
  by_cases h0 : 0 < E.length
  · obtain ⟨g, cap, rfl, hA, hF, -⟩ := h.frm h0
    refine (Cd.markShapeS_any E g cap A hl hE h.ens.ord ⟨hA, fun u hu => (h.ens.each E[u] (List.getElem_mem hu)).1⟩ w hF).mono ?_
    rintro e w' ⟨h1, h2, h3, h4⟩
    exact ⟨h1, ⟨_, _, rfl, fun _ => ⟨g, rfl, hA, h2, h3⟩⟩, h4⟩
  · obtain ⟨a, cap, rfl⟩ := h.len
    have e0 : E.length = 0 := by omega
    rw [e0]
    refine (Cd.markShapeS_zero a cap w).mono ?_
    rintro e w' ⟨h1, rfl⟩
    exact ⟨h1, ⟨a, cap, by rw [e0], fun h => absurd h h0⟩, Cd.Tch.refl _ _⟩
theorem Cd.held_any (E : List Cd.En) (v : Value) (A : Nat) (hl : E.length ≤ 1048576) (hE : ∀ e ∈ E, e.s.length ≤ 1048576 ∧ e.k.length ≤ 1048576) (w : World) (h : Cd.MkdAt A w v E) :
    Calls Tryz.prog 12 #[v, .int .i64 1] w fun e w' => e = .returned (.int .i64 (Cd.kAt E E.length)) ∧ Below w.heap.size w w' := by
  obtain ⟨a, cap, rfl, h⟩ := h
  by_cases h0 : 0 < E.length
  · obtain ⟨g, rfl, hA, h3, h4⟩ := h h0
    exact Cd.heldShapeS_any E g cap hl hE w h3 h4
  · have e0 : E.length = 0 := by omega
    rw [e0]
    refine (Cd.heldShapeS_zero a cap w).mono ?_
    rintro e w' ⟨h1, rfl⟩
    exact ⟨h1, Below.refl _ _⟩
theorem Cd.eqOut {X : List Cd.Sh} {B : Nat} {U : World} {v1 v2 : Value} (hB : B ≤ U.heap.size) (h1 : Cd.OutAt B U v1 X) (h2 : Cd.OutAt B U v2 X) (hs : Cd.small2 X) : Calls Tryz.prog 8 #[v1, v2] U fun e w' => e = .returned (.bool true) ∧ Below U.heap.size U w' := by
  obtain ⟨a1, c1, rfl, -⟩ := id h1
  obtain ⟨a2, c2, rfl, -⟩ := id h2
  exact Cd.eqShapeS_same X B a1 a2 c1 c2 U hB h1 h2 hs.1 hs.2
def Cd.ToIn (c : List Cd.Fn) (w : World) (e : Ending) (w' : World) : Prop := ∃ p, e = .returned (.agg #[.slice p c.length c.length]) ∧ Cd.CodeIn (w.heap.size + 3) w'.heap.size w' (.slice p c.length c.length) c ∧ Below w.heap.size w w'
set_option maxRecDepth 100000 in
set_option maxHeartbeats 8000000 in
theorem Cd.lawShapes_any (c : List Cd.Fn) (a : Option Addr) (cap : Nat) (fn : Int) (hn : c.length ≤ 9223372036854775807) (hx : ∀ f ∈ c, Cd.far f) (hN : ∀ k (hk : k < c.length) i (hi : i < c[k].ins.length), -9223372036854775808 ≤ c[k].ins[i].n ∧ c[k].ins[i].n ≤ 9223372036854775807) (w : World) (hO : Cd.FnsOff w (.slice a c.length cap) c) (hT : Cd.InsTab w) (hW : Cd.WordTab w) :
    Calls Tryz.prog 3 #[.agg #[.slice a c.length cap], .int .i64 fn] w fun e w' => e = .returned (.bool true) ∧ Below w.heap.size w w' := by
  have hal : ∀ o : Obj, Below w.heap.size w (w.alloc o) := fun o => Cd.b1 w o
  obtain ⟨q, HQ⟩ : ∃ q, Hid (Cd.zC c 1048576 = q) := ⟨_, (rfl : Cd.zC c 1048576 = _)⟩
  have HZ : Hid (∀ o, Calls Tryz.prog 4 #[.agg #[.slice a c.length cap], .int .i64 1048576] (w.alloc o) fun e w' => e = .returned (.int .i64 q) ∧ Below (w.heap.size + 1) (w.alloc o) w') := fun o => by
    have h := Cd.szCode_any c a cap 1048576 (by omega) (by omega) hn hx (w.alloc o) (hO.below (hal o))
    rw [HQ.out, World.size_alloc] at h
    exact h
  by_cases hq : q < 0
  · clear HQ hO hx hN
    go_enter Tryz.func3, Tryz.ntmps3
    go_wp2_with (first | (go_at_call 4; (refine (HZ.out _).mono ?_; rintro e w1 ⟨rfl, hb1⟩)))
    go_ret
    exact ⟨rfl, (hal _).trans (hb1.mono (by omega))⟩
  · obtain ⟨hn2, hx2⟩ := (Cd.zC_bd c 1048576 (by omega)).2.2 (by rw [HQ.out]; omega)
    have hn3 : c.length ≤ 1048576 := by omega
    have hx3 : ∀ k (hk : k < c.length), c[k].params.length ≤ 1048576 ∧ c[k].ins.length ≤ 1048576 ∧ c[k].name.size ≤ 1048576 := fun k hk => by
      obtain ⟨h1, h2, h3⟩ := hx2 c[k] (List.getElem_mem hk)
      exact ⟨by omega, by omega, by omega⟩
    have hx4 : ∀ k (hk : k < c.length), c[k].params.length ≤ 1048576 ∧ c[k].ins.length ≤ 1048576 := fun k hk => ⟨(hx3 k hk).1, (hx3 k hk).2.1⟩
    have HT : Hid (∀ U, Below w.heap.size w U → Calls Tryz.prog 6 #[.agg #[.slice a c.length cap]] U (Cd.ToIn c U)) := fun U hU => Cd.toCode_in c a cap hn3 hx4 U (hO.below hU)
    have HS : Hid (∀ U p, Cd.CodeAt U.heap.size U (.slice p c.length c.length) c → Calls Tryz.prog 5 #[.agg #[.slice p c.length c.length], .int .i64 fn] U (Cd.SpecPost c fn U)) := fun U p h => Cd.specShapes_any c p c.length fn hn3 hx4 U h
    have HI : Hid (∀ U p, Below w.heap.size w U → Cd.CodeAt U.heap.size U (.slice p c.length c.length) c → Calls Tryz.prog 7 #[.agg #[.slice p c.length c.length], .int .i64 fn] U (Cd.ImplPost c fn U)) := fun U p hU h => Cd.implShapes_any c p c.length fn hn3 (Nat.le_refl _) hx3 hN U h (hT.below hU) (hW.below hU)
    have HE : Hid (∀ (B : Nat) U p p', B ≤ U.heap.size → Cd.CodeAt B U (.slice p c.length c.length) c → Cd.CodeAt B U (.slice p' c.length c.length) c → Calls Tryz.prog 9 #[.agg #[.slice p c.length c.length], .agg #[.slice p' c.length c.length]] U fun e w' => e = .returned (.bool true) ∧ Below U.heap.size U w') := fun B U p p' hB h h' => Cd.eqCode_same c B p p' c.length c.length U hB h h' hn3 hx4
    have HMC : Hid (∀ U p A B, (0 < c.length → ∃ g R, p = some ⟨g, 0, none⟩ ∧ Cd.Marks A B g R c U) → Calls Tryz.prog 10 #[.agg #[.slice p c.length c.length], .int .i64 1] U fun e w' => ∃ k, e = .returned (.int .i64 k) ∧ 1 ≤ k ∧ Cd.Tch (Cd.within A B) U w') := fun U p A B h => Cd.markCode_any c p c.length A B hn3 hx4 U h
    clear HQ hO hx hN hx2 hn2 hx3 hx4 hT hW
    go_enter Tryz.func3, Tryz.ntmps3
    go_wp2_with (first
      | (go_at_call 4; (refine (HZ.out _).mono ?_; rintro e w1 ⟨rfl, hb1⟩; have hw1 : Below w.heap.size w w1 := (hal _).trans (hb1.mono (by omega)); have c0 := Cd.row1 hb1; have z1 := hb1.size; simp only [World.size_alloc] at z1))
      | (go_at_call 6; (refine (HT.out w1 hw1).mono ?_; rintro e w2 ⟨p2, rfl, hO2, hb2⟩; have HO2 : Hid (Cd.CodeAt w2.heap.size w2 (.slice p2 c.length c.length) c) := hO2.code; clear hO2; have z2 := hb2.size))
      | (go_at_call 5; (refine (HS.out w2 p2 HO2.out).mono ?_; rintro e w3 ⟨v0, X, rfl, hA3, hU3, hS3, hb3⟩; have HA3 : Hid (Cd.ShapesAre c fn X) := hA3; have HU3 : Hid (Cd.OutAt w3.heap.size w3 v0 X) := hU3; have HX : Hid (Cd.small2 X) := hS3; clear hA3 hU3 hS3; have z3 := hb3.size; have hw3 : Below w1.heap.size w1 w3 := hb2.trans (hb3.mono z2); have hv3 : Below w.heap.size w w3 := hw1.trans (hw3.mono (by omega)); have d0 := Cd.row1n c0 (by omega) hw3; clear c0)))
    go_wp2_with (first
      | (go_at_call 6; (refine (HT.out w3 hv3).mono ?_; rintro e w4 ⟨p4, rfl, hO4, hb4⟩; have z4 := hb4.size; obtain ⟨W4, hW4⟩ : ∃ W, w4.alloc (.cells #[.slice p4 c.length c.length] 30) = W := ⟨_, rfl⟩; have hb4a : Below w4.heap.size w4 W4 := (by rw [← hW4]; exact Cd.b1 w4 _); have z4a : W4.heap.size = w4.heap.size + 1 := (by rw [← hW4]; exact World.size_alloc _ _); have x4 : W4.cell? ⟨w4.heap.size, 0, none⟩ = some (.slice p4 c.length c.length) := (by rw [← hW4]; exact Cd.row1 (Below.refl _ _)); have HCA4 : Hid (Cd.CodeAt W4.heap.size W4 (.slice p4 c.length c.length) c) := Cd.CodeAt.mono (hO4.code.below hb4a) (by omega); have HMK4 : Hid (0 < c.length → ∃ g R, p4 = some ⟨g, 0, none⟩ ∧ Cd.Marks (w3.heap.size + 3) w4.heap.size g R c W4) := (fun h => by obtain ⟨g, R, h1, h2⟩ := hO4.marks h; exact ⟨g, R, h1, h2.tch (Cd.Tch.of_below (S := fun _ => False) hb4a) id⟩); clear hO4; have hw34 : Below w3.heap.size w3 W4 := hb4.trans (hb4a.mono (by omega)); have hv4 : Below w.heap.size w W4 := hv3.trans (hw34.mono (by have := hv3.size; omega)); have d4 := Cd.row1n d0 (by omega) hw34; clear d0))
      | (go_at_call 7; (refine (HI.out W4 p4 hv4 HCA4.out).mono ?_; rintro e w5 ⟨v5, E, rfl, hA5, hO5, hb5⟩; have HEX : Hid (E.map (·.sh) = X) := hA5.one HA3.out; have HO5 : Hid (Cd.OwnAt W4.heap.size w5 v5 E) := hO5; clear hA5 hO5; have z5 := hb5.size; have hw35 : Below w3.heap.size w3 w5 := hw34.trans (hb5.mono (by omega)); have hv5 : Below w.heap.size w w5 := hv4.trans (hb5.mono (by omega)); have HU5 : Hid (Cd.OutAt w3.heap.size w5 v0 X) := HU3.out.below hw35; have d5 := Cd.row1n d4 (by omega) hb5; have x5 := Cd.row1n x4 (by omega) hb5; have HMK5 : Hid (0 < c.length → ∃ g R, p4 = some ⟨g, 0, none⟩ ∧ Cd.Marks (w3.heap.size + 3) w4.heap.size g R c w5) := (fun h => by obtain ⟨g, R, h1, h2⟩ := HMK4.out h; exact ⟨g, R, h1, h2.tch (Cd.Tch.of_below (S := fun _ => False) hb5) id⟩); have HCA5 : Hid (Cd.CodeAt W4.heap.size w5 (.slice p4 c.length c.length) c) := HCA4.out.below hb5; clear d4 x4 HMK4 HCA4))
      | (go_at_call 8; (refine (Cd.eqOut (X := X) (B := w5.heap.size) (Nat.le_refl _) (HO5.out.out HEX.out) (HU5.out.mono (by omega)) HX.out).mono ?_; rintro e w6 ⟨rfl, hb6⟩; have z6 := hb6.size; have HO6 : Hid (Cd.OwnAt W4.heap.size w6 v5 E) := HO5.out.below hb6; have HU6 : Hid (Cd.OutAt w3.heap.size w6 v0 X) := HU5.out.below (hb6.mono (by omega)); have d6 := Cd.row1n d5 (by omega) hb6; have hv6 : Below w.heap.size w w6 := hv5.trans (hb6.mono (by omega)); have x6 := Cd.row1n x5 (by omega) hb6; have HMK6 : Hid (0 < c.length → ∃ g R, p4 = some ⟨g, 0, none⟩ ∧ Cd.Marks (w3.heap.size + 3) w4.heap.size g R c w6) := (fun h => by obtain ⟨g, R, h1, h2⟩ := HMK5.out h; exact ⟨g, R, h1, h2.tch (Cd.Tch.of_below (S := fun _ => False) hb6) id⟩); have HCA6 : Hid (Cd.CodeAt W4.heap.size w6 (.slice p4 c.length c.length) c) := HCA5.out.below (hb6.mono (by omega)); clear HO5 HU5 d5 x5 HMK5 HCA5)))
    have HEL : Hid (E.length ≤ 1048576 ∧ ∀ e ∈ E, e.s.length ≤ 1048576 ∧ e.k.length ≤ 1048576) := by
      have hEX := HEX.out
      have hX := HX.out
      subst hEX
      refine ⟨by have := hX.1; simpa using this, fun e he => ?_⟩
      obtain ⟨u, hu, rfl⟩ := List.getElem_of_mem he
      have := hX.2 u (by simpa using hu)
      simpa [Cd.En.s, Cd.En.k] using this
    obtain ⟨m1, HM1⟩ : ∃ m, Hid (Cd.kAt E E.length = m) := ⟨_, (rfl : Cd.kAt E E.length = _)⟩
    have hm1 : 0 ≤ m1 := by have := (Cd.kAt_bd E HEL.out.2 E.length (Nat.le_refl _)).1; rw [HM1.out] at this; omega
    have nM : (m1 != m1) = false := by simp
    have HMS : Hid (∀ U, Cd.OwnAt W4.heap.size U v5 E → Calls Tryz.prog 11 #[v5, .int .i64 1] U fun e w' => e = .returned (.int .i64 m1) ∧ Cd.MkdAt W4.heap.size w' v5 E ∧ Cd.Tch (fun j => W4.heap.size ≤ j) U w') := fun U h => by
      have := Cd.mark_any E v5 _ HEL.out.1 HEL.out.2 U h
      rw [HM1.out] at this; exact this
    have HHS : Hid (∀ U, Cd.MkdAt W4.heap.size U v5 E → Calls Tryz.prog 12 #[v5, .int .i64 1] U fun e w' => e = .returned (.int .i64 m1) ∧ Below U.heap.size U w') := fun U h => by
      have := Cd.held_any E v5 _ HEL.out.1 HEL.out.2 U h
      rw [HM1.out] at this; exact this
    have hv6z := hv6.size
    clear HZ HS HM1 HEL
    go_region_with (first
      | (go_at_call 6; (refine (HT.out _ (by first | exact hv6 | exact hv6.drew | exact hv6.drew.drew | exact hv6.drew.drew.drew)).mono ?_; rintro e w7 ⟨p7, rfl, hO7, hb7⟩; have HO7 : Hid (Cd.CodeAt w7.heap.size w7 (.slice p7 c.length c.length) c) := hO7.code; clear hO7; have hw67 : Below w6.heap.size w6 w7 := ⟨hb7.os, hb7.tape, hb7.output, hb7.size, hb7.block⟩; have z7 := hw67.size; have x7 := Cd.row1n x6 (by omega) hw67; have HCA7 : Hid (Cd.CodeAt w7.heap.size w7 (.slice p4 c.length c.length) c) := Cd.CodeAt.mono (HCA6.out.below (hw67.mono (by omega))) (by omega)))
      | (go_at_call 9; (refine (HE.out w7.heap.size _ p4 p7 (by first | exact Nat.le_refl _ | (simp; done)) (by first | exact HCA7.out | exact HCA7.out.below (Below.refl _ _).drew | exact HCA7.out.below (Below.refl _ _).drew.drew) (by first | exact HO7.out | exact HO7.out.below (Below.refl _ _).drew | exact HO7.out.below (Below.refl _ _).drew.drew)).mono ?_; rintro e w8 ⟨rfl, hb8⟩)))
    all_goals
      have z67 : w6.heap.size ≤ w7.heap.size := hw67.size
      have hw78 : Below w7.heap.size w7 w8 := ⟨hb8.os, hb8.tape, hb8.output, hb8.size, hb8.block⟩
      have hw68 : Below w6.heap.size w6 w8 := hw67.trans (hw78.mono z67)
      have z68 := hw68.size
      have HO8 : Hid (Cd.OwnAt W4.heap.size w8 v5 E) := HO6.out.below hw68
      have HU8 : Hid (Cd.OutAt w3.heap.size w8 v0 X) := HU6.out.below (hw68.mono (by omega))
      have d8 := Cd.row1n d6 (by omega) hw68
      have x8 := Cd.row1n x6 (by omega) hw68
      have hv8 : Below w.heap.size w w8 := hv6.trans (hw68.mono (by omega))
      have HMK8 : Hid (0 < c.length → ∃ g R, p4 = some ⟨g, 0, none⟩ ∧ Cd.Marks (w3.heap.size + 3) w4.heap.size g R c w8) := fun h => by
        obtain ⟨g, R, h1, h2⟩ := HMK6.out h
        exact ⟨g, R, h1, h2.tch (Cd.Tch.of_below (S := fun _ => False) hw68) id⟩
      clear hb8 hb7 hb6 hb5 hb4 hb3 hb2 hb1 x6 x7 d6 HO6 HU6 HMK6 HCA6 HCA7 HO7 hw67 hw78 hw68 HE
      go_wp2_with (first
        | (go_at_call 12; (refine (HHS.out w15 HM15.out).mono ?_; rintro e w16 ⟨rfl, hb16⟩; have hv16 : Below w.heap.size w w16 := hv15.trans (hb16.mono (by omega))))
        | (go_at_call 12; (refine (HHS.out w11 HM11.out).mono ?_; rintro e w12 ⟨rfl, hb12⟩; have z12 := hb12.size; have HM12 : Hid (Cd.MkdAt W4.heap.size w12 v5 E) := HM11.out.below hb12; have HU12 : Hid (Cd.OutAt w3.heap.size w12 v0 X) := HU11.out.below (hb12.mono (by omega)); have d12 := Cd.row1n d11 (by omega) hb12; have hv12 : Below w.heap.size w w12 := hv11.trans (hb12.mono (by omega)); clear HM11 HU11 d11))
        | (go_at_call 8; (refine (Cd.eqOut (X := X) (B := w14.heap.size) (Nat.le_refl _) (HO14.out.out HEX14.out) (HU14.out.mono (by omega)) HX.out).mono ?_; rintro e w15 ⟨rfl, hb15⟩; have z15 := hb15.size; have HM15 : Hid (Cd.MkdAt W4.heap.size w15 v5 E) := HM14.out.below hb15; have hv15 : Below w.heap.size w w15 := hv14.trans (hb15.mono (by omega)); clear HM14 HU14 HO14))
        | (go_at_call 8; (refine (Cd.eqOut (X := X) (B := w9.heap.size) (Nat.le_refl _) (HO9.out.out HEX.out) (HU9.out.mono (by omega)) HX.out).mono ?_; rintro e w10 ⟨rfl, hb10⟩; have z10 := hb10.size; have HO10 : Hid (Cd.OwnAt W4.heap.size w10 v5 E) := HO9.out.below hb10; have HU10 : Hid (Cd.OutAt w3.heap.size w10 v0 X) := HU9.out.below (hb10.mono (by omega)); have d10 := Cd.row1n d9 (by omega) hb10; have hv10 : Below w.heap.size w w10 := hv9.trans (hb10.mono (by omega)); clear HO9 HU9 d9))
        | (go_at_call 10; (refine (HMC.out w8 p4 _ _ HMK8.out).mono ?_; rintro e w9 ⟨k9, rfl, hk9, ht9⟩; have z9 := ht9.size; have HO9 : Hid (Cd.OwnAt W4.heap.size w9 v5 E) := HO8.out.tch ht9 (fun k hk h => by have := h.2; omega); have HU9 : Hid (Cd.OutAt w3.heap.size w9 v0 X) := HU8.out.tch ht9 (by omega) (fun k hk h => by have := h.1; omega); have d9 := Cd.row1t d8 (by omega) ht9 (fun h => by have := h.1; omega); have hv9 : Below w.heap.size w w9 := hv8.trans (ht9.below (by omega) (fun k hk h => by have := h.1; omega)); clear HO8 HU8 d8 x8 HMK8 ht9))
        | (go_at_call 11; (refine (HMS.out w10 HO10.out).mono ?_; rintro e w11 ⟨rfl, hm11, ht11⟩; have z11 := ht11.size; have HM11 : Hid (Cd.MkdAt W4.heap.size w11 v5 E) := hm11; have HU11 : Hid (Cd.OutAt w3.heap.size w11 v0 X) := HU10.out.tch ht11 (by omega) (fun k hk h => by have h' : W4.heap.size ≤ k := h; omega); have d11 := Cd.row1t d10 (by omega) ht11 (fun h => by have h' : W4.heap.size ≤ w.heap.size := h; omega); have hv11 : Below w.heap.size w w11 := hv10.trans (ht11.below (by omega) (fun k hk h => by have h' : W4.heap.size ≤ k := h; omega)); clear HO10 HU10 d10 ht11 hm11))
        | (go_at_call 6; (refine (HT.out w12 hv12).mono ?_; rintro e w13 ⟨p13, rfl, hO13, hb13⟩; have z13 := hb13.size; have HCA13 : Hid (Cd.CodeAt w13.heap.size w13 (.slice p13 c.length c.length) c) := hO13.code; clear hO13; have HM13 : Hid (Cd.MkdAt W4.heap.size w13 v5 E) := HM12.out.below hb13; have HU13 : Hid (Cd.OutAt w3.heap.size w13 v0 X) := HU12.out.below (hb13.mono (by omega)); have hv13 : Below w.heap.size w w13 := hv12.trans (hb13.mono (by omega)); clear HM12 HU12 d12))
        | (go_at_call 7; (refine (HI.out w13 p13 hv13 HCA13.out).mono ?_; rintro e w14 ⟨v14, E14, rfl, hA14, hO14, hb14⟩; have z14 := hb14.size; have HEX14 : Hid (E14.map (·.sh) = X) := hA14.one HA3.out; have HO14 : Hid (Cd.OwnAt w13.heap.size w14 v14 E14) := hO14; clear hA14 hO14; have HM14 : Hid (Cd.MkdAt W4.heap.size w14 v5 E) := HM13.out.below hb14; have HU14 : Hid (Cd.OutAt w3.heap.size w14 v0 X) := HU13.out.below (hb14.mono (by omega)); have hv14 : Below w.heap.size w w14 := hv13.trans (hb14.mono (by omega)); clear HM13 HU13 HCA13)))
      go_ret
      exact ⟨rfl, hv16⟩
end Go.Proofs.YtihiimgbdmkjmaaGreatDoor
