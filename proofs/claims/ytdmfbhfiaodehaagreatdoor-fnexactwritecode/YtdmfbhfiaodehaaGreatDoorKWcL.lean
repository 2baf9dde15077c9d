import Derived.Test.YtdmfbhfiaodehaaGreatDoorKCgG
import Derived.Test.YtdmfbhfiaodehaaGreatDoorKCgB
import Derived.Test.YtdmfbhfiaodehaaGreatDoorKWcG
import Derived.Deep.RegionWith
namespace Go.Proofs.YtdmfbhfiaodehaaGreatDoor
open Go.RowKit

theorem Cd.row1 {w w1 : World} {a0 : Value} {t : TypeId} (hb : Below (w.heap.size + 1) (w.alloc (.cells #[a0] t)) w1) : w1.cell? ⟨w.heap.size, 0, none⟩ = some a0 := by
  have h1 := hb.block w.heap.size (by omega)
  rw [(MapKept.heap_alloc w _).1] at h1
  simp [World.cell?, h1]
theorem Cd.row1n {w1 w2 : World} {g : Nat} {a0 : Value} (h : w1.cell? ⟨g, 0, none⟩ = some a0) (hg : g < w1.heap.size) (hb : Below w1.heap.size w1 w2) : w2.cell? ⟨g, 0, none⟩ = some a0 := by
  rw [hb.cell (p := ⟨g, 0, none⟩) hg]; exact h
def Cd.ToPost (c : List Cd.Fn) (w : World) (e : Ending) (w' : World) : Prop := ∃ p, e = .returned (.agg #[.slice p c.length c.length]) ∧ Cd.CodeAt w'.heap.size w' (.slice p c.length c.length) c ∧ Below w.heap.size w w'
set_option maxRecDepth 100000 in
set_option maxHeartbeats 4000000 in
theorem Wc.lawWrite_any (c : List Cd.Fn) (a : Option Addr) (cap : Nat) (hn : c.length ≤ 9223372036854775807) (hx : ∀ f ∈ c, Cd.far f) (hN : ∀ k (hk : k < c.length) i (hi : i < c[k].ins.length), -9223372036854775808 ≤ c[k].ins[i].n ∧ c[k].ins[i].n ≤ 9223372036854775807) (w : World) (hO : Cd.FnsOff w (.slice a c.length cap) c) (hT : Cd.InsTab w) (hW : Cd.WordTab w) :
    Calls Tryz.prog 3 #[.agg #[.slice a c.length cap]] w fun e w' => e = .returned (.bool true) ∧ Below w.heap.size w w' := by
  have hal : ∀ o : Obj, Below w.heap.size w (w.alloc o) := fun o => Cd.b1 w o
  obtain ⟨q, HQ⟩ : ∃ q, Hid (Cd.zC c 1048576 = q) := ⟨_, (rfl : Cd.zC c 1048576 = _)⟩
  have HZ : Hid (∀ o, Calls Tryz.prog 4 #[.agg #[.slice a c.length cap], .int .i64 1048576] (w.alloc o) fun e w' => e = .returned (.int .i64 q) ∧ Below (w.heap.size + 1) (w.alloc o) w') := fun o => by
    have h := Cd.szCode_any c a cap 1048576 (by omega) (by omega) hn hx (w.alloc o) (hO.below (hal o))
    rw [HQ.out, World.size_alloc] at h
    exact h
  by_cases hq : q < 0
  · clear HQ hO hx hN
    go_enter Tryz.func3, Tryz.ntmps3
    go_wp2_with (first | (go_at_call 4; (refine (HZ.out _).mono ?_; rintro e w1 ⟨rfl, hb1⟩)))
    go_ret
    exact ⟨rfl, (hal _).trans (hb1.mono (by omega))⟩
  · obtain ⟨hn2, hx2⟩ := (Cd.zC_bd c 1048576 (by omega)).2.2 (by rw [HQ.out]; omega)
    have hn3 : c.length ≤ 1048576 := by omega
    have hx3 : ∀ k (hk : k < c.length), c[k].params.length ≤ 1048576 ∧ c[k].ins.length ≤ 1048576 ∧ c[k].name.size ≤ 1048576 := fun k hk => by
      obtain ⟨h1, h2, h3⟩ := hx2 c[k] (List.getElem_mem hk)
      exact ⟨by omega, by omega, by omega⟩
    have hx4 : ∀ k (hk : k < c.length), c[k].params.length ≤ 1048576 ∧ c[k].ins.length ≤ 1048576 := fun k hk => ⟨(hx3 k hk).1, (hx3 k hk).2.1⟩
    have HT : Hid (∀ U, Below w.heap.size w U → Calls Tryz.prog 6 #[.agg #[.slice a c.length cap]] U (Cd.ToPost c U)) := fun U hU => Cd.toCode_any c a cap hn3 hx4 U (hO.below hU)
    have HS : Hid (∀ U p, Cd.CodeAt U.heap.size U (.slice p c.length c.length) c → Calls Tryz.prog 5 #[.agg #[.slice p c.length c.length]] U (Wc.WrPost c U)) := fun U p h => Wc.specWrite_any c p c.length hn3 hx3 U h
    have HI : Hid (∀ U p, Below w.heap.size w U → Cd.CodeAt U.heap.size U (.slice p c.length c.length) c → Calls Tryz.prog 7 #[.agg #[.slice p c.length c.length]] U (Wc.WrPost c U)) := fun U p hU h => Wc.implWrite_any c p c.length hn3 (Nat.le_refl _) hx3 hN U h (hT.below hU) (hW.below hU)
    have HE : Hid (∀ (B : Nat) U p p', B ≤ U.heap.size → Cd.CodeAt B U (.slice p c.length c.length) c → Cd.CodeAt B U (.slice p' c.length c.length) c → Calls Tryz.prog 8 #[.agg #[.slice p c.length c.length], .agg #[.slice p' c.length c.length]] U fun e w' => e = .returned (.bool true) ∧ Below U.heap.size U w') := fun B U p p' hB h h' => Cd.eqCode_same c B p p' c.length c.length U hB h h' hn3 hx4
    clear HQ hO hx hN hx2 hn2 hx3 hx4 hT hW
    go_enter Tryz.func3, Tryz.ntmps3
    go_wp2_with (first
      | (go_at_call 4; (refine (HZ.out _).mono ?_; rintro e w1 ⟨rfl, hb1⟩; have hw1 : Below w.heap.size w w1 := (hal _).trans (hb1.mono (by omega)); have c0 := Cd.row1 hb1; have z1 := hb1.size; simp only [World.size_alloc] at z1))
      | (go_at_call 6; (refine (HT.out w1 hw1).mono ?_; rintro e w2 ⟨p2, rfl, hO2, hb2⟩; have HO2 : Hid (Cd.CodeAt w2.heap.size w2 (.slice p2 c.length c.length) c) := hO2; clear hO2; have z2 := hb2.size))
      | (go_at_call 5; (refine (HS.out w2 p2 HO2.out).mono ?_; rintro e w3 ⟨⟨r, rfl, hans⟩, hb3⟩; have HA3 : Hid (Cd.Answer c r) := hans; clear hans; obtain ⟨s0, HS0⟩ : ∃ s, Hid (Wc.out c r = s) := ⟨_, (rfl : Wc.out c r = _)⟩; rw [HS0.out]; have z3 := hb3.size; have hw3 : Below w1.heap.size w1 w3 := hb2.trans (hb3.mono z2); have hv3 : Below w.heap.size w w3 := hw1.trans (hw3.mono (by omega)); have d0 := Cd.row1n c0 (by omega) hw3; clear c0)))
    go_wp2_with (first
      | (go_at_call 6; (refine (HT.out w3 hv3).mono ?_; rintro e w4 ⟨p4, rfl, hO4, hb4⟩; have HO4 : Hid (Cd.CodeAt w4.heap.size w4 (.slice p4 c.length c.length) c) := hO4; clear hO4; have z4 := hb4.size))
      | (go_at_call 7; (refine (HI.out _ p4 (hv3.trans ((hb4.mono hv3.size).alloc (Nat.le_trans hv3.size z4) _)) (Cd.CodeAt.mono (HO4.out.below (Cd.b1 w4 _)) (Cd.b1 w4 _).size)).mono ?_; rintro e w5 ⟨⟨r5, rfl, hans⟩, hb5⟩; have hee := HA3.out.one hans; subst hee; rw [HS0.out]; clear hans; simp only [World.size_alloc] at hb5; have x0 := Cd.row1 hb5; have z5 := hb5.size; simp only [World.size_alloc] at z5; have hu5 : Below w4.heap.size w4 w5 := ((Below.refl _ w4).alloc (Nat.le_refl _) _).trans (hb5.mono (by omega)); have hw5 : Below w3.heap.size w3 w5 := hb4.trans (hu5.mono z4); have hv5 : Below w.heap.size w w5 := hv3.trans (hw5.mono (by have := hv3.size; omega)); have f0 := Cd.row1n d0 (by omega) hw5; clear d0)))
    have hv5z := hv5.size
    go_region_with (first
      | (go_at_call 6; (refine (HT.out _ (by first | exact hv5 | exact hv5.drew | exact hv5.drew.drew | exact hv5.drew.drew.drew)).mono ?_; rintro e w6 ⟨p6, rfl, hO6, hb6⟩; have HO6 : Hid (Cd.CodeAt w6.heap.size w6 (.slice p6 c.length c.length) c) := hO6; clear hO6; have z6 := hb6.size; have hw56 : Below w5.heap.size w5 w6 := ⟨hb6.os, hb6.tape, hb6.output, hb6.size, hb6.block⟩; have y0 := Cd.row1n x0 (by omega) hw56; have HO7 : Hid (Cd.CodeAt w6.heap.size w6 (.slice p4 c.length c.length) c) := Cd.CodeAt.mono (HO4.out.below (hu5.trans (hw56.mono hu5.size))) (Nat.le_trans hu5.size hw56.size)))
      | (go_at_call 8; (refine (HE.out w6.heap.size _ p4 p6 (by first | exact Nat.le_refl _ | (simp; done)) (by first | exact HO7.out | exact HO7.out.below (Below.refl _ _).drew | exact HO7.out.below (Below.refl _ _).drew.drew) (by first | exact HO6.out | exact HO6.out.below (Below.refl _ _).drew | exact HO6.out.below (Below.refl _ _).drew.drew)).mono ?_; rintro e w7 ⟨rfl, hb7⟩)))
    all_goals
      have z56 : w5.heap.size ≤ w6.heap.size := hw56.size
      have hw67 : Below w6.heap.size w6 w7 := ⟨hb7.os, hb7.tape, hb7.output, hb7.size, hb7.block⟩
      have hw7 : Below w.heap.size w w7 := (hv5.trans (hw56.mono (by omega))).trans (hw67.mono (by omega))
      clear hb7 hb6 hb5 hb4 hb3 hb2 hb1 x0 y0 f0
      go_wp2
      go_ret
      exact ⟨rfl, hw7⟩
end Go.Proofs.YtdmfbhfiaodehaaGreatDoor
