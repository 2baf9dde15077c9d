import Derived.Test.YtiomecoceandoaaDoorVTreeLA
import Derived.Test.YtiomecoceandoaaDoorVTreeZI
namespace Go.Proofs.YtiomecoceandoaaDoor
open Go.RowKit

theorem Mill.szL_ok : ∀ (ns : List Mill.Nd) (l : Int), 0 ≤ Mill.szL ns l → l ≤ 1048576 → ∀ d ∈ ns, d.text.size ≤ 1048576
  | [], _, _, _, d, hd => by cases hd
  | e :: r, l, h, hl, d, hd => by
    rw [Mill.szL] at h
    split at h
    · omega
    · rename_i hn
      rcases List.mem_cons.1 hd with rfl | hd
      · omega
      · exact Mill.szL_ok r _ h (by omega) d hd
theorem Mill.szT_ok (ns : List Mill.Nd) (h : 0 ≤ Mill.szT ns 1048576) : ns.length ≤ 1048576 ∧ ∀ d ∈ ns, d.text.size ≤ 1048576 := by
  unfold Mill.szT at h
  split at h
  · omega
  · exact ⟨by omega, Mill.szL_ok ns _ h (by omega)⟩
theorem toTree_D (ns : List Mill.Nd) (v : Value) (w0 w : World) (hN : Hid (Mill.NodesOff w0 v ns)) (hb0 : Below w0.heap.size w0 w) (hl : ns.length ≤ 1048576) :
    Calls Tryd.prog 6 #[.agg #[v]] w fun e w' => ∃ a c, e = .returned (.agg #[.slice a ns.length c]) ∧ Hid (w'.ownsRow w.heap.size 39 6 (.slice a ns.length c) ns.length (Mill.ndCs ns)) ∧ Below w.heap.size w w' := by
  refine (toTree_any ns v w (Mill.nodesOff_below hN.out hb0) hl).mono ?_
  rintro e w' ⟨v', rfl, own, hb⟩
  obtain ⟨a, c, rfl⟩ := Mill.rowLen own
  exact ⟨a, c, rfl, own, hb⟩
theorem Mill.ownsNodes {w w' : World} {B : Nat} {v : Value} {ns : List Mill.Nd} (h : Hid (w.ownsRow B 39 6 v ns.length (Mill.ndCs ns))) (hb : Below w.heap.size w w') : Mill.NodesAt w' v ns := Mill.nodesAt_below (Mill.nodesAt_own h.out) hb

set_option maxRecDepth 100000 in
set_option maxHeartbeats 2000000 in
theorem vlaw_any (ns : List Mill.Nd) (a : Option Addr) (cap : Nat) (w : World) (hN : Mill.NodesOff w (.slice a ns.length cap) ns) (hn : ns.length ≤ 9223372036854775807) (hx : ∀ d ∈ ns, d.text.size ≤ 9223372036854775807) (hG : Mill.Greats w) (hW : Mill.Builts w) :
    Calls Tryd.prog 3 #[.agg #[.slice a ns.length cap]] w fun e w' => e = .returned (.bool true) ∧ Below w.heap.size w w' := by
  have HN : Hid (Mill.NodesOff w (.slice a ns.length cap) ns) := hN
  have HX : Hid (∀ d ∈ ns, d.text.size ≤ 9223372036854775807) := hx
  clear hN hx
  obtain ⟨q, HQ⟩ : ∃ q, Hid (Mill.szT ns 1048576 = q) := ⟨_, (rfl : Mill.szT ns 1048576 = _)⟩
  have hqb := Mill.szT_bd ns 1048576 (by omega)
  rw [HQ.out] at hqb
  by_cases hq : q < 0
  · go_enter Tryd.func3, Tryd.ntmps3
    go_wp2_with (go_at_call 4; (refine (szTree_any ns _ 1048576 (by omega) (by omega) hn HX.out _ (Mill.nodesOff_below HN.out (by first | exact Below.refl _ _ | exact (Below.refl _ w).alloc (Nat.le_refl _) _ | exact ((Below.refl _ w).alloc (Nat.le_refl _) _).alloc (by simp) _))).mono ?_; rintro e w1 ⟨rfl, hb1⟩; rw [HQ.out]; simp only [World.size_alloc] at hb1))
    go_ret
    exact ⟨rfl, ((Below.refl _ w).alloc (Nat.le_refl _) _).trans (hb1.mono (by omega))⟩
  · have hok := Mill.szT_ok ns (by rw [HQ.out]; omega)
    obtain ⟨hl, hs⟩ := hok
    have HS : Hid (∀ d ∈ ns, d.text.size ≤ 1048576) := hs
    have HV : Hid (Mill.valid ns = Mill.rootOk ns) := Mill.valid_root ns
    clear hs
    have hc0 : ∀ o : Obj, Below w.heap.size w (w.alloc o) := fun o => (Below.refl _ w).alloc (Nat.le_refl _) o
    go_enter Tryd.func3, Tryd.ntmps3
    go_wp2_with (first
      | (go_at_call 4; (refine (szTree_any ns _ 1048576 (by omega) (by omega) hn HX.out _ (Mill.nodesOff_below HN.out (hc0 _))).mono ?_; rintro e w1 ⟨rfl, hb1⟩; rw [HQ.out]; simp only [World.size_alloc] at hb1; have hw1 : Below w.heap.size w w1 := (hc0 _).trans (hb1.mono (by omega)); have c1 : w1.cell? ⟨w.heap.size, 0, none⟩ = some (.slice a ns.length cap) := (by rw [hb1.cell (p := ⟨w.heap.size, 0, none⟩) (by simp)]; simp [go_sem]); have z1 := hb1.size; simp only [World.size_alloc] at z1))
      | (go_at_call 6; (refine (toTree_D ns _ w w1 HN hw1 hl).mono ?_; rintro e w2 ⟨a2, k2, rfl, own2, hb2⟩; have z2 := hb2.size))
      | (go_at_call 5; (refine (specValidTree_any ns _ w2 (Mill.ownsNodes own2 (Below.refl _ _))).mono ?_; rintro e w3 ⟨rfl, hb3⟩; rw [HV.out]; have z3 := hb3.size; have hw13 : Below w1.heap.size w1 w3 := hb2.trans (hb3.mono z2); have hw3 : Below w.heap.size w w3 := hw1.trans (hw13.mono (by omega)); have c3 : w3.cell? ⟨w.heap.size, 0, none⟩ = some (.slice a ns.length cap) := (by rw [hw13.cell (p := ⟨w.heap.size, 0, none⟩) (by simp only; omega)]; exact c1))))
    go_wp2_with (first
      | (go_at_call 6; (refine (toTree_D ns _ w w3 HN hw3 hl).mono ?_; rintro e w4 ⟨a4, k4, rfl, own4, hb4⟩; have z4 := hb4.size; have hw4 : Below w.heap.size w w4 := hw3.trans (hb4.mono (by omega)); have c4 : w4.cell? ⟨w.heap.size, 0, none⟩ = some (.slice a ns.length cap) := (by rw [hb4.cell (p := ⟨w.heap.size, 0, none⟩) (by simp only; omega)]; exact c3)))
      | (go_at_call 7; (refine (implValid_any ns _ _ (Mill.ownsNodes own4 ((Below.refl _ w4).alloc (Nat.le_refl _) _)) HS.out (hG.below (hw4.alloc (by omega) _)) (hW.below (hw4.alloc (by omega) _))).mono ?_; rintro e w5 ⟨rfl, hb5⟩; simp only [World.size_alloc] at hb5; have z5 := hb5.size; simp only [World.size_alloc] at z5; have hw45 : Below w4.heap.size w4 w5 := ((Below.refl _ w4).alloc (Nat.le_refl _) _).trans (hb5.mono (by omega)); have hw5 : Below w.heap.size w w5 := hw4.trans (hw45.mono (by omega)); have c5 : w5.cell? ⟨w.heap.size, 0, none⟩ = some (.slice a ns.length cap) := (by rw [hw45.cell (p := ⟨w.heap.size, 0, none⟩) (by simp only; omega)]; exact c4); have d5 : w5.cell? ⟨w4.heap.size, 0, none⟩ = some (.slice a4 ns.length k4) := (by rw [hb5.cell (p := ⟨w4.heap.size, 0, none⟩) (by simp)]; simp [go_sem]))))
    go_region_with (first
      | (go_at_call 6; (refine (toTree_D ns _ w _ HN (by first | exact hw5 | exact hw5.drew | exact hw5.drew.drew | exact hw5.drew.drew.drew) hl).mono ?_; rintro e w6 ⟨a6, k6, rfl, own6, hb6⟩; have z6 := hb6.size; have hw56 : Below w5.heap.size w5 w6 := ⟨hb6.os, hb6.tape, hb6.output, hb6.size, hb6.block⟩; have d6 : w6.cell? ⟨w4.heap.size, 0, none⟩ = some (.slice a4 ns.length k4) := (by rw [hw56.cell (p := ⟨w4.heap.size, 0, none⟩) (by simp only; omega)]; exact d5)))
      | (go_at_call 8; (refine (eqTree_same ns _ _ _ (Mill.ownsNodes own4 (hw45.trans (hw56.mono (by omega)))) (Mill.ownsNodes own6 (Below.refl _ _)) hl).mono ?_; rintro e w7 ⟨rfl, hb7⟩)))
    all_goals
      have z56 : w5.heap.size ≤ w6.heap.size := hw56.size
      have hw67 : Below w6.heap.size w6 w7 := ⟨hb7.os, hb7.tape, hb7.output, hb7.size, hb7.block⟩
      have hw7 : Below w.heap.size w w7 := (hw5.trans (hw56.mono (by omega))).trans (hw67.mono (by omega))
      clear hb7 hb6 hb5 hb4 hb3 hb2 hb1 c1 c3 c4 c5 d5
      go_wp2
      go_ret
      exact ⟨rfl, hw7⟩
end Go.Proofs.YtiomecoceandoaaDoor
