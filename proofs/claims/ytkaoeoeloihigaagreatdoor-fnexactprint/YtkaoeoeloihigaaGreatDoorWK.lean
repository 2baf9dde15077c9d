import Derived.Test.YtkaoeoeloihigaaGreatDoorWJ
import Derived.Deep.RegionHeld3
import Derived.Lib.Repeat
namespace Go.Proofs.YtkaoeoeloihigaaGreatDoor
open Go.RowKit

theorem Prj.put2_at (g : Nat) (l : List UInt8) (hl : l.length ≤ 20000000) (x y : ByteArray) (hx : x.size ≤ 15000000) (hy : y.size ≤ 15000000) (w : World) (b : Nat) (hb : w.heap.size = b) (hA : Prj.At g l w) :
    Calls Tryz.prog 31 #[.pointer (some ⟨g, 0, none⟩), .slice (some ⟨b, 0, none⟩) 2 2] (w.alloc (.cells #[.string x, .string y] 9)) fun e w' => ∃ l', e = .returned (.tuple #[]) ∧ Prj.At g l' w' ∧ Prj.Adds l (x.data.toList ++ y.data.toList) l' ∧ Prj.Fr g w w' := by
  subst hb; exact Prj.put2_any g l hl x y hx hy w hA
theorem Prj.put3_at (g : Nat) (l : List UInt8) (hl : l.length ≤ 20000000) (x y z : ByteArray) (hx : x.size ≤ 15000000) (hy : y.size ≤ 15000000) (hz : z.size ≤ 15000000) (w : World) (b : Nat) (hb : w.heap.size = b) (hA : Prj.At g l w) :
    Calls Tryz.prog 31 #[.pointer (some ⟨g, 0, none⟩), .slice (some ⟨b, 0, none⟩) 3 3] (w.alloc (.cells #[.string x, .string y, .string z] 9)) fun e w' => ∃ l', e = .returned (.tuple #[]) ∧ Prj.At g l' w' ∧ Prj.Adds l (x.data.toList ++ y.data.toList ++ z.data.toList) l' ∧ Prj.Fr g w w' := by
  subst hb; exact Prj.put3_any g l hl x y z hx hy hz w hA
set_option maxRecDepth 100000 in
set_option maxHeartbeats 2000000 in
theorem Prj.short_letNode (g : Nat) (l : List UInt8) (hl : l.length ≤ 20000000) (w : World) (nm : ByteArray) (hnm : nm.size ≤ 15000000) (kt : TypeId) (ky : Value) (T : List UInt8) (HV : Hid (Prj.ValIs g w (.iface kt ky) T)) (HA : Hid (Prj.At g l w)) :
    Calls Tryz.prog 75 #[.pointer (some ⟨g, 0, none⟩), .iface 143 (.agg #[.string nm, .iface kt ky])] w fun e w' => ∃ l', e = .returned (.tuple #[]) ∧ Prj.At g l' w' ∧ Prj.Adds l (([108, 101, 116, 32] : List UInt8) ++ nm.data.toList ++ ([32, 61, 32] : List UInt8) ++ T) l' ∧ Prj.Fr g w w' := by
  have hgw := HA.out.lt
  have hA0 := HA.out
  have ta0 : ∀ ww : World, _ := Tryz.ta_letNode 143 (.agg #[.string nm, .iface kt ky])
  simp only [if_true] at ta0
  obtain ⟨V, HVV⟩ : ∃ V, Hid (([108, 101, 116, 32] : List UInt8) ++ nm.data.toList ++ ([32, 61, 32] : List UInt8) ++ T = V) := ⟨([108, 101, 116, 32] : List UInt8) ++ nm.data.toList ++ ([32, 61, 32] : List UInt8) ++ T, (rfl : ([108, 101, 116, 32] : List UInt8) ++ nm.data.toList ++ ([32, 61, 32] : List UInt8) ++ T = _)⟩
  rw [HVV.out]
  go_enter Tryz.func75, Tryz.ntmps75
  go_wp2_with (first
    | (go_at_call 31; refine (Prj.put3_at g l hl ⟨#[108, 101, 116, 32]⟩ nm ⟨#[32, 61, 32]⟩ (by decide) hnm (by decide) (w.alloc _) (w.heap.size + 1) (by simp) (HA.out.alloc _)).mono ?_; rintro e w2 ⟨l2, rfl, hA2, hD2, hF2⟩
       have hk2 := hF2.keep (Val.new_at w _) (by omega) (by decide)
       have c1 : w2.cell? ⟨w.heap.size, 1, none⟩ = some (.iface kt ky) := (by rw [Lib.cell_of_heap hk2]; rfl)
       have hG2 := (Prj.Fr.alloc1 (Prj.Fr.refl g w) hgw _).trans hF2)
    | (go_at_call 74; refine (HV.out _ l2 hG2.1 hD2.2.2.2 hA2).mono ?_; rintro e w3 ⟨l3, rfl, hA3, hD3, hF3⟩))
  go_end0
  exact ⟨l3, rfl, hA3, (hD2.trans hD3).eq HVV.out, hG2.trans hF3⟩
set_option maxRecDepth 100000 in
set_option maxHeartbeats 2000000 in
theorem Prj.short_setNode (g : Nat) (l : List UInt8) (hl : l.length ≤ 20000000) (w : World) (nm : ByteArray) (hnm : nm.size ≤ 15000000) (kt : TypeId) (ky : Value) (T : List UInt8) (HV : Hid (Prj.ValIs g w (.iface kt ky) T)) (HA : Hid (Prj.At g l w)) :
    Calls Tryz.prog 75 #[.pointer (some ⟨g, 0, none⟩), .iface 144 (.agg #[.string nm, .iface kt ky])] w fun e w' => ∃ l', e = .returned (.tuple #[]) ∧ Prj.At g l' w' ∧ Prj.Adds l (nm.data.toList ++ ([32, 61, 32] : List UInt8) ++ T) l' ∧ Prj.Fr g w w' := by
  have hgw := HA.out.lt
  have hA0 := HA.out
  have ta0 : ∀ ww : World, _ := Tryz.ta_letNode 144 (.agg #[.string nm, .iface kt ky])
  simp only [if_neg (show ¬ (144 = 143) by decide)] at ta0
  have ta1 : ∀ ww : World, _ := Tryz.ta_setNode 144 (.agg #[.string nm, .iface kt ky])
  simp only [if_true] at ta1
  obtain ⟨V, HVV⟩ : ∃ V, Hid (nm.data.toList ++ ([32, 61, 32] : List UInt8) ++ T = V) := ⟨nm.data.toList ++ ([32, 61, 32] : List UInt8) ++ T, (rfl : nm.data.toList ++ ([32, 61, 32] : List UInt8) ++ T = _)⟩
  rw [HVV.out]
  go_enter Tryz.func75, Tryz.ntmps75
  go_wp2_with (first
    | (go_at_call 31; refine (Prj.put2_at g l hl nm ⟨#[32, 61, 32]⟩ hnm (by decide) (w.alloc _) (w.heap.size + 1) (by simp) (HA.out.alloc _)).mono ?_; rintro e w2 ⟨l2, rfl, hA2, hD2, hF2⟩
       have hk2 := hF2.keep (Val.new_at w _) (by omega) (by decide)
       have c1 : w2.cell? ⟨w.heap.size, 1, none⟩ = some (.iface kt ky) := (by rw [Lib.cell_of_heap hk2]; rfl)
       have hG2 := (Prj.Fr.alloc1 (Prj.Fr.refl g w) hgw _).trans hF2)
    | (go_at_call 74; refine (HV.out _ l2 hG2.1 hD2.2.2.2 hA2).mono ?_; rintro e w3 ⟨l3, rfl, hA3, hD3, hF3⟩))
  go_end0
  exact ⟨l3, rfl, hA3, (hD2.trans hD3).eq HVV.out, hG2.trans hF3⟩
set_option maxRecDepth 100000 in
set_option maxHeartbeats 2000000 in
theorem Prj.short_breakNode (g : Nat) (l : List UInt8) (hl : l.length ≤ 20000000) (w : World) (HA : Hid (Prj.At g l w)) :
    Calls Tryz.prog 75 #[.pointer (some ⟨g, 0, none⟩), .iface 146 (.agg #[])] w fun e w' => ∃ l', e = .returned (.tuple #[]) ∧ Prj.At g l' w' ∧ Prj.Adds l (([98, 114, 101, 97, 107] : List UInt8)) l' ∧ Prj.Fr g w w' := by
  have hgw := HA.out.lt
  have hA0 := HA.out
  have ta0 : ∀ ww : World, _ := Tryz.ta_letNode 146 (.agg #[])
  simp only [if_neg (show ¬ (146 = 143) by decide)] at ta0
  have ta1 : ∀ ww : World, _ := Tryz.ta_setNode 146 (.agg #[])
  simp only [if_neg (show ¬ (146 = 144) by decide)] at ta1
  have ta2 : ∀ ww : World, _ := Tryz.ta_breakNode 146 (.agg #[])
  simp only [if_true] at ta2
  obtain ⟨V, HVV⟩ : ∃ V, Hid (([98, 114, 101, 97, 107] : List UInt8) = V) := ⟨([98, 114, 101, 97, 107] : List UInt8), (rfl : ([98, 114, 101, 97, 107] : List UInt8) = _)⟩
  rw [HVV.out]
  go_enter Tryz.func75, Tryz.ntmps75
  go_wp2_with (go_at_call 31; refine (Prj.put1_at g l hl ⟨#[98, 114, 101, 97, 107]⟩ (by decide) (w.alloc _) (w.heap.size + 1) (by simp) (HA.out.alloc _)).mono ?_; rintro e w2 ⟨l2, rfl, hA2, hD2, hF2⟩)
  go_end0
  exact ⟨l2, rfl, hA2, hD2.eq HVV.out, (Prj.Fr.alloc1 (Prj.Fr.refl g w) hgw _).trans hF2⟩
set_option maxRecDepth 100000 in
set_option maxHeartbeats 2000000 in
theorem Prj.short_continueNode (g : Nat) (l : List UInt8) (hl : l.length ≤ 20000000) (w : World) (HA : Hid (Prj.At g l w)) :
    Calls Tryz.prog 75 #[.pointer (some ⟨g, 0, none⟩), .iface 147 (.agg #[])] w fun e w' => ∃ l', e = .returned (.tuple #[]) ∧ Prj.At g l' w' ∧ Prj.Adds l (([99, 111, 110, 116, 105, 110, 117, 101] : List UInt8)) l' ∧ Prj.Fr g w w' := by
  have hgw := HA.out.lt
  have hA0 := HA.out
  have ta0 : ∀ ww : World, _ := Tryz.ta_letNode 147 (.agg #[])
  simp only [if_neg (show ¬ (147 = 143) by decide)] at ta0
  have ta1 : ∀ ww : World, _ := Tryz.ta_setNode 147 (.agg #[])
  simp only [if_neg (show ¬ (147 = 144) by decide)] at ta1
  have ta2 : ∀ ww : World, _ := Tryz.ta_breakNode 147 (.agg #[])
  simp only [if_neg (show ¬ (147 = 146) by decide)] at ta2
  have ta3 : ∀ ww : World, _ := Tryz.ta_continueNode 147 (.agg #[])
  simp only [if_true] at ta3
  obtain ⟨V, HVV⟩ : ∃ V, Hid (([99, 111, 110, 116, 105, 110, 117, 101] : List UInt8) = V) := ⟨([99, 111, 110, 116, 105, 110, 117, 101] : List UInt8), (rfl : ([99, 111, 110, 116, 105, 110, 117, 101] : List UInt8) = _)⟩
  rw [HVV.out]
  go_enter Tryz.func75, Tryz.ntmps75
  go_wp2_with (go_at_call 31; refine (Prj.put1_at g l hl ⟨#[99, 111, 110, 116, 105, 110, 117, 101]⟩ (by decide) (w.alloc _) (w.heap.size + 1) (by simp) (HA.out.alloc _)).mono ?_; rintro e w2 ⟨l2, rfl, hA2, hD2, hF2⟩)
  go_end0
  exact ⟨l2, rfl, hA2, hD2.eq HVV.out, (Prj.Fr.alloc1 (Prj.Fr.refl g w) hgw _).trans hF2⟩
set_option maxRecDepth 100000 in
set_option maxHeartbeats 2000000 in
theorem Prj.short_returnNode0 (g : Nat) (l : List UInt8) (hl : l.length ≤ 20000000) (w : World) (HA : Hid (Prj.At g l w)) :
    Calls Tryz.prog 75 #[.pointer (some ⟨g, 0, none⟩), .iface 149 (.agg #[.nilIface])] w fun e w' => ∃ l', e = .returned (.tuple #[]) ∧ Prj.At g l' w' ∧ Prj.Adds l (([114, 101, 116, 117, 114, 110] : List UInt8)) l' ∧ Prj.Fr g w w' := by
  have hgw := HA.out.lt
  have hA0 := HA.out
  have ta0 : ∀ ww : World, _ := Tryz.ta_letNode 149 (.agg #[.nilIface])
  simp only [if_neg (show ¬ (149 = 143) by decide)] at ta0
  have ta1 : ∀ ww : World, _ := Tryz.ta_setNode 149 (.agg #[.nilIface])
  simp only [if_neg (show ¬ (149 = 144) by decide)] at ta1
  have ta2 : ∀ ww : World, _ := Tryz.ta_breakNode 149 (.agg #[.nilIface])
  simp only [if_neg (show ¬ (149 = 146) by decide)] at ta2
  have ta3 : ∀ ww : World, _ := Tryz.ta_continueNode 149 (.agg #[.nilIface])
  simp only [if_neg (show ¬ (149 = 147) by decide)] at ta3
  have ta4 : ∀ ww : World, _ := Tryz.ta_returnNode 149 (.agg #[.nilIface])
  simp only [if_true] at ta4
  obtain ⟨V, HVV⟩ : ∃ V, Hid (([114, 101, 116, 117, 114, 110] : List UInt8) = V) := ⟨([114, 101, 116, 117, 114, 110] : List UInt8), (rfl : ([114, 101, 116, 117, 114, 110] : List UInt8) = _)⟩
  rw [HVV.out]
  go_enter Tryz.func75, Tryz.ntmps75
  go_wp2_with (first
    | (go_at_call 31; refine (Prj.put1_at g l hl ⟨#[114, 101, 116, 117, 114, 110]⟩ (by decide) (w.alloc _) (w.heap.size + 1) (by simp) (HA.out.alloc _)).mono ?_; rintro e w2 ⟨l2, rfl, hA2, hD2, hF2⟩
       have hk2 := hF2.keep (Val.new_at w _) (by omega) (by decide)
       have c1 : w2.cell? ⟨w.heap.size, 0, none⟩ = some .nilIface := (by rw [Lib.cell_of_heap hk2]; rfl)))
  go_end0
  exact ⟨l2, rfl, hA2, hD2.eq HVV.out, (Prj.Fr.alloc1 (Prj.Fr.refl g w) hgw _).trans hF2⟩
set_option maxRecDepth 100000 in
set_option maxHeartbeats 2000000 in
theorem Prj.short_returnNode1 (g : Nat) (l : List UInt8) (hl : l.length ≤ 20000000) (w : World) (kt : TypeId) (ky : Value) (T : List UInt8) (HV : Hid (Prj.ValIs g w (.iface kt ky) T)) (HA : Hid (Prj.At g l w)) :
    Calls Tryz.prog 75 #[.pointer (some ⟨g, 0, none⟩), .iface 149 (.agg #[.iface kt ky])] w fun e w' => ∃ l', e = .returned (.tuple #[]) ∧ Prj.At g l' w' ∧ Prj.Adds l (([114, 101, 116, 117, 114, 110] : List UInt8) ++ ([32] : List UInt8) ++ T) l' ∧ Prj.Fr g w w' := by
  have hgw := HA.out.lt
  have hA0 := HA.out
  have ta0 : ∀ ww : World, _ := Tryz.ta_letNode 149 (.agg #[.iface kt ky])
  simp only [if_neg (show ¬ (149 = 143) by decide)] at ta0
  have ta1 : ∀ ww : World, _ := Tryz.ta_setNode 149 (.agg #[.iface kt ky])
  simp only [if_neg (show ¬ (149 = 144) by decide)] at ta1
  have ta2 : ∀ ww : World, _ := Tryz.ta_breakNode 149 (.agg #[.iface kt ky])
  simp only [if_neg (show ¬ (149 = 146) by decide)] at ta2
  have ta3 : ∀ ww : World, _ := Tryz.ta_continueNode 149 (.agg #[.iface kt ky])
  simp only [if_neg (show ¬ (149 = 147) by decide)] at ta3
  have ta4 : ∀ ww : World, _ := Tryz.ta_returnNode 149 (.agg #[.iface kt ky])
  simp only [if_true] at ta4
  obtain ⟨V, HVV⟩ : ∃ V, Hid (([114, 101, 116, 117, 114, 110] : List UInt8) ++ ([32] : List UInt8) ++ T = V) := ⟨([114, 101, 116, 117, 114, 110] : List UInt8) ++ ([32] : List UInt8) ++ T, (rfl : ([114, 101, 116, 117, 114, 110] : List UInt8) ++ ([32] : List UInt8) ++ T = _)⟩
  rw [HVV.out]
  go_enter Tryz.func75, Tryz.ntmps75
  go_wp2_with (first
    | (go_at_call 31; with_reducible refine (Prj.put1_at g l hl ⟨#[114, 101, 116, 117, 114, 110]⟩ (by decide) (w.alloc _) (w.heap.size + 1) (by simp) (HA.out.alloc _)).mono ?_; rintro e w2 ⟨l2, rfl, hA2, hD2, hF2⟩
       have hk2 := hF2.keep (Val.new_at w _) (by omega) (by decide)
       have c1 : w2.cell? ⟨w.heap.size, 0, none⟩ = some (.iface kt ky) := (by rw [Lib.cell_of_heap hk2]; rfl)
       have hG2 := (Prj.Fr.alloc1 (Prj.Fr.refl g w) hgw _).trans hF2)
    | (go_at_call 31; refine (Prj.put1_any g l2 hD2.2.2.2 ⟨#[32]⟩ (by decide) w2 hA2).mono ?_; rintro e w3 ⟨l3, rfl, hA3, hD3, hF3⟩
       have hk3 := hF3.keep hk2 (by omega) (by decide)
       have c2 : w3.cell? ⟨w.heap.size, 0, none⟩ = some (.iface kt ky) := (by rw [Lib.cell_of_heap hk3]; rfl)
       have hG3 := hG2.trans hF3)
    | (go_at_call 74; refine (HV.out _ l3 hG3.1 hD3.2.2.2 hA3).mono ?_; rintro e w4 ⟨l4, rfl, hA4, hD4, hF4⟩))
  go_end0
  exact ⟨l4, rfl, hA4, ((hD2.trans hD3).trans hD4).eq HVV.out, hG3.trans hF4⟩
set_option maxRecDepth 100000 in
set_option maxHeartbeats 2000000 in
theorem Prj.short_failNode (g : Nat) (l : List UInt8) (hl : l.length ≤ 20000000) (w : World) (kt : TypeId) (ky : Value) (T : List UInt8) (HV : Hid (Prj.ValIs g w (.iface kt ky) T)) (HA : Hid (Prj.At g l w)) :
    Calls Tryz.prog 75 #[.pointer (some ⟨g, 0, none⟩), .iface 151 (.agg #[.iface kt ky])] w fun e w' => ∃ l', e = .returned (.tuple #[]) ∧ Prj.At g l' w' ∧ Prj.Adds l (([102, 97, 105, 108, 32] : List UInt8) ++ T) l' ∧ Prj.Fr g w w' := by
  have hgw := HA.out.lt
  have hA0 := HA.out
  have ta0 : ∀ ww : World, _ := Tryz.ta_letNode 151 (.agg #[.iface kt ky])
  simp only [if_neg (show ¬ (151 = 143) by decide)] at ta0
  have ta1 : ∀ ww : World, _ := Tryz.ta_setNode 151 (.agg #[.iface kt ky])
  simp only [if_neg (show ¬ (151 = 144) by decide)] at ta1
  have ta2 : ∀ ww : World, _ := Tryz.ta_breakNode 151 (.agg #[.iface kt ky])
  simp only [if_neg (show ¬ (151 = 146) by decide)] at ta2
  have ta3 : ∀ ww : World, _ := Tryz.ta_continueNode 151 (.agg #[.iface kt ky])
  simp only [if_neg (show ¬ (151 = 147) by decide)] at ta3
  have ta4 : ∀ ww : World, _ := Tryz.ta_returnNode 151 (.agg #[.iface kt ky])
  simp only [if_neg (show ¬ (151 = 149) by decide)] at ta4
  have ta5 : ∀ ww : World, _ := Tryz.ta_failNode 151 (.agg #[.iface kt ky])
  simp only [if_true] at ta5
  obtain ⟨V, HVV⟩ : ∃ V, Hid (([102, 97, 105, 108, 32] : List UInt8) ++ T = V) := ⟨([102, 97, 105, 108, 32] : List UInt8) ++ T, (rfl : ([102, 97, 105, 108, 32] : List UInt8) ++ T = _)⟩
  rw [HVV.out]
  go_enter Tryz.func75, Tryz.ntmps75
  go_wp2_with (first
    | (go_at_call 31; refine (Prj.put1_at g l hl ⟨#[102, 97, 105, 108, 32]⟩ (by decide) (w.alloc _) (w.heap.size + 1) (by simp) (HA.out.alloc _)).mono ?_; rintro e w2 ⟨l2, rfl, hA2, hD2, hF2⟩
       have hk2 := hF2.keep (Val.new_at w _) (by omega) (by decide)
       have c1 : w2.cell? ⟨w.heap.size, 0, none⟩ = some (.iface kt ky) := (by rw [Lib.cell_of_heap hk2]; rfl)
       have hG2 := (Prj.Fr.alloc1 (Prj.Fr.refl g w) hgw _).trans hF2)
    | (go_at_call 74; refine (HV.out _ l2 hG2.1 hD2.2.2.2 hA2).mono ?_; rintro e w3 ⟨l3, rfl, hA3, hD3, hF3⟩))
  go_end0
  exact ⟨l3, rfl, hA3, (hD2.trans hD3).eq HVV.out, hG2.trans hF3⟩
set_option maxRecDepth 100000 in
set_option maxHeartbeats 2000000 in
theorem Prj.short_sayNode (g : Nat) (l : List UInt8) (hl : l.length ≤ 20000000) (w : World) (kt : TypeId) (ky : Value) (T : List UInt8) (HV : Hid (Prj.ValIs g w (.iface kt ky) T)) (HA : Hid (Prj.At g l w)) :
    Calls Tryz.prog 75 #[.pointer (some ⟨g, 0, none⟩), .iface 154 (.agg #[.iface kt ky])] w fun e w' => ∃ l', e = .returned (.tuple #[]) ∧ Prj.At g l' w' ∧ Prj.Adds l (([115, 97, 121, 32] : List UInt8) ++ T) l' ∧ Prj.Fr g w w' := by
  have hgw := HA.out.lt
  have hA0 := HA.out
  have ta0 : ∀ ww : World, _ := Tryz.ta_letNode 154 (.agg #[.iface kt ky])
  simp only [if_neg (show ¬ (154 = 143) by decide)] at ta0
  have ta1 : ∀ ww : World, _ := Tryz.ta_setNode 154 (.agg #[.iface kt ky])
  simp only [if_neg (show ¬ (154 = 144) by decide)] at ta1
  have ta2 : ∀ ww : World, _ := Tryz.ta_breakNode 154 (.agg #[.iface kt ky])
  simp only [if_neg (show ¬ (154 = 146) by decide)] at ta2
  have ta3 : ∀ ww : World, _ := Tryz.ta_continueNode 154 (.agg #[.iface kt ky])
  simp only [if_neg (show ¬ (154 = 147) by decide)] at ta3
  have ta4 : ∀ ww : World, _ := Tryz.ta_returnNode 154 (.agg #[.iface kt ky])
  simp only [if_neg (show ¬ (154 = 149) by decide)] at ta4
  have ta5 : ∀ ww : World, _ := Tryz.ta_failNode 154 (.agg #[.iface kt ky])
  simp only [if_neg (show ¬ (154 = 151) by decide)] at ta5
  have ta6 : ∀ ww : World, _ := Tryz.ta_writeNode 154 (.agg #[.iface kt ky])
  simp only [if_neg (show ¬ (154 = 153) by decide)] at ta6
  have ta7 : ∀ ww : World, _ := Tryz.ta_sayNode 154 (.agg #[.iface kt ky])
  simp only [if_true] at ta7
  obtain ⟨V, HVV⟩ : ∃ V, Hid (([115, 97, 121, 32] : List UInt8) ++ T = V) := ⟨([115, 97, 121, 32] : List UInt8) ++ T, (rfl : ([115, 97, 121, 32] : List UInt8) ++ T = _)⟩
  rw [HVV.out]
  go_enter Tryz.func75, Tryz.ntmps75
  go_wp2_with (first
    | (go_at_call 31; refine (Prj.put1_at g l hl ⟨#[115, 97, 121, 32]⟩ (by decide) (w.alloc _) (w.heap.size + 1) (by simp) (HA.out.alloc _)).mono ?_; rintro e w2 ⟨l2, rfl, hA2, hD2, hF2⟩
       have hk2 := hF2.keep (Val.new_at w _) (by omega) (by decide)
       have c1 : w2.cell? ⟨w.heap.size, 0, none⟩ = some (.iface kt ky) := (by rw [Lib.cell_of_heap hk2]; rfl)
       have hG2 := (Prj.Fr.alloc1 (Prj.Fr.refl g w) hgw _).trans hF2)
    | (go_at_call 74; refine (HV.out _ l2 hG2.1 hD2.2.2.2 hA2).mono ?_; rintro e w3 ⟨l3, rfl, hA3, hD3, hF3⟩))
  go_end0
  exact ⟨l3, rfl, hA3, (hD2.trans hD3).eq HVV.out, hG2.trans hF3⟩
end Go.Proofs.YtkaoeoeloihigaaGreatDoor

namespace Go.Proofs.YtkaoeoeloihigaaGreatDoor
open Go.RowKit

theorem Prj.row_new2 (g : Nat) (w : World) (hg : g < w.heap.size) (u v : Value) : Prj.RowSt g (w.alloc (.cells #[u, v] 77)) (.slice (some ⟨w.heap.size, 0, none⟩) 2 2) [u, v] := by
  refine ⟨_, _, rfl, fun j hj => ⟨w.heap.size, 0, rfl, fun w' hF => ?_⟩⟩
  have hk := hF.keep (Val.new_at w _) (by omega) (by decide)
  have hj2 : j = 0 ∨ j = 1 := by simp at hj; omega
  rcases hj2 with rfl | rfl
  · rw [Lib.cell_of_heap hk]; rfl
  · rw [Lib.cell_of_heap hk]; rfl
theorem Prj.two_vals {g : Nat} {w : World} {u v : Value} {x y : ByteArray} (h1 : Prj.ValIs g w u x.data.toList) (h2 : Prj.ValIs g w v y.data.toList) : ∀ j (_h : j < [u, v].length) (h' : j < [x, y].length), Prj.ValIs g w [u, v][j] [x, y][j].data.toList := by
  intro j h h'
  have hj2 : j = 0 ∨ j = 1 := by simp at h; omega
  rcases hj2 with rfl | rfl
  · exact h1
  · exact h2
set_option maxRecDepth 100000 in
set_option maxHeartbeats 2000000 in
theorem Prj.short_writeNode (g : Nat) (l : List UInt8) (hl : l.length ≤ 20000000) (w : World) (kt jt : TypeId) (ky jy : Value) (x y : ByteArray) (HV : Hid (Prj.ValIs g w (.iface kt ky) x.data.toList)) (HJ : Hid (Prj.ValIs g w (.iface jt jy) y.data.toList)) (HA : Hid (Prj.At g l w)) :
    Calls Tryz.prog 75 #[.pointer (some ⟨g, 0, none⟩), .iface 153 (.agg #[.iface kt ky, .iface jt jy])] w fun e w' => ∃ l', e = .returned (.tuple #[]) ∧ Prj.At g l' w' ∧ Prj.Adds l (([119, 114, 105, 116, 101, 32] : List UInt8) ++ Pr.joinL [x, y]) l' ∧ Prj.Fr g w w' := by
  have hgw := HA.out.lt
  have hA0 := HA.out
  have ta0 : ∀ ww : World, _ := Tryz.ta_letNode 153 (.agg #[.iface kt ky, .iface jt jy])
  simp only [if_neg (show ¬ (153 = 143) by decide)] at ta0
  have ta1 : ∀ ww : World, _ := Tryz.ta_setNode 153 (.agg #[.iface kt ky, .iface jt jy])
  simp only [if_neg (show ¬ (153 = 144) by decide)] at ta1
  have ta2 : ∀ ww : World, _ := Tryz.ta_breakNode 153 (.agg #[.iface kt ky, .iface jt jy])
  simp only [if_neg (show ¬ (153 = 146) by decide)] at ta2
  have ta3 : ∀ ww : World, _ := Tryz.ta_continueNode 153 (.agg #[.iface kt ky, .iface jt jy])
  simp only [if_neg (show ¬ (153 = 147) by decide)] at ta3
  have ta4 : ∀ ww : World, _ := Tryz.ta_returnNode 153 (.agg #[.iface kt ky, .iface jt jy])
  simp only [if_neg (show ¬ (153 = 149) by decide)] at ta4
  have ta5 : ∀ ww : World, _ := Tryz.ta_failNode 153 (.agg #[.iface kt ky, .iface jt jy])
  simp only [if_neg (show ¬ (153 = 151) by decide)] at ta5
  have ta6 : ∀ ww : World, _ := Tryz.ta_writeNode 153 (.agg #[.iface kt ky, .iface jt jy])
  simp only [if_true] at ta6
  obtain ⟨V, HVV⟩ : ∃ V, Hid (([119, 114, 105, 116, 101, 32] : List UInt8) ++ Pr.joinL [x, y] = V) := ⟨([119, 114, 105, 116, 101, 32] : List UInt8) ++ Pr.joinL [x, y], (rfl : ([119, 114, 105, 116, 101, 32] : List UInt8) ++ Pr.joinL [x, y] = _)⟩
  rw [HVV.out]
  go_enter Tryz.func75, Tryz.ntmps75
  go_wp2_with (first
    | (go_at_call 31; refine (Prj.put1_at g l hl ⟨#[119, 114, 105, 116, 101, 32]⟩ (by decide) (w.alloc _) (w.heap.size + 1) (by simp) (HA.out.alloc _)).mono ?_; rintro e w2 ⟨l2, rfl, hA2, hD2, hF2⟩
       have hk2 := hF2.keep (Val.new_at w _) (by omega) (by decide)
       have c0 : w2.cell? ⟨w.heap.size, 0, none⟩ = some (.iface kt ky) := (by rw [Lib.cell_of_heap hk2]; rfl)
       have c1 : w2.cell? ⟨w.heap.size, 1, none⟩ = some (.iface jt jy) := (by rw [Lib.cell_of_heap hk2]; rfl)
       have hG2 := (Prj.Fr.alloc1 (Prj.Fr.refl g w) hgw _).trans hF2))
  have hg2 := hA2.lt
  refine (Prj.values_any g w _ [.iface kt ky, .iface jt jy] [x, y] rfl (by simp) l2 hD2.2.2.2 _ (Prj.row_new2 g w2 hg2 _ _) (Prj.two_vals HV.out HJ.out) (hG2.alloc1 hgw _).1 (hA2.alloc _)).mono ?_
  rintro e w3 ⟨l3, rfl, hA3, hD3, hF3⟩
  go_wp2
  go_end0
  exact ⟨l3, rfl, hA3, (hD2.trans hD3).eq HVV.out, (hG2.alloc1 hgw _).trans hF3⟩
set_option maxRecDepth 100000 in
set_option maxHeartbeats 2000000 in
theorem Prj.short_doNode (g : Nat) (l : List UInt8) (hl : l.length ≤ 20000000) (w : World) (nm : ByteArray) (sa : Option Addr) (sn sc : Nat) (T : List UInt8) (HV : Hid (Prj.ValIs g w (.iface 134 (.agg #[.string nm, .slice sa sn sc])) T)) (HA : Hid (Prj.At g l w)) :
    Calls Tryz.prog 75 #[.pointer (some ⟨g, 0, none⟩), .iface 160 (.agg #[.string nm, .slice sa sn sc])] w fun e w' => ∃ l', e = .returned (.tuple #[]) ∧ Prj.At g l' w' ∧ Prj.Adds l (T) l' ∧ Prj.Fr g w w' := by
  have hgw := HA.out.lt
  have hA0 := HA.out
  have ta0 : ∀ ww : World, _ := Tryz.ta_letNode 160 (.agg #[.string nm, .slice sa sn sc])
  simp only [if_neg (show ¬ (160 = 143) by decide)] at ta0
  have ta1 : ∀ ww : World, _ := Tryz.ta_setNode 160 (.agg #[.string nm, .slice sa sn sc])
  simp only [if_neg (show ¬ (160 = 144) by decide)] at ta1
  have ta2 : ∀ ww : World, _ := Tryz.ta_breakNode 160 (.agg #[.string nm, .slice sa sn sc])
  simp only [if_neg (show ¬ (160 = 146) by decide)] at ta2
  have ta3 : ∀ ww : World, _ := Tryz.ta_continueNode 160 (.agg #[.string nm, .slice sa sn sc])
  simp only [if_neg (show ¬ (160 = 147) by decide)] at ta3
  have ta4 : ∀ ww : World, _ := Tryz.ta_returnNode 160 (.agg #[.string nm, .slice sa sn sc])
  simp only [if_neg (show ¬ (160 = 149) by decide)] at ta4
  have ta5 : ∀ ww : World, _ := Tryz.ta_failNode 160 (.agg #[.string nm, .slice sa sn sc])
  simp only [if_neg (show ¬ (160 = 151) by decide)] at ta5
  have ta6 : ∀ ww : World, _ := Tryz.ta_writeNode 160 (.agg #[.string nm, .slice sa sn sc])
  simp only [if_neg (show ¬ (160 = 153) by decide)] at ta6
  have ta7 : ∀ ww : World, _ := Tryz.ta_sayNode 160 (.agg #[.string nm, .slice sa sn sc])
  simp only [if_neg (show ¬ (160 = 154) by decide)] at ta7
  have ta8 : ∀ ww : World, _ := Tryz.ta_doNode 160 (.agg #[.string nm, .slice sa sn sc])
  simp only [if_true] at ta8
  obtain ⟨V, HVV⟩ : ∃ V, Hid (T = V) := ⟨T, (rfl : T = _)⟩
  rw [HVV.out]
  go_enter Tryz.func75, Tryz.ntmps75
  go_wp2_with (go_at_call 74; refine (HV.out _ l (Prj.Fr.alloc1 (Prj.Fr.refl g w) hgw _).1 hl (HA.out.alloc _)).mono ?_; rintro e w3 ⟨l3, rfl, hA3, hD3, hF3⟩)
  go_end0
  exact ⟨l3, rfl, hA3, hD3.eq HVV.out, (Prj.Fr.alloc1 (Prj.Fr.refl g w) hgw _).trans hF3⟩
end Go.Proofs.YtkaoeoeloihigaaGreatDoor

namespace Go.Proofs.YtkaoeoeloihigaaGreatDoor
open Go.RowKit

def Prj.gapB (k : Nat) : ByteArray := ⟨(Lib.repeatL (⟨#[32, 32]⟩ : ByteArray).data.toList k).toArray⟩
theorem Prj.gapB_zero : Prj.gapB 0 = ⟨#[]⟩ := rfl
theorem Prj.gapB_succ (k : Nat) : Prj.gapB (k + 1) = Prj.gapB k ++ ⟨#[32, 32]⟩ := by
  apply ByteArray.ext
  apply Array.toList_inj.1
  rw [Prj.app_toList]
  simp only [Prj.gapB, Lib.repeatL_add, Lib.repeatL_one]
theorem Prj.gapB_size (k : Nat) : (Prj.gapB k).size = 2 * k := by
  have h := Lib.repeatL_length (⟨#[32, 32]⟩ : ByteArray).data.toList k
  have e : (Prj.gapB k).size = (Lib.repeatL (⟨#[32, 32]⟩ : ByteArray).data.toList k).length := by simp [Prj.gapB, ByteArray.size]
  rw [e, h]; simp; omega
set_option maxRecDepth 100000 in
set_option maxHeartbeats 1000000 in
theorem Prj.indent_any (g : Nat) (l : List UInt8) (hl : l.length ≤ 20000000) (k : Nat) (hk : k ≤ 1000) (w : World) (HA : Hid (Prj.At g l w)) :
    Calls Tryz.prog 56 #[.pointer (some ⟨g, 0, none⟩), .int .i64 (k : Int)] w fun e w' => ∃ l', e = .returned (.tuple #[]) ∧ Prj.At g l' w' ∧ Prj.Adds l (Prj.gapB k).data.toList l' ∧ Prj.Fr g w w' := by
  have hgw := HA.out.lt
  have hz := Prj.gapB_size k
  have hR : ∀ w : World, Calls Tryz.prog 72 #[.string ⟨#[32, 32]⟩, .int .i64 (k : Int)] w fun e w' => e = .returned (.string (Prj.gapB k)) ∧ Below w.heap.size w w' := fun w => Tryz.strings_Repeat ⟨#[32, 32]⟩ k w (by omega) (by rw [show (⟨#[32, 32]⟩ : ByteArray).size = 2 from rfl]; omega)
  have HR : Hid (∀ w : World, Calls Tryz.prog 72 #[.string ⟨#[32, 32]⟩, .int .i64 (k : Int)] w fun e w' => e = .returned (.string (Prj.gapB k)) ∧ Below w.heap.size w w') := hR
  clear hR
  generalize Prj.gapB k = G at *
  go_enter Tryz.func56, Tryz.ntmps56
  go_wp2_with (first
    | (go_at_call 72; refine (HR.out _).mono ?_; rintro e w1 ⟨rfl, hb1⟩; have hA1 := HA.out.below hb1; have hF1 := (Prj.Fr.refl g w).below (by omega) hb1)
    | (go_at_call 31; refine (Prj.put1_any g l hl G (by omega) w1 hA1).mono ?_; rintro e w2 ⟨l2, rfl, hA2, hD2, hF2⟩))
  go_end0
  exact ⟨l2, rfl, hA2, hD2, hF1.trans hF2⟩
/-- statement at a branch writes this, at this depth. -/
def Prj.StIs (g : Nat) (w0 : World) (v : Value) (k : Nat) (T : List UInt8) : Prop :=
  ∀ (w : World) (l : List UInt8), Below g w0 w → l.length ≤ 20000000 → Prj.At g l w → Calls Tryz.prog 57 #[.pointer (some ⟨g, 0, none⟩), v, .int .i64 (k : Int)] w fun e w' => ∃ l', e = .returned (.tuple #[]) ∧ Prj.At g l' w' ∧ Prj.Adds l T l' ∧ Prj.Fr g w w'
def Prj.BlIs (g : Nat) (w0 : World) (S : Value) (k : Nat) (T : List UInt8) : Prop :=
  ∀ (w : World) (l : List UInt8), Below g w0 w → l.length ≤ 20000000 → Prj.At g l w → Calls Tryz.prog 32 #[.pointer (some ⟨g, 0, none⟩), .agg #[S], .int .i64 (k : Int)] w fun e w' => ∃ l', e = .returned (.tuple #[]) ∧ Prj.At g l' w' ∧ Prj.Adds l T l' ∧ Prj.Fr g w w'
def Prj.IfIs (g : Nat) (w0 : World) (x : Value) (k : Nat) (T : List UInt8) : Prop :=
  ∀ (w : World) (l : List UInt8), Below g w0 w → l.length ≤ 20000000 → Prj.At g l w → Calls Tryz.prog 73 #[.pointer (some ⟨g, 0, none⟩), x, .int .i64 (k : Int)] w fun e w' => ∃ l', e = .returned (.tuple #[]) ∧ Prj.At g l' w' ∧ Prj.Adds l T l' ∧ Prj.Fr g w w'
def Prj.linesL (G : List UInt8) (xs : List (List UInt8)) : List UInt8 := xs.flatMap (fun x => G ++ x ++ [10])
theorem Prj.linesL_snoc (G : List UInt8) (xs : List (List UInt8)) (x : List UInt8) : Prj.linesL G (xs ++ [x]) = Prj.linesL G xs ++ G ++ x ++ [10] := by simp [Prj.linesL]
set_option maxRecDepth 100000 in
set_option maxHeartbeats 2000000 in
theorem Prj.block_any (g : Nat) (w0 : World) (S : Value) (us : List Value) (xs : List (List UInt8)) (hlen : xs.length = us.length) (hn : us.length ≤ 100000) (k : Nat) (hk : k ≤ 900) (P : Nat → Prop) (hP : ∀ k, P k → k < g) (HS : Hid (Mill.Sl P w0 S us.length us))
    (HV : Hid (∀ j (h : j < us.length) (h' : j < xs.length), Prj.StIs g w0 us[j] (k + 1) xs[j])) : Prj.BlIs g w0 S k ([123, 10] ++ Prj.linesL (Prj.gapB (k + 1)).data.toList xs ++ (Prj.gapB k).data.toList ++ [125]) := by
  intro w l hw hl hA
  have HR : Hid (∀ w1, Prj.Fr g w w1 → Prj.RowSt g w1 S us) := fun w1 h1 => Prj.sl_row hP HS.out (hw.trans h1.1)
  have HA : Hid (Prj.At g l w) := hA
  have HW : Hid (Below g w0 w) := hw
  have hgw := hA.lt
  clear hA hw
  have hS : ∃ ua uc, S = .slice ua us.length uc := by obtain ⟨ua, uc, h, _⟩ := HS.out; exact ⟨ua, uc, h⟩
  obtain ⟨ua, uc, rfl⟩ := hS
  clear HS
  obtain ⟨n, HN⟩ : ∃ n, Hid (us.length = n) := ⟨us.length, (rfl : us.length = _)⟩
  rw [HN.out] at hn hlen
  have HR2 : Hid (∀ w1, Prj.Fr g w w1 → ∀ j (h : j < us.length), ∃ gu o, ua = some ⟨gu, o, none⟩ ∧ w1.cell? ⟨gu, o + j, none⟩ = some us[j]) := fun w1 h1 j h => by
    obtain ⟨ua', uc', he, hj⟩ := HR.out w1 h1
    injection he with h1 h2 h3
    subst h1
    obtain ⟨gu, o, h4, h5⟩ := hj j h
    exact ⟨gu, o, h4, h5 w1 (Prj.Fr.refl g w1)⟩
  clear HR
  simp only [HN.out]
  have hk1 : ((k + 1 : Nat) : Int) = (k : Int) + 1 := by omega
  have HI : Hid (∀ (w : World) (l : List UInt8), l.length ≤ 20000000 → Prj.At g l w → Calls Tryz.prog 56 #[.pointer (some ⟨g, 0, none⟩), .int .i64 ((k : Int) + 1)] w fun e w' => ∃ l', e = .returned (.tuple #[]) ∧ Prj.At g l' w' ∧ Prj.Adds l (Prj.gapB (k + 1)).data.toList l' ∧ Prj.Fr g w w') := fun w l hl hA => by
    have h := Prj.indent_any g l hl (k + 1) (by omega) w hA
    rw [hk1] at h; exact h
  have HX : Hid (∀ j (h : j < us.length) (h' : j < xs.length) (w : World) (l : List UInt8), Below g w0 w → l.length ≤ 20000000 → Prj.At g l w → Calls Tryz.prog 57 #[.pointer (some ⟨g, 0, none⟩), us[j], .int .i64 ((k : Int) + 1)] w fun e w' => ∃ l', e = .returned (.tuple #[]) ∧ Prj.At g l' w' ∧ Prj.Adds l xs[j] l' ∧ Prj.Fr g w w') := fun j h h' w l hb hl hA => by
    have h := HV.out j h h' w l hb hl hA
    rw [hk1] at h; exact h
  clear HV hk1
  obtain ⟨G1, HG1⟩ : ∃ G1, Hid ((Prj.gapB (k + 1)).data.toList = G1) := ⟨_, (rfl : (Prj.gapB (k + 1)).data.toList = _)⟩
  rw [HG1.out] at HI ⊢
  go_enter Tryz.func32, Tryz.ntmps32
  go_wp2_with (first
    | (go_at_call 31; refine (Prj.put1_at g l hl ⟨#[123, 10]⟩ (by decide) (w.alloc _) (w.heap.size + 1) (by simp) (HA.out.alloc _)).mono ?_; rintro e w2 ⟨l2, rfl, hA2, hD2, hF2⟩
       have hk2 := hF2.keep (Val.new_at w _) (by omega) (by decide)
       have c1 : w2.cell? ⟨w.heap.size, 0, none⟩ = some (.slice ua n uc) := (by rw [Lib.cell_of_heap hk2]; rfl)
       have hG2 := (Prj.Fr.alloc1 (Prj.Fr.refl g w) hgw _).trans hF2))
  go_loopw [14] (fun i wr => ∃ (j : Nat) (lj : List UInt8), i = .int .i64 (j : Int) ∧ j ≤ n ∧ Prj.At g lj wr ∧ Prj.Adds l ([123, 10] ++ Prj.linesL G1 (xs.take j)) lj ∧ Prj.Fr g w wr) (fun i _ => n - (intOf i).toNat)
  case atStart => exact ⟨0, l2, rfl, by omega, hA2, hD2.eq (by simp [Prj.linesL]), hG2⟩
  case round =>
    obtain ⟨j, lj, rfl, hj, hA, hD, hF⟩ := hrel
    have hlj := hD.2.2.2
    clear hD2 hA2 hk2 c1 hG2 hF2
    by_cases hjn : j < n
    · have hjk : j < us.length := by rw [HN.out]; exact hjn
      have hjx : j < xs.length := by omega
      obtain ⟨gu, o, rfl, c1⟩ := HR2.out wr hF j hjk
      have hE := HX.out j hjk hjx
      have hS := Prj.linesL_snoc G1 (xs.take j) xs[j]
      have e2 : xs.take j ++ [xs[j]] = xs.take (j + 1) := by rw [List.take_add_one, List.getElem?_eq_getElem hjx]; rfl
      rw [e2] at hS
      generalize xs[j] = x at *
      generalize us[j] = u at *
      have HE : Hid (∀ (w : World) (l : List UInt8), Below g w0 w → l.length ≤ 20000000 → Prj.At g l w → Calls Tryz.prog 57 #[.pointer (some ⟨g, 0, none⟩), u, .int .i64 ((k : Int) + 1)] w fun e w' => ∃ l', e = .returned (.tuple #[]) ∧ Prj.At g l' w' ∧ Prj.Adds l x l' ∧ Prj.Fr g w w') := hE
      have HS : Hid ([123, 10] ++ Prj.linesL G1 (xs.take j) ++ G1 ++ x ++ [10] = [123, 10] ++ Prj.linesL G1 (xs.take (j + 1))) := by rw [Hid, hS]; simp
      have HD : Hid (Prj.Adds l ([123, 10] ++ Prj.linesL G1 (xs.take j)) lj) := hD
      clear hE e2 hS hD HX HR2
      go_wp2_with (first
        | (go_at_call 56; refine (HI.out _ lj hlj hA).mono ?_; rintro e w2 ⟨l2, rfl, hA2, hD2, hF2⟩
           have hG2 := hF.trans hF2)
        | (go_at_call 57; refine (HE.out _ l2 (HW.out.trans hG2.1) hD2.2.2.2 hA2).mono ?_; rintro e w3 ⟨l3, rfl, hA3, hD3, hF3⟩
           have hG3 := hG2.trans hF3)
        | (go_at_call 31; refine (Prj.put1_any g l3 hD3.2.2.2 ⟨#[10]⟩ (by decide) _ hA3).mono ?_; rintro e w4 ⟨l4, rfl, hA4, hD4, hF4⟩))
      go_roundw
      case rel => exact ⟨j + 1, l4, by go_num, by omega, hA4, (((HD.out.trans hD2).trans hD3).trans hD4).eq HS.out, hG3.trans hF4⟩
      case measure => simp [intOf]; omega
    · have HD : Hid (Prj.Adds l ([123, 10] ++ Prj.linesL G1 xs) lj) := hD.eq (by rw [List.take_of_length_le (by omega)])
      clear HX HR2 HI hD
      go_wp2_with (first
        | (go_at_call 56; refine (Prj.indent_any g lj hlj k (by omega) _ hA).mono ?_; rintro e w2 ⟨l2, rfl, hA2, hD2, hF2⟩
           have hG2 := hF.trans hF2)
        | (go_at_call 31; refine (Prj.put1_any g l2 hD2.2.2.2 ⟨#[125]⟩ (by decide) _ hA2).mono ?_; rintro e w4 ⟨l4, rfl, hA4, hD4, hF4⟩))
      go_end0
      exact ⟨l4, rfl, hA4, (HD.out.trans hD2).trans hD4, hG2.trans hF4⟩
end Go.Proofs.YtkaoeoeloihigaaGreatDoor
