import Derived.Test.YtkaoeoeloihigaaGreatDoorWK
namespace Go.Proofs.YtkaoeoeloihigaaGreatDoor
open Go.RowKit

theorem Tryz.tn_ifNode (w : World) : (Instr.typeAssert .nilIface 77 156 true).run Tryz.prog w = .ok (.tuple #[.agg #[.nilIface, .slice none 0 0, .nilIface], .bool false]) w := by kernel_rfl
theorem Tryz.tn_blockNode (w : World) : (Instr.typeAssert .nilIface 77 58 true).run Tryz.prog w = .ok (.tuple #[.agg #[.slice none 0 0], .bool false]) w := by kernel_rfl
def Prj.ShIs (g : Nat) (w0 : World) (v : Value) (T : List UInt8) : Prop :=
  ∀ (w : World) (l : List UInt8), Below g w0 w → l.length ≤ 20000000 → Prj.At g l w → Calls Tryz.prog 75 #[.pointer (some ⟨g, 0, none⟩), v] w fun e w' => ∃ l', e = .returned (.tuple #[]) ∧ Prj.At g l' w' ∧ Prj.Adds l T l' ∧ Prj.Fr g w w'
set_option maxRecDepth 100000 in
set_option maxHeartbeats 2000000 in
theorem Prj.stat_short (g : Nat) (w0 : World) (t : TypeId) (x : Value) (h1 : ¬ t = 156) (h2 : ¬ t = 158) (k : Nat) (T : List UInt8) (HS : Hid (Prj.ShIs g w0 (.iface t x) T)) : Prj.StIs g w0 (.iface t x) k (T ++ [59]) := by
  intro w l hw hl hA
  have HA : Hid (Prj.At g l w) := hA
  have HW : Hid (Below g w0 w) := hw
  clear hA hw
  have ta0 : ∀ ww : World, _ := Tryz.ta_ifNode t x
  simp only [if_neg h1] at ta0
  have ta1 : ∀ ww : World, _ := Tryz.ta_whileNode t x
  simp only [if_neg h2] at ta1
  go_enter Tryz.func57, Tryz.ntmps57
  go_wp2_with (first
    | (go_at_call 75; refine (HS.out _ l HW.out hl HA.out).mono ?_; rintro e w2 ⟨l2, rfl, hA2, hD2, hF2⟩)
    | (go_at_call 31; refine (Prj.put1_any g l2 hD2.2.2.2 ⟨#[59]⟩ (by decide) _ hA2).mono ?_; rintro e w3 ⟨l3, rfl, hA3, hD3, hF3⟩))
  go_end0
  exact ⟨l3, rfl, hA3, hD2.trans hD3, hF2.trans hF3⟩
set_option maxRecDepth 100000 in
set_option maxHeartbeats 2000000 in
theorem Prj.stat_if0 (g : Nat) (w0 : World) (kt : TypeId) (ky : Value) (sa : Option Addr) (sn sc : Nat) (k : Nat) (T : List UInt8) (HS : Hid (Prj.IfIs g w0 (.agg #[.iface kt ky, .slice sa sn sc, .nilIface]) k T)) : Prj.StIs g w0 (.iface 156 (.agg #[.iface kt ky, .slice sa sn sc, .nilIface])) k T := by
  intro w l hw hl hA
  have HA : Hid (Prj.At g l w) := hA
  have HW : Hid (Below g w0 w) := hw
  have hgw := hA.lt
  clear hA hw
  have ta0 : ∀ ww : World, _ := Tryz.ta_ifNode 156 (.agg #[.iface kt ky, .slice sa sn sc, .nilIface])
  simp only [if_true] at ta0
  go_enter Tryz.func57, Tryz.ntmps57
  go_wp2_with (first
    | (go_at_call 73; refine (HS.out _ l (HW.out.trans (Prj.Fr.alloc1 (Prj.Fr.refl g w) hgw _).1) hl (HA.out.alloc _)).mono ?_; rintro e w2 ⟨l2, rfl, hA2, hD2, hF2⟩))
  go_end0
  exact ⟨l2, rfl, hA2, hD2, (Prj.Fr.alloc1 (Prj.Fr.refl g w) hgw _).trans hF2⟩
set_option maxRecDepth 100000 in
set_option maxHeartbeats 2000000 in
theorem Prj.stat_if1 (g : Nat) (w0 : World) (kt : TypeId) (ky : Value) (sa : Option Addr) (sn sc : Nat) (jt : TypeId) (jy : Value) (k : Nat) (T : List UInt8) (HS : Hid (Prj.IfIs g w0 (.agg #[.iface kt ky, .slice sa sn sc, .iface jt jy]) k T)) : Prj.StIs g w0 (.iface 156 (.agg #[.iface kt ky, .slice sa sn sc, .iface jt jy])) k T := by
  intro w l hw hl hA
  have HA : Hid (Prj.At g l w) := hA
  have HW : Hid (Below g w0 w) := hw
  have hgw := hA.lt
  clear hA hw
  have ta0 : ∀ ww : World, _ := Tryz.ta_ifNode 156 (.agg #[.iface kt ky, .slice sa sn sc, .iface jt jy])
  simp only [if_true] at ta0
  go_enter Tryz.func57, Tryz.ntmps57
  go_wp2_with (first
    | (go_at_call 73; refine (HS.out _ l (HW.out.trans (Prj.Fr.alloc1 (Prj.Fr.refl g w) hgw _).1) hl (HA.out.alloc _)).mono ?_; rintro e w2 ⟨l2, rfl, hA2, hD2, hF2⟩))
  go_end0
  exact ⟨l2, rfl, hA2, hD2, (Prj.Fr.alloc1 (Prj.Fr.refl g w) hgw _).trans hF2⟩
set_option maxRecDepth 100000 in
set_option maxHeartbeats 2000000 in
theorem Prj.stat_while (g : Nat) (w0 : World) (kt : TypeId) (ky : Value) (sa : Option Addr) (sn sc : Nat) (k : Nat) (T U : List UInt8) (HV : Hid (Prj.ValIs g w0 (.iface kt ky) T)) (HB : Hid (Prj.BlIs g w0 (.slice sa sn sc) k U)) :
    Prj.StIs g w0 (.iface 158 (.agg #[.iface kt ky, .slice sa sn sc])) k (([119, 104, 105, 108, 101, 32] : List UInt8) ++ T ++ ([32] : List UInt8) ++ U) := by
  intro w l hw hl hA
  have HA : Hid (Prj.At g l w) := hA
  have HW : Hid (Below g w0 w) := hw
  have hgw := hA.lt
  clear hA hw
  have ta0 : ∀ ww : World, _ := Tryz.ta_ifNode 158 (.agg #[.iface kt ky, .slice sa sn sc])
  simp only [if_neg (show ¬ (158 = 156) by decide)] at ta0
  have ta1 : ∀ ww : World, _ := Tryz.ta_whileNode 158 (.agg #[.iface kt ky, .slice sa sn sc])
  simp only [if_true] at ta1
  obtain ⟨V, HVV⟩ : ∃ V, Hid (([119, 104, 105, 108, 101, 32] : List UInt8) ++ T ++ ([32] : List UInt8) ++ U = V) := ⟨_, (rfl : ([119, 104, 105, 108, 101, 32] : List UInt8) ++ T ++ ([32] : List UInt8) ++ U = _)⟩
  rw [HVV.out]
  go_enter Tryz.func57, Tryz.ntmps57
  go_wp2_with (first
    | (go_at_call 31; with_reducible refine (Prj.put1_at g l hl ⟨#[119, 104, 105, 108, 101, 32]⟩ (by decide) (w.alloc _) (w.heap.size + 1) (by simp) (HA.out.alloc _)).mono ?_; rintro e w2 ⟨l2, rfl, hA2, hD2, hF2⟩
       have hk2 := hF2.keep (Val.new_at w _) (by omega) (by decide)
       have c1 : w2.cell? ⟨w.heap.size, 0, none⟩ = some (.iface kt ky) := (by rw [Lib.cell_of_heap hk2]; rfl)
       have hG2 := (Prj.Fr.alloc1 (Prj.Fr.refl g w) hgw _).trans hF2)
    | (go_at_call 74; refine (HV.out _ l2 (HW.out.trans hG2.1) hD2.2.2.2 hA2).mono ?_; rintro e w3 ⟨l3, rfl, hA3, hD3, hF3⟩
       have hk3 := hF3.keep hk2 (by omega) (by decide)
       have hG3 := hG2.trans hF3)
    | (go_at_call 31; refine (Prj.put1_any g l3 hD3.2.2.2 ⟨#[32]⟩ (by decide) w3 hA3).mono ?_; rintro e w4 ⟨l4, rfl, hA4, hD4, hF4⟩
       have hk4 := hF4.keep hk3 (by omega) (by decide)
       have c4 : w4.cell? ⟨w.heap.size, 1, none⟩ = some (.slice sa sn sc) := (by rw [Lib.cell_of_heap hk4]; rfl)
       have hG4 := hG3.trans hF4)
    | (go_at_call 32; refine (HB.out _ l4 (HW.out.trans hG4.1) hD4.2.2.2 hA4).mono ?_; rintro e w5 ⟨l5, rfl, hA5, hD5, hF5⟩))
  go_end0
  exact ⟨l5, rfl, hA5, (((hD2.trans hD3).trans hD4).trans hD5).eq HVV.out, hG4.trans hF5⟩
set_option maxRecDepth 100000 in
set_option maxHeartbeats 2000000 in
theorem Prj.if_none (g : Nat) (w0 : World) (kt : TypeId) (ky : Value) (sa : Option Addr) (sn sc : Nat) (k : Nat) (T U : List UInt8) (HV : Hid (Prj.ValIs g w0 (.iface kt ky) T)) (HB : Hid (Prj.BlIs g w0 (.slice sa sn sc) k U)) :
    Prj.IfIs g w0 (.agg #[.iface kt ky, .slice sa sn sc, .nilIface]) k (([105, 102, 32] : List UInt8) ++ T ++ ([32] : List UInt8) ++ U) := by
  intro w l hw hl hA
  have HA : Hid (Prj.At g l w) := hA
  have HW : Hid (Below g w0 w) := hw
  have hgw := hA.lt
  clear hA hw
  have tn0 := Tryz.tn_ifNode
  have tn1 := Tryz.tn_blockNode
  obtain ⟨V, HVV⟩ : ∃ V, Hid (([105, 102, 32] : List UInt8) ++ T ++ ([32] : List UInt8) ++ U = V) := ⟨_, (rfl : ([105, 102, 32] : List UInt8) ++ T ++ ([32] : List UInt8) ++ U = _)⟩
  rw [HVV.out]
  go_enter Tryz.func73, Tryz.ntmps73
  go_wp2_with (first
    | (go_at_call 31; with_reducible refine (Prj.put1_at g l hl ⟨#[105, 102, 32]⟩ (by decide) (w.alloc _) (w.heap.size + 1) (by simp) (HA.out.alloc _)).mono ?_; rintro e w2 ⟨l2, rfl, hA2, hD2, hF2⟩
       have hk2 := hF2.keep (Val.new_at w _) (by omega) (by decide)
       have c1 : w2.cell? ⟨w.heap.size, 0, none⟩ = some (.iface kt ky) := (by rw [Lib.cell_of_heap hk2]; rfl)
       have hG2 := (Prj.Fr.alloc1 (Prj.Fr.refl g w) hgw _).trans hF2)
    | (go_at_call 74; refine (HV.out _ l2 (HW.out.trans hG2.1) hD2.2.2.2 hA2).mono ?_; rintro e w3 ⟨l3, rfl, hA3, hD3, hF3⟩
       have hk3 := hF3.keep hk2 (by omega) (by decide)
       have hG3 := hG2.trans hF3)
    | (go_at_call 31; refine (Prj.put1_any g l3 hD3.2.2.2 ⟨#[32]⟩ (by decide) w3 hA3).mono ?_; rintro e w4 ⟨l4, rfl, hA4, hD4, hF4⟩
       have hk4 := hF4.keep hk3 (by omega) (by decide)
       have c4 : w4.cell? ⟨w.heap.size, 1, none⟩ = some (.slice sa sn sc) := (by rw [Lib.cell_of_heap hk4]; rfl)
       have hG4 := hG3.trans hF4)
    | (go_at_call 32; refine (HB.out _ l4 (HW.out.trans hG4.1) hD4.2.2.2 hA4).mono ?_; rintro e w5 ⟨l5, rfl, hA5, hD5, hF5⟩
       have hk5 := hF5.keep hk4 (by omega) (by decide)
       have c5 : w5.cell? ⟨w.heap.size, 2, none⟩ = some (.nilIface) := (by rw [Lib.cell_of_heap hk5]; rfl)
       have hG5 := hG4.trans hF5))
  go_end0
  exact ⟨l5, rfl, hA5, (((hD2.trans hD3).trans hD4).trans hD5).eq HVV.out, hG5⟩
end Go.Proofs.YtkaoeoeloihigaaGreatDoor

namespace Go.Proofs.YtkaoeoeloihigaaGreatDoor
open Go.RowKit

set_option maxRecDepth 100000 in
set_option maxHeartbeats 2000000 in
theorem Prj.if_else (g : Nat) (w0 : World) (kt : TypeId) (ky : Value) (sa : Option Addr) (sn sc : Nat) (k : Nat) (T U : List UInt8) (HV : Hid (Prj.ValIs g w0 (.iface kt ky) T)) (HB : Hid (Prj.BlIs g w0 (.slice sa sn sc) k U)) (oa : Option Addr) (on oc : Nat) (Z : List UInt8) (HO : Hid (Prj.BlIs g w0 (.slice oa on oc) k Z)) :
    Prj.IfIs g w0 (.agg #[.iface kt ky, .slice sa sn sc, .iface 58 (.agg #[.slice oa on oc])]) k (([105, 102, 32] : List UInt8) ++ T ++ ([32] : List UInt8) ++ U ++ ([32, 101, 108, 115, 101, 32] : List UInt8) ++ Z) := by
  intro w l hw hl hA
  have HA : Hid (Prj.At g l w) := hA
  have HW : Hid (Below g w0 w) := hw
  have hgw := hA.lt
  clear hA hw
  have ta0 : ∀ ww : World, _ := Tryz.ta_ifNode 58 (.agg #[.slice oa on oc])
  simp only [if_neg (show ¬ (58 = 156) by decide)] at ta0
  have ta1 : ∀ ww : World, _ := Tryz.ta_blockNode 58 (.agg #[.slice oa on oc])
  simp only [if_true] at ta1
  obtain ⟨V, HVV⟩ : ∃ V, Hid (([105, 102, 32] : List UInt8) ++ T ++ ([32] : List UInt8) ++ U ++ ([32, 101, 108, 115, 101, 32] : List UInt8) ++ Z = V) := ⟨_, (rfl : ([105, 102, 32] : List UInt8) ++ T ++ ([32] : List UInt8) ++ U ++ ([32, 101, 108, 115, 101, 32] : List UInt8) ++ Z = _)⟩
  rw [HVV.out]
  go_enter Tryz.func73, Tryz.ntmps73
  go_wp2_with (first
    | (go_at_call 31; with_reducible refine (Prj.put1_at g l hl ⟨#[105, 102, 32]⟩ (by decide) (w.alloc _) (w.heap.size + 1) (by simp) (HA.out.alloc _)).mono ?_; rintro e w2 ⟨l2, rfl, hA2, hD2, hF2⟩
       have hk2 := hF2.keep (Val.new_at w _) (by omega) (by decide)
       have c1 : w2.cell? ⟨w.heap.size, 0, none⟩ = some (.iface kt ky) := (by rw [Lib.cell_of_heap hk2]; rfl)
       have hG2 := (Prj.Fr.alloc1 (Prj.Fr.refl g w) hgw _).trans hF2)
    | (go_at_call 74; refine (HV.out _ l2 (HW.out.trans hG2.1) hD2.2.2.2 hA2).mono ?_; rintro e w3 ⟨l3, rfl, hA3, hD3, hF3⟩
       have hk3 := hF3.keep hk2 (by omega) (by decide)
       have hG3 := hG2.trans hF3)
    | (go_at_call 31; refine (Prj.put1_any g l3 hD3.2.2.2 ⟨#[32]⟩ (by decide) w3 hA3).mono ?_; rintro e w4 ⟨l4, rfl, hA4, hD4, hF4⟩
       have hk4 := hF4.keep hk3 (by omega) (by decide)
       have c4 : w4.cell? ⟨w.heap.size, 1, none⟩ = some (.slice sa sn sc) := (by rw [Lib.cell_of_heap hk4]; rfl)
       have hG4 := hG3.trans hF4)
    | (go_at_call 32; refine (HB.out _ l4 (HW.out.trans hG4.1) hD4.2.2.2 hA4).mono ?_; rintro e w5 ⟨l5, rfl, hA5, hD5, hF5⟩
       have hk5 := hF5.keep hk4 (by omega) (by decide)
       have c5 : w5.cell? ⟨w.heap.size, 2, none⟩ = some (.iface 58 (.agg #[.slice oa on oc])) := (by rw [Lib.cell_of_heap hk5]; rfl)
       have hG5 := hG4.trans hF5
       have hz5 := hG5.1.size
       have HA5 : Hid (Prj.At g l5 w5) := hA5
       clear hA2 hA3 hA4 hA5 HA)
    | (go_at_call 31; refine (Prj.put1_at g l5 hD5.2.2.2 ⟨#[32, 101, 108, 115, 101, 32]⟩ (by decide) (w5.alloc _) (w5.heap.size + 1) (by simp) (HA5.out.alloc _)).mono ?_; rintro e w6 ⟨l6, rfl, hA6, hD6, hF6⟩
       have hk6 := hF6.keep (Val.new_at w5 _) (by omega) (by decide)
       have d0 : w6.cell? ⟨w5.heap.size, 0, none⟩ = some (.slice oa on oc) := (by rw [Lib.cell_of_heap hk6]; rfl)
       have hG6 := (hG5.alloc (by omega) _).trans hF6
       have HA6 : Hid (Prj.At g l6 w6) := hA6
       clear hA6 HA5)
    | (go_at_call 32; refine (HO.out _ l6 (HW.out.trans hG6.1) hD6.2.2.2 HA6.out).mono ?_; rintro e w7 ⟨l7, rfl, hA7, hD7, hF7⟩))
  go_end0
  exact ⟨l7, rfl, hA7, (((((hD2.trans hD3).trans hD4).trans hD5).trans hD6).trans hD7).eq HVV.out, hG6.trans hF7⟩
set_option maxRecDepth 100000 in
set_option maxHeartbeats 2000000 in
theorem Prj.if_elif0 (g : Nat) (w0 : World) (kt : TypeId) (ky : Value) (sa : Option Addr) (sn sc : Nat) (k : Nat) (T U : List UInt8) (HV : Hid (Prj.ValIs g w0 (.iface kt ky) T)) (HB : Hid (Prj.BlIs g w0 (.slice sa sn sc) k U)) (jt : TypeId) (jy : Value) (oa : Option Addr) (on oc : Nat) (Z : List UInt8) (HO : Hid (Prj.IfIs g w0 (.agg #[.iface jt jy, .slice oa on oc, .nilIface]) k Z)) :
    Prj.IfIs g w0 (.agg #[.iface kt ky, .slice sa sn sc, .iface 156 (.agg #[.iface jt jy, .slice oa on oc, .nilIface])]) k (([105, 102, 32] : List UInt8) ++ T ++ ([32] : List UInt8) ++ U ++ ([32, 101, 108, 115, 101, 32] : List UInt8) ++ Z) := by
  intro w l hw hl hA
  have HA : Hid (Prj.At g l w) := hA
  have HW : Hid (Below g w0 w) := hw
  have hgw := hA.lt
  clear hA hw
  have ta0 : ∀ ww : World, _ := Tryz.ta_ifNode 156 (.agg #[.iface jt jy, .slice oa on oc, .nilIface])
  simp only [if_true] at ta0
  obtain ⟨V, HVV⟩ : ∃ V, Hid (([105, 102, 32] : List UInt8) ++ T ++ ([32] : List UInt8) ++ U ++ ([32, 101, 108, 115, 101, 32] : List UInt8) ++ Z = V) := ⟨_, (rfl : ([105, 102, 32] : List UInt8) ++ T ++ ([32] : List UInt8) ++ U ++ ([32, 101, 108, 115, 101, 32] : List UInt8) ++ Z = _)⟩
  rw [HVV.out]
  go_enter Tryz.func73, Tryz.ntmps73
  go_wp2_with (first
    | (go_at_call 31; with_reducible refine (Prj.put1_at g l hl ⟨#[105, 102, 32]⟩ (by decide) (w.alloc _) (w.heap.size + 1) (by simp) (HA.out.alloc _)).mono ?_; rintro e w2 ⟨l2, rfl, hA2, hD2, hF2⟩
       have hk2 := hF2.keep (Val.new_at w _) (by omega) (by decide)
       have c1 : w2.cell? ⟨w.heap.size, 0, none⟩ = some (.iface kt ky) := (by rw [Lib.cell_of_heap hk2]; rfl)
       have hG2 := (Prj.Fr.alloc1 (Prj.Fr.refl g w) hgw _).trans hF2)
    | (go_at_call 74; refine (HV.out _ l2 (HW.out.trans hG2.1) hD2.2.2.2 hA2).mono ?_; rintro e w3 ⟨l3, rfl, hA3, hD3, hF3⟩
       have hk3 := hF3.keep hk2 (by omega) (by decide)
       have hG3 := hG2.trans hF3)
    | (go_at_call 31; refine (Prj.put1_any g l3 hD3.2.2.2 ⟨#[32]⟩ (by decide) w3 hA3).mono ?_; rintro e w4 ⟨l4, rfl, hA4, hD4, hF4⟩
       have hk4 := hF4.keep hk3 (by omega) (by decide)
       have c4 : w4.cell? ⟨w.heap.size, 1, none⟩ = some (.slice sa sn sc) := (by rw [Lib.cell_of_heap hk4]; rfl)
       have hG4 := hG3.trans hF4)
    | (go_at_call 32; refine (HB.out _ l4 (HW.out.trans hG4.1) hD4.2.2.2 hA4).mono ?_; rintro e w5 ⟨l5, rfl, hA5, hD5, hF5⟩
       have hk5 := hF5.keep hk4 (by omega) (by decide)
       have c5 : w5.cell? ⟨w.heap.size, 2, none⟩ = some (.iface 156 (.agg #[.iface jt jy, .slice oa on oc, .nilIface])) := (by rw [Lib.cell_of_heap hk5]; rfl)
       have hG5 := hG4.trans hF5
       have hz5 := hG5.1.size
       have HA5 : Hid (Prj.At g l5 w5) := hA5
       clear hA2 hA3 hA4 hA5 HA)
    | (go_at_call 31; refine (Prj.put1_at g l5 hD5.2.2.2 ⟨#[32, 101, 108, 115, 101, 32]⟩ (by decide) (w5.alloc _) (w5.heap.size + 1) (by simp) (HA5.out.alloc _)).mono ?_; rintro e w6 ⟨l6, rfl, hA6, hD6, hF6⟩
       have hk6 := hF6.keep (Val.new_at w5 _) (by omega) (by decide)
       have d0 : w6.cell? ⟨w5.heap.size, 0, none⟩ = some (.iface jt jy) := (by rw [Lib.cell_of_heap hk6]; rfl)
       have d1 : w6.cell? ⟨w5.heap.size, 1, none⟩ = some (.slice oa on oc) := (by rw [Lib.cell_of_heap hk6]; rfl)
       have d2 : w6.cell? ⟨w5.heap.size, 2, none⟩ = some (.nilIface) := (by rw [Lib.cell_of_heap hk6]; rfl)
       have hG6 := (hG5.alloc (by omega) _).trans hF6
       have HA6 : Hid (Prj.At g l6 w6) := hA6
       clear hA6 HA5)
    | (go_at_call 73; refine (HO.out _ l6 (HW.out.trans hG6.1) hD6.2.2.2 HA6.out).mono ?_; rintro e w7 ⟨l7, rfl, hA7, hD7, hF7⟩))
  go_end0
  exact ⟨l7, rfl, hA7, (((((hD2.trans hD3).trans hD4).trans hD5).trans hD6).trans hD7).eq HVV.out, hG6.trans hF7⟩
set_option maxRecDepth 100000 in
set_option maxHeartbeats 2000000 in
theorem Prj.if_elif1 (g : Nat) (w0 : World) (kt : TypeId) (ky : Value) (sa : Option Addr) (sn sc : Nat) (k : Nat) (T U : List UInt8) (HV : Hid (Prj.ValIs g w0 (.iface kt ky) T)) (HB : Hid (Prj.BlIs g w0 (.slice sa sn sc) k U)) (jt : TypeId) (jy : Value) (oa : Option Addr) (on oc : Nat) (qt : TypeId) (qy : Value) (Z : List UInt8) (HO : Hid (Prj.IfIs g w0 (.agg #[.iface jt jy, .slice oa on oc, .iface qt qy]) k Z)) :
    Prj.IfIs g w0 (.agg #[.iface kt ky, .slice sa sn sc, .iface 156 (.agg #[.iface jt jy, .slice oa on oc, .iface qt qy])]) k (([105, 102, 32] : List UInt8) ++ T ++ ([32] : List UInt8) ++ U ++ ([32, 101, 108, 115, 101, 32] : List UInt8) ++ Z) := by
  intro w l hw hl hA
  have HA : Hid (Prj.At g l w) := hA
  have HW : Hid (Below g w0 w) := hw
  have hgw := hA.lt
  clear hA hw
  have ta0 : ∀ ww : World, _ := Tryz.ta_ifNode 156 (.agg #[.iface jt jy, .slice oa on oc, .iface qt qy])
  simp only [if_true] at ta0
  obtain ⟨V, HVV⟩ : ∃ V, Hid (([105, 102, 32] : List UInt8) ++ T ++ ([32] : List UInt8) ++ U ++ ([32, 101, 108, 115, 101, 32] : List UInt8) ++ Z = V) := ⟨_, (rfl : ([105, 102, 32] : List UInt8) ++ T ++ ([32] : List UInt8) ++ U ++ ([32, 101, 108, 115, 101, 32] : List UInt8) ++ Z = _)⟩
  rw [HVV.out]
  go_enter Tryz.func73, Tryz.ntmps73
  go_wp2_with (first
    | (go_at_call 31; with_reducible refine (Prj.put1_at g l hl ⟨#[105, 102, 32]⟩ (by decide) (w.alloc _) (w.heap.size + 1) (by simp) (HA.out.alloc _)).mono ?_; rintro e w2 ⟨l2, rfl, hA2, hD2, hF2⟩
       have hk2 := hF2.keep (Val.new_at w _) (by omega) (by decide)
       have c1 : w2.cell? ⟨w.heap.size, 0, none⟩ = some (.iface kt ky) := (by rw [Lib.cell_of_heap hk2]; rfl)
       have hG2 := (Prj.Fr.alloc1 (Prj.Fr.refl g w) hgw _).trans hF2)
    | (go_at_call 74; refine (HV.out _ l2 (HW.out.trans hG2.1) hD2.2.2.2 hA2).mono ?_; rintro e w3 ⟨l3, rfl, hA3, hD3, hF3⟩
       have hk3 := hF3.keep hk2 (by omega) (by decide)
       have hG3 := hG2.trans hF3)
    | (go_at_call 31; refine (Prj.put1_any g l3 hD3.2.2.2 ⟨#[32]⟩ (by decide) w3 hA3).mono ?_; rintro e w4 ⟨l4, rfl, hA4, hD4, hF4⟩
       have hk4 := hF4.keep hk3 (by omega) (by decide)
       have c4 : w4.cell? ⟨w.heap.size, 1, none⟩ = some (.slice sa sn sc) := (by rw [Lib.cell_of_heap hk4]; rfl)
       have hG4 := hG3.trans hF4)
    | (go_at_call 32; refine (HB.out _ l4 (HW.out.trans hG4.1) hD4.2.2.2 hA4).mono ?_; rintro e w5 ⟨l5, rfl, hA5, hD5, hF5⟩
       have hk5 := hF5.keep hk4 (by omega) (by decide)
       have c5 : w5.cell? ⟨w.heap.size, 2, none⟩ = some (.iface 156 (.agg #[.iface jt jy, .slice oa on oc, .iface qt qy])) := (by rw [Lib.cell_of_heap hk5]; rfl)
       have hG5 := hG4.trans hF5
       have hz5 := hG5.1.size
       have HA5 : Hid (Prj.At g l5 w5) := hA5
       clear hA2 hA3 hA4 hA5 HA)
    | (go_at_call 31; refine (Prj.put1_at g l5 hD5.2.2.2 ⟨#[32, 101, 108, 115, 101, 32]⟩ (by decide) (w5.alloc _) (w5.heap.size + 1) (by simp) (HA5.out.alloc _)).mono ?_; rintro e w6 ⟨l6, rfl, hA6, hD6, hF6⟩
       have hk6 := hF6.keep (Val.new_at w5 _) (by omega) (by decide)
       have d0 : w6.cell? ⟨w5.heap.size, 0, none⟩ = some (.iface jt jy) := (by rw [Lib.cell_of_heap hk6]; rfl)
       have d1 : w6.cell? ⟨w5.heap.size, 1, none⟩ = some (.slice oa on oc) := (by rw [Lib.cell_of_heap hk6]; rfl)
       have d2 : w6.cell? ⟨w5.heap.size, 2, none⟩ = some (.iface qt qy) := (by rw [Lib.cell_of_heap hk6]; rfl)
       have hG6 := (hG5.alloc (by omega) _).trans hF6
       have HA6 : Hid (Prj.At g l6 w6) := hA6
       clear hA6 HA5)
    | (go_at_call 73; refine (HO.out _ l6 (HW.out.trans hG6.1) hD6.2.2.2 HA6.out).mono ?_; rintro e w7 ⟨l7, rfl, hA7, hD7, hF7⟩))
  go_end0
  exact ⟨l7, rfl, hA7, (((((hD2.trans hD3).trans hD4).trans hD5).trans hD6).trans hD7).eq HVV.out, hG6.trans hF7⟩
end Go.Proofs.YtkaoeoeloihigaaGreatDoor

namespace Go.Proofs.YtkaoeoeloihigaaGreatDoor
open Go.RowKit

def Prj.IfForm (x : Value) : Prop := (∃ jt jy oa on oc, x = .agg #[.iface jt jy, .slice oa on oc, .nilIface]) ∨ (∃ jt jy oa on oc qt qy, x = .agg #[.iface jt jy, .slice oa on oc, .iface qt qy])
theorem Prj.three {A : Type} : ∀ {l : List A}, l.length = 3 → ∃ a b c, l = [a, b, c]
  | [a, b, c], _ => ⟨a, b, c, rfl⟩
theorem Prj.ValIs.later {g : Nat} {w0 w : World} {v : Value} {T : List UInt8} (h : Prj.ValIs g w0 v T) (hw : Below g w0 w) : Prj.ValIs g w v T := fun w2 l h2 => h w2 l (hw.trans h2)
theorem Prj.ty_lits2 : Mill.ty 10 = 143 ∧ Mill.ty 11 = 144 ∧ Mill.ty 12 = 156 ∧ Mill.ty 13 = 158 ∧ Mill.ty 14 = 146 ∧ Mill.ty 15 = 147 ∧ Mill.ty 16 = 149 ∧ Mill.ty 17 = 151 ∧ Mill.ty 18 = 153 ∧ Mill.ty 19 = 154 ∧ Mill.ty 20 = 160 ∧ Mill.ty 21 = 58 := by decide +kernel
theorem Prj.stat_if (g : Nat) (w0 : World) (x : Value) (k : Nat) (T : List UInt8) (hx : Prj.IfForm x) (h : Prj.IfIs g w0 x k T) : Prj.StIs g w0 (.iface 156 x) k T := by
  rcases hx with ⟨jt, jy, oa, on, oc, rfl⟩ | ⟨jt, jy, oa, on, oc, qt, qy, rfl⟩
  · exact Prj.stat_if0 g w0 jt jy oa on oc k T h
  · exact Prj.stat_if1 g w0 jt jy oa on oc qt qy k T h
theorem Prj.if_elif (g : Nat) (w0 : World) (kt : TypeId) (ky : Value) (sa : Option Addr) (sn sc : Nat) (k : Nat) (T U : List UInt8) (HV : Prj.ValIs g w0 (.iface kt ky) T) (HB : Prj.BlIs g w0 (.slice sa sn sc) k U) (y : Value) (hy : Prj.IfForm y) (Z : List UInt8) (HO : Prj.IfIs g w0 y k Z) :
    Prj.IfIs g w0 (.agg #[.iface kt ky, .slice sa sn sc, .iface 156 y]) k (([105, 102, 32] : List UInt8) ++ T ++ ([32] : List UInt8) ++ U ++ ([32, 101, 108, 115, 101, 32] : List UInt8) ++ Z) := by
  rcases hy with ⟨jt, jy, oa, on, oc, rfl⟩ | ⟨jt, jy, oa, on, oc, qt, qy, rfl⟩
  · exact Prj.if_elif0 g w0 kt ky sa sn sc k T U HV HB jt jy oa on oc Z HO
  · exact Prj.if_elif1 g w0 kt ky sa sn sc k T U HV HB jt jy oa on oc qt qy Z HO
def Prj.blT (b : Mill.Tr) (k : Nat) : List UInt8 := [123, 10] ++ (Pr.b b (Prj.gapB (k + 1))).data.toList ++ (Prj.gapB k).data.toList ++ [125]
set_option maxHeartbeats 4000000 in
theorem Prj.stnode_is (g : Nat) (w0 : World) (P : Nat → Prop) (d : Mill.Nd) (ks : List Mill.Tr) (us : List Value) (x : Value) (k : Nat) (hu : Mill.useR d = true) (hfit : Mill.fits d.kind d.op (ks.map (fun t => t.nd.kind)) = true) (hS : Mill.isS d.kind = true)
    (hI : Mill.Inner P w0 d us x) (hK : Mill.Kinded us (ks.map (fun t => t.nd.kind))) (hlen : us.length = ks.length)
    (hV : ∀ j (h : j < us.length) (h' : j < ks.length), Mill.isE ks[j].nd.kind = true → Prj.ValIs g w0 us[j] (Pr.e ks[j]).data.toList)
    (hB : ∀ j (h : j < us.length) (h' : j < ks.length) (S : Value), ks[j].nd.kind = 21 → us[j] = Mill.blV S → Prj.BlIs g w0 S k (Prj.blT ks[j] k))
    (hF : ∀ j (h : j < us.length) (h' : j < ks.length), ks[j].nd.kind = 12 → ∃ T y, (Pr.s ks[j] (Prj.gapB k)).data.toList = T ++ [10] ∧ us[j] = .iface 156 y ∧ Prj.IfForm y ∧ Prj.IfIs g w0 y k T) :
    ∃ A, (Pr.s (.node d ks) (Prj.gapB k)).data.toList = A ++ [10] ∧ Prj.StIs g w0 (.iface (Mill.ty d.kind) x) k A ∧ (d.kind = 12 → Prj.IfForm x ∧ Prj.IfIs g w0 x k A) := by
  obtain ⟨y10, y11, y12, y13, y14, y15, y16, y17, y18, y19, y20, y21⟩ := Prj.ty_lits2
  rw [Pr.s]
  obtain ⟨c, o, t, n, s, kk⟩ := d
  simp only at *
  have hc : c = 10 ∨ c = 11 ∨ c = 12 ∨ c = 13 ∨ c = 14 ∨ c = 15 ∨ c = 16 ∨ c = 17 ∨ c = 18 ∨ c = 19 ∨ c = 20 := by
    simp only [Mill.isS, Bool.and_eq_true, decide_eq_true_eq] at hS; omega
  rcases hc with rfl | rfl | rfl | rfl | rfl | rfl | rfl | rfl | rfl | rfl | rfl
  · obtain ⟨u, rfl, rfl⟩ : ∃ u, us = [u] ∧ x = .agg #[.string s, u] := by simpa [Mill.Inner] using hI
    have hs := Prj.nameOk_size (s := s) (by simpa [Mill.useR] using hu)
    obtain ⟨t0, rfl⟩ : ∃ t0, ks = [t0] := List.length_eq_one_iff.1 (by rw [← hlen]; rfl)
    have hE0 : Mill.isE t0.nd.kind = true := by simpa [Mill.fits, Mill.oneE] using hfit
    obtain ⟨k1, z1, _, _, _, rfl, _⟩ := Mill.us_at hK 0 u rfl
    have hV0 := hV 0 (by simp) (by simp) hE0
    rw [y10]
    refine ⟨(([108, 101, 116, 32] : List UInt8) ++ s.data.toList ++ ([32, 61, 32] : List UInt8) ++ (Pr.e t0).data.toList) ++ [59], by simp [Pr.mkS, Pr.es], Prj.stat_short g w0 _ _ (by decide) (by decide) k _ (fun w l hw hl hA => Prj.short_letNode g l hl w s (by omega) _ z1 _ (hV0.later hw) hA), fun h => by cases h⟩
  · obtain ⟨u, rfl, rfl⟩ : ∃ u, us = [u] ∧ x = .agg #[.string s, u] := by simpa [Mill.Inner] using hI
    have hs := Prj.nameOk_size (s := s) (by simpa [Mill.useR] using hu)
    obtain ⟨t0, rfl⟩ : ∃ t0, ks = [t0] := List.length_eq_one_iff.1 (by rw [← hlen]; rfl)
    have hE0 : Mill.isE t0.nd.kind = true := by simpa [Mill.fits, Mill.oneE] using hfit
    obtain ⟨k1, z1, _, _, _, rfl, _⟩ := Mill.us_at hK 0 u rfl
    have hV0 := hV 0 (by simp) (by simp) hE0
    rw [y11]
    refine ⟨(s.data.toList ++ ([32, 61, 32] : List UInt8) ++ (Pr.e t0).data.toList) ++ [59], by simp [Pr.mkS, Pr.es], Prj.stat_short g w0 _ _ (by decide) (by decide) k _ (fun w l hw hl hA => Prj.short_setNode g l hl w s (by omega) _ z1 _ (hV0.later hw) hA), fun h => by cases h⟩
  · rw [y12]
    have hI' : (∃ u S, us = [u, Mill.blV S] ∧ x = .agg #[u, S, .nilIface]) ∨ (∃ u S t y, us = [u, Mill.blV S, .iface t y] ∧ x = .agg #[u, S, .iface t y]) := by simpa [Mill.Inner] using hI
    rcases hI' with ⟨u, S, rfl, rfl⟩ | ⟨u, S, t1, y, rfl, rfl⟩
    · obtain ⟨a0, a1, rfl⟩ : ∃ a0 a1, ks = [a0, a1] := Prj.two (by rw [← hlen]; rfl)
      have hE : Mill.isE a0.nd.kind = true ∧ a1.nd.kind = 21 := by simpa [Mill.fits, Mill.ifK] using hfit
      obtain ⟨k1, z1, _, _, _, rfl, _⟩ := Mill.us_at hK 0 u rfl
      obtain ⟨sa, sn, sc, rfl⟩ := Mill.bl_slice hK 1 S rfl
      have hV0 := hV 0 (by simp) (by simp) hE.1
      have hB1 := hB 1 (by simp) (by simp) _ hE.2 rfl
      have hI0 := Prj.if_none g w0 _ z1 sa sn sc k _ _ hV0 hB1
      refine ⟨_, ?_, Prj.stat_if g w0 _ k _ (.inl ⟨_, _, _, _, _, rfl⟩) hI0, fun _ => ⟨.inl ⟨_, _, _, _, _, rfl⟩, hI0⟩⟩
      simp [Pr.mkS, Pr.es, Pr.bs, Prj.blT, Prj.gapB_succ]
    · obtain ⟨a0, a1, a2, rfl⟩ : ∃ a0 a1 a2, ks = [a0, a1, a2] := Prj.three (by rw [← hlen]; rfl)
      have hE : (Mill.isE a0.nd.kind = true ∧ a1.nd.kind = 21) ∧ (a2.nd.kind = 21 ∨ a2.nd.kind = 12) := by simpa [Mill.fits, Mill.ifK] using hfit
      obtain ⟨k1, z1, _, _, _, rfl, _⟩ := Mill.us_at hK 0 u rfl
      obtain ⟨sa, sn, sc, rfl⟩ := Mill.bl_slice hK 1 S rfl
      have hV0 := hV 0 (by simp) (by simp) hE.1.1
      have hB1 := hB 1 (by simp) (by simp) _ hE.1.2 rfl
      rcases hE.2 with h21 | h12
      · obtain ⟨k2, z2, _, _, hk2, he2, hf2⟩ := Mill.us_at hK 2 (.iface t1 y) rfl
        have hk21 : k2 = 21 := by simpa [h21] using hk2.symm
        subst hk21
        injection he2 with e1 e2
        subst e1 e2
        obtain ⟨oa, on, oc, rfl⟩ := hf2.1 rfl
        have hB2 := hB 2 (by simp) (by simp) _ h21 (show Value.iface (Mill.ty 21) _ = _ by rw [y21]; rfl)
        rw [y21]
        have hI0 := Prj.if_else g w0 _ z1 sa sn sc k _ _ hV0 hB1 oa on oc _ hB2
        refine ⟨_, ?_, Prj.stat_if g w0 _ k _ (.inr ⟨_, _, _, _, _, _, _, rfl⟩) hI0, fun _ => ⟨.inr ⟨_, _, _, _, _, _, _, rfl⟩, hI0⟩⟩
        simp [Pr.mkS, Pr.es, Pr.bs, Prj.blT, Prj.gapB_succ, h21]
      · obtain ⟨T2, y2, hT2, hu2, hf2, hi2⟩ := hF 2 (by simp) (by simp) h12
        injection hu2 with e1 e2
        subst e1 e2
        have hI0 := Prj.if_elif g w0 _ z1 sa sn sc k _ _ hV0 hB1 _ hf2 _ hi2
        refine ⟨_, ?_, Prj.stat_if g w0 _ k _ (.inr ⟨_, _, _, _, _, _, _, rfl⟩) hI0, fun _ => ⟨.inr ⟨_, _, _, _, _, _, _, rfl⟩, hI0⟩⟩
        have hT3 : (Pr.s a2 (Prj.gapB k)).data.toList = T2 ++ [10] := hT2
        simp [Pr.mkS, Pr.es, Pr.bs, Pr.ss, Prj.blT, Prj.gapB_succ, h12, hT3]
  · obtain ⟨u, S, rfl, rfl⟩ : ∃ u S, us = [u, Mill.blV S] ∧ x = .agg #[u, S] := by simpa [Mill.Inner] using hI
    obtain ⟨a0, a1, rfl⟩ : ∃ a0 a1, ks = [a0, a1] := Prj.two (by rw [← hlen]; rfl)
    have hE : Mill.isE a0.nd.kind = true ∧ a1.nd.kind = 21 := by simpa [Mill.fits, Mill.whileK] using hfit
    obtain ⟨k1, z1, _, _, _, rfl, _⟩ := Mill.us_at hK 0 u rfl
    obtain ⟨sa, sn, sc, rfl⟩ := Mill.bl_slice hK 1 S rfl
    have hV0 := hV 0 (by simp) (by simp) hE.1
    have hB1 := hB 1 (by simp) (by simp) _ hE.2 rfl
    rw [y13]
    refine ⟨_, ?_, Prj.stat_while g w0 _ z1 sa sn sc k _ _ hV0 hB1, fun h => by cases h⟩
    simp [Pr.mkS, Pr.es, Pr.bs, Prj.blT, Prj.gapB_succ]
  · obtain ⟨rfl, rfl⟩ : us = [] ∧ x = .agg #[] := by simpa [Mill.Inner] using hI
    rw [y14]
    refine ⟨([98, 114, 101, 97, 107] : List UInt8) ++ [59], by simp [Pr.mkS], Prj.stat_short g w0 _ _ (by decide) (by decide) k _ (fun w l hw hl hA => Prj.short_breakNode g l hl w hA), fun h => by cases h⟩
  · obtain ⟨rfl, rfl⟩ : us = [] ∧ x = .agg #[] := by simpa [Mill.Inner] using hI
    rw [y15]
    refine ⟨([99, 111, 110, 116, 105, 110, 117, 101] : List UInt8) ++ [59], by simp [Pr.mkS], Prj.stat_short g w0 _ _ (by decide) (by decide) k _ (fun w l hw hl hA => Prj.short_continueNode g l hl w hA), fun h => by cases h⟩
  · have hI' : (us = [] ∧ x = .agg #[.nilIface]) ∨ (∃ t y, us = [.iface t y] ∧ x = .agg #[.iface t y]) := by simpa [Mill.Inner] using hI
    rw [y16]
    rcases hI' with ⟨rfl, rfl⟩ | ⟨t1, y, rfl, rfl⟩
    · obtain rfl : ks = [] := List.eq_nil_of_length_eq_zero (by rw [← hlen]; rfl)
      refine ⟨([114, 101, 116, 117, 114, 110] : List UInt8) ++ [59], by simp [Pr.mkS], Prj.stat_short g w0 _ _ (by decide) (by decide) k _ (fun w l hw hl hA => Prj.short_returnNode0 g l hl w hA), fun h => by cases h⟩
    · obtain ⟨t0, rfl⟩ : ∃ t0, ks = [t0] := List.length_eq_one_iff.1 (by rw [← hlen]; rfl)
      have hE0 : Mill.isE t0.nd.kind = true := by simpa [Mill.fits] using hfit
      have hV0 := hV 0 (by simp) (by simp) hE0
      refine ⟨(([114, 101, 116, 117, 114, 110] : List UInt8) ++ ([32] : List UInt8) ++ (Pr.e t0).data.toList) ++ [59], by simp [Pr.mkS, Pr.es], Prj.stat_short g w0 _ _ (by decide) (by decide) k _ (fun w l hw hl hA => Prj.short_returnNode1 g l hl w _ y _ (hV0.later hw) hA), fun h => by cases h⟩
  · obtain ⟨u, rfl, rfl⟩ : ∃ u, us = [u] ∧ x = .agg #[u] := by simpa [Mill.Inner] using hI
    obtain ⟨t0, rfl⟩ : ∃ t0, ks = [t0] := List.length_eq_one_iff.1 (by rw [← hlen]; rfl)
    have hE0 : Mill.isE t0.nd.kind = true := by simpa [Mill.fits, Mill.oneE] using hfit
    obtain ⟨k1, z1, _, _, _, rfl, _⟩ := Mill.us_at hK 0 u rfl
    have hV0 := hV 0 (by simp) (by simp) hE0
    rw [y17]
    refine ⟨(([102, 97, 105, 108, 32] : List UInt8) ++ (Pr.e t0).data.toList) ++ [59], by simp [Pr.mkS, Pr.es], Prj.stat_short g w0 _ _ (by decide) (by decide) k _ (fun w l hw hl hA => Prj.short_failNode g l hl w _ z1 _ (hV0.later hw) hA), fun h => by cases h⟩
  · obtain ⟨u, v, rfl, rfl⟩ : ∃ u v, us = [u, v] ∧ x = .agg #[u, v] := by simpa [Mill.Inner] using hI
    obtain ⟨a0, a1, rfl⟩ : ∃ a0 a1, ks = [a0, a1] := Prj.two (by rw [← hlen]; rfl)
    have hE : Mill.isE a0.nd.kind = true ∧ Mill.isE a1.nd.kind = true := by simpa [Mill.fits] using hfit
    obtain ⟨k1, z1, _, _, _, rfl, _⟩ := Mill.us_at hK 0 u rfl
    obtain ⟨k2, z2, _, _, _, rfl, _⟩ := Mill.us_at hK 1 v rfl
    have hV0 := hV 0 (by simp) (by simp) hE.1
    have hV1 := hV 1 (by simp) (by simp) hE.2
    rw [y18]
    refine ⟨(([119, 114, 105, 116, 101, 32] : List UInt8) ++ Pr.joinL [Pr.e a0, Pr.e a1]) ++ [59], by simp [Pr.mkS, Pr.es, Pr.listT], Prj.stat_short g w0 _ _ (by decide) (by decide) k _ (fun w l hw hl hA => Prj.short_writeNode g l hl w _ _ z1 z2 (Pr.e a0) (Pr.e a1) (hV0.later hw) (hV1.later hw) hA), fun h => by cases h⟩
  · obtain ⟨u, rfl, rfl⟩ : ∃ u, us = [u] ∧ x = .agg #[u] := by simpa [Mill.Inner] using hI
    obtain ⟨t0, rfl⟩ : ∃ t0, ks = [t0] := List.length_eq_one_iff.1 (by rw [← hlen]; rfl)
    have hE0 : Mill.isE t0.nd.kind = true := by simpa [Mill.fits, Mill.oneE] using hfit
    obtain ⟨k1, z1, _, _, _, rfl, _⟩ := Mill.us_at hK 0 u rfl
    have hV0 := hV 0 (by simp) (by simp) hE0
    rw [y19]
    refine ⟨(([115, 97, 121, 32] : List UInt8) ++ (Pr.e t0).data.toList) ++ [59], by simp [Pr.mkS, Pr.es], Prj.stat_short g w0 _ _ (by decide) (by decide) k _ (fun w l hw hl hA => Prj.short_sayNode g l hl w _ z1 _ (hV0.later hw) hA), fun h => by cases h⟩
  · obtain ⟨nm, S, rfl, rfl⟩ : ∃ nm S, us = [.iface 134 (.agg #[.string nm, S])] ∧ x = .agg #[.string nm, S] := by simpa [Mill.Inner] using hI
    obtain ⟨t0, rfl⟩ : ∃ t0, ks = [t0] := List.length_eq_one_iff.1 (by rw [← hlen]; rfl)
    have h7 : t0.nd.kind = 7 := by simpa [Mill.fits, Mill.doK] using hfit
    have hE0 : Mill.isE t0.nd.kind = true := by rw [h7]; rfl
    obtain ⟨k2, z2, _, _, hk2, he2, hf2⟩ := Mill.us_at hK 0 _ rfl
    have hk21 : k2 = 7 := by simpa [h7] using hk2.symm
    subst hk21
    injection he2 with e1 e2
    obtain ⟨nm2, oa, on, oc, e3⟩ := hf2.2.1 rfl
    rw [e3] at e2
    injection e2 with e4
    have e6 : [Value.string nm, S] = [.string nm2, .slice oa on oc] := congrArg Array.toList e4
    have e5 : S = .slice oa on oc := by injection e6 with _ e7; injection e7
    subst e5
    have hV0 := hV 0 (by simp) (by simp) hE0
    rw [y20]
    refine ⟨(Pr.e t0).data.toList ++ [59], by simp [Pr.mkS, Pr.es], Prj.stat_short g w0 _ _ (by decide) (by decide) k _ (fun w l hw hl hA => Prj.short_doNode g l hl w nm oa on oc _ (hV0.later hw) hA), fun h => by cases h⟩
end Go.Proofs.YtkaoeoeloihigaaGreatDoor

namespace Go.Proofs.YtkaoeoeloihigaaGreatDoor
open Go.RowKit

theorem Prj.sT_of {T A : List UInt8} (h : T = A ++ [10]) : T.dropLast = A := by rw [h, List.dropLast_concat]
def Prj.sT (t : Mill.Tr) (k : Nat) : List UInt8 := (Pr.s t (Prj.gapB k)).data.toList.dropLast
theorem Prj.lines_cat (k : Nat) : ∀ (ts : List Mill.Tr), (∀ t ∈ ts, (Pr.s t (Prj.gapB k)).data.toList = Prj.sT t k ++ [10]) → Prj.linesL (Prj.gapB k).data.toList (ts.map (fun t => Prj.sT t k)) = Pr.catL (Prj.gapB k) (Pr.ss ts (Prj.gapB k))
  | [], _ => by simp [Prj.linesL, Pr.catL, Pr.ss]
  | t :: r, h => by
    have ih := Prj.lines_cat k r (fun t ht => h t (by simp [ht]))
    have h0 := h t (by simp)
    rw [Pr.ss]
    simp only [Prj.linesL, Pr.catL, List.map_cons, List.flatMap_cons] at ih ⊢
    rw [ih, h0]
    simp
/-- What is asked of a statement, and of a block. -/
def Prj.StGood (g : Nat) (w0 : World) (t : Mill.Tr) (v : Value) (k : Nat) : Prop := ∃ A, (Pr.s t (Prj.gapB k)).data.toList = A ++ [10] ∧ Prj.StIs g w0 v k A ∧ (t.nd.kind = 12 → ∃ x, v = .iface 156 x ∧ Prj.IfForm x ∧ Prj.IfIs g w0 x k A)
theorem Prj.st_all (g : Nat) (w0 : World) (P : Nat → Prop) (hP : ∀ k, P k → k < g) (hT : Prj.Tabs g w0) (hpow : ∀ w1, Below g w0 w1 → Lib.TabIs Tryz.prog w1 "internal/strconv.uint64pow10" .u64 Lib.pow10Tab) (n : Nat) :
    (∀ (t : Mill.Tr) (v : Value) (k : Nat), t.high < n → Pr.Good t → Mill.isS t.nd.kind = true → Mill.Rep P w0 t v → k + t.high ≤ 800 → Prj.StGood g w0 t v k) ∧
    (∀ (t : Mill.Tr) (S : Value) (k : Nat), t.high < n → Pr.Good t → t.nd.kind = 21 → Mill.Rep P w0 t (Mill.blV S) → k + t.high ≤ 800 → Prj.BlIs g w0 S k (Prj.blT t k)) := by
  induction n with
  | zero => exact ⟨fun t v k h => by omega, fun t S k h => by omega⟩
  | succ n ih =>
    obtain ⟨ihS, ihB⟩ := ih
    constructor
    · intro t v k hh hg hS hR hk
      obtain ⟨d, ks⟩ := t
      rw [Pr.Good] at hg
      rw [Mill.Rep] at hR
      obtain ⟨us, ⟨h1, h2, x, rfl, hI⟩, hK, h60, hlen, hR⟩ := hR
      have hl := Mill.Reps.len ks us hR
      rw [Mill.Tr.high] at hh hk
      have hkid : ∀ j (h : j < us.length) (h' : j < ks.length), Mill.Rep P w0 ks[j] us[j] ∧ ks[j].high < n ∧ ks[j].high + 1 ≤ Mill.Tr.highs ks ∧ Pr.Good ks[j] := fun j h h' => by
        obtain ⟨u, hu, hr⟩ := Mill.Reps.at ks us hR j h'
        rw [List.getElem?_eq_getElem h] at hu
        cases hu
        have hh2 := Mill.highs_at ks j h'
        exact ⟨hr, by omega, hh2, Pr.goods_mem ks hg.2.2.2 _ (List.getElem_mem h')⟩
      obtain ⟨A, hA1, hA2, hA3⟩ := Prj.stnode_is g w0 P d ks us x k hg.1 hg.2.1 hS hI hK hl
        (fun j h h' hE => Prj.val_is g w0 P hP hT hpow ks[j] us[j] (hkid j h h').2.2.2 hE (hkid j h h').1)
        (fun j h h' S h21 hu => by
          obtain ⟨hr, hn, hm, hgd⟩ := hkid j h h'
          rw [hu] at hr
          exact ihB ks[j] S k hn hgd h21 hr (by omega))
        (fun j h h' h12 => by
          obtain ⟨hr, hn, hm, hgd⟩ := hkid j h h'
          obtain ⟨T, hT1, _, hT3⟩ := ihS ks[j] us[j] k hn hgd (by rw [h12]; rfl) hr (by omega)
          obtain ⟨y, hy1, hy2, hy3⟩ := hT3 h12
          exact ⟨T, y, hT1, hy1, hy2, hy3⟩)
      refine ⟨A, hA1, hA2, fun h12 => ?_⟩
      have h12' : d.kind = 12 := h12
      obtain ⟨hf, hi⟩ := hA3 h12'
      exact ⟨x, by rw [h12']; rfl, hf, hi⟩
    · intro t S k hh hg h21 hR hk
      obtain ⟨d, ks⟩ := t
      rw [Pr.Good] at hg
      rw [Mill.Rep] at hR
      obtain ⟨us, ⟨h1, h2, x, hx, hI⟩, hK, h60, hlen, hR⟩ := hR
      have hl := Mill.Reps.len ks us hR
      have h21' : d.kind = 21 := h21
      rw [Mill.Tr.high] at hh hk
      obtain ⟨S2, hS2, rfl⟩ : ∃ S, Mill.Sl P w0 S us.length us ∧ x = .agg #[S] := by
        have := hI; simp only [Mill.Inner, h21'] at this; simpa using this
      have hSS : S = S2 := by
        unfold Mill.blV at hx
        injection hx with _ e2
        injection e2 with e3
        have e4 : [S] = [S2] := congrArg Array.toList e3
        injection e4
      subst hSS
      have hall : ∀ t ∈ ks, Mill.isS t.nd.kind = true := by
        have := hg.2.1
        rw [h21'] at this
        have h3 : (ks.map (fun t => t.nd.kind)).all Mill.isS = true := by simpa [Mill.fits] using this
        rw [List.all_map, List.all_eq_true] at h3
        exact h3
      have hst : ∀ j (h : j < us.length) (h' : j < ks.length), Prj.StGood g w0 ks[j] us[j] (k + 1) := fun j h h' => by
        obtain ⟨u, hu, hr⟩ := Mill.Reps.at ks us hR j h'
        rw [List.getElem?_eq_getElem h] at hu
        cases hu
        have hh2 := Mill.highs_at ks j h'
        exact ihS ks[j] us[j] (k + 1) (by omega) (Pr.goods_mem ks hg.2.2.2 _ (List.getElem_mem h')) (hall _ (List.getElem_mem h')) hr (by omega)
      have hlast : ∀ t ∈ ks, (Pr.s t (Prj.gapB (k + 1))).data.toList = Prj.sT t (k + 1) ++ [10] := fun t ht => by
        obtain ⟨j, hj, rfl⟩ := List.getElem_of_mem ht
        obtain ⟨A, hA1, _⟩ := hst j (by omega) hj
        unfold Prj.sT
        rw [Prj.sT_of hA1]; exact hA1
      have hb := Prj.block_any g w0 S us (ks.map (fun t => Prj.sT t (k + 1))) (by rw [List.length_map]; omega) (by omega) k (by omega) P hP hS2 (fun j h h' => by
        have hj : j < ks.length := by omega
        obtain ⟨A, hA1, hA2, _⟩ := hst j h hj
        have e : (ks.map (fun t => Prj.sT t (k + 1)))[j] = A := by rw [List.getElem_map]; exact Prj.sT_of hA1
        rw [e]; exact hA2)
      rw [Prj.lines_cat (k + 1) ks hlast] at hb
      have e : Prj.blT (.node d ks) k = [123, 10] ++ Pr.catL (Prj.gapB (k + 1)) (Pr.ss ks (Prj.gapB (k + 1))) ++ (Prj.gapB k).data.toList ++ [125] := by
        rw [Prj.blT, Pr.b, Pr.catB]
      rw [e]; exact hb
end Go.Proofs.YtkaoeoeloihigaaGreatDoor
