import Derived.Test.YtkaoeoeloihigaaGreatDoorWH
import Derived.Deep.RegionHeld3
namespace Go.Proofs.YtkaoeoeloihigaaGreatDoor
open Go.RowKit

set_option maxRecDepth 100000 in
set_option maxHeartbeats 2000000 in
theorem Prj.value_binNode (g : Nat) (l : List UInt8) (hl : l.length ≤ 20000000) (hf : ¬ 12000 < l.length) (w : World) (m : Nat) (hm : 1 ≤ m ∧ m ≤ 18) (kt jt : TypeId) (ky jy : Value) (T U : List UInt8) (HTb : Hid (Prj.Tabs g w)) (HK : Hid (Prj.OpIs g w (.iface kt ky) T)) (HJ : Hid (Prj.OpIs g w (.iface jt jy) U)) (HA : Hid (Prj.At g l w)) :
    Calls Tryz.prog 74 #[.pointer (some ⟨g, 0, none⟩), .iface 132 (.agg #[.int .i64 (m : Int), .iface kt ky, .iface jt jy])] w fun e w' => ∃ l', e = .returned (.tuple #[]) ∧ Prj.At g l' w' ∧ Prj.Adds l (T ++ ([32] ++ (Pr.binMark (m : Int)).data.toList ++ [32]) ++ U) l' ∧ Prj.Fr g w w' := by
  have hgw := HA.out.lt
  have hA0 := HA.out
  have ta0 : ∀ ww : World, _ := Tryz.ta_intNode 132 (.agg #[.int .i64 (m : Int), .iface kt ky, .iface jt jy])
  simp only [if_neg (show ¬ (132 = 122) by decide)] at ta0
  have ta1 : ∀ ww : World, _ := Tryz.ta_textNode 132 (.agg #[.int .i64 (m : Int), .iface kt ky, .iface jt jy])
  simp only [if_neg (show ¬ (132 = 124) by decide)] at ta1
  have ta2 : ∀ ww : World, _ := Tryz.ta_boolNode 132 (.agg #[.int .i64 (m : Int), .iface kt ky, .iface jt jy])
  simp only [if_neg (show ¬ (132 = 126) by decide)] at ta2
  have ta3 : ∀ ww : World, _ := Tryz.ta_nameNode 132 (.agg #[.int .i64 (m : Int), .iface kt ky, .iface jt jy])
  simp only [if_neg (show ¬ (132 = 128) by decide)] at ta3
  have ta4 : ∀ ww : World, _ := Tryz.ta_unNode 132 (.agg #[.int .i64 (m : Int), .iface kt ky, .iface jt jy])
  simp only [if_neg (show ¬ (132 = 130) by decide)] at ta4
  have ta5 : ∀ ww : World, _ := Tryz.ta_binNode 132 (.agg #[.int .i64 (m : Int), .iface kt ky, .iface jt jy])
  simp only [if_true] at ta5
  have hz1 := Pr.binMark_size (m : Int)
  have hb1 : (m : Int) < 19 := by omega
  obtain ⟨V, HVV⟩ : ∃ V, Hid (T ++ ([32] ++ (Pr.binMark (m : Int)).data.toList ++ [32]) ++ U = V) := ⟨T ++ ([32] ++ (Pr.binMark (m : Int)).data.toList ++ [32]) ++ U, (rfl : T ++ ([32] ++ (Pr.binMark (m : Int)).data.toList ++ [32]) ++ U = _)⟩
  rw [HVV.out]
  go_enter Tryz.func74, Tryz.ntmps74
  go_wp2_with (first
    | (go_at_call 16; refine (Prj.full_b false g l (by omega) (decide_eq_false hf) _ hA0).mono ?_; rintro e w1 ⟨rfl, rfl⟩)
    | (go_at_call 92; refine (HK.out _ l (Prj.Fr.alloc1 (Prj.Fr.refl g w) hgw _).1 hl (HA.out.alloc _)).mono ?_; rintro e w2 ⟨l2, rfl, hA2, hD2, hF2⟩
       have hk2 := hF2.keep (Val.new_at w _) (by omega) (by decide)
       have c0 : w2.cell? ⟨w.heap.size, 0, none⟩ = some (.int .i64 (m : Int)) := (by rw [Lib.cell_of_heap hk2]; rfl)
       have hG2 := (Prj.Fr.alloc1 (Prj.Fr.refl g w) hgw _).trans hF2
       have hcu := (HTb.out.below hG2.1).bin m hm.1 hm.2))
  refine (Prj.put3_any g l2 hD2.2.2.2 ⟨#[32]⟩ (Pr.binMark (m : Int)) ⟨#[32]⟩ (by decide) (by omega) (by decide) w2 hA2).mono ?_
  rintro e w3 ⟨l3, rfl, hA3, hD3, hF3⟩
  have hk3 := hF3.keep hk2 (by omega) (by decide)
  have c2 : w3.cell? ⟨w.heap.size, 2, none⟩ = some (.iface jt jy) := by rw [Lib.cell_of_heap hk3]; rfl
  have hG3 := hG2.trans hF3
  go_wp2_with (go_at_call 92; refine (HJ.out _ l3 hG3.1 hD3.2.2.2 hA3).mono ?_; rintro e w4 ⟨l4, rfl, hA4, hD4, hF4⟩)
  go_end0
  exact ⟨l4, rfl, hA4, ((hD2.trans hD3).trans hD4).eq HVV.out, hG3.trans hF4⟩
set_option maxRecDepth 100000 in
set_option maxHeartbeats 2000000 in
theorem Prj.value_builtNode (g : Nat) (l : List UInt8) (hl : l.length ≤ 20000000) (hf : ¬ 12000 < l.length) (w : World) (m : Nat) (hm : 1 ≤ m ∧ m ≤ 12) (sa : Option Addr) (sn sc : Nat) (T : List UInt8) (HTb : Hid (Prj.Tabs g w)) (HC : Hid (∀ w1 : World, Prj.Fr g w w1 → Prj.At g l w1 → Calls Tryz.prog 93 #[.pointer (some ⟨g, 0, none⟩), .string (Mill.builtWord (m : Int)), .slice sa sn sc] w1 fun e w' => ∃ l', e = .returned (.tuple #[]) ∧ Prj.At g l' w' ∧ Prj.Adds l T l' ∧ Prj.Fr g w1 w')) (HA : Hid (Prj.At g l w)) :
    Calls Tryz.prog 74 #[.pointer (some ⟨g, 0, none⟩), .iface 139 (.agg #[.int .i64 (m : Int), .slice sa sn sc])] w fun e w' => ∃ l', e = .returned (.tuple #[]) ∧ Prj.At g l' w' ∧ Prj.Adds l (T) l' ∧ Prj.Fr g w w' := by
  have hgw := HA.out.lt
  have hA0 := HA.out
  have ta0 : ∀ ww : World, _ := Tryz.ta_intNode 139 (.agg #[.int .i64 (m : Int), .slice sa sn sc])
  simp only [if_neg (show ¬ (139 = 122) by decide)] at ta0
  have ta1 : ∀ ww : World, _ := Tryz.ta_textNode 139 (.agg #[.int .i64 (m : Int), .slice sa sn sc])
  simp only [if_neg (show ¬ (139 = 124) by decide)] at ta1
  have ta2 : ∀ ww : World, _ := Tryz.ta_boolNode 139 (.agg #[.int .i64 (m : Int), .slice sa sn sc])
  simp only [if_neg (show ¬ (139 = 126) by decide)] at ta2
  have ta3 : ∀ ww : World, _ := Tryz.ta_nameNode 139 (.agg #[.int .i64 (m : Int), .slice sa sn sc])
  simp only [if_neg (show ¬ (139 = 128) by decide)] at ta3
  have ta4 : ∀ ww : World, _ := Tryz.ta_unNode 139 (.agg #[.int .i64 (m : Int), .slice sa sn sc])
  simp only [if_neg (show ¬ (139 = 130) by decide)] at ta4
  have ta5 : ∀ ww : World, _ := Tryz.ta_binNode 139 (.agg #[.int .i64 (m : Int), .slice sa sn sc])
  simp only [if_neg (show ¬ (139 = 132) by decide)] at ta5
  have ta6 : ∀ ww : World, _ := Tryz.ta_callNode 139 (.agg #[.int .i64 (m : Int), .slice sa sn sc])
  simp only [if_neg (show ¬ (139 = 134) by decide)] at ta6
  have ta7 : ∀ ww : World, _ := Tryz.ta_builtNode 139 (.agg #[.int .i64 (m : Int), .slice sa sn sc])
  simp only [if_true] at ta7
  have hW1 : ∀ ob : Obj, Below g w (w.alloc ob) := fun ob => (Below.refl _ w).alloc (by omega) ob
  have hcu : ∀ ob : Obj, (w.alloc ob).cell? ⟨2, m * 2, none⟩ = some (.string (Mill.builtWord (m : Int))) := fun ob => (HTb.out.below (hW1 ob)).built m hm.1 hm.2
  have hb1 : (m : Int) < 13 := by omega
  go_enter Tryz.func74, Tryz.ntmps74
  have hk0 : (w.alloc (.cells #[.int .i64 (m : Int), .slice sa sn sc] 139)).drew.heap[w.heap.size]? = some (.cells #[.int .i64 (m : Int), .slice sa sn sc] 139 (0, 0)) := Val.new_at w _
  have d0 : (w.alloc (.cells #[.int .i64 (m : Int), .slice sa sn sc] 139)).drew.cell? ⟨w.heap.size, 0, none⟩ = some (.int .i64 (m : Int)) := by rw [Lib.cell_of_heap hk0]; rfl
  have d1 : (w.alloc (.cells #[.int .i64 (m : Int), .slice sa sn sc] 139)).drew.cell? ⟨w.heap.size, 1, none⟩ = some (.slice sa sn sc) := by rw [Lib.cell_of_heap hk0]; rfl
  have d2 : (w.alloc (.cells #[.int .i64 (m : Int), .slice sa sn sc] 139)).drew.cell? ⟨2, m * 2, none⟩ = some (.string (Mill.builtWord (m : Int))) := hcu _
  have hG1 : Prj.Fr g w (w.alloc (.cells #[.int .i64 (m : Int), .slice sa sn sc] 139)).drew := ⟨(Prj.Fr.alloc1 (Prj.Fr.refl g w) hgw _).1.drew, (Prj.Fr.alloc1 (Prj.Fr.refl g w) hgw _).2.drew⟩
  have hAd : Prj.At g l (w.alloc (.cells #[.int .i64 (m : Int), .slice sa sn sc] 139)).drew := (HA.out.alloc _).below (Below.refl _ _).drew
  go_wp2_with (go_at_call 16; refine (Prj.full_b false g l (by omega) (decide_eq_false hf) _ hA0).mono ?_; rintro e w1 ⟨rfl, rfl⟩)
  go_region_held3 (fun w' => w'.cell? ⟨w.heap.size, 0, none⟩ = some (.int .i64 (m : Int)) ∧ w'.cell? ⟨w.heap.size, 1, none⟩ = some (.slice sa sn sc) ∧ w'.cell? ⟨2, m * 2, none⟩ = some (.string (Mill.builtWord (m : Int)))) (with_reducible first | exact ⟨d0, d1, d2⟩ | exact ⟨e0, e1, e2⟩) (first
    | (go_at_call 93; refine (HC.out _ hG1 hAd).mono ?_; rintro e w2 ⟨l2, rfl, hA2, hD2, hF2⟩; have hk2 := hF2.keep hk0 (by omega) (by decide); have e0 : w2.cell? ⟨w.heap.size, 0, none⟩ = some (.int .i64 (m : Int)) := (by rw [Lib.cell_of_heap hk2]; rfl); have e1 : w2.cell? ⟨w.heap.size, 1, none⟩ = some (.slice sa sn sc) := (by rw [Lib.cell_of_heap hk2]; rfl); have e2 := (HTb.out.below (hG1.trans hF2).1).built m hm.1 hm.2))
  go_wp2
  go_end0
  exact ⟨l2, rfl, hA2, hD2, hG1.trans hF2⟩
end Go.Proofs.YtkaoeoeloihigaaGreatDoor

namespace Go.Proofs.YtkaoeoeloihigaaGreatDoor
open Go.RowKit

def Prj.boolT (b : Bool) : ByteArray := if b = true then ⟨#[116, 114, 117, 101]⟩ else ⟨#[102, 97, 108, 115, 101]⟩
theorem Prj.formatBool_in (b : Bool) (w : World) : Calls Tryz.prog 102 #[.bool b] w fun e w' => e = .returned (.string (Prj.boolT b)) ∧ w = w' := by
  cases b
  all_goals
    go_enter Tryz.func102, Tryz.ntmps102
    go_wp2
    go_ret
    exact ⟨rfl, rfl⟩
theorem Prj.formatBool (b : Bool) (w : World) : Calls Tryz.prog 91 #[.bool b] w fun e w' => e = .returned (.string (Prj.boolT b)) ∧ w = w' := by
  go_enter Tryz.func91, Tryz.ntmps91
  go_wp2_with (go_at_call 102; refine (Prj.formatBool_in b _).mono ?_; rintro e w' ⟨rfl, rfl⟩)
  go_ret
  exact ⟨rfl, rfl⟩
set_option maxRecDepth 100000 in
set_option maxHeartbeats 2000000 in
theorem Prj.value_boolNode (g : Nat) (l : List UInt8) (hl : l.length ≤ 20000000) (hf : ¬ 12000 < l.length) (b : Bool) (w : World) (HA : Hid (Prj.At g l w)) :
    Calls Tryz.prog 74 #[.pointer (some ⟨g, 0, none⟩), .iface 126 (.agg #[.bool b])] w fun e w' => ∃ l', e = .returned (.tuple #[]) ∧ Prj.At g l' w' ∧ Prj.Adds l ((Prj.boolT b).data.toList) l' ∧ Prj.Fr g w w' := by
  have hgw := HA.out.lt
  have hA0 := HA.out
  have ta0 : ∀ ww : World, _ := Tryz.ta_intNode 126 (.agg #[.bool b])
  simp only [if_neg (show ¬ (126 = 122) by decide)] at ta0
  have ta1 : ∀ ww : World, _ := Tryz.ta_textNode 126 (.agg #[.bool b])
  simp only [if_neg (show ¬ (126 = 124) by decide)] at ta1
  have ta2 : ∀ ww : World, _ := Tryz.ta_boolNode 126 (.agg #[.bool b])
  simp only [if_true] at ta2
  go_enter Tryz.func74, Tryz.ntmps74
  go_wp2_with (first
    | (go_at_call 16; refine (Prj.full_b false g l (by omega) (decide_eq_false hf) _ hA0).mono ?_; rintro e w1 ⟨rfl, rfl⟩)
    | (go_at_call 91; refine (Prj.formatBool b _).mono ?_; rintro e w3 ⟨rfl, rfl⟩)
    | (go_at_call 31; refine (Prj.put1_at g l hl _ (by cases b <;> decide) (w.alloc _) (w.heap.size + 1) (by simp) (HA.out.alloc _)).mono ?_; rintro e w2 ⟨l2, rfl, hA2, hD2, hF2⟩))
  go_end0
  exact ⟨l2, rfl, hA2, hD2, (Prj.Fr.alloc1 (Prj.Fr.refl g w) hgw _).trans hF2⟩
set_option maxRecDepth 100000 in
set_option maxHeartbeats 2000000 in
theorem Prj.value_convNode (g : Nat) (l : List UInt8) (hl : l.length ≤ 20000000) (hf : ¬ 12000 < l.length) (w : World) (m : Nat) (hm : m ≤ 10) (kt : TypeId) (ky : Value) (T : List UInt8) (HTb : Hid (Prj.Tabs g w)) (HC : Hid (∀ (w1 : World) (v : Value), Prj.Fr g w w1 → Prj.At g l w1 → Prj.RowSt g w1 v [.iface kt ky] → Calls Tryz.prog 93 #[.pointer (some ⟨g, 0, none⟩), .string (Mill.typeWord (m : Int)), v] w1 fun e w' => ∃ l', e = .returned (.tuple #[]) ∧ Prj.At g l' w' ∧ Prj.Adds l T l' ∧ Prj.Fr g w1 w')) (HA : Hid (Prj.At g l w)) :
    Calls Tryz.prog 74 #[.pointer (some ⟨g, 0, none⟩), .iface 141 (.agg #[.int .i64 (m : Int), .iface kt ky])] w fun e w' => ∃ l', e = .returned (.tuple #[]) ∧ Prj.At g l' w' ∧ Prj.Adds l (T) l' ∧ Prj.Fr g w w' := by
  have hgw := HA.out.lt
  have hA0 := HA.out
  have ta0 : ∀ ww : World, _ := Tryz.ta_intNode 141 (.agg #[.int .i64 (m : Int), .iface kt ky])
  simp only [if_neg (show ¬ (141 = 122) by decide)] at ta0
  have ta1 : ∀ ww : World, _ := Tryz.ta_textNode 141 (.agg #[.int .i64 (m : Int), .iface kt ky])
  simp only [if_neg (show ¬ (141 = 124) by decide)] at ta1
  have ta2 : ∀ ww : World, _ := Tryz.ta_boolNode 141 (.agg #[.int .i64 (m : Int), .iface kt ky])
  simp only [if_neg (show ¬ (141 = 126) by decide)] at ta2
  have ta3 : ∀ ww : World, _ := Tryz.ta_nameNode 141 (.agg #[.int .i64 (m : Int), .iface kt ky])
  simp only [if_neg (show ¬ (141 = 128) by decide)] at ta3
  have ta4 : ∀ ww : World, _ := Tryz.ta_unNode 141 (.agg #[.int .i64 (m : Int), .iface kt ky])
  simp only [if_neg (show ¬ (141 = 130) by decide)] at ta4
  have ta5 : ∀ ww : World, _ := Tryz.ta_binNode 141 (.agg #[.int .i64 (m : Int), .iface kt ky])
  simp only [if_neg (show ¬ (141 = 132) by decide)] at ta5
  have ta6 : ∀ ww : World, _ := Tryz.ta_callNode 141 (.agg #[.int .i64 (m : Int), .iface kt ky])
  simp only [if_neg (show ¬ (141 = 134) by decide)] at ta6
  have ta7 : ∀ ww : World, _ := Tryz.ta_builtNode 141 (.agg #[.int .i64 (m : Int), .iface kt ky])
  simp only [if_neg (show ¬ (141 = 139) by decide)] at ta7
  have ta8 : ∀ ww : World, _ := Tryz.ta_convNode 141 (.agg #[.int .i64 (m : Int), .iface kt ky])
  simp only [if_true] at ta8
  have hb1 : (m : Int) < 11 := by omega
  go_enter Tryz.func74, Tryz.ntmps74
  have hk0 : (w.alloc (.cells #[.int .i64 (m : Int), .iface kt ky] 141)).drew.heap[w.heap.size]? = some (.cells #[.int .i64 (m : Int), .iface kt ky] 141 (0, 0)) := Val.new_at w _
  have hG1 : Prj.Fr g w (w.alloc (.cells #[.int .i64 (m : Int), .iface kt ky] 141)).drew := ⟨(Prj.Fr.alloc1 (Prj.Fr.refl g w) hgw _).1.drew, (Prj.Fr.alloc1 (Prj.Fr.refl g w) hgw _).2.drew⟩
  have hAd : Prj.At g l (w.alloc (.cells #[.int .i64 (m : Int), .iface kt ky] 141)).drew := (HA.out.alloc _).below (Below.refl _ _).drew
  have d0 : (w.alloc (.cells #[.int .i64 (m : Int), .iface kt ky] 141)).drew.cell? ⟨w.heap.size, 0, none⟩ = some (.int .i64 (m : Int)) := by rw [Lib.cell_of_heap hk0]; rfl
  have d1 : (w.alloc (.cells #[.int .i64 (m : Int), .iface kt ky] 141)).drew.cell? ⟨w.heap.size, 1, none⟩ = some (.iface kt ky) := by rw [Lib.cell_of_heap hk0]; rfl
  have d2 := (HTb.out.below hG1.1).type m hm
  have hG2 : Prj.Fr g w ((w.alloc (.cells #[.int .i64 (m : Int), .iface kt ky] 141)).alloc (.cells #[.iface kt ky] 77)).drew := hG1.alloc1 hgw _
  have hA2 : Prj.At g l ((w.alloc (.cells #[.int .i64 (m : Int), .iface kt ky] 141)).alloc (.cells #[.iface kt ky] 77)).drew := hAd.alloc _
  have hsz : (w.alloc (.cells #[.int .i64 (m : Int), .iface kt ky] 141)).drew.heap.size = w.heap.size + 1 := by simp
  have hk2 : ((w.alloc (.cells #[.int .i64 (m : Int), .iface kt ky] 141)).alloc (.cells #[.iface kt ky] 77)).drew.heap[w.heap.size]? = some (.cells #[.int .i64 (m : Int), .iface kt ky] 141 (0, 0)) := (Prj.Fr.alloc1 (Prj.Fr.refl g (w.alloc (.cells #[.int .i64 (m : Int), .iface kt ky] 141)).drew) (by rw [hsz]; omega) _).keep hk0 (by omega) (by decide)
  have hn2 : ((w.alloc (.cells #[.int .i64 (m : Int), .iface kt ky] 141)).alloc (.cells #[.iface kt ky] 77)).drew.heap[w.heap.size + 1]? = some (.cells #[.iface kt ky] 77 (0, 0)) := by rw [← hsz]; exact Val.new_at (w.alloc (.cells #[.int .i64 (m : Int), .iface kt ky] 141)).drew (.cells #[.iface kt ky] 77)
  have f0 : ((w.alloc (.cells #[.int .i64 (m : Int), .iface kt ky] 141)).alloc (.cells #[.iface kt ky] 77)).drew.cell? ⟨w.heap.size, 0, none⟩ = some (.int .i64 (m : Int)) := by rw [Lib.cell_of_heap hk2]; rfl
  have f1 : ((w.alloc (.cells #[.int .i64 (m : Int), .iface kt ky] 141)).alloc (.cells #[.iface kt ky] 77)).drew.cell? ⟨w.heap.size, 1, none⟩ = some (.iface kt ky) := by rw [Lib.cell_of_heap hk2]; rfl
  have f2 := (HTb.out.below hG2.1).type m hm
  have hR : Prj.RowSt g ((w.alloc (.cells #[.int .i64 (m : Int), .iface kt ky] 141)).alloc (.cells #[.iface kt ky] 77)).drew (.slice (some ⟨w.heap.size + 1, 0, none⟩) 1 1) [.iface kt ky] := ⟨_, _, rfl, fun j hj => by
    have hj0 : j = 0 := by simp at hj; exact hj
    subst hj0
    refine ⟨w.heap.size + 1, 0, rfl, fun w' hF => ?_⟩
    have hk' := hF.keep hn2 (by omega) (by decide)
    rw [Lib.cell_of_heap hk']; rfl⟩
  go_wp2_with (go_at_call 16; refine (Prj.full_b false g l (by omega) (decide_eq_false hf) _ hA0).mono ?_; rintro e w1 ⟨rfl, rfl⟩)
  go_region_held3 (fun w' => w'.cell? ⟨w.heap.size, 0, none⟩ = some (.int .i64 (m : Int)) ∧ w'.cell? ⟨w.heap.size, 1, none⟩ = some (.iface kt ky) ∧ w'.cell? ⟨0, m, none⟩ = some (.string (Mill.typeWord (m : Int)))) (with_reducible first | exact ⟨d0, d1, d2⟩ | exact ⟨f0, f1, f2⟩ | exact ⟨e0, e1, e2⟩) (first
    | (go_at_call 93; refine (HC.out _ _ hG2 hA2 hR).mono ?_; rintro e w2 ⟨l2, rfl, hA3, hD2, hF2⟩; have hk3 := hF2.keep hk2 (by omega) (by decide); have e0 : w2.cell? ⟨w.heap.size, 0, none⟩ = some (.int .i64 (m : Int)) := (by rw [Lib.cell_of_heap hk3]; rfl); have e1 : w2.cell? ⟨w.heap.size, 1, none⟩ = some (.iface kt ky) := (by rw [Lib.cell_of_heap hk3]; rfl); have e2 := (HTb.out.below (hG2.trans hF2).1).type m hm))
  go_wp2
  go_end0
  exact ⟨l2, rfl, hA3, hD2, hG2.trans hF2⟩
end Go.Proofs.YtkaoeoeloihigaaGreatDoor
