import Derived.Test.YtkaoeoeloihigaaGreatDoorWI
import Derived.Test.YtkaoeoeloihigaaGreatDoorPrjS
import Derived.Lib.LaidTab
import Derived.Lib.AppendIntMem
import Derived.Lib.AtoiErrMem
import Derived.Lib.ItoaMem
namespace Go.Proofs.YtkaoeoeloihigaaGreatDoor
open Go.RowKit

set_option maxRecDepth 100000 in
theorem Prj.intFormatUint_any (u : Nat) (hu64 : u < 18446744073709551616) (w : World) (htab : Lib.TabIs Tryz.prog w "internal/strconv.uint64pow10" .u64 Lib.pow10Tab) :
    Calls Tryz.prog 100 #[.int .u64 (u : Int), .int .i64 10] w fun e w' => e = .returned (.string ⟨(Lib.decDigits u).toArray⟩) ∧ Below w.heap.size w w' := by
  by_cases hs : u < 100
  · go_enter Tryz.func100, Tryz.ntmps100
    go_wp2_with (go_at_call 104; refine (Tryz.internal_strconv_small u hs _).mono ?_; rintro e w' ⟨rfl, rfl⟩)
    go_ret
    exact ⟨rfl, Below.refl _ _⟩
  · have hu1 : 1 ≤ u := by omega
    have hnd20 : Lib.nDigits u ≤ 20 := by have := Lib.numDigits_eq u hu1 hu64; split at this <;> omega
    have hb3 : Lib.nDigits u ≤ 23 := by omega
    have hal : Tryz.prog.arrayLen 193 = 24 := by simp [Program.arrayLen, Tryz.underlying193]
    have hsl1 : ∀ W, (Instr.sliceAt 193 (.pointer (some ⟨w.heap.size, 0, none⟩)) none (some (.int .i64 (Lib.nDigits u : Int))) none).run Tryz.prog W = .ok (.slice (some ⟨w.heap.size, 0, none⟩) (Lib.nDigits u) 24) W := fun W => by
      rw [run_sliceAt_array_h W 193 ⟨w.heap.size, 0, none⟩ (by simp [Program.arrayLen, Program.elem, Tryz.underlying193]) .i64 (Lib.nDigits u : Int) (by omega) (by rw [hal]; omega)]
      go_simp
    have hH0 := Lib.holds_zero0 w 193 (Lib.nDigits u) (by omega)
    have hfmt := Tryz.internal_strconv_formatBase10 w.heap.size 0 24 u (Array.replicate (Lib.nDigits u) 0) (w.alloc (.cells Lib.zeros24 193)) hH0 (by rw [Array.size_replicate]; exact Lib.lt_pow_nDigits u) hu64 (by rw [Array.size_replicate]; omega)
    rw [Array.size_replicate] at hfmt
    have HH0 := Lib.hid hH0
    clear hH0 hal
    go_enter Tryz.func100, Tryz.ntmps100
    go_wp2_with (first | (go_at_call 105; refine (Tryz.internal_strconv_numDigits u hu1 hu64 _ (Lib.tabIs_alloc htab _)).mono ?_; rintro e w' ⟨rfl, rfl⟩))
    go_at_call 106
    refine hfmt.mono ?_
    rintro e w' ⟨rfl, k, v', dk, rfl, hF⟩
    have hcv : (Go.convert 41 9 (.slice (some ⟨w.heap.size, 0, none⟩) (Lib.nDigits u) 24)).run Tryz.prog ((Sort.putRow (fun (b : UInt8) => Value.int .u8 (b.toNat : Int)) (w.alloc (.cells Lib.zeros24 193)) w.heap.size 0 dk).drewN k) = .ok (.string ⟨(Lib.decDigits u).toArray⟩) ((Sort.putRow (fun (b : UInt8) => Value.int .u8 (b.toNat : Int)) (w.alloc (.cells Lib.zeros24 193)) w.heap.size 0 dk).drewN k) := by
      have h := run_convert_bytes_back (P := Tryz.prog) ((Sort.putRow (fun (b : UInt8) => Value.int .u8 (b.toNat : Int)) (w.alloc (.cells Lib.zeros24 193)) w.heap.size 0 dk).drewN k) 41 9 5 ⟨w.heap.size, 0, none⟩ 24 (Lib.decDigits u) Tryz.underlying41 Tryz.underlying5 Tryz.underlying9 (fun j hj => by
        rw [Lib.add_plain, Lib.row_is_numeral hF j hj, World.cell?_drewN]
        exact Sort.cell?_putRow (fun (b : UInt8) => Value.int .u8 (b.toNat : Int)) _ w.heap.size 0 _ dk HH0.out (by rw [hF.size, Array.size_replicate]) j (by rw [hF.size]; rw [Lib.decDigits_length] at hj; exact hj))
      rw [Lib.decDigits_length] at h
      exact h
    go_wp2
    go_ret
    obtain ⟨os, eo⟩ := Lib.fin_at w (.cells Lib.zeros24 193) dk k 0
    refine ⟨rfl, ?_⟩
    show Below w.heap.size w ((Sort.putRow (fun (b : UInt8) => Value.int .u8 (b.toNat : Int)) (w.alloc (.cells Lib.zeros24 193)) w.heap.size 0 dk).drewN k)
    rw [eo]
    exact Lib.below_grow _ w (Nat.le_refl _) k os
theorem Prj.formatUint (x : Int) (h0 : 0 ≤ x) (h1 : x < 18446744073709551616) (w : World) (htab : Lib.TabIs Tryz.prog w "internal/strconv.uint64pow10" .u64 Lib.pow10Tab) :
    Calls Tryz.prog 89 #[.int .u64 x, .int .i64 10] w fun e w' => e = .returned (.string ⟨(Lib.decDigits x.toNat).toArray⟩) ∧ Below w.heap.size w w' := by
  have HC : Hid (Calls Tryz.prog 100 #[.int .u64 x, .int .i64 10] w fun e w' => e = .returned (.string ⟨(Lib.decDigits x.toNat).toArray⟩) ∧ Below w.heap.size w w') := by
    have := Prj.intFormatUint_any x.toNat (by omega) w htab
    rw [show ((x.toNat : Nat) : Int) = x by omega] at this
    exact this
  go_enter Tryz.func89, Tryz.ntmps89
  go_wp2_with (go_at_call 100; refine HC.out.mono ?_; rintro e w' ⟨rfl, hb⟩)
  go_ret
  exact ⟨rfl, hb⟩
end Go.Proofs.YtkaoeoeloihigaaGreatDoor

namespace Go.Proofs.YtkaoeoeloihigaaGreatDoor
open Go.RowKit

set_option maxRecDepth 100000 in
set_option maxHeartbeats 2000000 in
theorem Prj.value_int10 (g : Nat) (l : List UInt8) (hl : l.length ≤ 20000000) (hf : ¬ 12000 < l.length) (w : World) (m : Nat) (hm : m ≤ 10) (n : Int) (hm10 : (m : Int) = 10) (HTb : Hid (Prj.Tabs g w)) (HP : Hid (∀ w1 : World, Below g w w1 → Lib.TabIs Tryz.prog w1 "internal/strconv.uint64pow10" .u64 Lib.pow10Tab)) (HA : Hid (Prj.At g l w)) :
    Calls Tryz.prog 74 #[.pointer (some ⟨g, 0, none⟩), .iface 122 (.agg #[.int .i64 (m : Int), .int .i64 n])] w fun e w' => ∃ l', e = .returned (.tuple #[]) ∧ Prj.At g l' w' ∧ Prj.Adds l ((Pr.decT n).data.toList) l' ∧ Prj.Fr g w w' := by
  have hgw := HA.out.lt
  have hA0 := HA.out
  have ta0 : ∀ ww : World, _ := Tryz.ta_intNode 122 (.agg #[.int .i64 (m : Int), .int .i64 n])
  simp only [if_true] at ta0
  have hne : ((m : Int) != 10) = false := by simp [hm10]
  clear hm10
  have hzd := Pr.decT_size n
  have hw : IntKind.u64.wrap n = n % 18446744073709551616 := Val.wrap_u _
  have hk0 : (w.alloc (.cells #[.int .i64 (m : Int), .int .i64 n] 122)).heap[w.heap.size]? = some (.cells #[.int .i64 (m : Int), .int .i64 n] 122 (0, 0)) := Val.new_at w _
  have hG1 : Prj.Fr g w (w.alloc (.cells #[.int .i64 (m : Int), .int .i64 n] 122)) := (Prj.Fr.alloc1 (Prj.Fr.refl g w) hgw _)
  have hAd : Prj.At g l (w.alloc (.cells #[.int .i64 (m : Int), .int .i64 n] 122)) := HA.out.alloc _
  have hfu : Hid (Calls Tryz.prog 89 #[.int .u64 (n % 18446744073709551616), .int .i64 10] (w.alloc (.cells #[.int .i64 (m : Int), .int .i64 n] 122)) fun e w' => e = .returned (.string (Pr.decT n)) ∧ Below (w.alloc (.cells #[.int .i64 (m : Int), .int .i64 n] 122)).heap.size (w.alloc (.cells #[.int .i64 (m : Int), .int .i64 n] 122)) w') := Prj.formatUint _ (by omega) (by omega) _ (HP.out _ hG1.1)
  go_enter Tryz.func74, Tryz.ntmps74
  go_wp2_with (first
    | (go_at_call 16; refine (Prj.full_b false g l (by omega) (decide_eq_false hf) _ hA0).mono ?_; rintro e w1 ⟨rfl, rfl⟩)
    | (go_at_call 89; refine hfu.out.mono ?_; rintro e w3 ⟨rfl, hb3⟩
       have hA3 : Prj.At g l w3 := hAd.below hb3
       have hG3 : Prj.Fr g w w3 := hG1.below (by omega) hb3
       have hk3 : w3.heap[w.heap.size]? = some (.cells #[.int .i64 (m : Int), .int .i64 n] 122 (0, 0)) := (hb3.block w.heap.size (by simp)).trans hk0)
    | (go_at_call 31; (with_reducible refine (Prj.put1_at g l hl (Pr.decT n) (by omega) w3 w3.heap.size rfl hA3).mono ?_); rintro e w2 ⟨l2, rfl, hA2, hD2, hF2⟩
       have hk2 := hF2.keep hk3 (by omega) (by decide)
       have c0 : w2.cell? ⟨w.heap.size, 0, none⟩ = some (.int .i64 (m : Int)) := (by rw [Lib.cell_of_heap hk2]; rfl)
       have hG2 := hG3.trans hF2
       have hcu := (HTb.out.below hG2.1).type m hm))
  go_end0
  exact ⟨l2, rfl, hA2, hD2, hG2⟩
set_option maxRecDepth 100000 in
set_option maxHeartbeats 2000000 in
theorem Prj.value_int (g : Nat) (l : List UInt8) (hl : l.length ≤ 20000000) (hf : ¬ 12000 < l.length) (w : World) (m : Nat) (hm : m ≤ 10) (n : Int) (hm10 : ¬ (m : Int) = 10) (HTb : Hid (Prj.Tabs g w)) (HP : Hid (∀ w1 : World, Below g w w1 → Lib.TabIs Tryz.prog w1 "internal/strconv.uint64pow10" .u64 Lib.pow10Tab)) (HA : Hid (Prj.At g l w)) :
    Calls Tryz.prog 74 #[.pointer (some ⟨g, 0, none⟩), .iface 122 (.agg #[.int .i64 (m : Int), .int .i64 n])] w fun e w' => ∃ l', e = .returned (.tuple #[]) ∧ Prj.At g l' w' ∧ Prj.Adds l ((Pr.decT n).data.toList ++ (Mill.typeWord (m : Int)).data.toList) l' ∧ Prj.Fr g w w' := by
  have hgw := HA.out.lt
  have hA0 := HA.out
  have ta0 : ∀ ww : World, _ := Tryz.ta_intNode 122 (.agg #[.int .i64 (m : Int), .int .i64 n])
  simp only [if_true] at ta0
  have hne : ((m : Int) != 10) = true := by simpa using hm10
  have hb1 : (m : Int) < 11 := by omega
  clear hm10
  have hzd := Pr.decT_size n
  have hw : IntKind.u64.wrap n = n % 18446744073709551616 := Val.wrap_u _
  have hk0 : (w.alloc (.cells #[.int .i64 (m : Int), .int .i64 n] 122)).heap[w.heap.size]? = some (.cells #[.int .i64 (m : Int), .int .i64 n] 122 (0, 0)) := Val.new_at w _
  have hG1 : Prj.Fr g w (w.alloc (.cells #[.int .i64 (m : Int), .int .i64 n] 122)) := (Prj.Fr.alloc1 (Prj.Fr.refl g w) hgw _)
  have hAd : Prj.At g l (w.alloc (.cells #[.int .i64 (m : Int), .int .i64 n] 122)) := HA.out.alloc _
  have hfu : Hid (Calls Tryz.prog 89 #[.int .u64 (n % 18446744073709551616), .int .i64 10] (w.alloc (.cells #[.int .i64 (m : Int), .int .i64 n] 122)) fun e w' => e = .returned (.string (Pr.decT n)) ∧ Below (w.alloc (.cells #[.int .i64 (m : Int), .int .i64 n] 122)).heap.size (w.alloc (.cells #[.int .i64 (m : Int), .int .i64 n] 122)) w') := Prj.formatUint _ (by omega) (by omega) _ (HP.out _ hG1.1)
  go_enter Tryz.func74, Tryz.ntmps74
  go_wp2_with (first
    | (go_at_call 16; refine (Prj.full_b false g l (by omega) (decide_eq_false hf) _ hA0).mono ?_; rintro e w1 ⟨rfl, rfl⟩)
    | (go_at_call 89; refine hfu.out.mono ?_; rintro e w3 ⟨rfl, hb3⟩
       have hA3 : Prj.At g l w3 := hAd.below hb3
       have hG3 : Prj.Fr g w w3 := hG1.below (by omega) hb3
       have hk3 : w3.heap[w.heap.size]? = some (.cells #[.int .i64 (m : Int), .int .i64 n] 122 (0, 0)) := (hb3.block w.heap.size (by simp)).trans hk0)
    | (go_at_call 31; (with_reducible refine (Prj.put1_at g l hl (Pr.decT n) (by omega) w3 w3.heap.size rfl hA3).mono ?_); rintro e w2 ⟨l2, rfl, hA2, hD2, hF2⟩
       have hk2 := hF2.keep hk3 (by omega) (by decide)
       have c0 : w2.cell? ⟨w.heap.size, 0, none⟩ = some (.int .i64 (m : Int)) := (by rw [Lib.cell_of_heap hk2]; rfl)
       have hG2 := hG3.trans hF2
       have hcu := (HTb.out.below hG2.1).type m hm))
  refine (Prj.put1_any g l2 hD2.2.2.2 (Mill.typeWord (m : Int)) (by have := Pr.typeWord_size (m : Int); omega) w2 hA2).mono ?_
  rintro e w4 ⟨l4, rfl, hA4, hD4, hF4⟩
  go_wp2
  go_end0
  exact ⟨l4, rfl, hA4, hD2.trans hD4, hG2.trans hF4⟩
end Go.Proofs.YtkaoeoeloihigaaGreatDoor

namespace Go.Proofs.YtkaoeoeloihigaaGreatDoor
open Go.RowKit

mutual
def Pr.Good : Mill.Tr → Prop
  | .node d ks => Mill.useR d = true ∧ Mill.fits d.kind d.op (ks.map (fun t => t.nd.kind)) = true ∧ d.text.size ≤ 1048576 ∧ Pr.Goods ks
def Pr.Goods : List Mill.Tr → Prop
  | [] => True
  | t :: r => Pr.Good t ∧ Pr.Goods r
end
theorem Pr.goods_app : ∀ a b : List Mill.Tr, Pr.Goods (a ++ b) ↔ Pr.Goods a ∧ Pr.Goods b
  | [], b => by rw [List.nil_append, Pr.Goods]; simp
  | t :: r, b => by rw [List.cons_append, Pr.Goods, Pr.Goods, Pr.goods_app r b]; exact and_assoc.symm
theorem Pr.grow_good : ∀ (ns : List Mill.Nd) (st st' : List Mill.Tr), Mill.growT ns st = some st' → (∀ d ∈ ns, d.text.size ≤ 1048576) → Pr.Goods st → Pr.Goods st'
  | [], st, st', h, _, hg => by
    rw [Mill.growT] at h
    cases h
    exact hg
  | d :: r, st, st', h, ht, hg => by
    rw [Mill.growT] at h
    split at h
    · rename_i hs
      refine Pr.grow_good r _ st' h (fun e he => ht e (by simp [he])) ?_
      have hg2 := hg
      rw [← List.take_append_drop (st.length - d.kids.toNat) st, Pr.goods_app] at hg2
      simp only [Mill.stepOk, Bool.and_eq_true] at hs
      rw [Pr.goods_app]
      refine ⟨hg2.1, ?_⟩
      rw [Pr.Goods, Pr.Good, Pr.Goods]
      exact ⟨⟨hs.1.1.2, hs.1.2, ht d (by simp), hg2.2⟩, trivial⟩
    · cases h
theorem Pr.goods_mem : ∀ (l : List Mill.Tr), Pr.Goods l → ∀ t ∈ l, Pr.Good t
  | [], _, t, h => by cases h
  | u :: r, hg, t, h => by
    rw [Pr.Goods] at hg
    rcases List.mem_cons.1 h with rfl | h
    · exact hg.1
    · exact Pr.goods_mem r hg.2 t h
/-- A slice of the tree, seen from any world of a printer. -/
theorem Prj.sl_row {P : Nat → Prop} {g : Nat} {w0 w : World} {S : Value} {us : List Value} (hP : ∀ k, P k → k < g) (h : Mill.Sl P w0 S us.length us) (hw : Below g w0 w) : Prj.RowSt g w S us := by
  obtain ⟨a, c, rfl, hc⟩ := h
  refine ⟨a, c, rfl, fun j hj => ?_⟩
  obtain ⟨k, ha, hk, hcell⟩ := hc j us[j] (List.getElem?_eq_getElem hj)
  refine ⟨k, 0, ha, fun w' hf => ?_⟩
  rw [Nat.zero_add, (hw.trans hf.1).cell (p := ⟨k, j, none⟩) (hP k hk)]
  exact hcell
theorem Prj.op_is (g : Nat) (w0 : World) (P : Nat → Prop) (t : Mill.Tr) (v : Value) (T : List UInt8) (hR : Mill.Rep P w0 t v) (hV : Prj.ValIs g w0 v T) : Prj.OpIs g w0 v (Prj.heldL t.nd.kind T) := by
  obtain ⟨d, ks⟩ := t
  rw [Mill.Rep] at hR
  obtain ⟨us, ⟨h1, h2, x, rfl, hI⟩, hK, _⟩ := hR
  show Prj.OpIs g w0 _ (Prj.heldL d.kind T)
  intro w l hw hl hA
  unfold Prj.heldL
  by_cases h6 : d.kind = 6
  · rw [if_pos h6]
    rw [h6] at hV ⊢
    simp only [Mill.Inner, h6] at hI
    obtain ⟨u, v, rfl, rfl⟩ : ∃ u v, us = [u, v] ∧ x = .agg #[.int .i64 d.op, u, v] := by simpa using hI
    obtain ⟨k1, y1, _, _, _, rfl, _⟩ := Mill.us_at hK 0 u rfl
    obtain ⟨k2, y2, _, _, _, rfl, _⟩ := Mill.us_at hK 1 v rfl
    exact Prj.operand_bin g w0 d.op _ _ y1 y2 T l hl hV w hw hA
  · rw [if_neg h6]
    exact Prj.operand_other g w0 (Mill.ty d.kind) (by have := Mill.ty_ne h1 h2 (j := 6) (by omega) (by omega) h6; exact this) x T l hl hV w hw hA
end Go.Proofs.YtkaoeoeloihigaaGreatDoor

namespace Go.Proofs.YtkaoeoeloihigaaGreatDoor
open Go.RowKit

theorem Prj.es_at (ks : List Mill.Tr) (j : Nat) (h : j < ks.length) (h' : j < (Pr.es ks).length) : (Pr.es ks)[j] = Pr.e ks[j] := by
  have e := Pr.es_map ks
  simp only [e, List.getElem_map]
theorem Prj.es_len (ks : List Mill.Tr) : (Pr.es ks).length = ks.length := by rw [Pr.es_map, List.length_map]
theorem Prj.app_toList (a b : ByteArray) : (a ++ b).data.toList = a.data.toList ++ b.data.toList := by simp [ByteArray.data_append]
theorem Prj.held_toList (k : Int) (x : ByteArray) : (Pr.held k x).data.toList = Prj.heldL k x.data.toList := by
  unfold Pr.held Prj.heldL
  by_cases h : k = 6
  · rw [if_pos h, if_pos h, Prj.app_toList, Prj.app_toList]
  · rw [if_neg h, if_neg h]
theorem Prj.nameOk_size {s : ByteArray} (h : Mill.nameOk s = true) : s.size ≤ 30 := by
  unfold Mill.nameOk at h
  simp only [Bool.and_eq_true, decide_eq_true_eq] at h
  omega
theorem Prj.two {A : Type} : ∀ {l : List A}, l.length = 2 → ∃ a b, l = [a, b]
  | [a, b], _ => ⟨a, b, rfl⟩
theorem Prj.ty_lits : Mill.ty 1 = 122 ∧ Mill.ty 2 = 124 ∧ Mill.ty 3 = 126 ∧ Mill.ty 4 = 128 ∧ Mill.ty 5 = 130 ∧ Mill.ty 6 = 132 ∧ Mill.ty 7 = 134 ∧ Mill.ty 8 = 139 ∧ Mill.ty 9 = 141 := by decide +kernel
set_option maxHeartbeats 2000000 in
theorem Prj.node_is (g : Nat) (w0 : World) (P : Nat → Prop) (hP : ∀ k, P k → k < g) (hT : Prj.Tabs g w0) (hpow : ∀ w1, Below g w0 w1 → Lib.TabIs Tryz.prog w1 "internal/strconv.uint64pow10" .u64 Lib.pow10Tab)
    (d : Mill.Nd) (ks : List Mill.Tr) (us : List Value) (x : Value) (hu : Mill.useR d = true) (hfit : Mill.fits d.kind d.op (ks.map (fun t => t.nd.kind)) = true) (htext : d.text.size ≤ 1048576) (hE : Mill.isE d.kind = true)
    (hI : Mill.Inner P w0 d us x) (hK : Mill.Kinded us (ks.map (fun t => t.nd.kind))) (hlen : us.length = ks.length)
    (hV : ∀ j (h : j < us.length) (h' : j < (Pr.es ks).length), Prj.ValIs g w0 us[j] (Pr.es ks)[j].data.toList)
    (hO : ∀ j (h : j < us.length) (h' : j < ks.length), Prj.OpIs g w0 us[j] (Prj.heldL ks[j].nd.kind (Pr.e ks[j]).data.toList)) :
    Prj.ValIs g w0 (.iface (Mill.ty d.kind) x) (Pr.e (.node d ks)).data.toList := by
  intro w l hw hl hA
  by_cases hf : 12000 < l.length
  · exact Prj.value_full g _ _ l hl hf w hA
  have hTw : Prj.Tabs g w := hT.below hw
  have hpw : ∀ w1, Below g w w1 → Lib.TabIs Tryz.prog w1 "internal/strconv.uint64pow10" .u64 Lib.pow10Tab := fun w1 h => hpow w1 (hw.trans h)
  obtain ⟨hall, h8, h15, h26⟩ := Pr.fitsE hfit hE
  rw [List.length_map] at h8 h15 h26
  have hkl : (Pr.es ks).length = us.length := by rw [Prj.es_len, hlen]
  obtain ⟨y1, y2, y3, y4, y5, y6, y7, y8, y9⟩ := Prj.ty_lits
  rw [Pr.e]
  obtain ⟨c, o, t, n, s, kk⟩ := d
  simp only at *
  have hc : c = 1 ∨ c = 2 ∨ c = 3 ∨ c = 4 ∨ c = 5 ∨ c = 6 ∨ c = 7 ∨ c = 8 ∨ c = 9 := by
    simp only [Mill.isE, Bool.and_eq_true, decide_eq_true_eq] at hE; omega
  rcases hc with rfl | rfl | rfl | rfl | rfl | rfl | rfl | rfl | rfl
  · obtain ⟨rfl, rfl⟩ : us = [] ∧ x = .agg #[.int .i64 t, .int .i64 n] := by simpa [Mill.Inner] using hI
    simp only [Mill.useR, if_true, Bool.and_eq_true, decide_eq_true_eq] at hu
    obtain ⟨m, rfl⟩ : ∃ m : Nat, t = (m : Int) := ⟨t.toNat, by omega⟩
    rw [y1]
    by_cases h10 : (m : Int) = 10
    · have := Prj.value_int10 g l hl hf w m (by omega) n h10 hTw hpw hA
      simpa [Pr.mkE, h10] using this
    · have := Prj.value_int g l hl hf w m (by omega) n h10 hTw hpw hA
      simpa only [Pr.mkE, if_true, h10, if_false, Prj.app_toList] using this
  · obtain ⟨rfl, rfl⟩ : us = [] ∧ x = .agg #[.string s] := by simpa [Mill.Inner] using hI
    rw [y2]
    have := Prj.value_textNode g l hl hf s htext w hA
    simpa [Pr.mkE] using this
  · obtain ⟨rfl, rfl⟩ : us = [] ∧ x = .agg #[.bool (n == 1)] := by simpa [Mill.Inner] using hI
    rw [y3]
    have := Prj.value_boolNode g l hl hf (n == 1) w hA
    have e : Pr.mkE ⟨3, o, t, n, s, kk⟩ (ks.map (fun t => t.nd.kind)) (Pr.es ks) = Prj.boolT (n == 1) := by
      unfold Prj.boolT
      by_cases hn : n = 1
      · simp [Pr.mkE, hn]
      · simp [Pr.mkE, hn]
    rw [e]; exact this
  · obtain ⟨rfl, rfl⟩ : us = [] ∧ x = .agg #[.string s] := by simpa [Mill.Inner] using hI
    rw [y4]
    have := Prj.value_nameNode g l hl hf s (by omega) w hA
    simpa [Pr.mkE] using this
  · obtain ⟨u, rfl, rfl⟩ : ∃ u, us = [u] ∧ x = .agg #[.int .i64 o, u] := by simpa [Mill.Inner] using hI
    obtain ⟨t0, rfl⟩ : ∃ t0, ks = [t0] := List.length_eq_one_iff.1 (by rw [← hlen]; rfl)
    simp only [Mill.useR] at hu
    have hu' : 1 ≤ o ∧ o ≤ 3 := by simpa using hu
    obtain ⟨m, rfl⟩ : ∃ m : Nat, o = (m : Int) := ⟨o.toNat, by omega⟩
    obtain ⟨k1, z1, _, _, _, rfl, _⟩ := Mill.us_at hK 0 u rfl
    rw [y5]
    have := Prj.value_unNode g l hl hf w m (by omega) _ z1 _ hTw (fun w2 l2 h2 => hO 0 (by simp) (by simp) w2 l2 (hw.trans h2)) hA
    have e : (Pr.mkE ⟨5, (m : Int), t, n, s, kk⟩ ([t0].map (fun t => t.nd.kind)) (Pr.es [t0])).data.toList = (Pr.unMark (m : Int)).data.toList ++ Prj.heldL t0.nd.kind (Pr.e t0).data.toList := by
      rw [← Prj.held_toList, ← Prj.app_toList]; simp [Pr.mkE, Pr.es]
    rw [e]; exact this
  · obtain ⟨u, v, rfl, rfl⟩ : ∃ u v, us = [u, v] ∧ x = .agg #[.int .i64 o, u, v] := by simpa [Mill.Inner] using hI
    obtain ⟨t0, t1, rfl⟩ : ∃ t0 t1, ks = [t0, t1] := Prj.two (by rw [← hlen]; rfl)
    simp only [Mill.useR] at hu
    have hu' : 1 ≤ o ∧ o ≤ 18 := by simpa using hu
    obtain ⟨m, rfl⟩ : ∃ m : Nat, o = (m : Int) := ⟨o.toNat, by omega⟩
    obtain ⟨k1, z1, _, _, _, rfl, _⟩ := Mill.us_at hK 0 u rfl
    obtain ⟨k2, z2, _, _, _, rfl, _⟩ := Mill.us_at hK 1 v rfl
    rw [y6]
    have := Prj.value_binNode g l hl hf w m (by omega) _ _ z1 z2 _ _ hTw (fun w2 l2 h2 => hO 0 (by simp) (by simp) w2 l2 (hw.trans h2)) (fun w2 l2 h2 => hO 1 (by simp) (by simp) w2 l2 (hw.trans h2)) hA
    have e : (Pr.mkE ⟨6, (m : Int), t, n, s, kk⟩ ([t0, t1].map (fun t => t.nd.kind)) (Pr.es [t0, t1])).data.toList = Prj.heldL t0.nd.kind (Pr.e t0).data.toList ++ ([32] ++ (Pr.binMark (m : Int)).data.toList ++ [32]) ++ Prj.heldL t1.nd.kind (Pr.e t1).data.toList := by
      rw [← Prj.held_toList, ← Prj.held_toList]; simp [Pr.mkE, Pr.es]
    rw [e]; exact this
  · obtain ⟨S, hS, rfl⟩ : ∃ S, Mill.Sl P w0 S us.length us ∧ x = .agg #[.string s, S] := by simpa [Mill.Inner] using hI
    have hs := Prj.nameOk_size (s := s) (by simpa [Mill.useR] using hu)
    have hS2 := hS
    obtain ⟨sa, sc, rfl, _⟩ := hS2
    rw [y7]
    have := Prj.value_callNode g l hl hf w s (by omega) sa us.length sc _ (fun w1 hf1 hA1 => Prj.called_any g w0 s (by omega) _ us (Pr.es ks) hkl (by omega) l hl w1 (Prj.sl_row hP hS (hw.trans hf1.1)) hV (hw.trans hf1.1) hA1) hA
    simpa [Pr.mkE] using this
  · obtain ⟨S, hS, rfl⟩ : ∃ S, Mill.Sl P w0 S us.length us ∧ x = .agg #[.int .i64 o, S] := by simpa [Mill.Inner] using hI
    simp only [Mill.useR] at hu
    have hu' : 1 ≤ o ∧ o ≤ 12 := by simpa using hu
    obtain ⟨m, rfl⟩ : ∃ m : Nat, o = (m : Int) := ⟨o.toNat, by omega⟩
    have hS2 := hS
    obtain ⟨sa, sc, rfl, _⟩ := hS2
    rw [y8]
    have := Prj.value_builtNode g l hl hf w m (by omega) sa us.length sc _ hTw (fun w1 hf1 hA1 => Prj.called_any g w0 (Mill.builtWord (m : Int)) (by have := Pr.builtWord_size (m : Int); omega) _ us (Pr.es ks) hkl (by omega) l hl w1 (Prj.sl_row hP hS (hw.trans hf1.1)) hV (hw.trans hf1.1) hA1) hA
    simpa [Pr.mkE] using this
  · obtain ⟨u, rfl, rfl⟩ : ∃ u, us = [u] ∧ x = .agg #[.int .i64 t, u] := by simpa [Mill.Inner] using hI
    simp only [Mill.useR] at hu
    have hu' : 3 ≤ t ∧ t ≤ 10 := by simpa using hu
    obtain ⟨m, rfl⟩ : ∃ m : Nat, t = (m : Int) := ⟨t.toNat, by omega⟩
    obtain ⟨k1, z1, _, _, _, rfl, _⟩ := Mill.us_at hK 0 u rfl
    rw [y9]
    have := Prj.value_convNode g l hl hf w m (by omega) _ z1 _ hTw (fun w1 v hf1 hA1 hrow => Prj.called_any g w0 (Mill.typeWord (m : Int)) (by have := Pr.typeWord_size (m : Int); omega) v _ (Pr.es ks) hkl (by simp) l hl w1 hrow hV (hw.trans hf1.1) hA1) hA
    simpa [Pr.mkE] using this
mutual
theorem Prj.val_is (g : Nat) (w0 : World) (P : Nat → Prop) (hP : ∀ k, P k → k < g) (hT : Prj.Tabs g w0) (hpow : ∀ w1, Below g w0 w1 → Lib.TabIs Tryz.prog w1 "internal/strconv.uint64pow10" .u64 Lib.pow10Tab) :
    ∀ (t : Mill.Tr) (v : Value), Pr.Good t → Mill.isE t.nd.kind = true → Mill.Rep P w0 t v → Prj.ValIs g w0 v (Pr.e t).data.toList
  | .node d ks, v, hg, hE, hR => by
    rw [Pr.Good] at hg
    rw [Mill.Rep] at hR
    obtain ⟨us, ⟨h1, h2, x, rfl, hI⟩, hK, h60, hlen, hR⟩ := hR
    have hE' : Mill.isE d.kind = true := hE
    have hall := (Pr.fitsE hg.2.1 hE').1
    have hl := Mill.Reps.len ks us hR
    have hV := Prj.vals_is g w0 P hP hT hpow ks us hg.2.2.2 (by rw [List.all_map] at hall; exact hall) hR
    refine Prj.node_is g w0 P hP hT hpow d ks us x hg.1 hg.2.1 hg.2.2.1 hE' hI hK hl (fun j h h' => ?_) (fun j h h' => ?_)
    · obtain ⟨_, hv⟩ := hV j (by omega) h
      rw [Prj.es_at ks j (by omega) h']; exact hv
    · obtain ⟨hr, hv⟩ := hV j h' h
      exact Prj.op_is g w0 P ks[j] us[j] _ hr hv
theorem Prj.vals_is (g : Nat) (w0 : World) (P : Nat → Prop) (hP : ∀ k, P k → k < g) (hT : Prj.Tabs g w0) (hpow : ∀ w1, Below g w0 w1 → Lib.TabIs Tryz.prog w1 "internal/strconv.uint64pow10" .u64 Lib.pow10Tab) :
    ∀ (ts : List Mill.Tr) (us : List Value), Pr.Goods ts → ts.all (fun t => Mill.isE t.nd.kind) = true → Mill.Reps P w0 ts us → ∀ j (h : j < ts.length) (h' : j < us.length), Mill.Rep P w0 ts[j] us[j] ∧ Prj.ValIs g w0 us[j] (Pr.e ts[j]).data.toList
  | [], us, _, _, _, j, h, _ => by simp at h
  | t :: r, us, hg, ha, hR, j, h, h' => by
    rw [Pr.Goods] at hg
    rw [Mill.Reps] at hR
    obtain ⟨u, us', rfl, hu, hr⟩ := hR
    rw [List.all_cons, Bool.and_eq_true] at ha
    cases j with
    | zero => exact ⟨hu, Prj.val_is g w0 P hP hT hpow t u hg.1 ha.1 hu⟩
    | succ j => exact Prj.vals_is g w0 P hP hT hpow r us' hg.2 ha.2 hr j (by simpa using h) (by simpa using h')
end
end Go.Proofs.YtkaoeoeloihigaaGreatDoor
