import Derived.Test.YthichbgddoadbacDoorScanW
namespace Go.Proofs.YthichbgddoadbacDoor
open Go.RowKit

def Mill.zeros7 : Obj := .cells #[.int .i64 0, .string ByteArray.empty, .int .i64 0, .int .i64 0, .int .i64 0, .int .i64 0, .int .i64 0] 78
theorem Mill.seven_cells {w wr : World} (hb : Below (w.heap.size + 1) (w.alloc (.cells #[.int .i64 0, .string ByteArray.empty, .int .i64 0, .int .i64 0, .int .i64 0, .int .i64 0, .int .i64 0] 78)) wr) :
    wr.cell? ⟨w.heap.size, 0, none⟩ = some (.int .i64 0) ∧ wr.cell? ⟨w.heap.size, 1, none⟩ = some (.string ByteArray.empty) ∧ wr.cell? ⟨w.heap.size, 2, none⟩ = some (.int .i64 0) ∧ wr.cell? ⟨w.heap.size, 3, none⟩ = some (.int .i64 0) ∧ wr.cell? ⟨w.heap.size, 4, none⟩ = some (.int .i64 0) ∧ wr.cell? ⟨w.heap.size, 5, none⟩ = some (.int .i64 0) ∧ wr.cell? ⟨w.heap.size, 6, none⟩ = some (.int .i64 0) := by
  refine ⟨?_, ?_, ?_, ?_, ?_, ?_, ?_⟩
  · rw [hb.cell (p := ⟨w.heap.size, 0, none⟩) (by simp)]; simp [go_sem]
  · rw [hb.cell (p := ⟨w.heap.size, 1, none⟩) (by simp)]; simp [go_sem]
  · rw [hb.cell (p := ⟨w.heap.size, 2, none⟩) (by simp)]; simp [go_sem]
  · rw [hb.cell (p := ⟨w.heap.size, 3, none⟩) (by simp)]; simp [go_sem]
  · rw [hb.cell (p := ⟨w.heap.size, 4, none⟩) (by simp)]; simp [go_sem]
  · rw [hb.cell (p := ⟨w.heap.size, 5, none⟩) (by simp)]; simp [go_sem]
  · rw [hb.cell (p := ⟨w.heap.size, 6, none⟩) (by simp)]; simp [go_sem]
theorem Mill.seven_frozen {w wr : World} (hb : Below (w.heap.size + 1) (w.alloc (.cells #[.int .i64 0, .string ByteArray.empty, .int .i64 0, .int .i64 0, .int .i64 0, .int .i64 0, .int .i64 0] 78)) wr) :
    wr.frozen? ⟨w.heap.size, 0, none⟩ = false ∧ wr.frozen? ⟨w.heap.size, 1, none⟩ = false ∧ wr.frozen? ⟨w.heap.size, 2, none⟩ = false ∧ wr.frozen? ⟨w.heap.size, 3, none⟩ = false ∧ wr.frozen? ⟨w.heap.size, 4, none⟩ = false ∧ wr.frozen? ⟨w.heap.size, 5, none⟩ = false ∧ wr.frozen? ⟨w.heap.size, 6, none⟩ = false ∧ w.heap.size < wr.heap.size := by
  refine ⟨?_, ?_, ?_, ?_, ?_, ?_, ?_, ?_⟩
  · rw [hb.frozen (p := ⟨w.heap.size, 0, none⟩) (by simp)]; simp [go_sem]
  · rw [hb.frozen (p := ⟨w.heap.size, 1, none⟩) (by simp)]; simp [go_sem]
  · rw [hb.frozen (p := ⟨w.heap.size, 2, none⟩) (by simp)]; simp [go_sem]
  · rw [hb.frozen (p := ⟨w.heap.size, 3, none⟩) (by simp)]; simp [go_sem]
  · rw [hb.frozen (p := ⟨w.heap.size, 4, none⟩) (by simp)]; simp [go_sem]
  · rw [hb.frozen (p := ⟨w.heap.size, 5, none⟩) (by simp)]; simp [go_sem]
  · rw [hb.frozen (p := ⟨w.heap.size, 6, none⟩) (by simp)]; simp [go_sem]
  · have := hb.size; simp at this; omega
theorem Mill.below7b {w wr : World} {o : Obj} (hb : Below (w.heap.size + 1) (w.alloc o) wr) (c0 c1 c2 c3 c4 c5 c6 : Value) :
    Below w.heap.size w (((((((wr.setCell ⟨w.heap.size, 0, none⟩ c0).setCell ⟨w.heap.size, 1, none⟩ c1).setCell ⟨w.heap.size, 2, none⟩ c2).setCell ⟨w.heap.size, 3, none⟩ c3).setCell ⟨w.heap.size, 4, none⟩ c4).setCell ⟨w.heap.size, 5, none⟩ c5).setCell ⟨w.heap.size, 6, none⟩ c6) :=
  Mill.below7 _ (Nat.le_refl _) o (by simpa using hb) _ _ _ _ _ _ _
theorem Mill.isBuilder_new (T e : TypeId) (w : World) : Lib.IsBuilderF T e w.heap.size w.heap.size (Lib.byteCells []) (w.alloc (.cells #[.pointer none, .slice none 0 0] T)) := Lib.IsBuilderF.of (Lib.fresh_isBuilder T e w)
theorem Mill.rb_drop (s : ByteArray) (i : Nat) : (s.extract i s.size).data.toList = s.data.toList.drop i := by
  rw [Lib.extract_data, List.take_of_length_le (by simp)]
theorem Mill.rbOk_eq (s : ByteArray) (i : Nat) (h : i + 1 < s.size) : Mill.rbOk (s.extract i s.size) = (decide (0 ≤ Mill.hexOf s[i]) && decide (0 ≤ Mill.hexOf s[i + 1])) := by
  rw [Mill.rbOk, Mill.rb_drop, Mill.drop_cons s i (by omega), Mill.drop_cons s (i + 1) (by omega)]
theorem Mill.rbOk_short (s : ByteArray) (i : Nat) (h : ¬ i + 1 < s.size) : Mill.rbOk (s.extract i s.size) = false := by
  rw [Mill.rbOk, Mill.rb_drop]
  have hl : (s.data.toList.drop i).length ≤ 1 := by simp; omega
  match s.data.toList.drop i, hl with
  | [], _ => rfl
  | [a], _ => rfl
theorem Mill.rbVal_eq (s : ByteArray) (i : Nat) (h : i + 1 < s.size) : Mill.rbVal (s.extract i s.size) = 16 * Mill.hexOf s[i] + Mill.hexOf s[i + 1] := by
  rw [Mill.rbVal, Mill.rb_drop, Mill.drop_cons s i (by omega), Mill.drop_cons s (i + 1) (by omega)]
theorem Mill.textP_none (l : List UInt8) (h : Mill.unq l.tail [] = none) : Mill.textP l = Mill.bad 4 := by rw [Mill.textP, h]
theorem Mill.textP_some (l t r : List UInt8) (h : Mill.unq l.tail [] = some (t, r)) : Mill.textP l = if 3000 < t.length then Mill.bad 5 else ⟨4, t, 0, 0, l.length - r.length, 0⟩ := by rw [Mill.textP, h]

set_option maxRecDepth 100000 in
set_option maxHeartbeats 2000000 in
theorem readText_any (s : ByteArray) (w : World) (h1 : 1 ≤ s.size) (hs : s.size ≤ 1048576) :
    Calls Tryd.prog 41 #[.string s] w fun e w' => e = .returned (Mill.pieceV (Mill.textP s.data.toList)) ∧ Below w.heap.size w w' := by
  have htl : s.data.toList.tail = s.data.toList.drop 1 := by simp
  go_enter Tryd.func41, Tryd.ntmps41
  go_wp2
  go_loopw [4, 5, 6, 7] (fun t _ _ _ wr => ∃ (i : Nat) (acc : List UInt8), 1 ≤ i ∧ i ≤ s.size ∧ acc.length ≤ i ∧ t = .int .i64 (i : Int) ∧ Lib.IsBuilderF 115 5 (w.heap.size + 1) (w.heap.size + 1) (Lib.byteCells acc) wr ∧ Below (w.heap.size + 1) (w.alloc (.cells #[.int .i64 0, .string ByteArray.empty, .int .i64 0, .int .i64 0, .int .i64 0, .int .i64 0, .int .i64 0] 78)) wr ∧ Mill.unq (s.data.toList.drop i) acc = Mill.unq s.data.toList.tail []) (fun t _ _ _ _ => s.size - (intOf t).toNat)
  case atStart =>
    refine ⟨1, [], by omega, by omega, by simp, rfl, ?_, (Below.refl _ _).alloc (by simp) _, by rw [htl]⟩
    have := Mill.isBuilder_new 115 5 (w.alloc (.cells #[.int .i64 0, .string ByteArray.empty, .int .i64 0, .int .i64 0, .int .i64 0, .int .i64 0, .int .i64 0] 78))
    rw [World.size_alloc] at this
    exact this
  case round =>
    obtain ⟨i, acc, hi1, hi2, hacc, rfl, hI, hbw, hu⟩ := hrel
    clear htl
    by_cases hlt : i < s.size
    · rw [Mill.drop_cons s i hlt] at hu
      cases h34 : ((s[i].toNat : Int) == 34) with
      | true =>
        have HP : Hid (Mill.pieceV (Mill.textP s.data.toList) = if 3000 < (⟨acc.toArray⟩ : ByteArray).size then Mill.pieceV (Mill.bad 5) else Mill.pieceV ⟨4, (⟨acc.toArray⟩ : ByteArray).data.toList, 0, 0, i + 1, 0⟩) := by
          rw [Mill.byte_eq _ 34 h34, Mill.unq_quote] at hu
          rw [Hid, Mill.textP_some _ _ _ hu.symm]
          have e1 : s.data.toList.length - (s.data.toList.drop (i + 1)).length = i + 1 := by simp; omega
          have e2 : (⟨acc.toArray⟩ : ByteArray).size = acc.length := rfl
          have e3 : (⟨acc.toArray⟩ : ByteArray).data.toList = acc := rfl
          rw [e1, e2, e3]
          split <;> rfl
        clear hu
        have hz := hbw.size
        simp at hz
        go_wp2_with (first
          | (go_at_call 70; refine (Tryd.Builder_String_any_k (w.heap.size + 1) (w.heap.size + 1) acc _ hI hz).mono ?_; rintro e W1 ⟨rfl, k1, k2, k3⟩; have hbw1 := hbw.trans k2)
          | (go_at_call 69; rw [show (i : Int) + 1 = ((i + 1 : Nat) : Int) by omega]; refine (endText_any _ _ _).mono ?_; rintro e W2 ⟨rfl, hb2⟩; rw [← HP.out]; have hbw2 := hbw1.trans (hb2.mono (B' := w.heap.size + 1) (by have := k2.size; omega)); obtain ⟨d0, d1, d2, d3, d4, d5, d6⟩ := Mill.seven_cells hbw2; obtain ⟨g0, g1, g2, g3, g4, g5, g6, hz2⟩ := Mill.seven_frozen hbw2; generalize HPV : Mill.textP s.data.toList = P at *; simp only [Mill.pieceV]))
        refine bodyPost_ret (v := Mill.pieceV P) (by simp [results, Tryd.results41, go_sem, d0, d1, d2, d3, d4, d5, d6, Mill.pieceV]) rfl ⟨Mill.ret_val (by rw [HPV]), Mill.below7b hbw2 _ _ _ _ _ _ _⟩
      | false =>
        have n34 : s[i] ≠ 34 := Mill.byte_ne _ 34 h34
        cases h92 : ((s[i].toNat : Int) == 92) with
        | true =>
          have e92 : s[i] = 92 := Mill.byte_eq _ 92 h92
          rw [e92] at hu
          have hb1 : 32 ≤ (s[i].toNat : Int) := by simp at h92; omega
          have hb2 : (s[i].toNat : Int) ≤ 126 := by simp at h92; omega
          have hz := hbw.size
          simp at hz
          cases hrb : Mill.rbOk (s.extract (i + 1) s.size) with
          | true =>
            have h2 : i + 1 + 1 < s.size := by
              by_cases h : i + 1 + 1 < s.size
              · exact h
              · rw [Mill.rbOk_short s (i + 1) h] at hrb; simp at hrb
            have hok := hrb
            rw [Mill.rbOk_eq s (i + 1) h2, Bool.and_eq_true, decide_eq_true_eq, decide_eq_true_eq] at hok
            have hv := Mill.rbVal_eq s (i + 1) h2
            rw [Mill.drop_cons s (i + 1) (by omega), Mill.drop_cons s (i + 1 + 1) (by omega), Mill.unq_hex, if_pos hok, ← hv] at hu
            have ha := Mill.hex_bd (s[i + 1].toNat : Int)
            have hbd := Mill.hex_bd (s[i + 1 + 1].toNat : Int)
            have hv0 : 0 ≤ Mill.rbVal (s.extract (i + 1) s.size) ∧ Mill.rbVal (s.extract (i + 1) s.size) ≤ 255 := by
              rw [hv]; unfold Mill.hexOf at *; omega
            obtain ⟨v, HV⟩ : ∃ v, Hid (Mill.rbVal (s.extract (i + 1) s.size) = v) := ⟨_, (rfl : Mill.rbVal (s.extract (i + 1) s.size) = _)⟩
            rw [HV.out] at hu hv0
            obtain ⟨hv1, hv2⟩ := hv0
            have HU : Hid (Mill.unq (s.data.toList.drop (i + 3)) (acc ++ [UInt8.ofNat v.toNat]) = Mill.unq s.data.toList.tail []) := hu
            have HE : Hid (((UInt8.ofNat v.toNat).toNat : Int) = v) := Mill.ofNat_toNat v hv1 hv2
            clear hu n34 e92 hok hv ha hbd
            go_wp2_with (first
              | (go_at_call 71; refine (readByte_yes _ _ hrb).mono ?_; rintro e w' ⟨rfl, rfl⟩; rw [HV.out])
              | (go_at_call 72; refine (Tryd.Builder_WriteByte_k (w.heap.size + 1) (w.heap.size + 1) _ _ _ hI (by rw [Lib.byteCells_length]; omega) hz).mono ?_; rintro e W1 ⟨rfl, k1, k2, k3⟩))
            go_roundw
            case rel => exact ⟨i + 3, acc ++ [UInt8.ofNat v.toNat], by omega, by omega, by simp; omega, by go_num, by rw [Mill.byteCells_snoc, HE.out]; exact Or.inr k1, hbw.trans k2, HU.out⟩
            case measure => simp [intOf]; omega
          | false =>
            have HP : Hid (Mill.pieceV (Mill.textP s.data.toList) = Mill.pieceV (Mill.bad 4)) := by
              have hnone : Mill.unq (92 :: s.data.toList.drop (i + 1)) acc = none := by
                by_cases h2 : i + 1 + 1 < s.size
                · rw [Mill.rbOk_eq s (i + 1) h2] at hrb
                  rw [Mill.drop_cons s (i + 1) (by omega), Mill.drop_cons s (i + 1 + 1) (by omega), Mill.unq_hex, if_neg (by
                    rintro ⟨a, b⟩
                    rw [decide_eq_true a, decide_eq_true b] at hrb; simp at hrb)]
                · exact Mill.unq_short _ _ (by simp; omega)
              rw [hnone] at hu
              rw [Hid, Mill.textP_none _ hu.symm]
            clear hu n34 e92
            obtain ⟨d0, d1, d2, d3, d4, d5, d6⟩ := Mill.seven_cells hbw
            obtain ⟨g0, g1, g2, g3, g4, g5, g6, hz2⟩ := Mill.seven_frozen hbw
            go_wp2_with (go_at_call 71; refine (readByte_no _ _ hrb).mono ?_; rintro e w' ⟨rfl, rfl⟩)
            refine bodyPost_ret (v := Mill.pieceV (Mill.bad 4)) (by simp [results, Tryd.results41, go_sem, d0, d1, d2, d3, d4, d5, d6, Mill.pieceV, Mill.bad, Mill.ba]) rfl ⟨Mill.ret_val HP.out.symm, Mill.below7b hbw _ _ _ _ _ _ _⟩
        | false =>
          have n92 : s[i] ≠ 92 := Mill.byte_ne _ 92 h92
          by_cases hbr : 32 ≤ (s[i].toNat : Int) ∧ (s[i].toNat : Int) ≤ 126
          · obtain ⟨hb1, hb2⟩ := hbr
            have hba : Mill.isBare s[i] = true := by
              have a1 : (s[i].toNat : Int) ≠ 34 := by simpa using h34
              have a2 : (s[i].toNat : Int) ≠ 92 := by simpa using h92
              simp [Mill.isBare, Mill.bare, hb1, hb2, a1, a2]
            have HU : Hid (Mill.unq (s.data.toList.drop (i + 1)) (acc ++ [s[i]]) = Mill.unq s.data.toList.tail []) := by
              rw [Mill.unq_bare _ _ _ n34 hba] at hu; exact hu
            clear hu n34 n92 hba
            have hz := hbw.size
            simp at hz
            go_wp2_with (go_at_call 72; refine (Tryd.Builder_WriteByte_k (w.heap.size + 1) (w.heap.size + 1) _ _ _ hI (by rw [Lib.byteCells_length]; omega) hz).mono ?_; rintro e W1 ⟨rfl, k1, k2, k3⟩)
            go_roundw
            case rel => exact ⟨i + 1, acc ++ [s[i]], by omega, by omega, by simp; omega, by go_num, by rw [Mill.byteCells_snoc]; exact Or.inr k1, hbw.trans k2, HU.out⟩
            case measure => simp [intOf]; omega
          · have hnb : Mill.isBare s[i] = false := by
              simp [Mill.isBare, Mill.bare]; intro a b; exact absurd ⟨a, b⟩ hbr
            have HP : Hid (Mill.pieceV (Mill.textP s.data.toList) = Mill.pieceV (Mill.bad 4)) := by
              rw [Mill.unq_bad _ _ _ n34 hnb n92] at hu
              rw [Hid, Mill.textP_none _ hu.symm]
            clear hu n34 n92 hnb
            by_cases h32 : (s[i].toNat : Int) < 32
            · obtain ⟨d0, d1, d2, d3, d4, d5, d6⟩ := Mill.seven_cells hbw
              obtain ⟨g0, g1, g2, g3, g4, g5, g6, hz⟩ := Mill.seven_frozen hbw
              go_wp2
              refine bodyPost_ret (v := Mill.pieceV (Mill.bad 4)) (by simp [results, Tryd.results41, go_sem, d0, d1, d2, d3, d4, d5, d6, Mill.pieceV, Mill.bad, Mill.ba]) rfl ⟨Mill.ret_val HP.out.symm, Mill.below7b hbw _ _ _ _ _ _ _⟩
            · have h126 : 126 < (s[i].toNat : Int) := by omega
              obtain ⟨d0, d1, d2, d3, d4, d5, d6⟩ := Mill.seven_cells hbw
              obtain ⟨g0, g1, g2, g3, g4, g5, g6, hz⟩ := Mill.seven_frozen hbw
              go_wp2
              refine bodyPost_ret (v := Mill.pieceV (Mill.bad 4)) (by simp [results, Tryd.results41, go_sem, d0, d1, d2, d3, d4, d5, d6, Mill.pieceV, Mill.bad, Mill.ba]) rfl ⟨Mill.ret_val HP.out.symm, Mill.below7b hbw _ _ _ _ _ _ _⟩
    · have HP : Hid (Mill.pieceV (Mill.textP s.data.toList) = Mill.pieceV (Mill.bad 4)) := by
        rw [List.drop_of_length_le (by simp; omega)] at hu
        rw [Hid, Mill.textP_none _ (by rw [← hu]; rfl)]
      clear hu
      obtain ⟨d0, d1, d2, d3, d4, d5, d6⟩ := Mill.seven_cells hbw
      obtain ⟨g0, g1, g2, g3, g4, g5, g6, hz⟩ := Mill.seven_frozen hbw
      go_wp2
      refine bodyPost_ret (v := Mill.pieceV (Mill.bad 4)) (by simp [results, Tryd.results41, go_sem, d0, d1, d2, d3, d4, d5, d6, Mill.pieceV, Mill.bad, Mill.ba]) rfl ⟨Mill.ret_val HP.out.symm, Mill.below7b hbw _ _ _ _ _ _ _⟩

end Go.Proofs.YthichbgddoadbacDoor
