import Derived.Test.YticjcabnnjhbgaaDoorScanW
namespace Go.Proofs.YticjcabnnjhbgaaDoor
open Go.RowKit

def Mill.zeros7 : Obj := .cells #[.int .i64 0, .string ByteArray.empty, .int .i64 0, .int .i64 0, .int .i64 0, .int .i64 0, .int .i64 0] 51
theorem Mill.seven_cells {w wr : World} (hb : Below (w.heap.size + 1) (w.alloc (.cells #[.int .i64 0, .string ByteArray.empty, .int .i64 0, .int .i64 0, .int .i64 0, .int .i64 0, .int .i64 0] 51)) wr) :
    wr.cell? ⟨w.heap.size, 0, none⟩ = some (.int .i64 0) ∧ wr.cell? ⟨w.heap.size, 1, none⟩ = some (.string ByteArray.empty) ∧ wr.cell? ⟨w.heap.size, 2, none⟩ = some (.int .i64 0) ∧ wr.cell? ⟨w.heap.size, 3, none⟩ = some (.int .i64 0) ∧ wr.cell? ⟨w.heap.size, 4, none⟩ = some (.int .i64 0) ∧ wr.cell? ⟨w.heap.size, 5, none⟩ = some (.int .i64 0) ∧ wr.cell? ⟨w.heap.size, 6, none⟩ = some (.int .i64 0) := by
  refine ⟨?_, ?_, ?_, ?_, ?_, ?_, ?_⟩
  · rw [hb.cell (p := ⟨w.heap.size, 0, none⟩) (by simp)]; simp [go_sem]
  · rw [hb.cell (p := ⟨w.heap.size, 1, none⟩) (by simp)]; simp [go_sem]
  · rw [hb.cell (p := ⟨w.heap.size, 2, none⟩) (by simp)]; simp [go_sem]
  · rw [hb.cell (p := ⟨w.heap.size, 3, none⟩) (by simp)]; simp [go_sem]
  · rw [hb.cell (p := ⟨w.heap.size, 4, none⟩) (by simp)]; simp [go_sem]
  · rw [hb.cell (p := ⟨w.heap.size, 5, none⟩) (by simp)]; simp [go_sem]
  · rw [hb.cell (p := ⟨w.heap.size, 6, none⟩) (by simp)]; simp [go_sem]
theorem Mill.seven_frozen {w wr : World} (hb : Below (w.heap.size + 1) (w.alloc (.cells #[.int .i64 0, .string ByteArray.empty, .int .i64 0, .int .i64 0, .int .i64 0, .int .i64 0, .int .i64 0] 51)) wr) :
    wr.frozen? ⟨w.heap.size, 0, none⟩ = false ∧ wr.frozen? ⟨w.heap.size, 1, none⟩ = false ∧ wr.frozen? ⟨w.heap.size, 2, none⟩ = false ∧ wr.frozen? ⟨w.heap.size, 3, none⟩ = false ∧ wr.frozen? ⟨w.heap.size, 4, none⟩ = false ∧ wr.frozen? ⟨w.heap.size, 5, none⟩ = false ∧ wr.frozen? ⟨w.heap.size, 6, none⟩ = false ∧ w.heap.size < wr.heap.size := by
  refine ⟨?_, ?_, ?_, ?_, ?_, ?_, ?_, ?_⟩
  · rw [hb.frozen (p := ⟨w.heap.size, 0, none⟩) (by simp)]; simp [go_sem]
  · rw [hb.frozen (p := ⟨w.heap.size, 1, none⟩) (by simp)]; simp [go_sem]
  · rw [hb.frozen (p := ⟨w.heap.size, 2, none⟩) (by simp)]; simp [go_sem]
  · rw [hb.frozen (p := ⟨w.heap.size, 3, none⟩) (by simp)]; simp [go_sem]
  · rw [hb.frozen (p := ⟨w.heap.size, 4, none⟩) (by simp)]; simp [go_sem]
  · rw [hb.frozen (p := ⟨w.heap.size, 5, none⟩) (by simp)]; simp [go_sem]
  · rw [hb.frozen (p := ⟨w.heap.size, 6, none⟩) (by simp)]; simp [go_sem]
  · have := hb.size; simp at this; omega
theorem Mill.below7b {w wr : World} {o : Obj} (hb : Below (w.heap.size + 1) (w.alloc o) wr) (c0 c1 c2 c3 c4 c5 c6 : Value) :
    Below w.heap.size w (((((((wr.setCell ⟨w.heap.size, 0, none⟩ c0).setCell ⟨w.heap.size, 1, none⟩ c1).setCell ⟨w.heap.size, 2, none⟩ c2).setCell ⟨w.heap.size, 3, none⟩ c3).setCell ⟨w.heap.size, 4, none⟩ c4).setCell ⟨w.heap.size, 5, none⟩ c5).setCell ⟨w.heap.size, 6, none⟩ c6) :=
  Mill.below7 _ (Nat.le_refl _) o (by simpa using hb) _ _ _ _ _ _ _
theorem Mill.isBuilder_new (T e : TypeId) (w : World) : Lib.IsBuilderF T e w.heap.size w.heap.size (Lib.byteCells []) (w.alloc (.cells #[.pointer none, .slice none 0 0] T)) := Lib.IsBuilderF.of (Lib.fresh_isBuilder T e w)
theorem Mill.rb_drop (s : ByteArray) (i : Nat) : (s.extract i s.size).data.toList = s.data.toList.drop i := by
  rw [Lib.extract_data, List.take_of_length_le (by simp)]
theorem Mill.rbOk_eq (s : ByteArray) (i : Nat) (h : i + 1 < s.size) : Mill.rbOk (s.extract i s.size) = (decide (0 ≤ Mill.hexOf s[i]) && decide (0 ≤ Mill.hexOf s[i + 1])) := by
  rw [Mill.rbOk, Mill.rb_drop, Mill.drop_cons s i (by omega), Mill.drop_cons s (i + 1) (by omega)]
theorem Mill.rbOk_short (s : ByteArray) (i : Nat) (h : ¬ i + 1 < s.size) : Mill.rbOk (s.extract i s.size) = false := by
  rw [Mill.rbOk, Mill.rb_drop]
  have hl : (s.data.toList.drop i).length ≤ 1 := by simp; omega
  match s.data.toList.drop i, hl with
  | [], _ => rfl
  | [a], _ => rfl
theorem Mill.rbVal_eq (s : ByteArray) (i : Nat) (h : i + 1 < s.size) : Mill.rbVal (s.extract i s.size) = 16 * Mill.hexOf s[i] + Mill.hexOf s[i + 1] := by
  rw [Mill.rbVal, Mill.rb_drop, Mill.drop_cons s i (by omega), Mill.drop_cons s (i + 1) (by omega)]
theorem Mill.textP_none (l : List UInt8) (h : Mill.unq l.tail [] = none) : Mill.textP l = Mill.bad 4 := by rw [Mill.textP, h]
theorem Mill.textP_some (l t r : List UInt8) (h : Mill.unq l.tail [] = some (t, r)) : Mill.textP l = if 3000 < t.length then Mill.bad 5 else ⟨4, t, 0, 0, l.length - r.length, 0⟩ := by rw [Mill.textP, h]

/-- What unquoted answers: what readText makes of it is Mill.textP. -/
def Mill.UnqPost (s : ByteArray) (w : World) (e : Ending) (w' : World) : Prop :=
  ((e = .returned (.tuple #[.string ⟨#[]⟩, .int .i64 0]) ∧ Mill.textP s.data.toList = Mill.bad 4) ∨
    ∃ (t : ByteArray) (n : Nat), 1 ≤ n ∧ n ≤ 1048576 ∧ t.size ≤ 1048576 ∧ e = .returned (.tuple #[.string t, .int .i64 (n : Int)]) ∧ Mill.textP s.data.toList = if 3000 < t.size then Mill.bad 5 else ⟨4, t.data.toList, 0, 0, n, 0⟩) ∧ Below w.heap.size w w'

set_option maxRecDepth 100000 in
set_option maxHeartbeats 2000000 in
theorem unquoted_any (s : ByteArray) (w : World) (h1 : 1 ≤ s.size) (hs : s.size ≤ 1048576) :
    Calls Tryd.prog 42 #[.string s] w (Mill.UnqPost s w) := by
  have htl : s.data.toList.tail = s.data.toList.drop 1 := by simp
  go_enter Tryd.func42, Tryd.ntmps42
  go_wp2
  go_loopw [5, 6, 7, 8] (fun t _ _ _ wr => ∃ (i : Nat) (acc : List UInt8), 1 ≤ i ∧ i ≤ s.size ∧ acc.length ≤ i ∧ t = .int .i64 (i : Int) ∧ Lib.IsBuilderF 76 5 w.heap.size w.heap.size (Lib.byteCells acc) wr ∧ Below w.heap.size w wr ∧ Mill.unq (s.data.toList.drop i) acc = Mill.unq s.data.toList.tail []) (fun t _ _ _ _ => s.size - (intOf t).toNat)
  case atStart =>
    exact ⟨1, [], by omega, by omega, by simp, rfl, Mill.isBuilder_new 76 5 w, (Below.refl _ _).alloc (Nat.le_refl _) _, by rw [htl]⟩
  case round =>
    obtain ⟨i, acc, hi1, hi2, hacc, rfl, hI, hbw, hu⟩ := hrel
    clear htl
    by_cases hlt : i < s.size
    · rw [Mill.drop_cons s i hlt] at hu
      cases h34 : ((s[i].toNat : Int) == 34) with
      | true =>
        have HP : Hid (Mill.textP s.data.toList = if 3000 < (⟨acc.toArray⟩ : ByteArray).size then Mill.bad 5 else ⟨4, (⟨acc.toArray⟩ : ByteArray).data.toList, 0, 0, i + 1, 0⟩) := by
          rw [Mill.byte_eq _ 34 h34, Mill.unq_quote] at hu
          rw [Hid, Mill.textP_some _ _ _ hu.symm]
          have e1 : s.data.toList.length - (s.data.toList.drop (i + 1)).length = i + 1 := by simp; omega
          have e2 : (⟨acc.toArray⟩ : ByteArray).size = acc.length := rfl
          have e3 : (⟨acc.toArray⟩ : ByteArray).data.toList = acc := rfl
          rw [e1, e2, e3]
        clear hu
        have hz := hbw.size
        go_wp2_with (go_at_call 51; refine (Tryd.Builder_String_any_k w.heap.size w.heap.size acc _ hI hz).mono ?_; rintro e W1 ⟨rfl, k1, k2, k3⟩; have hbw1 := hbw.trans k2)
        exact bodyPost_ret (v := .tuple #[.string ⟨acc.toArray⟩, .int .i64 ((i : Int) + 1)]) (by simp [results, Tryd.results42, go_sem]) rfl ⟨.inr ⟨⟨acc.toArray⟩, i + 1, by omega, by omega, by have e2 : (⟨acc.toArray⟩ : ByteArray).size = acc.length := rfl; omega, by rw [show ((i + 1 : Nat) : Int) = (i : Int) + 1 by omega], HP.out⟩, hbw1⟩
      | false =>
        have n34 : s[i] ≠ 34 := Mill.byte_ne _ 34 h34
        cases h92 : ((s[i].toNat : Int) == 92) with
        | true =>
          have e92 : s[i] = 92 := Mill.byte_eq _ 92 h92
          rw [e92] at hu
          have hb1 : 32 ≤ (s[i].toNat : Int) := by simp at h92; omega
          have hb2 : (s[i].toNat : Int) ≤ 126 := by simp at h92; omega
          have hz := hbw.size
          cases hrb : Mill.rbOk (s.extract (i + 1) s.size) with
          | true =>
            have h2 : i + 1 + 1 < s.size := by
              by_cases h : i + 1 + 1 < s.size
              · exact h
              · rw [Mill.rbOk_short s (i + 1) h] at hrb; simp at hrb
            have hok := hrb
            rw [Mill.rbOk_eq s (i + 1) h2, Bool.and_eq_true, decide_eq_true_eq, decide_eq_true_eq] at hok
            have hv := Mill.rbVal_eq s (i + 1) h2
            rw [Mill.drop_cons s (i + 1) (by omega), Mill.drop_cons s (i + 1 + 1) (by omega), Mill.unq_hex, if_pos hok, ← hv] at hu
            have ha := Mill.hex_bd (s[i + 1].toNat : Int)
            have hbd := Mill.hex_bd (s[i + 1 + 1].toNat : Int)
            have hv0 : 0 ≤ Mill.rbVal (s.extract (i + 1) s.size) ∧ Mill.rbVal (s.extract (i + 1) s.size) ≤ 255 := by
              rw [hv]; unfold Mill.hexOf at *; omega
            obtain ⟨v, HV⟩ : ∃ v, Hid (Mill.rbVal (s.extract (i + 1) s.size) = v) := ⟨_, (rfl : Mill.rbVal (s.extract (i + 1) s.size) = _)⟩
            rw [HV.out] at hu hv0
            obtain ⟨hv1, hv2⟩ := hv0
            have HU : Hid (Mill.unq (s.data.toList.drop (i + 3)) (acc ++ [UInt8.ofNat v.toNat]) = Mill.unq s.data.toList.tail []) := hu
            have HE : Hid (((UInt8.ofNat v.toNat).toNat : Int) = v) := Mill.ofNat_toNat v hv1 hv2
            clear hu n34 e92 hok hv ha hbd
            go_wp2_with (first
              | (go_at_call 52; refine (readByte_yes _ _ hrb).mono ?_; rintro e w' ⟨rfl, rfl⟩; rw [HV.out])
              | (go_at_call 53; refine (Tryd.Builder_WriteByte_k w.heap.size w.heap.size _ _ _ hI (by rw [Lib.byteCells_length]; omega) hz).mono ?_; rintro e W1 ⟨rfl, k1, k2, k3⟩))
            go_roundw
            case rel => exact ⟨i + 3, acc ++ [UInt8.ofNat v.toNat], by omega, by omega, by simp; omega, by go_num, by rw [Mill.byteCells_snoc, HE.out]; exact Or.inr k1, hbw.trans k2, HU.out⟩
            case measure => simp [intOf]; omega
          | false =>
            have HP : Hid (Mill.textP s.data.toList = Mill.bad 4) := by
              have hnone : Mill.unq (92 :: s.data.toList.drop (i + 1)) acc = none := by
                by_cases h2 : i + 1 + 1 < s.size
                · rw [Mill.rbOk_eq s (i + 1) h2] at hrb
                  rw [Mill.drop_cons s (i + 1) (by omega), Mill.drop_cons s (i + 1 + 1) (by omega), Mill.unq_hex, if_neg (by
                    rintro ⟨a, b⟩
                    rw [decide_eq_true a, decide_eq_true b] at hrb; simp at hrb)]
                · exact Mill.unq_short _ _ (by simp; omega)
              rw [hnone] at hu
              rw [Hid, Mill.textP_none _ hu.symm]
            clear hu n34 e92
            go_wp2_with (go_at_call 52; refine (readByte_no _ _ hrb).mono ?_; rintro e w' ⟨rfl, rfl⟩)
            exact bodyPost_ret (v := .tuple #[.string ⟨#[]⟩, .int .i64 0]) (by simp [results, Tryd.results42, go_sem]) rfl ⟨.inl ⟨rfl, HP.out⟩, hbw⟩
        | false =>
          have n92 : s[i] ≠ 92 := Mill.byte_ne _ 92 h92
          by_cases hbr : 32 ≤ (s[i].toNat : Int) ∧ (s[i].toNat : Int) ≤ 126
          · obtain ⟨hb1, hb2⟩ := hbr
            have hba : Mill.isBare s[i] = true := by
              have a1 : (s[i].toNat : Int) ≠ 34 := by simpa using h34
              have a2 : (s[i].toNat : Int) ≠ 92 := by simpa using h92
              simp [Mill.isBare, Mill.bare, hb1, hb2, a1, a2]
            have HU : Hid (Mill.unq (s.data.toList.drop (i + 1)) (acc ++ [s[i]]) = Mill.unq s.data.toList.tail []) := by
              rw [Mill.unq_bare _ _ _ n34 hba] at hu; exact hu
            clear hu n34 n92 hba
            have hz := hbw.size
            go_wp2_with (go_at_call 53; refine (Tryd.Builder_WriteByte_k w.heap.size w.heap.size _ _ _ hI (by rw [Lib.byteCells_length]; omega) hz).mono ?_; rintro e W1 ⟨rfl, k1, k2, k3⟩)
            go_roundw
            case rel => exact ⟨i + 1, acc ++ [s[i]], by omega, by omega, by simp; omega, by go_num, by rw [Mill.byteCells_snoc]; exact Or.inr k1, hbw.trans k2, HU.out⟩
            case measure => simp [intOf]; omega
          · have hnb : Mill.isBare s[i] = false := by
              simp [Mill.isBare, Mill.bare]; intro a b; exact absurd ⟨a, b⟩ hbr
            have HP : Hid (Mill.textP s.data.toList = Mill.bad 4) := by
              rw [Mill.unq_bad _ _ _ n34 hnb n92] at hu
              rw [Hid, Mill.textP_none _ hu.symm]
            clear hu n34 n92 hnb
            by_cases h32 : (s[i].toNat : Int) < 32
            · go_wp2
              exact bodyPost_ret (v := .tuple #[.string ⟨#[]⟩, .int .i64 0]) (by simp [results, Tryd.results42, go_sem]) rfl ⟨.inl ⟨rfl, HP.out⟩, hbw⟩
            · have h126 : 126 < (s[i].toNat : Int) := by omega
              go_wp2
              exact bodyPost_ret (v := .tuple #[.string ⟨#[]⟩, .int .i64 0]) (by simp [results, Tryd.results42, go_sem]) rfl ⟨.inl ⟨rfl, HP.out⟩, hbw⟩
    · have HP : Hid (Mill.textP s.data.toList = Mill.bad 4) := by
        rw [List.drop_of_length_le (by simp; omega)] at hu
        rw [Hid, Mill.textP_none _ (by rw [← hu]; rfl)]
      clear hu
      go_wp2
      exact bodyPost_ret (v := .tuple #[.string ⟨#[]⟩, .int .i64 0]) (by simp [results, Tryd.results42, go_sem]) rfl ⟨.inl ⟨rfl, HP.out⟩, hbw⟩

set_option maxRecDepth 100000 in
set_option maxHeartbeats 2000000 in
theorem readText_any (s : ByteArray) (w : World) (h1 : 1 ≤ s.size) (hs : s.size ≤ 1048576) :
    Calls Tryd.prog 28 #[.string s] w fun e w' => e = .returned (Mill.pieceV (Mill.textP s.data.toList)) ∧ Below w.heap.size w w' := by
  have HQ : Hid (∀ w, Calls Tryd.prog 42 #[.string s] w (Mill.UnqPost s w)) := fun w => unquoted_any s w h1 hs
  go_enter Tryd.func28, Tryd.ntmps28
  go_wp2_with fail
  go_at_call 42
  refine (HQ.out _).mono ?_
  rintro e w1 ⟨hd, hb⟩
  have hbw : Below (w.heap.size + 1) (w.alloc (.cells #[.int .i64 0, .string ByteArray.empty, .int .i64 0, .int .i64 0, .int .i64 0, .int .i64 0, .int .i64 0] 51)) w1 := by simp only [World.size_alloc] at hb; exact hb
  obtain ⟨d0, d1, d2, d3, d4, d5, d6⟩ := Mill.seven_cells hbw
  obtain ⟨g0, g1, g2, g3, g4, g5, g6, hz⟩ := Mill.seven_frozen hbw
  clear hb HQ
  rcases hd with ⟨rfl, hp⟩ | ⟨t, n, hn1, hn2, ht, rfl, hp⟩
  · have HP : Hid (Mill.textP s.data.toList = Mill.bad 4) := hp
    clear hp
    go_wp2
    refine bodyPost_ret (v := Mill.pieceV (Mill.bad 4)) (by simp [results, Tryd.results28, go_sem, d0, d1, d2, d3, d4, d5, d6, Mill.pieceV, Mill.bad, Mill.ba]) rfl ⟨Mill.ret_val (by rw [HP.out]), Mill.below7b hbw _ _ _ _ _ _ _⟩
  · have hn0 : ((n : Int) == 0) = false := by simp; omega
    by_cases h3 : 3000 < t.size
    · have HP : Hid (Mill.textP s.data.toList = Mill.bad 5) := by rw [Hid, hp, if_pos h3]
      clear hp
      go_wp2
      refine bodyPost_ret (v := Mill.pieceV (Mill.bad 5)) (by simp [results, Tryd.results28, go_sem, d0, d1, d2, d3, d4, d5, d6, Mill.pieceV, Mill.bad, Mill.ba]) rfl ⟨Mill.ret_val (by rw [HP.out]), Mill.below7b hbw _ _ _ _ _ _ _⟩
    · have HP : Hid (Mill.textP s.data.toList = ⟨4, t.data.toList, 0, 0, n, 0⟩) := by rw [Hid, hp, if_neg h3]
      clear hp
      go_wp2
      refine bodyPost_ret (v := Mill.pieceV ⟨4, t.data.toList, 0, 0, n, 0⟩) (by simp [results, Tryd.results28, go_sem, d0, d1, d2, d3, d4, d5, d6, Mill.pieceV, Mill.ba]) rfl ⟨Mill.ret_val (by rw [HP.out]), Mill.below7b hbw _ _ _ _ _ _ _⟩

end Go.Proofs.YticjcabnnjhbgaaDoor
