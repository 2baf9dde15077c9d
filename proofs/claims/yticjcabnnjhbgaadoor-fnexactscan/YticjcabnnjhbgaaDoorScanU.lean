import Derived.Test.YticjcabnnjhbgaaDoorScanT
namespace Go.Proofs.YticjcabnnjhbgaaDoor
open Go.RowKit Go.Maps Go.WideMaps

theorem Mill.map_below {H : Type} {P : Program} {k : TypeId} {R : Value → Option (DataW H × List MemPlace)} {b n : Nat} {D : DataW H} {w w' : World} (h : w.ownsMap P k R b n D) (hb : Below w.heap.size w w') : w'.ownsMap P k R b n D := by
  have hlt := h.lt
  obtain ⟨es, clock, h0, rest⟩ := h
  exact ⟨es, clock, (hb.block b hlt).trans h0, rest⟩
theorem Mill.taken_len (k : List UInt8) (h : Mill.taken (Mill.ba k) = true) : k.length ≤ 30 := by
  rw [Mill.taken_mem] at h
  have : ∀ x ∈ Mill.wordList.map Prod.fst, x.length ≤ 30 := by decide
  exact this k h
def Mill.Words (w : World) (b : Nat) : Prop := w.ownsMap Tryd.prog 9 (plainElem Tryd.prog 3) b 35 Mill.wordsD
theorem Mill.wlen0 (s : ByteArray) : Mill.wlen s 0 = (Mill.wordOf s.data.toList).length := by simp [Mill.wlen]
theorem Mill.word_ba0 (s : ByteArray) : s.extract 0 (Mill.wlen s 0) = Mill.ba (Mill.wordOf s.data.toList) := by
  have := Mill.word_ba s 0 (Mill.wlen s 0) (by omega); simpa using this

set_option maxRecDepth 100000 in
set_option maxHeartbeats 1000000 in
theorem readName_any (s : ByteArray) (b : Nat) (w : World) (hs : s.size ≤ 1048576) (hM : Mill.Words w b) :
    Calls Tryd.prog 25 #[.string s, .map (some b)] w fun e w' => e = .returned (Mill.pieceV (Mill.nameP (Mill.wordOf s.data.toList))) ∧ Below w.heap.size w w' := by
  have hle := Mill.wlen_le s 0
  have hwb := Mill.word_ba0 s
  have hwl := Mill.wlen0 s
  obtain ⟨n, HN⟩ : ∃ n, Hid (Mill.wlen s 0 = n) := ⟨_, (rfl : Mill.wlen s 0 = _)⟩
  rw [HN.out] at hle hwb hwl
  obtain ⟨W, HW⟩ : ∃ W, Hid (Mill.wordOf s.data.toList = W) := ⟨_, (rfl : Mill.wordOf s.data.toList = _)⟩
  rw [HW.out] at hwb hwl
  have hbs := hM.lt
  by_cases h30 : 30 < n
  · have ht : ¬ Mill.taken (Mill.ba W) = true := fun h => by have := Mill.taken_len W h; omega
    have HP : Hid (Mill.pieceV (Mill.nameP (Mill.wordOf s.data.toList)) = Mill.pieceV (Mill.bad 5)) := by rw [Hid, HW.out, Mill.nameP, if_neg ht, if_pos (by omega)]
    clear hwb hwl ht
    go_enter Tryd.func25, Tryd.ntmps25
    go_wp2_with (go_at_call 38; refine (wordSize_any _ _ hs).mono ?_; rintro e w1 ⟨rfl, hb⟩; rw [HN.out]; obtain ⟨hc, hf⟩ := Mill.bcell hb; have hz := hb.size; simp at hz)
    refine bodyPost_ret (v := Mill.pieceV (Mill.bad 5)) (by simp [results, Tryd.results25, go_sem, hc, Mill.pieceV, Mill.bad, Mill.ba]) rfl ⟨Mill.ret_val HP.out.symm, Mill.below7 _ (Nat.le_refl _) _ hb _ _ _ _ _ _ _⟩
  · have hxs : (s.extract 0 n).size ≤ 1048576 := by rw [hwb, Mill.ba_size]; omega
    have hxm : (s.extract 0 n).size ≤ maxLen := by unfold maxLen; omega
    have hdl : (s.extract 0 n).data.toList = W := by rw [hwb]; rfl
    have HH : Hid (Maps.has Mill.wordsD (.string (s.extract 0 n).data.toList) = Mill.taken (Mill.ba W)) := by rw [Hid, hdl]; exact Mill.words_has W
    cases htk : Mill.taken (Mill.ba W)
    all_goals
      first
      | (have HP : Hid (Mill.pieceV (Mill.nameP (Mill.wordOf s.data.toList)) = .agg #[.int .i64 2, .string (s.extract 0 n), .int .i64 0, .int .i64 0, .int .i64 0, .int .i64 (n : Int), .int .i64 0]) := by rw [Hid, HW.out, Mill.nameP, if_pos htk, Mill.pieceV, ← hwb, hwl])
      | (have HP : Hid (Mill.pieceV (Mill.nameP (Mill.wordOf s.data.toList)) = .agg #[.int .i64 1, .string (s.extract 0 n), .int .i64 0, .int .i64 0, .int .i64 0, .int .i64 (n : Int), .int .i64 0]) := by rw [Hid, HW.out, Mill.nameP, if_neg (by simp [htk]), if_neg (by omega), Mill.pieceV, ← hwb, hwl])
      rw [htk] at HH
      clear hwb hwl hdl htk
      go_enter Tryd.func25, Tryd.ntmps25
      go_wp2_with (first
        | (go_at_call 38; refine (wordSize_any _ _ hs).mono ?_; rintro e w1 ⟨rfl, hb⟩; rw [HN.out]; have hz := hb.size; simp at hz; have hM1 := Mill.map_below (hM.alloc _) hb)
        | (at_lookup; refine wpList_lookup_own_ok_int _ rfl _ _ 48 rfl 9 3 .i64 Tryd.lawStr Tryd.underlying48 Tryd.underlying3 (Tryd.zeroInt _) b 35 _ rfl hM1 _ _ rfl (keyOf_string_mk Tryd.underlying9 hxm) ?_; intro c hat hwc; rw [HH.out])
        | (go_at_call 39; refine (Clone_any _ _ hxs).mono ?_; rintro e w2 ⟨rfl, hb2⟩; have hbb := hb.trans (hb2.mono (B' := (w.alloc _).heap.size) (by simp; omega)); obtain ⟨hc, hf⟩ := Mill.bcell hbb; have hz2 := hb2.size))
      first
      | (refine bodyPost_ret (v := .agg #[.int .i64 2, .string (s.extract 0 n), .int .i64 0, .int .i64 0, .int .i64 0, .int .i64 (n : Int), .int .i64 0]) (by simp [results, Tryd.results25, go_sem, hc]) rfl ⟨Mill.ret_val HP.out.symm, Mill.below7 _ (Nat.le_refl _) _ hbb _ _ _ _ _ _ _⟩)
      | (refine bodyPost_ret (v := .agg #[.int .i64 1, .string (s.extract 0 n), .int .i64 0, .int .i64 0, .int .i64 0, .int .i64 (n : Int), .int .i64 0]) (by simp [results, Tryd.results25, go_sem, hc]) rfl ⟨Mill.ret_val HP.out.symm, Mill.below7 _ (Nat.le_refl _) _ hbb _ _ _ _ _ _ _⟩)

end Go.Proofs.YticjcabnnjhbgaaDoor
