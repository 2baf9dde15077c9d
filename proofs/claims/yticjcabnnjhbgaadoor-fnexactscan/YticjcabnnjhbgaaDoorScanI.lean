import Derived.Test.YticjcabnnjhbgaaDoorScanH
namespace Go.Proofs.YticjcabnnjhbgaaDoor
open Go.RowKit

theorem Mill.marks_cell (w : World) (k : Nat) (p : List UInt8) (h : Mill.marks[k]? = some p) : (w.alloc (.cells Mill.marksCells 9)).cell? ⟨w.heap.size, k, none⟩ = some (Mill.strOf p) := by
  rw [cell_of_row _ _ _ Mill.marksCells 9 (0, 0) (heap_alloc_new w _)]
  simp [Mill.marksCells, h]
theorem Mill.mark_no (s : ByteArray) (at' : Nat) (m : List UInt8) (hat : at' < s.size) (h : ¬ at' + m.length ≤ s.size) : Mill.markAt (s.data.toList.drop at') m = false := by
  simp [Mill.markAt]; intro h2; omega
theorem Mill.mark_eq (s : ByteArray) (at' : Nat) (m : List UInt8) (h : at' + m.length ≤ s.size) : Mill.markAt (s.data.toList.drop at') m = ((s.extract at' (at' + m.length)).toList == m) := by
  rw [ByteArray.toList_eq, Lib.extract_data, show at' + m.length - at' = m.length by omega]
  simp [Mill.markAt]; omega

theorem Mill.mark_len (k : Nat) (m : List UInt8) (h : Mill.marks[k]? = some m) : m.length ≤ 2 := by
  have hm := List.mem_of_getElem? h
  have : ∀ x ∈ Mill.marks, x.length ≤ 2 := by decide
  exact this m hm

set_option maxRecDepth 100000 in
set_option maxHeartbeats 1000000 in
theorem l1One_mark (s : ByteArray) (at' : Nat) (w : World) (hat : at' < s.size) (hs : s.size ≤ 1048576)
    (h1 : Mill.letter (s[at'].toNat : Int) = false) (h2 : Mill.digit (s[at'].toNat : Int) = false) (h3 : ((s[at'].toNat : Int) == 34) = false) :
    Calls Tryd.prog 10 #[.string s, .int .i64 (at' : Int)] w fun e w' => e = .returned (Mill.oneVal (Mill.markP (s.data.toList.drop at')) at') ∧ Below w.heap.size w w' := by
  go_enter Tryd.func10, Tryd.ntmps10
  go_wp2_with (first
    | (go_at_call 14; refine (l1Letter_any _ _).mono ?_; rintro e w' ⟨rfl, rfl⟩; rw [h1])
    | (go_at_call 15; refine (l1Digit_any _ _).mono ?_; rintro e w' ⟨rfl, rfl⟩; rw [h2])
    | (go_at_call 20; refine (l1Marks_any _).mono ?_; rintro e w' ⟨rfl, rfl⟩))
  have hcell := fun k p => Mill.marks_cell (w.alloc (.cells #[.int .i64 0, .string ByteArray.empty, .int .i64 0, .int .i64 0, .int .i64 0] 32)) k p
  simp only [World.size_alloc] at hcell
  go_loopw [17, 18] (fun t _ wr => ∃ k nq : Nat, k ≤ 28 ∧ t = .int .i64 (k : Int) ∧ (Mill.marks.drop k).find? (Mill.markAt (s.data.toList.drop at')) = Mill.marks.find? (Mill.markAt (s.data.toList.drop at')) ∧ wr = (((w.alloc (.cells #[.int .i64 0, .string ByteArray.empty, .int .i64 0, .int .i64 0, .int .i64 0] 32)).alloc (.cells Mill.marksCells 9)).drewN nq)) (fun t _ _ => 28 - (intOf t).toNat)
  case atStart => exact ⟨0, 0, by omega, rfl, rfl, rfl⟩
  case round =>
    obtain ⟨k, nq, hk, rfl, hf, rfl⟩ := hrel
    by_cases hlt : k < 28
    · have hlt2 : k < Mill.marks.length := hlt
      have hp : Mill.marks[k]? = some Mill.marks[k] := List.getElem?_eq_getElem hlt2
      have hd : Mill.marks.drop k = Mill.marks[k] :: Mill.marks.drop (k + 1) := List.drop_eq_getElem_cons hlt2
      generalize Mill.marks[k] = m at *
      have hcl := hcell k m hp
      clear hcell
      rw [hd, List.find?_cons] at hf
      obtain ⟨M, hM⟩ : ∃ M : ByteArray, M = ⟨m.toArray⟩ := ⟨_, rfl⟩
      have hMl : M.toList = m := by rw [hM, ByteArray.toList_eq]
      have hMs : M.size = m.length := by rw [hM]; rfl
      have hml : m.length ≤ 2 := Mill.mark_len k m hp
      rw [Mill.strOf, ← hM] at hcl
      by_cases hin : at' + m.length ≤ s.size
      · have hg : decide ((at' : Int) + (m.length : Int) ≤ (s.size : Int)) = true := by simp; omega
        have hg2 : (at' : Int) + (m.length : Int) ≤ (s.size : Int) := by omega
        have hg3 : (at' : Int) ≤ (at' : Int) + (m.length : Int) := by omega
        have hw : IntKind.i64.wrap ((at' : Int) + (m.length : Int)) = (at' : Int) + (m.length : Int) := wrap_small _ (by omega) (by omega)
        have hn : ((at' : Int) + (m.length : Int)).toNat = at' + m.length := by omega
        have hme := Mill.mark_eq s at' m hin
        rw [← hMl, hMl] at hme
        cases hb : ((s.extract at' (at' + m.length)).toList == M.toList) with
        | true =>
          have HP : Hid (Mill.oneVal (Mill.markP (s.data.toList.drop at')) at' = .tuple #[.agg #[.int .i64 5, .string M, .int .i64 0, .int .i64 0, .int .i64 (at' : Int)], .int .i64 ((at' : Int) + (m.length : Int)), .int .i64 0]) := by
            rw [hMl] at hb
            rw [hme, hb] at hf
            rw [Hid, Mill.markP, ← hf, hM]; rfl
          clear hf hd hMl hM hp hme
          go_wp2_with fail
          go_quiet (fail)
          go_wp2
          refine bodyPost_ret (v := .tuple #[.agg #[.int .i64 5, .string M, .int .i64 0, .int .i64 0, .int .i64 (at' : Int)], .int .i64 ((at' : Int) + (m.length : Int)), .int .i64 0]) (by simp [results, Tryd.results10, go_sem]) rfl ⟨Mill.ret_val HP.out.symm, Mill.below5 _ (Nat.le_refl _) _ (below_drewN ((Below.refl _ _).alloc (Nat.le_refl _) _) _) _ _ _ _ _⟩
        | false =>
          have HF : Hid ((Mill.marks.drop (k + 1)).find? (Mill.markAt (s.data.toList.drop at')) = Mill.marks.find? (Mill.markAt (s.data.toList.drop at'))) := by
            rw [hMl] at hb
            rw [hme, hb] at hf; exact hf
          clear hf hd hMl hM hp hme
          go_wp2_with fail
          go_quiet (fail)
          go_wp2
          go_roundw
          case rel => exact ⟨k + 1, _, by omega, by go_num, HF.out, rfl⟩
          case measure => simp [intOf]; omega
      · have HF : Hid ((Mill.marks.drop (k + 1)).find? (Mill.markAt (s.data.toList.drop at')) = Mill.marks.find? (Mill.markAt (s.data.toList.drop at'))) := by rw [Mill.mark_no s at' m hat hin] at hf; exact hf
        have hg : decide ((at' : Int) + (m.length : Int) ≤ (s.size : Int)) = false := by simp; omega
        have hw : IntKind.i64.wrap ((at' : Int) + (m.length : Int)) = (at' : Int) + (m.length : Int) := wrap_small _ (by omega) (by omega)
        clear hf hd hMl hM hp
        go_wp2_with fail
        go_quiet (fail)
        go_wp2
        go_roundw
        case rel => exact ⟨k + 1, _, by omega, by go_num, HF.out, rfl⟩
        case measure => simp [intOf]; omega
    · have h0 : k = 28 := by omega
      subst h0
      have HP : Hid (Mill.oneVal (Mill.markP (s.data.toList.drop at')) at' = .tuple #[.agg #[.int .i64 0, .string ⟨#[]⟩, .int .i64 0, .int .i64 0, .int .i64 0], .int .i64 (at' : Int), .int .i64 2]) := by
        rw [Hid, Mill.markP, ← hf]; rfl
      clear hf hcell
      go_wp2
      refine bodyPost_ret (v := .tuple #[.agg #[.int .i64 0, .string ⟨#[]⟩, .int .i64 0, .int .i64 0, .int .i64 0], .int .i64 (at' : Int), .int .i64 2]) (by simp [results, Tryd.results10, go_sem]) rfl ⟨Mill.ret_val HP.out.symm, Mill.below5 _ (Nat.le_refl _) _ (below_drewN ((Below.refl _ _).alloc (Nat.le_refl _) _) _) _ _ _ _ _⟩

theorem l1One_any (s : ByteArray) (at' : Nat) (w : World) (hat : at' < s.size) (hs : s.size ≤ 1048576) :
    Calls Tryd.prog 10 #[.string s, .int .i64 (at' : Int)] w fun e w' => e = .returned (Mill.oneVal (Mill.one (s.data.toList.drop at')) at') ∧ Below w.heap.size w w' := by
  have hd := Mill.drop_cons s at' hat
  cases h1 : Mill.letter (s[at'].toNat : Int) with
  | true =>
    have e : Mill.one (s.data.toList.drop at') = Mill.nameP (Mill.wordOf (s.data.toList.drop at')) := by rw [hd, Mill.one, if_pos h1]
    rw [e]; exact l1One_letter s at' w hat hs h1
  | false =>
    cases h2 : Mill.digit (s[at'].toNat : Int) with
    | true =>
      have e : Mill.one (s.data.toList.drop at') = Mill.intP (Mill.wordOf (s.data.toList.drop at')) := by rw [hd, Mill.one, if_neg (by simp [h1]), if_pos h2]
      rw [e]; exact l1One_digit s at' w hat hs h1 h2
    | false =>
      cases h3 : ((s[at'].toNat : Int) == 34) with
      | true =>
        have e : Mill.one (s.data.toList.drop at') = Mill.textP (s.data.toList.drop at') := by rw [hd, Mill.one, if_neg (by simp [h1]), if_neg (by simp [h2]), if_pos (Mill.byte_eq _ 34 h3)]
        rw [e]; exact l1One_quote s at' w hat hs h1 h2 h3
      | false =>
        have e : Mill.one (s.data.toList.drop at') = Mill.markP (s.data.toList.drop at') := by rw [hd, Mill.one, if_neg (by simp [h1]), if_neg (by simp [h2]), if_neg (Mill.byte_ne _ 34 h3)]
        rw [e]; exact l1One_mark s at' w hat hs h1 h2 h3

end Go.Proofs.YticjcabnnjhbgaaDoor
