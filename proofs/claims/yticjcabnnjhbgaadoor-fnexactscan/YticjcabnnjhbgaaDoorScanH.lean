import Derived.Test.YticjcabnnjhbgaaDoorScanG
import Derived.Lib.Strings
namespace Go.Proofs.YticjcabnnjhbgaaDoor
open Go.RowKit

def Mill.wlen (s : ByteArray) (a : Nat) : Nat := (Mill.wordOf (s.data.toList.drop a)).length
theorem Mill.wlen_le (s : ByteArray) (a : Nat) : Mill.wlen s a ≤ s.size - a := by
  have := Mill.tw_le Mill.isTail (s.data.toList.drop a); simpa [Mill.wlen, Mill.wordOf] using this
theorem Mill.tail_step (s : ByteArray) (a k : Nat) (h : k < s.size) (ha : a ≤ k) (hk : k - a ≤ Mill.wlen s a) (ht : Mill.tail (s[k].toNat : Int) = true) : k + 1 - a ≤ Mill.wlen s a := by
  have := Mill.tw_step Mill.isTail (s.data.toList.drop a) (k - a) (by simp; omega) hk (by
    rw [List.getElem_drop]
    have e : a + (k - a) = k := by omega
    simp only [e]; exact ht)
  have e : k + 1 - a = k - a + 1 := by omega
  rw [e]; exact this
theorem Mill.tail_stop (s : ByteArray) (a k : Nat) (ha : a ≤ k) (hk : k - a ≤ Mill.wlen s a) (ht : ∀ h : k < s.size, Mill.tail (s[k].toNat : Int) = false) : k - a = Mill.wlen s a :=
  Mill.tw_stop Mill.isTail (s.data.toList.drop a) (k - a) hk (fun h => by
    rw [List.getElem_drop]
    have e : a + (k - a) = k := by omega
    have hk : k < s.size := by simp at h; omega
    simp only [e]; exact ht hk)
theorem Mill.takeWhile_take {α : Type} (p : α → Bool) : ∀ l : List α, l.take (l.takeWhile p).length = l.takeWhile p
  | [] => rfl
  | a :: r => by
    cases h : p a with
    | false => simp [h]
    | true => simp [h, Mill.takeWhile_take p r]
theorem Mill.extract_ba (s : ByteArray) (a k : Nat) : s.extract a k = Mill.ba ((s.data.toList.drop a).take (k - a)) := by
  have h := Lib.extract_data s a k
  exact WideShapes.bytes_inj h
theorem Mill.word_ba (s : ByteArray) (a k : Nat) (hk : k - a = Mill.wlen s a) : s.extract a k = Mill.ba (Mill.wordOf (s.data.toList.drop a)) := by
  rw [Mill.extract_ba, hk, Mill.wlen, Mill.wordOf, Mill.takeWhile_take]
theorem Mill.ba_size (l : List UInt8) : (Mill.ba l).size = l.length := rfl

/- CASES -/
set_option maxRecDepth 100000 in
set_option maxHeartbeats 1000000 in
theorem l1One_letter (s : ByteArray) (at' : Nat) (w : World) (hat : at' < s.size) (hs : s.size ≤ 1048576)
    (h1 : Mill.letter (s[at'].toNat : Int) = true) :
    Calls Tryd.prog 10 #[.string s, .int .i64 (at' : Int)] w fun e w' => e = .returned (Mill.oneVal (Mill.nameP (Mill.wordOf (s.data.toList.drop at'))) at') ∧ Below w.heap.size w w' := by
  go_enter Tryd.func10, Tryd.ntmps10
  go_wp2_with (first | (go_at_call 14; refine (l1Letter_any _ _).mono ?_; rintro e w' ⟨rfl, rfl⟩; rw [h1]))
  go_loop [8] (fun t => ∃ k : Nat, at' ≤ k ∧ k ≤ s.size ∧ k - at' ≤ Mill.wlen s at' ∧ t = .int .i64 (k : Int)) (fun t => s.size - (intOf t).toNat)
  case atStart => exact ⟨at', by omega, by omega, by omega, rfl⟩
  case round =>
    obtain ⟨k, hk0, hks, hkw, rfl⟩ := hrel
    by_cases hgo : ∃ h : k < s.size, Mill.tail (s[k].toNat : Int) = true
    · obtain ⟨hlt, ht⟩ := hgo
      have hk1 := Mill.tail_step s at' k hlt hk0 hkw ht
      go_wp2_with (go_at_call 16; refine (l1Tail_any _ _).mono ?_; rintro e w' ⟨rfl, rfl⟩; rw [ht])
      go_round
      case rel => exact ⟨k + 1, by omega, by omega, hk1, by go_num⟩
      case measure => simp [intOf]; omega
    · have hnt : ∀ h : k < s.size, Mill.tail (s[k].toNat : Int) = false := fun h => by
        cases hc : Mill.tail (s[k].toNat : Int) with
        | true => exact absurd ⟨h, hc⟩ hgo
        | false => rfl
      have hkl := Mill.tail_stop s at' k hk0 hkw hnt
      have HW : Hid (s.extract at' k = Mill.ba (Mill.wordOf (s.data.toList.drop at'))) := Mill.word_ba s at' k hkl
      have hwl : (Mill.wordOf (s.data.toList.drop at')).length = k - at' := hkl.symm
      clear hkl hgo hkw
      obtain ⟨W, HE⟩ : ∃ W, Hid (Mill.wordOf (s.data.toList.drop at') = W) := ⟨_, rfl⟩
      rw [HE.out] at HW hwl
      have hsz : (Mill.ba W).size = k - at' := hwl
      have hba : Mill.ba W = ⟨W.toArray⟩ := rfl
      cases htk : Mill.taken (Mill.ba W) with
      | true =>
        have HP : Hid (Mill.oneVal (Mill.nameP (Mill.wordOf (s.data.toList.drop at'))) at' = .tuple #[.agg #[.int .i64 2, .string (Mill.ba W), .int .i64 0, .int .i64 0, .int .i64 (at' : Int)], .int .i64 (k : Int), .int .i64 0]) := by
          rw [Hid, HE.out, Mill.nameP, if_pos htk]; simp only [Mill.oneVal, if_true, Mill.tokV]; rw [hwl, show (at' : Int) + ((k - at' : Nat) : Int) = (k : Int) by omega]
        clear hwl hba
        generalize Mill.ba W = B at *
        clear hsz
        by_cases hlt : k < s.size
        · have ht := hnt hlt
          clear hnt
          go_wp2_with (first | (go_at_call 14; refine (l1Letter_any _ _).mono ?_; rintro e w' ⟨rfl, rfl⟩; rw [h1]) | (go_at_call 16; refine (l1Tail_any _ _).mono ?_; rintro e w' ⟨rfl, rfl⟩; rw [ht]) | (go_at_call 17; rw [HW.out]; refine (l1Taken_any _ _).mono ?_; rintro e w1 ⟨rfl, hb⟩; rw [htk]; obtain ⟨hc, hf⟩ := Mill.bcell hb; have hz := hb.size; simp at hz))
          refine bodyPost_ret (v := .tuple #[.agg #[.int .i64 2, .string B, .int .i64 0, .int .i64 0, .int .i64 (at' : Int)], .int .i64 (k : Int), .int .i64 0]) (by simp [results, Tryd.results10, go_sem, hc]) rfl ⟨Mill.ret_val HP.out.symm, Mill.below5 _ (Nat.le_refl _) _ hb _ _ _ _ _⟩
        
        · clear hnt
          go_wp2_with (first | (go_at_call 14; refine (l1Letter_any _ _).mono ?_; rintro e w' ⟨rfl, rfl⟩; rw [h1]) | (go_at_call 16; refine (l1Tail_any _ _).mono ?_; rintro e w' ⟨rfl, rfl⟩; rw [ht]) | (go_at_call 17; rw [HW.out]; refine (l1Taken_any _ _).mono ?_; rintro e w1 ⟨rfl, hb⟩; rw [htk]; obtain ⟨hc, hf⟩ := Mill.bcell hb; have hz := hb.size; simp at hz))
          refine bodyPost_ret (v := .tuple #[.agg #[.int .i64 2, .string B, .int .i64 0, .int .i64 0, .int .i64 (at' : Int)], .int .i64 (k : Int), .int .i64 0]) (by simp [results, Tryd.results10, go_sem, hc]) rfl ⟨Mill.ret_val HP.out.symm, Mill.below5 _ (Nat.le_refl _) _ hb _ _ _ _ _⟩
      
      | false =>
        by_cases h30 : 30 < k - at'
        · have HP : Hid (Mill.oneVal (Mill.nameP (Mill.wordOf (s.data.toList.drop at'))) at' = .tuple #[.agg #[.int .i64 0, .string ⟨#[]⟩, .int .i64 0, .int .i64 0, .int .i64 0], .int .i64 (at' : Int), .int .i64 5]) := by
            rw [Hid, HE.out, Mill.nameP, if_neg (by simp [htk]), if_pos (by omega)]; rfl
          have h30' : (30 : Int) < ((Mill.ba W).size : Int) := by omega
          clear hwl hba
          generalize Mill.ba W = B at *
          clear hsz
          by_cases hlt : k < s.size
          · have ht := hnt hlt
            clear hnt
            go_wp2_with (first | (go_at_call 14; refine (l1Letter_any _ _).mono ?_; rintro e w' ⟨rfl, rfl⟩; rw [h1]) | (go_at_call 16; refine (l1Tail_any _ _).mono ?_; rintro e w' ⟨rfl, rfl⟩; rw [ht]) | (go_at_call 17; rw [HW.out]; refine (l1Taken_any _ _).mono ?_; rintro e w1 ⟨rfl, hb⟩; rw [htk]; obtain ⟨hc, hf⟩ := Mill.bcell hb; have hz := hb.size; simp at hz))
            refine bodyPost_ret (v := .tuple #[.agg #[.int .i64 0, .string ⟨#[]⟩, .int .i64 0, .int .i64 0, .int .i64 0], .int .i64 (at' : Int), .int .i64 5]) (by simp [results, Tryd.results10, go_sem, hc]) rfl ⟨Mill.ret_val HP.out.symm, Mill.below5 _ (Nat.le_refl _) _ hb _ _ _ _ _⟩
          
          · clear hnt
            go_wp2_with (first | (go_at_call 14; refine (l1Letter_any _ _).mono ?_; rintro e w' ⟨rfl, rfl⟩; rw [h1]) | (go_at_call 16; refine (l1Tail_any _ _).mono ?_; rintro e w' ⟨rfl, rfl⟩; rw [ht]) | (go_at_call 17; rw [HW.out]; refine (l1Taken_any _ _).mono ?_; rintro e w1 ⟨rfl, hb⟩; rw [htk]; obtain ⟨hc, hf⟩ := Mill.bcell hb; have hz := hb.size; simp at hz))
            refine bodyPost_ret (v := .tuple #[.agg #[.int .i64 0, .string ⟨#[]⟩, .int .i64 0, .int .i64 0, .int .i64 0], .int .i64 (at' : Int), .int .i64 5]) (by simp [results, Tryd.results10, go_sem, hc]) rfl ⟨Mill.ret_val HP.out.symm, Mill.below5 _ (Nat.le_refl _) _ hb _ _ _ _ _⟩
      
        · have HP : Hid (Mill.oneVal (Mill.nameP (Mill.wordOf (s.data.toList.drop at'))) at' = .tuple #[.agg #[.int .i64 1, .string (Mill.ba W), .int .i64 0, .int .i64 0, .int .i64 (at' : Int)], .int .i64 (k : Int), .int .i64 0]) := by
            rw [Hid, HE.out, Mill.nameP, if_neg (by simp [htk]), if_neg (by omega)]; simp only [Mill.oneVal, if_true, Mill.tokV]; rw [hwl, show (at' : Int) + ((k - at' : Nat) : Int) = (k : Int) by omega]
          have h30' : ((Mill.ba W).size : Int) ≤ (30 : Int) := by omega
          clear hwl hba
          generalize Mill.ba W = B at *
          clear hsz
          by_cases hlt : k < s.size
          · have ht := hnt hlt
            clear hnt
            go_wp2_with (first | (go_at_call 14; refine (l1Letter_any _ _).mono ?_; rintro e w' ⟨rfl, rfl⟩; rw [h1]) | (go_at_call 16; refine (l1Tail_any _ _).mono ?_; rintro e w' ⟨rfl, rfl⟩; rw [ht]) | (go_at_call 17; rw [HW.out]; refine (l1Taken_any _ _).mono ?_; rintro e w1 ⟨rfl, hb⟩; rw [htk]; obtain ⟨hc, hf⟩ := Mill.bcell hb; have hz := hb.size; simp at hz))
            refine bodyPost_ret (v := .tuple #[.agg #[.int .i64 1, .string B, .int .i64 0, .int .i64 0, .int .i64 (at' : Int)], .int .i64 (k : Int), .int .i64 0]) (by simp [results, Tryd.results10, go_sem, hc]) rfl ⟨Mill.ret_val HP.out.symm, Mill.below5 _ (Nat.le_refl _) _ hb _ _ _ _ _⟩
          
          · clear hnt
            go_wp2_with (first | (go_at_call 14; refine (l1Letter_any _ _).mono ?_; rintro e w' ⟨rfl, rfl⟩; rw [h1]) | (go_at_call 16; refine (l1Tail_any _ _).mono ?_; rintro e w' ⟨rfl, rfl⟩; rw [ht]) | (go_at_call 17; rw [HW.out]; refine (l1Taken_any _ _).mono ?_; rintro e w1 ⟨rfl, hb⟩; rw [htk]; obtain ⟨hc, hf⟩ := Mill.bcell hb; have hz := hb.size; simp at hz))
            refine bodyPost_ret (v := .tuple #[.agg #[.int .i64 1, .string B, .int .i64 0, .int .i64 0, .int .i64 (at' : Int)], .int .i64 (k : Int), .int .i64 0]) (by simp [results, Tryd.results10, go_sem, hc]) rfl ⟨Mill.ret_val HP.out.symm, Mill.below5 _ (Nat.le_refl _) _ hb _ _ _ _ _⟩


set_option maxRecDepth 100000 in
set_option maxHeartbeats 1000000 in
theorem l1One_digit (s : ByteArray) (at' : Nat) (w : World) (hat : at' < s.size) (hs : s.size ≤ 1048576)
    (h1 : Mill.letter (s[at'].toNat : Int) = false) (h2 : Mill.digit (s[at'].toNat : Int) = true) :
    Calls Tryd.prog 10 #[.string s, .int .i64 (at' : Int)] w fun e w' => e = .returned (Mill.oneVal (Mill.intP (Mill.wordOf (s.data.toList.drop at'))) at') ∧ Below w.heap.size w w' := by
  go_enter Tryd.func10, Tryd.ntmps10
  go_wp2_with (first | (go_at_call 14; refine (l1Letter_any _ _).mono ?_; rintro e w' ⟨rfl, rfl⟩; rw [h1]) | (go_at_call 15; refine (l1Digit_any _ _).mono ?_; rintro e w' ⟨rfl, rfl⟩; rw [h2]))
  go_loop [8] (fun t => ∃ k : Nat, at' ≤ k ∧ k ≤ s.size ∧ k - at' ≤ Mill.wlen s at' ∧ t = .int .i64 (k : Int)) (fun t => s.size - (intOf t).toNat)
  case atStart => exact ⟨at', by omega, by omega, by omega, rfl⟩
  case round =>
    obtain ⟨k, hk0, hks, hkw, rfl⟩ := hrel
    by_cases hgo : ∃ h : k < s.size, Mill.tail (s[k].toNat : Int) = true
    · obtain ⟨hlt, ht⟩ := hgo
      have hk1 := Mill.tail_step s at' k hlt hk0 hkw ht
      go_wp2_with (go_at_call 16; refine (l1Tail_any _ _).mono ?_; rintro e w' ⟨rfl, rfl⟩; rw [ht])
      go_round
      case rel => exact ⟨k + 1, by omega, by omega, hk1, by go_num⟩
      case measure => simp [intOf]; omega
    · have hnt : ∀ h : k < s.size, Mill.tail (s[k].toNat : Int) = false := fun h => by
        cases hc : Mill.tail (s[k].toNat : Int) with
        | true => exact absurd ⟨h, hc⟩ hgo
        | false => rfl
      have hkl := Mill.tail_stop s at' k hk0 hkw hnt
      have HW : Hid (s.extract at' k = Mill.ba (Mill.wordOf (s.data.toList.drop at'))) := Mill.word_ba s at' k hkl
      have hwl : (Mill.wordOf (s.data.toList.drop at')).length = k - at' := hkl.symm
      clear hkl hgo hkw
      obtain ⟨W, HE⟩ : ∃ W, Hid (Mill.wordOf (s.data.toList.drop at') = W) := ⟨_, rfl⟩
      rw [HE.out] at HW hwl
      have hsz : (Mill.ba W).size = k - at' := hwl
      have hba : Mill.ba W = ⟨W.toArray⟩ := rfl
      have hmx : (Mill.ba W).size ≤ maxLen := by unfold maxLen; omega
      have HI0 : Hid (∃ o, Mill.intRead (Mill.ba W) = o ∧ Mill.intP W = (match o with | none => Mill.bad 3 | some (t, n) => ⟨3, [], t, wrap64 n, W.length, 0⟩)) := ⟨_, rfl, rfl⟩
      obtain ⟨o, hio, hip⟩ := HI0.out
      clear HI0 hba
      cases o with
      | none =>
        have HP : Hid (Mill.oneVal (Mill.intP (Mill.wordOf (s.data.toList.drop at'))) at' = .tuple #[.agg #[.int .i64 0, .string ⟨#[]⟩, .int .i64 0, .int .i64 0, .int .i64 0], .int .i64 (at' : Int), .int .i64 3]) := by rw [Hid, HE.out, hip]; rfl
        have HI : Hid (Mill.intVal (Mill.intRead (Mill.ba W)) = .tuple #[.int .i64 0, .int .i64 0, .bool false]) := by rw [Hid, hio]; rfl
        clear hio hip hwl
        generalize Mill.ba W = B at *
        clear hsz
        by_cases hlt : k < s.size
        · have ht := hnt hlt
          clear hnt
          go_wp2_with (first | (go_at_call 14; refine (l1Letter_any _ _).mono ?_; rintro e w' ⟨rfl, rfl⟩; rw [h1]) | (go_at_call 15; refine (l1Digit_any _ _).mono ?_; rintro e w' ⟨rfl, rfl⟩; rw [h2]) | (go_at_call 16; refine (l1Tail_any _ _).mono ?_; rintro e w' ⟨rfl, rfl⟩; rw [ht]) | (go_at_call 18; rw [HW.out]; refine (l1Int_any _ _ hmx).mono ?_; rintro e w1 ⟨rfl, rfl⟩; rw [HI.out]))
          refine bodyPost_ret (v := .tuple #[.agg #[.int .i64 0, .string ⟨#[]⟩, .int .i64 0, .int .i64 0, .int .i64 0], .int .i64 (at' : Int), .int .i64 3]) (by simp [results, Tryd.results10, go_sem]) rfl ⟨Mill.ret_val HP.out.symm, ((Below.refl _ w).alloc (Nat.le_refl _) _)⟩
        
        · clear hnt
          go_wp2_with (first | (go_at_call 14; refine (l1Letter_any _ _).mono ?_; rintro e w' ⟨rfl, rfl⟩; rw [h1]) | (go_at_call 15; refine (l1Digit_any _ _).mono ?_; rintro e w' ⟨rfl, rfl⟩; rw [h2]) | (go_at_call 16; refine (l1Tail_any _ _).mono ?_; rintro e w' ⟨rfl, rfl⟩; rw [ht]) | (go_at_call 18; rw [HW.out]; refine (l1Int_any _ _ hmx).mono ?_; rintro e w1 ⟨rfl, rfl⟩; rw [HI.out]))
          refine bodyPost_ret (v := .tuple #[.agg #[.int .i64 0, .string ⟨#[]⟩, .int .i64 0, .int .i64 0, .int .i64 0], .int .i64 (at' : Int), .int .i64 3]) (by simp [results, Tryd.results10, go_sem]) rfl ⟨Mill.ret_val HP.out.symm, ((Below.refl _ w).alloc (Nat.le_refl _) _)⟩
      
      | some p =>
        obtain ⟨t, n⟩ := p
        have HP : Hid (Mill.oneVal (Mill.intP (Mill.wordOf (s.data.toList.drop at'))) at' = .tuple #[.agg #[.int .i64 3, .string ⟨#[]⟩, .int .i64 t, .int .i64 (wrap64 n), .int .i64 (at' : Int)], .int .i64 (k : Int), .int .i64 0]) := by
          rw [Hid, HE.out, hip]; simp only [Mill.oneVal, if_true, Mill.tokV]; rw [hwl, show (at' : Int) + ((k - at' : Nat) : Int) = (k : Int) by omega]; rfl
        have HI : Hid (Mill.intVal (Mill.intRead (Mill.ba W)) = .tuple #[.int .i64 t, .int .i64 (wrap64 n), .bool true]) := by rw [Hid, hio]; rfl
        clear hio hip hwl
        generalize Mill.ba W = B at *
        generalize wrap64 n = m at *
        clear hsz
        by_cases hlt : k < s.size
        · have ht := hnt hlt
          clear hnt
          go_wp2_with (first | (go_at_call 14; refine (l1Letter_any _ _).mono ?_; rintro e w' ⟨rfl, rfl⟩; rw [h1]) | (go_at_call 15; refine (l1Digit_any _ _).mono ?_; rintro e w' ⟨rfl, rfl⟩; rw [h2]) | (go_at_call 16; refine (l1Tail_any _ _).mono ?_; rintro e w' ⟨rfl, rfl⟩; rw [ht]) | (go_at_call 18; rw [HW.out]; refine (l1Int_any _ _ hmx).mono ?_; rintro e w1 ⟨rfl, rfl⟩; rw [HI.out]))
          refine bodyPost_ret (v := .tuple #[.agg #[.int .i64 3, .string ⟨#[]⟩, .int .i64 t, .int .i64 m, .int .i64 (at' : Int)], .int .i64 (k : Int), .int .i64 0]) (by simp [results, Tryd.results10, go_sem]) rfl ⟨Mill.ret_val HP.out.symm, ((Below.refl _ w).alloc (Nat.le_refl _) _)⟩
        
        · clear hnt
          go_wp2_with (first | (go_at_call 14; refine (l1Letter_any _ _).mono ?_; rintro e w' ⟨rfl, rfl⟩; rw [h1]) | (go_at_call 15; refine (l1Digit_any _ _).mono ?_; rintro e w' ⟨rfl, rfl⟩; rw [h2]) | (go_at_call 16; refine (l1Tail_any _ _).mono ?_; rintro e w' ⟨rfl, rfl⟩; rw [ht]) | (go_at_call 18; rw [HW.out]; refine (l1Int_any _ _ hmx).mono ?_; rintro e w1 ⟨rfl, rfl⟩; rw [HI.out]))
          refine bodyPost_ret (v := .tuple #[.agg #[.int .i64 3, .string ⟨#[]⟩, .int .i64 t, .int .i64 m, .int .i64 (at' : Int)], .int .i64 (k : Int), .int .i64 0]) (by simp [results, Tryd.results10, go_sem]) rfl ⟨Mill.ret_val HP.out.symm, ((Below.refl _ w).alloc (Nat.le_refl _) _)⟩


end Go.Proofs.YticjcabnnjhbgaaDoor
