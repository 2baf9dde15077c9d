import Derived.Test.YtkaoeoeloihigaaGreatDoorVTreeI
import Derived.Test.YtkaoeoeloihigaaGreatDoorVScanO
namespace Go.Proofs.YtkaoeoeloihigaaGreatDoor
open Go.RowKit Go.Maps Go.WideMaps

theorem Mill.tmap_below {H : Type} {P : Program} {k : TypeId} {R : Value → Option (DataW H × List MemPlace)} {b n : Nat} {D : DataW H} {w w' : World} (h : w.ownsMap P k R b n D) (hb : Below w.heap.size w w') : w'.ownsMap P k R b n D := by
  have hlt := h.lt
  obtain ⟨es, clock, h0, rest⟩ := h
  exact ⟨es, clock, (hb.block b hlt).trans h0, rest⟩
def Mill.TWords (w : World) (b : Nat) : Prop := w.ownsMap Tryz.prog 9 (plainElem (H := Unit) Tryz.prog 3) b 35 Mill.wordsD

set_option maxHeartbeats 400000 in
theorem isType_any (b : Int) (w : World) :
    Calls Tryz.prog 48 #[.int .i64 b] w fun e w' => e = .returned (.bool (decide (1 ≤ b) && decide (b ≤ 10))) ∧ w = w' := by
  go_enter Tryz.func48, Tryz.ntmps48
  go_wp2
  all_goals go_ret
  all_goals exact ⟨by simp [decide_eq_true_eq, *] <;> omega, rfl⟩

set_option maxHeartbeats 400000 in
theorem isIntType_any (b : Int) (w : World) :
    Calls Tryz.prog 45 #[.int .i64 b] w fun e w' => e = .returned (.bool (decide (3 ≤ b) && decide (b ≤ 10))) ∧ w = w' := by
  go_enter Tryz.func45, Tryz.ntmps45
  go_wp2
  all_goals go_ret
  all_goals exact ⟨by simp [decide_eq_true_eq, *] <;> omega, rfl⟩
theorem isIntType_is (t : Int) (b : Bool) (h : Hid ((decide (3 ≤ t) && decide (t ≤ 10)) = b)) (w : World) :
    Calls Tryz.prog 45 #[.int .i64 t] w fun e w' => e = .returned (.bool b) ∧ w = w' := by
  rw [← h.out]; exact isIntType_any t w
theorem isType_is (t : Int) (b : Bool) (h : Hid ((decide (1 ≤ t) && decide (t ≤ 10)) = b)) (w : World) :
    Calls Tryz.prog 48 #[.int .i64 t] w fun e w' => e = .returned (.bool b) ∧ w = w' := by
  rw [← h.out]; exact isType_any t w

theorem Mill.tw_all {α : Type} (p : α → Bool) : ∀ l : List α, ((l.takeWhile p).length = l.length) ↔ l.all p = true
  | [] => by simp
  | a :: r => by
    cases h : p a with
    | true => simp [h]; simpa using Mill.tw_all p r
    | false => simp [h]
theorem Mill.wlen_all (s : ByteArray) : ((Mill.wlen s 0 : Int) == (s.size : Int)) = s.data.toList.all (fun c => Mill.tail (c.toNat : Int)) := by
  rw [Bool.eq_iff_iff]
  have h := Mill.tw_all Mill.isTail s.data.toList
  simp only [Mill.wlen, List.drop_zero, Mill.wordOf, beq_iff_eq]
  have hl : s.data.toList.length = s.size := by simp
  rw [hl] at h
  constructor
  · intro h1; exact h.1 (by omega)
  · intro h1; have := h.2 h1; omega

set_option maxRecDepth 100000 in
set_option maxHeartbeats 1000000 in
theorem isName_any (s : ByteArray) (b : Nat) (w : World) (hs : s.size ≤ 1048576) (hM : Mill.TWords w b) :
    Calls Tryz.prog 47 #[.string s, .map (some b)] w fun e w' => e = .returned (.bool (Mill.nameOk s)) ∧ Below w.heap.size w w' := by
  have hbs := hM.lt
  by_cases h1 : 0 < s.size
  · have he : (s.toList == []) = false := by
      rw [ByteArray.toList_eq]
      cases hl : s.data.toList with
      | nil => have : s.data.toList.length = s.size := by simp
               rw [hl] at this; simp at this; omega
      | cons a r => rfl
    have he' : s.toList.isEmpty = false := by
      rw [ByteArray.toList_eq]
      cases hl : s.data.toList with
      | nil => have : s.data.toList.length = s.size := by simp
               rw [hl] at this; simp at this; omega
      | cons a r => rfl
    have hw0 : IntKind.i32.wrap (s[0].toNat : Int) = (s[0].toNat : Int) := by have := s[0].toNat_lt; rw [IntKind.wrap_i32]; omega
    by_cases h2 : s.size ≤ 30
    · cases hl : Mill.letter (s[0].toNat : Int) with
      | false =>
        have HV : Hid (Mill.nameOk s = false) := Mill.nameOk_letter s h1 hl
        go_enter Tryz.func47, Tryz.ntmps47
        go_wp2_with (go_at_call 65; refine (isLetter_any _ _).mono ?_; rintro e w' ⟨rfl, rfl⟩; first | rw [hl] | rw [hw0, hl])
        go_ret
        exact ⟨Mill.ret_bool HV.out.symm, Below.refl _ _⟩
      | true =>
        have hxm : s.size ≤ maxLen := by unfold maxLen; omega
        have hba : Mill.ba s.data.toList = s := rfl
        cases ht : Mill.taken s with
        | true =>
          have HV : Hid (Mill.nameOk s = false) := Mill.nameOk_taken s ht
          have HH : Hid (Maps.has Mill.wordsD (.string s.data.toList) = true) := by rw [Hid, Mill.words_has, hba]; exact ht
          go_enter Tryz.func47, Tryz.ntmps47
          go_wp2_with (first
            | (go_at_call 65; refine (isLetter_any _ _).mono ?_; rintro e w' ⟨rfl, rfl⟩; first | rw [hl] | rw [hw0, hl])
            | (at_lookup; refine wpList_lookup_own_ok_int _ rfl _ _ 73 rfl 9 3 .i64 Tryz.lawStr Tryz.underlying73 Tryz.underlying3 (Tryz.zeroInt _) b 35 _ rfl hM _ _ rfl (keyOf_string_mk Tryz.underlying9 hxm) ?_; intro c hat hwc; rw [HH.out]))
          go_ret
          exact ⟨Mill.ret_bool HV.out.symm, Below.refl _ _⟩
        | false =>
          have HV : Hid (Mill.nameOk s = ((Mill.wlen s 0 : Int) == (s.size : Int))) := by rw [Hid, Mill.wlen_all]; exact Mill.nameOk_rest s h1 h2 hl ht
          have HH : Hid (Maps.has Mill.wordsD (.string s.data.toList) = false) := by rw [Hid, Mill.words_has, hba]; exact ht
          go_enter Tryz.func47, Tryz.ntmps47
          go_wp2_with (first
            | (go_at_call 65; refine (isLetter_any _ _).mono ?_; rintro e w' ⟨rfl, rfl⟩; first | rw [hl] | rw [hw0, hl])
            | (at_lookup; refine wpList_lookup_own_ok_int _ rfl _ _ 73 rfl 9 3 .i64 Tryz.lawStr Tryz.underlying73 Tryz.underlying3 (Tryz.zeroInt _) b 35 _ rfl hM _ _ rfl (keyOf_string_mk Tryz.underlying9 hxm) ?_; intro c hat hwc; rw [HH.out])
            | (go_at_call 66; refine (wordSize_any _ _ hs).mono ?_; rintro e w1 ⟨rfl, hb⟩))
          go_ret
          exact ⟨Mill.ret_bool HV.out.symm, hb⟩
    · have HV : Hid (Mill.nameOk s = false) := Mill.nameOk_size s (.inr (by omega))
      go_enter Tryz.func47, Tryz.ntmps47
      go_wp2_with fail
      go_ret
      exact ⟨Mill.ret_bool HV.out.symm, Below.refl _ _⟩
  · have HV : Hid (Mill.nameOk s = false) := Mill.nameOk_size s (.inl (by omega))
    have hlz : s.data.toList.length = s.size := by simp
    have he : s.data.toList = [] := List.eq_nil_of_length_eq_zero (by omega)
    have he1 : s.toList.isEmpty = true := by rw [ByteArray.toList_eq, he]; rfl
    clear he hlz
    go_enter Tryz.func47, Tryz.ntmps47
    go_wp2_with fail
    go_ret
    exact ⟨Mill.ret_bool HV.out.symm, Below.refl _ _⟩
theorem isName_is (s : ByteArray) (c : Bool) (h : Hid (Mill.nameOk s = c)) (b : Nat) (w : World) (hs : s.size ≤ 1048576) (hM : Mill.TWords w b) :
    Calls Tryz.prog 47 #[.string s, .map (some b)] w fun e w' => e = .returned (.bool c) ∧ Below w.heap.size w w' := by
  rw [← h.out]; exact isName_any s b w hs hM

end Go.Proofs.YtkaoeoeloihigaaGreatDoor
