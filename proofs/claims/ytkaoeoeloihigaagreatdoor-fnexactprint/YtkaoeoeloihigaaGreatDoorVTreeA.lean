import Derived.Test.YtkaoeoeloihigaaGreatDoorVScanF
namespace Go.Proofs.YtkaoeoeloihigaaGreatDoor
open Go.RowKit

structure Mill.Nd where
  kind : Int
  op : Int
  type : Int
  n : Int
  text : ByteArray
  kids : Int
def Mill.ndC (d : Mill.Nd) : List Value := [.int .i64 d.kind, .int .i64 d.op, .int .i64 d.type, .int .i64 d.n, .string d.text, .int .i64 d.kids]
def Mill.ndV (d : Mill.Nd) : Value := .agg #[.int .i64 d.kind, .int .i64 d.op, .int .i64 d.type, .int .i64 d.n, .string d.text, .int .i64 d.kids]
def Mill.ndCs (l : List Mill.Nd) : List Value := l.flatMap Mill.ndC
def Mill.isE (k : Int) : Bool := decide (1 ≤ k) && decide (k ≤ 9)
def Mill.isS (k : Int) : Bool := decide (10 ≤ k) && decide (k ≤ 20)
def Mill.uOp (k : Int) : Bool := decide (k = 5) || decide (k = 6) || decide (k = 8)
def Mill.uType (k : Int) : Bool := decide (k = 1) || decide (k = 9) || decide (k = 22) || decide (k = 23)
def Mill.uN (k : Int) : Bool := decide (k = 1) || decide (k = 3)
def Mill.named (k : Int) : Bool := decide (k = 4) || decide (k = 7) || decide (k = 10) || decide (k = 11) || decide (k = 22) || decide (k = 23)
def Mill.uText (k : Int) : Bool := decide (k = 2) || Mill.named k

set_option maxHeartbeats 400000 in
theorem l2E_any (b : Int) (w : World) :
    Calls Tryz.prog 40 #[.int .i64 b] w fun e w' => e = .returned (.bool (Mill.isE b)) ∧ w = w' := by
  go_enter Tryz.func40, Tryz.ntmps40
  go_wp2
  all_goals go_ret
  all_goals exact ⟨by simp [Mill.isE, *] <;> omega, rfl⟩

set_option maxHeartbeats 400000 in
theorem l2S_any (b : Int) (w : World) :
    Calls Tryz.prog 43 #[.int .i64 b] w fun e w' => e = .returned (.bool (Mill.isS b)) ∧ w = w' := by
  go_enter Tryz.func43, Tryz.ntmps43
  go_wp2
  all_goals go_ret
  all_goals exact ⟨by simp [Mill.isS, *] <;> omega, rfl⟩

def Mill.usesV (k : Int) : Value := .tuple #[.bool (Mill.uOp k), .bool (Mill.uType k), .bool (Mill.uN k), .bool (Mill.uText k)]

set_option maxHeartbeats 1000000 in
theorem l2Uses_any (b : Int) (w : World) :
    Calls Tryz.prog 35 #[.int .i64 b] w fun e w' => e = .returned (Mill.usesV b) ∧ w = w' := by
  go_enter Tryz.func35, Tryz.ntmps35
  go_wp2
  all_goals refine bodyPost_ret (v := Mill.usesV b) ?_ rfl ⟨rfl, rfl⟩
  all_goals simp_all [results, Tryz.results35, go_sem, Mill.usesV, Mill.uOp, Mill.uType, Mill.uN, Mill.uText, Mill.named]

set_option maxHeartbeats 400000 in
theorem l2Named_any (b : Int) (w : World) :
    Calls Tryz.prog 36 #[.int .i64 b] w fun e w' => e = .returned (.bool (Mill.named b)) ∧ w = w' := by
  go_enter Tryz.func36, Tryz.ntmps36
  go_wp2
  all_goals go_ret
  all_goals exact ⟨Mill.ret_bool (by rw [Bool.eq_iff_iff]; simp [Mill.named] <;> omega), rfl⟩

def Mill.nameOk (s : ByteArray) : Bool := decide (1 ≤ s.size) && decide (s.size ≤ 30) && (match s.data.toList with | [] => false | b :: _ => Mill.letter (b.toNat : Int)) && !Mill.taken s && s.data.toList.all (fun c => Mill.tail (c.toNat : Int))

theorem Mill.nameOk_size (s : ByteArray) (h : s.size < 1 ∨ 30 < s.size) : Mill.nameOk s = false := by
  rcases h with h | h
  · have h' : ¬ 1 ≤ s.size := by omega
    unfold Mill.nameOk; simp only [h', decide_false, Bool.false_and]
  · have h' : ¬ s.size ≤ 30 := by omega
    unfold Mill.nameOk; simp only [h', decide_false, Bool.false_and, Bool.and_false]
theorem Mill.nameOk_letter (s : ByteArray) (h : 0 < s.size) (hl : Mill.letter (s[0].toNat : Int) = false) : Mill.nameOk s = false := by
  obtain ⟨r, this⟩ : ∃ r, s.data.toList = s[0] :: r := ⟨_, by simpa using Mill.drop_cons s 0 h⟩
  unfold Mill.nameOk; simp only [this, hl, Bool.false_and, Bool.and_false]
theorem Mill.nameOk_taken (s : ByteArray) (h : Mill.taken s = true) : Mill.nameOk s = false := by unfold Mill.nameOk; simp only [h, Bool.not_true, Bool.false_and, Bool.and_false]
theorem Mill.nameOk_rest (s : ByteArray) (h : 0 < s.size) (h3 : s.size ≤ 30) (hl : Mill.letter (s[0].toNat : Int) = true) (ht : Mill.taken s = false) : Mill.nameOk s = s.data.toList.all (fun c => Mill.tail (c.toNat : Int)) := by
  obtain ⟨r, this⟩ : ∃ r, s.data.toList = s[0] :: r := ⟨_, by simpa using Mill.drop_cons s 0 h⟩
  have h1 : 1 ≤ s.size := h
  unfold Mill.nameOk; simp only [this, hl, h1, h3, ht, decide_true, Bool.true_and, Bool.not_false]

set_option maxHeartbeats 1000000 in
theorem l1NameOk_any (s : ByteArray) (w : World) :
    Calls Tryz.prog 37 #[.string s] w fun e w' => e = .returned (.bool (Mill.nameOk s)) ∧ Below w.heap.size w w' := by
  by_cases h1 : 0 < s.size
  · by_cases h2 : s.size ≤ 30
    · cases hl : Mill.letter (s[0].toNat : Int) with
      | false =>
        have HV : Hid (Mill.nameOk s = false) := Mill.nameOk_letter s h1 hl
        go_enter Tryz.func37, Tryz.ntmps37
        go_wp2_with (go_at_call 58; refine (l1Letter_any _ _).mono ?_; rintro e w' ⟨rfl, rfl⟩; rw [hl])
        go_ret
        exact ⟨Mill.ret_bool HV.out.symm, Below.refl _ _⟩
      | true =>
        cases ht : Mill.taken s with
        | true =>
          have HV : Hid (Mill.nameOk s = false) := Mill.nameOk_taken s ht
          go_enter Tryz.func37, Tryz.ntmps37
          go_wp2_with (first | (go_at_call 58; refine (l1Letter_any _ _).mono ?_; rintro e w' ⟨rfl, rfl⟩; rw [hl]) | (go_at_call 59; refine (l1Taken_any _ _).mono ?_; rintro e w1 ⟨rfl, hb⟩; rw [ht]))
          go_ret
          exact ⟨Mill.ret_bool HV.out.symm, hb⟩
        | false =>
          have HV : Hid (Mill.nameOk s = s.data.toList.all (fun c => Mill.tail (c.toNat : Int))) := Mill.nameOk_rest s h1 h2 hl ht
          go_enter Tryz.func37, Tryz.ntmps37
          go_wp2_with (first | (go_at_call 58; refine (l1Letter_any _ _).mono ?_; rintro e w' ⟨rfl, rfl⟩; rw [hl]) | (go_at_call 59; refine (l1Taken_any _ _).mono ?_; rintro e w1 ⟨rfl, hb⟩; rw [ht]))
          go_loop [3] (fun t => ∃ k : Nat, k ≤ s.size ∧ t = .int .i64 (k : Int) ∧ (s.data.toList.drop k).all (fun c => Mill.tail (c.toNat : Int)) = s.data.toList.all (fun c => Mill.tail (c.toNat : Int))) (fun t => s.size - (intOf t).toNat)
          case atStart => exact ⟨0, by omega, rfl, rfl⟩
          case round =>
            obtain ⟨k, hk, rfl, hf⟩ := hrel
            by_cases hlt : k < s.size
            · rw [Mill.drop_cons s k hlt, List.all_cons] at hf
              cases hc : Mill.tail (s[k].toNat : Int) with
              | true =>
                have HF : Hid ((s.data.toList.drop (k + 1)).all (fun c => Mill.tail (c.toNat : Int)) = s.data.toList.all (fun c => Mill.tail (c.toNat : Int))) := by rw [hc] at hf; exact hf
                clear hf
                go_wp2_with (go_at_call 60; refine (l1Tail_any _ _).mono ?_; rintro e w' ⟨rfl, rfl⟩; rw [hc])
                go_round
                case rel => exact ⟨k + 1, by omega, by go_num, HF.out⟩
                case measure => simp [intOf]; omega
              | false =>
                have HF : Hid (Mill.nameOk s = false) := by rw [hc] at hf; rw [Hid, HV.out, ← hf]; rfl
                clear hf
                go_wp2_with (go_at_call 60; refine (l1Tail_any _ _).mono ?_; rintro e w' ⟨rfl, rfl⟩; rw [hc])
                go_ret
                exact ⟨Mill.ret_bool HF.out.symm, hb⟩
            · have HF : Hid (Mill.nameOk s = true) := by
                rw [List.drop_of_length_le (by simp; omega)] at hf
                rw [Hid, HV.out, ← hf]; rfl
              clear hf
              go_wp2
              go_ret
              exact ⟨Mill.ret_bool HF.out.symm, hb⟩
    · have HV : Hid (Mill.nameOk s = false) := Mill.nameOk_size s (.inr (by omega))
      go_enter Tryz.func37, Tryz.ntmps37
      go_wp2
      go_ret
      exact ⟨Mill.ret_bool HV.out.symm, Below.refl _ _⟩
  · have HV : Hid (Mill.nameOk s = false) := Mill.nameOk_size s (.inl (by omega))
    go_enter Tryz.func37, Tryz.ntmps37
    go_wp2
    go_ret
    exact ⟨Mill.ret_bool HV.out.symm, Below.refl _ _⟩

end Go.Proofs.YtkaoeoeloihigaaGreatDoor
