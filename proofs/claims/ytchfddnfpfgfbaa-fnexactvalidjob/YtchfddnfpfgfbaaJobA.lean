import Derived.Test.YtchfddnfpfgfbaaRepA
namespace Go.Proofs.Ytchfddnfpfgfbaa
open Go.RowKit

theorem Jb.drop_cons (s : ByteArray) (k : Nat) (h : k < s.size) : s.data.toList.drop k = s[k] :: s.data.toList.drop (k + 1) := by
  rw [List.drop_eq_getElem_cons (by simpa using h)]; rfl
theorem Jb.ret_bool {a b : Bool} (h : a = b) : (Ending.returned (.bool a) : Ending) = .returned (.bool b) := by rw [h]
def Jb.byte (c : UInt8) : Bool := !(decide ((c.toNat : Int) < 33) || decide (126 < (c.toNat : Int)))
def Jb.start (s : ByteArray) : Bool := decide (s.size ≤ 60) && s.data.toList.all Jb.byte
def Jb.name (s : ByteArray) : Bool := decide (1 ≤ s.size) && Jb.start s
theorem Jb.start_long {s : ByteArray} (h : ¬ s.size ≤ 60) : Jb.start s = false := by unfold Jb.start; simp [h]
theorem Jb.start_is {s : ByteArray} (h : s.size ≤ 60) : Jb.start s = s.data.toList.all Jb.byte := by unfold Jb.start; simp [h]
theorem Jb.toList_size (s : ByteArray) : s.toList.length = s.size := by rw [ByteArray.toList_eq]; rfl
theorem Jb.byte_low {c : UInt8} (h : (c.toNat : Int) < 33) : Jb.byte c = false := by unfold Jb.byte; simp [h]
theorem Jb.byte_high {c : UInt8} (h : 126 < (c.toNat : Int)) : Jb.byte c = false := by unfold Jb.byte; simp [h]
theorem Jb.byte_ok {c : UInt8} (h : ¬ (c.toNat : Int) < 33) (h2 : ¬ 126 < (c.toNat : Int)) : Jb.byte c = true := by unfold Jb.byte; simp [h, h2]
set_option maxRecDepth 100000 in
set_option maxHeartbeats 1000000 in
theorem Jb.prefix_any (s : ByteArray) (hs : s.size ≤ 1048576) (w : World) :
    Calls Try.prog 19 #[.string s] w fun e w' => e = .returned (.bool (Jb.start s)) ∧ w = w' := by
  by_cases h : s.size ≤ 60
  · have HV : Hid (Jb.start s = s.data.toList.all Jb.byte) := Jb.start_is h
    go_enter Try.func19, Try.ntmps19
    go_wp2
    go_loop [3] (fun t => ∃ k : Nat, k ≤ s.size ∧ t = .int .i64 (k : Int) ∧ (s.data.toList.drop k).all Jb.byte = s.data.toList.all Jb.byte) (fun t => s.size - (intOf t).toNat)
    case atStart => exact ⟨0, by omega, rfl, rfl⟩
    case round =>
      obtain ⟨k, hk, rfl, hf⟩ := hrel
      by_cases hlt : k < s.size
      · rw [Jb.drop_cons s k hlt, List.all_cons] at hf
        by_cases hl : (s[k].toNat : Int) < 33
        · have HF : Hid (Jb.start s = false) := by rw [Jb.byte_low hl] at hf; rw [Hid, HV.out, ← hf]; rfl
          clear hf
          go_wp2
          go_ret
          exact ⟨Jb.ret_bool HF.out.symm, rfl⟩
        · by_cases hh : 126 < (s[k].toNat : Int)
          · have HF : Hid (Jb.start s = false) := by rw [Jb.byte_high hh] at hf; rw [Hid, HV.out, ← hf]; rfl
            clear hf
            go_wp2
            go_ret
            exact ⟨Jb.ret_bool HF.out.symm, rfl⟩
          · have HF : Hid ((s.data.toList.drop (k + 1)).all Jb.byte = s.data.toList.all Jb.byte) := by rw [Jb.byte_ok hl hh] at hf; exact hf
            clear hf
            go_wp2
            go_round
            case rel => exact ⟨k + 1, by omega, by go_num, HF.out⟩
            case measure => simp [intOf]; omega
      · have HF : Hid (Jb.start s = true) := by
          rw [List.drop_of_length_le (by simp; omega)] at hf
          rw [Hid, HV.out, ← hf]; rfl
        clear hf
        go_wp2
        go_ret
        exact ⟨Jb.ret_bool HF.out.symm, rfl⟩
  · have HV : Hid (Jb.start s = false) := Jb.start_long h
    go_enter Try.func19, Try.ntmps19
    go_wp2
    go_ret
    exact ⟨Jb.ret_bool HV.out.symm, rfl⟩
set_option maxRecDepth 100000 in
set_option maxHeartbeats 1000000 in
theorem Jb.start_any (s : ByteArray) (hs : s.size ≤ 1048576) (w : World) :
    Calls Try.prog 20 #[.string s] w fun e w' => e = .returned (.bool (Jb.start s)) ∧ w = w' := by
  by_cases h : s.size ≤ 60
  · have HV : Hid (Jb.start s = s.data.toList.all Jb.byte) := Jb.start_is h
    go_enter Try.func20, Try.ntmps20
    go_wp2
    go_loop [9] (fun t => ∃ k : Nat, k ≤ s.size ∧ t = .int .i64 (k : Int) ∧ (s.data.toList.drop k).all Jb.byte = s.data.toList.all Jb.byte) (fun t => s.size - (intOf t).toNat)
    case atStart => exact ⟨0, by omega, rfl, rfl⟩
    case round =>
      obtain ⟨k, hk, rfl, hf⟩ := hrel
      by_cases hlt : k < s.size
      · rw [Jb.drop_cons s k hlt, List.all_cons] at hf
        by_cases hl : (s[k].toNat : Int) < 33
        · have HF : Hid (Jb.start s = false) := by rw [Jb.byte_low hl] at hf; rw [Hid, HV.out, ← hf]; rfl
          clear hf
          go_wp2
          go_ret
          exact ⟨Jb.ret_bool HF.out.symm, rfl⟩
        · by_cases hh : 126 < (s[k].toNat : Int)
          · have HF : Hid (Jb.start s = false) := by rw [Jb.byte_high hh] at hf; rw [Hid, HV.out, ← hf]; rfl
            clear hf
            go_wp2
            go_ret
            exact ⟨Jb.ret_bool HF.out.symm, rfl⟩
          · have HF : Hid ((s.data.toList.drop (k + 1)).all Jb.byte = s.data.toList.all Jb.byte) := by rw [Jb.byte_ok hl hh] at hf; exact hf
            clear hf
            go_wp2
            go_round
            case rel => exact ⟨k + 1, by omega, by go_num, HF.out⟩
            case measure => simp [intOf]; omega
      · have HF : Hid (Jb.start s = true) := by
          rw [List.drop_of_length_le (by simp; omega)] at hf
          rw [Hid, HV.out, ← hf]; rfl
        clear hf
        go_wp2
        go_ret
        exact ⟨Jb.ret_bool HF.out.symm, rfl⟩
  · have HV : Hid (Jb.start s = false) := Jb.start_long h
    go_enter Try.func20, Try.ntmps20
    go_wp2
    go_ret
    exact ⟨Jb.ret_bool HV.out.symm, rfl⟩
set_option maxRecDepth 100000 in
set_option maxHeartbeats 1000000 in
theorem Jb.path_any (s : ByteArray) (hs : s.size ≤ 1048576) (w : World) :
    Calls Try.prog 15 #[.string s] w fun e w' => e = .returned (.bool (Jb.name s)) ∧ w = w' := by
  obtain ⟨b, HB⟩ : ∃ b, Hid (Jb.start s = b) := ⟨_, (rfl : Jb.start s = _)⟩
  unfold Jb.name
  rw [HB.out]
  by_cases h : 1 ≤ s.size
  · have hne : s.toList.isEmpty = false := by have e := Jb.toList_size s; cases ht : s.toList with | nil => (rw [ht] at e; simp at e; omega) | cons a r => rfl
    simp only [h, decide_true, Bool.true_and]
    go_enter Try.func15, Try.ntmps15
    go_wp2_with (go_at_call 19; refine (Jb.prefix_any s hs _).mono ?_; rintro e w1 ⟨rfl, rfl⟩; rw [HB.out])
    all_goals (go_ret; exact ⟨rfl, rfl⟩)
  · have hne : s.toList.isEmpty = true := by have e := Jb.toList_size s; cases ht : s.toList with | nil => rfl | cons a r => (rw [ht] at e; simp at e; omega)
    simp only [h, decide_false, Bool.false_and]
    go_enter Try.func15, Try.ntmps15
    go_wp2
    all_goals (go_ret; exact ⟨rfl, rfl⟩)
set_option maxRecDepth 100000 in
set_option maxHeartbeats 1000000 in
theorem Jb.file_any (s : ByteArray) (hs : s.size ≤ 1048576) (w : World) :
    Calls Try.prog 17 #[.string s] w fun e w' => e = .returned (.bool (Jb.name s)) ∧ w = w' := by
  obtain ⟨b, HB⟩ : ∃ b, Hid (Jb.start s = b) := ⟨_, (rfl : Jb.start s = _)⟩
  unfold Jb.name
  rw [HB.out]
  by_cases h : 1 ≤ s.size
  · have hne : s.toList.isEmpty = false := by have e := Jb.toList_size s; cases ht : s.toList with | nil => (rw [ht] at e; simp at e; omega) | cons a r => rfl
    simp only [h, decide_true, Bool.true_and]
    go_enter Try.func17, Try.ntmps17
    go_wp2_with (go_at_call 20; refine (Jb.start_any s hs _).mono ?_; rintro e w1 ⟨rfl, rfl⟩; rw [HB.out])
    all_goals (go_ret; exact ⟨rfl, rfl⟩)
  · have hne : s.toList.isEmpty = true := by have e := Jb.toList_size s; cases ht : s.toList with | nil => rfl | cons a r => (rw [ht] at e; simp at e; omega)
    simp only [h, decide_false, Bool.false_and]
    go_enter Try.func17, Try.ntmps17
    go_wp2
    all_goals (go_ret; exact ⟨rfl, rfl⟩)
end Go.Proofs.Ytchfddnfpfgfbaa
