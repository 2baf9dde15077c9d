import Derived.Test.YticjcabnnjhbgaaDoorScanA
namespace Go.Proofs.YticjcabnnjhbgaaDoor
open Go.RowKit

def Mill.typeFrom (s : ByteArray) : Nat → Int → Int
  | 0, _ => 0
  | k + 1, t => if ((Mill.typeWord t).toList == s.toList) = true then t else Mill.typeFrom s k (t + 1)
def Mill.typeOf (s : ByteArray) : Int := Mill.typeFrom s 10 1

theorem Mill.ret_int {k : IntKind} {a b : Int} (h : a = b) : Ending.returned (.int k a) = .returned (.int k b) := by rw [h]
theorem Mill.ret_bool {a b : Bool} (h : a = b) : Ending.returned (.bool a) = .returned (.bool b) := by rw [h]

set_option maxHeartbeats 400000 in
theorem l1Type_any (s : ByteArray) (w : World) :
    Calls Tryd.prog 30 #[.string s] w fun e w' => e = .returned (.int .i64 (Mill.typeOf s)) ∧ w = w' := by
  go_enter Tryd.func30, Tryd.ntmps30
  go_wp2
  go_loop [3] (fun t => ∃ k : Nat, k ≤ 10 ∧ t = .int .i64 ((k : Int) + 1) ∧ Mill.typeFrom s (10 - k) ((k : Int) + 1) = Mill.typeOf s) (fun t => 11 - (intOf t).toNat)
  case atStart => exact ⟨0, by omega, rfl, rfl⟩
  case round =>
    obtain ⟨k, hk, rfl, hf⟩ := hrel
    by_cases hlt : k < 10
    · obtain ⟨j, hj⟩ : ∃ j, 10 - k = j + 1 := ⟨9 - k, by omega⟩
      by_cases hc : ((Mill.typeWord ((k : Int) + 1)).toList == s.toList) = true
      · have HF : Hid ((k : Int) + 1 = Mill.typeOf s) := by rw [hj, Mill.typeFrom, if_pos hc] at hf; exact hf
        clear hf hj
        go_wp2_with (go_at_call 44; refine (l1TypeWord_any _ _).mono ?_; rintro e w' ⟨rfl, rfl⟩)
        go_ret
        exact ⟨Mill.ret_int HF.out, rfl⟩
      · have HF : Hid (Mill.typeFrom s (10 - (k + 1)) ((k : Int) + 1 + 1) = Mill.typeOf s) := by
          rw [hj, Mill.typeFrom, if_neg hc] at hf
          rw [show 10 - (k + 1) = j by omega]; exact hf
        have hc' : ((Mill.typeWord ((k : Int) + 1)).toList == s.toList) = false := by simpa using hc
        clear hf hj hc
        go_wp2_with (go_at_call 44; refine (l1TypeWord_any _ _).mono ?_; rintro e w' ⟨rfl, rfl⟩)
        go_round
        case rel => exact ⟨k + 1, by omega, by go_num, by rw [show ((k + 1 : Nat) : Int) + 1 = (k : Int) + 1 + 1 by omega]; exact HF.out⟩
        case measure => simp [intOf]; omega
    · have h0 : k = 10 := by omega
      subst h0
      have HF : Hid (0 = Mill.typeOf s) := hf
      clear hf
      go_wp2
      go_ret
      exact ⟨Mill.ret_int HF.out, rfl⟩
def Mill.builtIn (s : ByteArray) : Nat → Int → Bool
  | 0, _ => false
  | k + 1, t => ((Mill.builtWord t).toList == s.toList) || Mill.builtIn s k (t + 1)
def Mill.strOf (l : List UInt8) : Value := .string ⟨l.toArray⟩
def Mill.plainCells : Array Value := (Mill.plainWords.map Mill.strOf).toArray
def Mill.taken (s : ByteArray) : Bool := (Mill.typeOf s != 0) || Mill.builtIn s 12 1 || Mill.plainWords.any (fun p => p == s.toList)

set_option maxHeartbeats 400000 in
theorem l1Plain_any (w : World) :
    Calls Tryd.prog 32 #[] w fun e w' => e = .returned (.slice (some ⟨w.heap.size, 0, none⟩) 13 13) ∧ w' = w.alloc (.cells Mill.plainCells 9) := by
  go_enter Tryd.func32, Tryd.ntmps32
  go_wp2
  go_ret
  exact ⟨rfl, rfl⟩

end Go.Proofs.YticjcabnnjhbgaaDoor
