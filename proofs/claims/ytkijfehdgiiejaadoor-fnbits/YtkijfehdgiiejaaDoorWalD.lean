import Derived.Test.YtkijfehdgiiejaaDoorWalC1
import Derived.Test.YtkijfehdgiiejaaDoorWalC2
import Derived.Test.YtkijfehdgiiejaaDoorWalC3
import Derived.Test.YtkijfehdgiiejaaDoorWalC4
namespace Go.Proofs.YtkijfehdgiiejaaDoor
open Go.RowKit

set_option maxRecDepth 100000 in
set_option maxHeartbeats 1000000 in
theorem Val.implValid_any (t n : Int) (x : ByteArray) (hn : -9223372036854775808 ≤ n ∧ n ≤ 9223372036854775807) (w : World) :
    Calls Tryd.prog 6 #[.agg #[.int .i64 t, .int .i64 n, .string x]] w fun e w' => e = .returned (.bool (Val.valid ⟨t, n, x⟩)) ∧ Below w.heap.size w w' := by
  obtain ⟨r, HR⟩ : ∃ r, Hid (Val.valid ⟨t, n, x⟩ = r) := ⟨_, (rfl : Val.valid ⟨t, n, x⟩ = _)⟩
  rw [HR.out]
  by_cases h1 : t = 1
  · subst h1
    go_enter Tryd.func6, Tryd.ntmps6
    go_wp2
    all_goals go_ret
    all_goals refine ⟨Val.ret_b ?_, (Below.refl _ w).alloc (Nat.le_refl _) _⟩
    all_goals (rw [← HR.out]; simp [Val.valid, *])
  · by_cases h2 : t = 2
    · subst h2
      go_enter Tryd.func6, Tryd.ntmps6
      go_wp2
      all_goals go_ret
      all_goals refine ⟨Val.ret_b ?_, (Below.refl _ w).alloc (Nat.le_refl _) _⟩
      all_goals (rw [← HR.out]; first | (simp [Val.valid, *]; done) | (simp [Val.valid, *]; omega))
    · cases hi : Val.isInt t with
      | false =>
        have HI : Hid (Val.isInt t = false) := hi
        have HF : Hid (false = r) := by rw [Hid, ← HR.out, Val.valid, if_neg h1, if_neg h2, hi]; rfl
        clear hi
        go_enter Tryd.func6, Tryd.ntmps6
        go_wp2_with (go_at_call 14; refine (Val.isIntType_any _ _).mono ?_; rintro e w' ⟨rfl, rfl⟩; rw [HI.out])
        go_ret
        exact ⟨Val.ret_b HF.out, (Below.refl _ w).alloc (Nat.le_refl _) _⟩
      | true =>
        have h3 : t = 3 ∨ t = 4 ∨ t = 5 ∨ t = 6 ∨ t = 7 ∨ t = 8 ∨ t = 9 ∨ t = 10 := by simp [Val.isInt] at hi; omega
        have HF : (x.toList.isEmpty && decide (n = Val.into t (Val.u n))) = r := by rw [← HR.out, Val.valid, if_neg h1, if_neg h2, hi]; rfl
        rw [← HF]
        rcases h3 with rfl | rfl | rfl | rfl | rfl | rfl | rfl | rfl
        · exact Val.iv_uint8 n x hn w
        · exact Val.iv_uint16 n x hn w
        · exact Val.iv_uint32 n x hn w
        · exact Val.iv_uint64 n x hn w
        · exact Val.iv_int8 n x hn w
        · exact Val.iv_int16 n x hn w
        · exact Val.iv_int32 n x hn w
        · exact Val.iv_int64 n x hn w
theorem Val.implValid_is (b : Bool) (t n : Int) (x : ByteArray) (hn : -9223372036854775808 ≤ n ∧ n ≤ 9223372036854775807) (h : Hid (Val.valid ⟨t, n, x⟩ = b)) (w : World) :
    Calls Tryd.prog 6 #[.agg #[.int .i64 t, .int .i64 n, .string x]] w fun e w' => e = .returned (.bool b) ∧ Below w.heap.size w w' := by
  rw [← h.out]; exact Val.implValid_any t n x hn w
end Go.Proofs.YtkijfehdgiiejaaDoor
