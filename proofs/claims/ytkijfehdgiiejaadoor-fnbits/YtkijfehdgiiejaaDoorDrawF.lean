import Derived.Test.YtkijfehdgiiejaaDoorDrawD
import Derived.Test.YtkijfehdgiiejaaDoorValB
namespace Go.Proofs.YtkijfehdgiiejaaDoor
open Go.RowKit

attribute [local go_sem] Oper.semAt_some

theorem Mill.max_bd (b : Int) : 0 ≤ Mill.maxOf b ∧ Mill.maxOf b < 18446744073709551616 := by
  unfold Mill.maxOf Mill.maxBits Mill.bits
  repeat' split
  all_goals decide
theorem Mill.i64_bd (x : Int) : -9223372036854775808 ≤ IntKind.i64.wrap x ∧ IntKind.i64.wrap x ≤ 9223372036854775807 := by
  simp [IntKind.wrap, IntKind.bits, IntKind.signed]
  omega
theorem Mill.into_bd (t b : Int) : -9223372036854775808 ≤ Val.into t b ∧ Val.into t b ≤ 9223372036854775807 := by
  unfold Val.into Val.fold
  repeat' split
  all_goals first | omega | (simp_all; omega)
theorem Mill.wrap_bd (x : Int) : -9223372036854775808 ≤ wrap64 x ∧ wrap64 x ≤ 9223372036854775807 := by rw [Val.wrap_i]; omega

set_option maxRecDepth 100000 in
set_option maxHeartbeats 2000000 in
theorem number_D {w w1 : World} {R p k : Nat} (t : Int) (hD : Mill.Dr R p k w w1) (hp : p + k < 10000000000) :
    Calls Tryd.prog 30 #[.pointer (some ⟨R, 0, none⟩), .int .i64 t] w1 fun e w' => ∃ n : Int, e = .returned (.int .i64 n) ∧ -9223372036854775808 ≤ n ∧ n ≤ 9223372036854775807 ∧ Mill.Dr R p (k + 4) w w' ∧ Mill.But R w1 w' := by
  have hm := Mill.max_bd t
  go_enter Tryd.func30, Tryd.ntmps30
  go_wp2_with (first
    | (go_at_call 12; refine (l1Max_any _ _).mono ?_; rintro e _ ⟨rfl, rfl⟩)
    | (go_at_call 13; refine (Val.l4Into_any _ _ (by first | omega | (rw [Val.wrap_u]; omega)) (by first | omega | (rw [Val.wrap_u]; omega)) _).mono ?_; rintro e _ ⟨rfl, rfl⟩)
    | (go_at_call 9; refine (pick_D _ (by assumption) (by omega) (by omega) (by omega)).mono ?_; rintro e w2 ⟨v, rfl, hv, hD2, hB2⟩))
  all_goals try go_ret
  all_goals refine ⟨_, rfl, ?_, ?_, by first | exact hD2.mono (by omega), by first | assumption | exact Mill.But.trans (by assumption) (by assumption) | exact Mill.But.trans (by assumption) (Mill.But.trans (by assumption) (Mill.But.trans (by assumption) (by assumption)))⟩
  all_goals first | omega | exact (Mill.wrap_bd _).1 | exact (Mill.wrap_bd _).2 | exact (Mill.into_bd _ _).1 | exact (Mill.into_bd _ _).2
end Go.Proofs.YtkijfehdgiiejaaDoor
