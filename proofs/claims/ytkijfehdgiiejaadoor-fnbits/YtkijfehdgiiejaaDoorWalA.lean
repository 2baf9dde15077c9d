import Derived.Test.YtkijfehdgiiejaaDoorValF
namespace Go.Proofs.YtkijfehdgiiejaaDoor
open Go.RowKit

theorem Val.isIntType_any (t : Int) (w : World) :
    Calls Tryd.prog 14 #[.int .i64 t] w fun e w' => e = .returned (.bool (Val.isInt t)) ∧ w = w' := by
  go_enter Tryd.func14, Tryd.ntmps14
  go_wp2
  all_goals go_ret
  all_goals exact ⟨by simp [Val.isInt, decide_eq_true_eq, *] <;> omega, rfl⟩
def Val.kty (t : Int) : TypeId := if t = 3 then 54 else if t = 4 then 55 else if t = 5 then 56 else if t = 6 then 57 else if t = 7 then 58 else if t = 8 then 59 else if t = 9 then 60 else 61
theorem Val.kindOf_any (t : Int) (w : World) :
    Calls Tryd.prog 15 #[.int .i64 t] w fun e w' => e = .returned (.iface (Val.kty t) (.agg #[])) ∧ w = w' := by
  go_enter Tryd.func15, Tryd.ntmps15
  go_wp2
  all_goals go_ret
  all_goals exact ⟨by simp_all [Val.kty], rfl⟩
end Go.Proofs.YtkijfehdgiiejaaDoor
