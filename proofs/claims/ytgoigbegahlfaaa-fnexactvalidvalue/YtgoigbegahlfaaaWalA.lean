import Derived.Test.YtgoigbegahlfaaaValF
namespace Go.Proofs.Ytgoigbegahlfaaa
open Go.RowKit

theorem Val.isIntType_any (t : Int) (w : World) :
    Calls Try.prog 10 #[.int .i64 t] w fun e w' => e = .returned (.bool (Val.isInt t)) ∧ w = w' := by
  go_enter Try.func10, Try.ntmps10
  go_wp2
  all_goals go_ret
  all_goals exact ⟨by simp [Val.isInt, decide_eq_true_eq, *] <;> omega, rfl⟩
def Val.kty (t : Int) : TypeId := if t = 3 then 39 else if t = 4 then 40 else if t = 5 then 41 else if t = 6 then 42 else if t = 7 then 43 else if t = 8 then 44 else if t = 9 then 45 else 46
theorem Val.kindOf_any (t : Int) (w : World) :
    Calls Try.prog 11 #[.int .i64 t] w fun e w' => e = .returned (.iface (Val.kty t) (.agg #[])) ∧ w = w' := by
  go_enter Try.func11, Try.ntmps11
  go_wp2
  all_goals go_ret
  all_goals exact ⟨by simp_all [Val.kty], rfl⟩
end Go.Proofs.Ytgoigbegahlfaaa
