import Derived.Test.YtjddmenlkjaflaaDoorValF
namespace Go.Proofs.YtjddmenlkjaflaaDoor
open Go.RowKit

theorem Val.isIntType_any (t : Int) (w : World) :
    Calls Tryd.prog 44 #[.int .i64 t] w fun e w' => e = .returned (.bool (Val.isInt t)) ∧ w = w' := by
  go_enter Tryd.func44, Tryd.ntmps44
  go_wp2
  all_goals go_ret
  all_goals exact ⟨by simp [Val.isInt, decide_eq_true_eq, *] <;> omega, rfl⟩
def Val.kty (t : Int) : TypeId := if t = 3 then 73 else if t = 4 then 74 else if t = 5 then 75 else if t = 6 then 76 else if t = 7 then 77 else if t = 8 then 78 else if t = 9 then 79 else 80
theorem Val.kindOf_any (t : Int) (w : World) :
    Calls Tryd.prog 33 #[.int .i64 t] w fun e w' => e = .returned (.iface (Val.kty t) (.agg #[])) ∧ w = w' := by
  go_enter Tryd.func33, Tryd.ntmps33
  go_wp2
  all_goals go_ret
  all_goals exact ⟨by simp_all [Val.kty], rfl⟩
end Go.Proofs.YtjddmenlkjaflaaDoor
