import Derived.Test.YtfelngigfmdedaaGreatDoorValF
namespace Go.Proofs.YtfelngigfmdedaaGreatDoor
open Go.RowKit

theorem Val.isIntType_any (t : Int) (w : World) :
    Calls Tryz.prog 38 #[.int .i64 t] w fun e w' => e = .returned (.bool (Val.isInt t)) ∧ w = w' := by
  go_enter Tryz.func38, Tryz.ntmps38
  go_wp2
  all_goals go_ret
  all_goals exact ⟨by simp [Val.isInt, decide_eq_true_eq, *] <;> omega, rfl⟩
def Val.kty (t : Int) : TypeId := if t = 3 then 86 else if t = 4 then 87 else if t = 5 then 88 else if t = 6 then 89 else if t = 7 then 90 else if t = 8 then 91 else if t = 9 then 92 else 93
theorem Val.kindOf_any (t : Int) (w : World) :
    Calls Tryz.prog 39 #[.int .i64 t] w fun e w' => e = .returned (.iface (Val.kty t) (.agg #[])) ∧ w = w' := by
  go_enter Tryz.func39, Tryz.ntmps39
  go_wp2
  all_goals go_ret
  all_goals exact ⟨by simp_all [Val.kty], rfl⟩
end Go.Proofs.YtfelngigfmdedaaGreatDoor
