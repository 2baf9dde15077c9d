import Derived.Test.YtfelngigfmdedaaGreatDoorValC
namespace Go.Proofs.YtfelngigfmdedaaGreatDoor
open Go.RowKit

def Val.bin (op a b : Int) : Int :=
  if a ≠ b ∨ a = 0 then 0
  else if op = 1 ∨ op = 2 then (if a = 1 then a else 0)
  else if op = 3 ∨ op = 4 then 1
  else if op = 5 ∨ op = 6 ∨ op = 7 ∨ op = 8 then (if a = 1 then 0 else 1)
  else if op = 9 then (if a = 1 then 0 else a)
  else if Val.isInt a = true then a else 0
def Val.less (t a b : Int) : Bool := if Val.signed t = true then decide (a < b) else decide (Val.u a < Val.u b)
def Val.neg (t a : Int) : Bool := Val.signed t && decide (a < 0)
def Val.abs (t a : Int) : Int := if Val.neg t a = true then Val.u (-a) else Val.u a
set_option maxRecDepth 100000 in
set_option maxHeartbeats 1000000 in
theorem Val.l4Abs_any (t a : Int) (w : World) :
    Calls Tryz.prog 24 #[.int .i64 t, .int .i64 a] w fun e w' => e = .returned (.tuple #[.int .u64 (Val.abs t a), .bool (Val.neg t a)]) ∧ w = w' := by
  cases hs : Val.signed t
  · have hn : Val.neg t a = false := by simp [Val.neg, hs]
    have ha : Val.abs t a = Val.u a := by simp [Val.abs, hn]
    rw [hn, ha]
    go_enter Tryz.func24, Tryz.ntmps24
    go_wp2_with (go_at_call 36; refine (Val.l1Signed_any _ _).mono ?_; rintro e w' ⟨rfl, rfl⟩; rw [hs])
    go_ret2
    exact ⟨rfl, rfl⟩
  · by_cases h0 : a < 0
    · have hn : Val.neg t a = true := by simp [Val.neg, hs, h0]
      have ha : Val.abs t a = Val.u (-a) := by simp [Val.abs, hn]
      rw [hn, ha]
      go_enter Tryz.func24, Tryz.ntmps24
      go_wp2_with (go_at_call 36; refine (Val.l1Signed_any _ _).mono ?_; rintro e w' ⟨rfl, rfl⟩; rw [hs])
      all_goals go_ret2
      all_goals exact ⟨by rw [← Val.u_neg]; rfl, rfl⟩
    · have hn : Val.neg t a = false := by simp [Val.neg, h0]
      have ha : Val.abs t a = Val.u a := by simp [Val.abs, hn]
      rw [hn, ha]
      go_enter Tryz.func24, Tryz.ntmps24
      go_wp2_with (go_at_call 36; refine (Val.l1Signed_any _ _).mono ?_; rintro e w' ⟨rfl, rfl⟩; rw [hs])
      all_goals go_ret2
      all_goals exact ⟨rfl, rfl⟩
end Go.Proofs.YtfelngigfmdedaaGreatDoor
