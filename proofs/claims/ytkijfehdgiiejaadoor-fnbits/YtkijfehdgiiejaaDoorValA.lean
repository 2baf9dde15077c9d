import Derived.Test.YtkijfehdgiiejaaDoorRows
import Derived.WalkKit
import Derived.WalkSpells
import Derived.WalkLawsBesides
namespace Go.Proofs.YtkijfehdgiiejaaDoor
open Go.RowKit

def Val.isInt (t : Int) : Bool := decide (3 ≤ t) && decide (t ≤ 10)
def Val.signed (t : Int) : Bool := decide (7 ≤ t) && decide (t ≤ 10)
def Val.bits (t : Int) : Int := if t = 3 ∨ t = 7 then 8 else if t = 4 ∨ t = 8 then 16 else if t = 5 ∨ t = 9 then 32 else 64

set_option maxHeartbeats 400000 in
theorem Val.l1Integer_any (t : Int) (w : World) :
    Calls Tryd.prog 11 #[.int .i64 t] w fun e w' => e = .returned (.bool (Val.isInt t)) ∧ w = w' := by
  go_enter Tryd.func11, Tryd.ntmps11
  go_wp2
  all_goals go_ret
  all_goals exact ⟨by simp [Val.isInt, decide_eq_true_eq, *] <;> omega, rfl⟩
set_option maxHeartbeats 400000 in
theorem Val.l1Signed_any (t : Int) (w : World) :
    Calls Tryd.prog 21 #[.int .i64 t] w fun e w' => e = .returned (.bool (Val.signed t)) ∧ w = w' := by
  go_enter Tryd.func21, Tryd.ntmps21
  go_wp2
  all_goals go_ret
  all_goals exact ⟨by simp [Val.signed, decide_eq_true_eq, *] <;> omega, rfl⟩
set_option maxHeartbeats 400000 in
theorem Val.l1Bits_any (t : Int) (w : World) :
    Calls Tryd.prog 20 #[.int .i64 t] w fun e w' => e = .returned (.int .i64 (Val.bits t)) ∧ w = w' := by
  go_enter Tryd.func20, Tryd.ntmps20
  go_wp2
  all_goals go_ret
  all_goals exact ⟨by simp_all [Val.bits], rfl⟩
def Val.fold (n : Int) (s : Bool) (b : Int) : Int := if s = true ∧ n ≤ 2 * (b % n) then b % n - n else b % n
def Val.into (t b : Int) : Int := if Val.bits t = 8 then Val.fold 256 (Val.signed t) b else if Val.bits t = 16 then Val.fold 65536 (Val.signed t) b else if Val.bits t = 32 then Val.fold 4294967296 (Val.signed t) b else Val.fold 18446744073709551616 true b

theorem Val.wrap_u (x : Int) : IntKind.u64.wrap x = x % 18446744073709551616 := by rfl
theorem Val.wrap_i (x : Int) : wrap64 x = (x + 9223372036854775808) % 18446744073709551616 - 9223372036854775808 := by first | rfl | (unfold wrap64; omega)
theorem Val.ret_i {a b : Int} (h : a = b) : (Ending.returned (Value.int .i64 a)) = Ending.returned (Value.int .i64 b) := by rw [h]

theorem Val.bits4 (t : Int) : Val.bits t = 8 ∨ Val.bits t = 16 ∨ Val.bits t = 32 ∨ Val.bits t = 64 := by
  unfold Val.bits; split
  · exact .inl rfl
  · split
    · exact .inr (.inl rfl)
    · split
      · exact .inr (.inr (.inl rfl))
      · exact .inr (.inr (.inr rfl))
set_option maxRecDepth 100000 in
set_option maxHeartbeats 1000000 in
theorem Val.l4Into_any (t b : Int) (h0 : 0 ≤ b) (h1 : b < 18446744073709551616) (w : World) :
    Calls Tryd.prog 13 #[.int .i64 t, .int .u64 b] w fun e w' => e = .returned (.int .i64 (Val.into t b)) ∧ w = w' := by
  obtain ⟨r, HR⟩ : ∃ r, Hid (Val.into t b = r) := ⟨_, (rfl : Val.into t b = _)⟩
  rw [HR.out]
  have HR2 := HR.out
  unfold Val.into Val.fold at HR2
  rcases Val.bits4 t with hb | hb | hb | hb
  all_goals
    rw [hb] at HR2
    cases hs : Val.signed t with
    | true =>
      rw [hs] at HR2
      simp at HR2
      have HR3 : Hid _ := HR2
      clear HR2
      go_enter Tryd.func13, Tryd.ntmps13
      go_wp2_with (first | (go_at_call 20; refine (Val.l1Bits_any _ _).mono ?_; rintro e w' ⟨rfl, rfl⟩; rw [hb]) | (go_at_call 21; refine (Val.l1Signed_any _ _).mono ?_; rintro e w' ⟨rfl, rfl⟩; rw [hs]))
      all_goals go_ret
      all_goals refine ⟨Val.ret_i ?_, rfl⟩
      all_goals
        have h5 := HR3.out
        first
        | omega
        | (split at h5 <;> omega)
        | (rw [Val.wrap_i]; omega)
        | (rw [Val.wrap_i]; split at h5 <;> omega)
        | (rw [Val.wrap_i, Val.wrap_u]; omega)
        | (rw [Val.wrap_i, Val.wrap_u]; split at h5 <;> omega)
    | false =>
      rw [hs] at HR2
      simp at HR2
      have HR3 : Hid _ := HR2
      clear HR2
      go_enter Tryd.func13, Tryd.ntmps13
      go_wp2_with (first | (go_at_call 20; refine (Val.l1Bits_any _ _).mono ?_; rintro e w' ⟨rfl, rfl⟩; rw [hb]) | (go_at_call 21; refine (Val.l1Signed_any _ _).mono ?_; rintro e w' ⟨rfl, rfl⟩; rw [hs]))
      all_goals go_ret
      all_goals refine ⟨Val.ret_i ?_, rfl⟩
      all_goals
        have h5 := HR3.out
        first
        | omega
        | (split at h5 <;> omega)
        | (rw [Val.wrap_i]; omega)
        | (rw [Val.wrap_i]; split at h5 <;> omega)
        | (rw [Val.wrap_i, Val.wrap_u]; omega)
        | (rw [Val.wrap_i, Val.wrap_u]; split at h5 <;> omega)
end Go.Proofs.YtkijfehdgiiejaaDoor
