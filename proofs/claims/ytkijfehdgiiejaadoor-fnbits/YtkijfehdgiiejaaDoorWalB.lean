import Derived.Test.YtkijfehdgiiejaaDoorWalA
namespace Go.Proofs.YtkijfehdgiiejaaDoor
open Go.RowKit

theorem Tryd.tk_uint8 (v : Value) (w : World) : (method 221 54 v "loop.example/kilnmill/impl.taken").run Tryd.prog w = .ok (54, v) w := by kernel_rfl
theorem Tryd.tk_uint16 (v : Value) (w : World) : (method 221 55 v "loop.example/kilnmill/impl.taken").run Tryd.prog w = .ok (60, v) w := by kernel_rfl
theorem Tryd.tk_uint32 (v : Value) (w : World) : (method 221 56 v "loop.example/kilnmill/impl.taken").run Tryd.prog w = .ok (66, v) w := by kernel_rfl
theorem Tryd.tk_uint64 (v : Value) (w : World) : (method 221 57 v "loop.example/kilnmill/impl.taken").run Tryd.prog w = .ok (72, v) w := by kernel_rfl
theorem Tryd.tk_int8 (v : Value) (w : World) : (method 221 58 v "loop.example/kilnmill/impl.taken").run Tryd.prog w = .ok (78, v) w := by kernel_rfl
theorem Tryd.tk_int16 (v : Value) (w : World) : (method 221 59 v "loop.example/kilnmill/impl.taken").run Tryd.prog w = .ok (84, v) w := by kernel_rfl
theorem Tryd.tk_int32 (v : Value) (w : World) : (method 221 60 v "loop.example/kilnmill/impl.taken").run Tryd.prog w = .ok (90, v) w := by kernel_rfl
theorem Tryd.tk_int64 (v : Value) (w : World) : (method 221 61 v "loop.example/kilnmill/impl.taken").run Tryd.prog w = .ok (96, v) w := by kernel_rfl
theorem Val.w8 (x : Int) : IntKind.u8.wrap x = x % 256 := by rfl
theorem Val.w16 (x : Int) : IntKind.u16.wrap x = x % 65536 := by rfl
theorem Val.w32 (x : Int) : IntKind.u32.wrap x = x % 4294967296 := by rfl
theorem Val.s8 (x : Int) : IntKind.i8.wrap x = (x + 128) % 256 - 128 := by
  have e1 : ((2 : Int) ^ IntKind.i8.bits) = 256 := by decide
  have e2 : ((2 : Int) ^ (IntKind.i8.bits - 1)) = 128 := by decide
  have e3 : IntKind.i8.signed = true := rfl
  unfold IntKind.wrap
  simp only [e1, e2, e3, Bool.true_and, decide_eq_true_eq]
  split <;> omega
theorem Val.s16 (x : Int) : IntKind.i16.wrap x = (x + 32768) % 65536 - 32768 := by
  have e1 : ((2 : Int) ^ IntKind.i16.bits) = 65536 := by decide
  have e2 : ((2 : Int) ^ (IntKind.i16.bits - 1)) = 32768 := by decide
  have e3 : IntKind.i16.signed = true := rfl
  unfold IntKind.wrap
  simp only [e1, e2, e3, Bool.true_and, decide_eq_true_eq]
  split <;> omega
theorem Val.s32 (x : Int) : IntKind.i32.wrap x = (x + 2147483648) % 4294967296 - 2147483648 := by
  have e1 : ((2 : Int) ^ IntKind.i32.bits) = 4294967296 := by decide
  have e2 : ((2 : Int) ^ (IntKind.i32.bits - 1)) = 2147483648 := by decide
  have e3 : IntKind.i32.signed = true := rfl
  unfold IntKind.wrap
  simp only [e1, e2, e3, Bool.true_and, decide_eq_true_eq]
  split <;> omega
theorem Val.wrap32_i (x : Int) : wrap32 x = (x + 2147483648) % 4294967296 - 2147483648 := by first | rfl | (unfold wrap32; omega)
theorem Val.s64 (x : Int) : IntKind.i64.wrap x = (x + 9223372036854775808) % 18446744073709551616 - 9223372036854775808 := by
  have e1 : ((2 : Int) ^ IntKind.i64.bits) = 18446744073709551616 := by decide
  have e2 : ((2 : Int) ^ (IntKind.i64.bits - 1)) = 9223372036854775808 := by decide
  have e3 : IntKind.i64.signed = true := rfl
  unfold IntKind.wrap
  simp only [e1, e2, e3, Bool.true_and, decide_eq_true_eq]
  split <;> omega

theorem Val.into3 (n : Int) : Val.into 3 (Val.u n) = n % 256 := by
  have e1 : Val.bits 3 = 8 := by decide
  have e2 : Val.signed 3 = false := by decide
  unfold Val.into Val.fold Val.u
  rw [e1, e2]
  simp (decide := true)
  try (split <;> omega)
  try omega
theorem Val.into4 (n : Int) : Val.into 4 (Val.u n) = n % 65536 := by
  have e1 : Val.bits 4 = 16 := by decide
  have e2 : Val.signed 4 = false := by decide
  unfold Val.into Val.fold Val.u
  rw [e1, e2]
  simp (decide := true)
  try (split <;> omega)
  try omega
theorem Val.into5 (n : Int) : Val.into 5 (Val.u n) = n % 4294967296 := by
  have e1 : Val.bits 5 = 32 := by decide
  have e2 : Val.signed 5 = false := by decide
  unfold Val.into Val.fold Val.u
  rw [e1, e2]
  simp (decide := true)
  try (split <;> omega)
  try omega
theorem Val.into6 (n : Int) : Val.into 6 (Val.u n) = (n + 9223372036854775808) % 18446744073709551616 - 9223372036854775808 := by
  have e1 : Val.bits 6 = 64 := by decide
  have e2 : Val.signed 6 = false := by decide
  unfold Val.into Val.fold Val.u
  rw [e1, e2]
  simp (decide := true)
  try (split <;> omega)
  try omega
theorem Val.into7 (n : Int) : Val.into 7 (Val.u n) = (n + 128) % 256 - 128 := by
  have e1 : Val.bits 7 = 8 := by decide
  have e2 : Val.signed 7 = true := by decide
  unfold Val.into Val.fold Val.u
  rw [e1, e2]
  simp (decide := true)
  try (split <;> omega)
  try omega
theorem Val.into8 (n : Int) : Val.into 8 (Val.u n) = (n + 32768) % 65536 - 32768 := by
  have e1 : Val.bits 8 = 16 := by decide
  have e2 : Val.signed 8 = true := by decide
  unfold Val.into Val.fold Val.u
  rw [e1, e2]
  simp (decide := true)
  try (split <;> omega)
  try omega
theorem Val.into9 (n : Int) : Val.into 9 (Val.u n) = (n + 2147483648) % 4294967296 - 2147483648 := by
  have e1 : Val.bits 9 = 32 := by decide
  have e2 : Val.signed 9 = true := by decide
  unfold Val.into Val.fold Val.u
  rw [e1, e2]
  simp (decide := true)
  try (split <;> omega)
  try omega
theorem Val.into10 (n : Int) : Val.into 10 (Val.u n) = (n + 9223372036854775808) % 18446744073709551616 - 9223372036854775808 := by
  have e1 : Val.bits 10 = 64 := by decide
  have e2 : Val.signed 10 = true := by decide
  unfold Val.into Val.fold Val.u
  rw [e1, e2]
  simp (decide := true)
  try (split <;> omega)
  try omega
theorem Val.taken_uint8 (n : Int) (_hn : -9223372036854775808 ≤ n ∧ n ≤ 9223372036854775807) (w : World) :
    Calls Tryd.prog 54 #[.agg #[], .int .i64 n] w fun e w' => e = .returned (.int .i64 (Val.into 3 (Val.u n))) ∧ Below w.heap.size w w' := by
  go_enter Tryd.func54, Tryd.ntmps54
  go_wp2
  go_ret
  refine ⟨Val.ret_i ?_, (Below.refl _ w).alloc (Nat.le_refl _) _⟩
  rw [Val.into3]
theorem Val.taken_uint16 (n : Int) (_hn : -9223372036854775808 ≤ n ∧ n ≤ 9223372036854775807) (w : World) :
    Calls Tryd.prog 60 #[.agg #[], .int .i64 n] w fun e w' => e = .returned (.int .i64 (Val.into 4 (Val.u n))) ∧ Below w.heap.size w w' := by
  go_enter Tryd.func60, Tryd.ntmps60
  go_wp2
  go_ret
  refine ⟨Val.ret_i ?_, (Below.refl _ w).alloc (Nat.le_refl _) _⟩
  rw [Val.into4, Val.wrap_i, Val.w16]; omega
theorem Val.taken_uint32 (n : Int) (_hn : -9223372036854775808 ≤ n ∧ n ≤ 9223372036854775807) (w : World) :
    Calls Tryd.prog 66 #[.agg #[], .int .i64 n] w fun e w' => e = .returned (.int .i64 (Val.into 5 (Val.u n))) ∧ Below w.heap.size w w' := by
  go_enter Tryd.func66, Tryd.ntmps66
  go_wp2
  go_ret
  refine ⟨Val.ret_i ?_, (Below.refl _ w).alloc (Nat.le_refl _) _⟩
  rw [Val.into5]
theorem Val.taken_uint64 (n : Int) (_hn : -9223372036854775808 ≤ n ∧ n ≤ 9223372036854775807) (w : World) :
    Calls Tryd.prog 72 #[.agg #[], .int .i64 n] w fun e w' => e = .returned (.int .i64 (Val.into 6 (Val.u n))) ∧ Below w.heap.size w w' := by
  go_enter Tryd.func72, Tryd.ntmps72
  go_wp2
  go_ret
  refine ⟨Val.ret_i ?_, (Below.refl _ w).alloc (Nat.le_refl _) _⟩
  rw [Val.into6, Val.wrap_i, Val.wrap_u]; omega
theorem Val.taken_int8 (n : Int) (_hn : -9223372036854775808 ≤ n ∧ n ≤ 9223372036854775807) (w : World) :
    Calls Tryd.prog 78 #[.agg #[], .int .i64 n] w fun e w' => e = .returned (.int .i64 (Val.into 7 (Val.u n))) ∧ Below w.heap.size w w' := by
  go_enter Tryd.func78, Tryd.ntmps78
  go_wp2
  go_ret
  refine ⟨Val.ret_i ?_, (Below.refl _ w).alloc (Nat.le_refl _) _⟩
  rw [Val.into7, Val.wrap_i, Val.s8]; omega
theorem Val.taken_int16 (n : Int) (_hn : -9223372036854775808 ≤ n ∧ n ≤ 9223372036854775807) (w : World) :
    Calls Tryd.prog 84 #[.agg #[], .int .i64 n] w fun e w' => e = .returned (.int .i64 (Val.into 8 (Val.u n))) ∧ Below w.heap.size w w' := by
  go_enter Tryd.func84, Tryd.ntmps84
  go_wp2
  go_ret
  refine ⟨Val.ret_i ?_, (Below.refl _ w).alloc (Nat.le_refl _) _⟩
  rw [Val.into8, Val.wrap_i, Val.s16]; omega
theorem Val.taken_int32 (n : Int) (_hn : -9223372036854775808 ≤ n ∧ n ≤ 9223372036854775807) (w : World) :
    Calls Tryd.prog 90 #[.agg #[], .int .i64 n] w fun e w' => e = .returned (.int .i64 (Val.into 9 (Val.u n))) ∧ Below w.heap.size w w' := by
  go_enter Tryd.func90, Tryd.ntmps90
  go_wp2
  go_ret
  refine ⟨Val.ret_i ?_, (Below.refl _ w).alloc (Nat.le_refl _) _⟩
  rw [Val.into9, Val.wrap_i, Val.wrap32_i]; omega
theorem Val.taken_int64 (n : Int) (hn : -9223372036854775808 ≤ n ∧ n ≤ 9223372036854775807) (w : World) :
    Calls Tryd.prog 96 #[.agg #[], .int .i64 n] w fun e w' => e = .returned (.int .i64 (Val.into 10 (Val.u n))) ∧ Below w.heap.size w w' := by
  go_enter Tryd.func96, Tryd.ntmps96
  go_wp2
  go_ret
  refine ⟨Val.ret_i ?_, (Below.refl _ w).alloc (Nat.le_refl _) _⟩
  rw [Val.into10]; omega
end Go.Proofs.YtkijfehdgiiejaaDoor
