import Derived.Test.YtgoigbegahlfaaaWalA
namespace Go.Proofs.Ytgoigbegahlfaaa
open Go.RowKit

theorem Try.tk_uint8 (v : Value) (w : World) : (method 172 39 v "loop.example/kilnmill/impl.taken").run Try.prog w = .ok (31, v) w := by kernel_rfl
theorem Try.tk_uint16 (v : Value) (w : World) : (method 172 40 v "loop.example/kilnmill/impl.taken").run Try.prog w = .ok (35, v) w := by kernel_rfl
theorem Try.tk_uint32 (v : Value) (w : World) : (method 172 41 v "loop.example/kilnmill/impl.taken").run Try.prog w = .ok (39, v) w := by kernel_rfl
theorem Try.tk_uint64 (v : Value) (w : World) : (method 172 42 v "loop.example/kilnmill/impl.taken").run Try.prog w = .ok (43, v) w := by kernel_rfl
theorem Try.tk_int8 (v : Value) (w : World) : (method 172 43 v "loop.example/kilnmill/impl.taken").run Try.prog w = .ok (47, v) w := by kernel_rfl
theorem Try.tk_int16 (v : Value) (w : World) : (method 172 44 v "loop.example/kilnmill/impl.taken").run Try.prog w = .ok (51, v) w := by kernel_rfl
theorem Try.tk_int32 (v : Value) (w : World) : (method 172 45 v "loop.example/kilnmill/impl.taken").run Try.prog w = .ok (55, v) w := by kernel_rfl
theorem Try.tk_int64 (v : Value) (w : World) : (method 172 46 v "loop.example/kilnmill/impl.taken").run Try.prog w = .ok (59, v) w := by kernel_rfl
theorem Val.w8 (x : Int) : IntKind.u8.wrap x = x % 256 := by rfl
theorem Val.w16 (x : Int) : IntKind.u16.wrap x = x % 65536 := by rfl
theorem Val.w32 (x : Int) : IntKind.u32.wrap x = x % 4294967296 := by rfl
theorem Val.s8 (x : Int) : IntKind.i8.wrap x = (x + 128) % 256 - 128 := by
  have e1 : ((2 : Int) ^ IntKind.i8.bits) = 256 := by decide
  have e2 : ((2 : Int) ^ (IntKind.i8.bits - 1)) = 128 := by decide
  have e3 : IntKind.i8.signed = true := rfl
  unfold IntKind.wrap
  simp only [e1, e2, e3, Bool.true_and, decide_eq_true_eq]
  split <;> omega
theorem Val.s16 (x : Int) : IntKind.i16.wrap x = (x + 32768) % 65536 - 32768 := by
  have e1 : ((2 : Int) ^ IntKind.i16.bits) = 65536 := by decide
  have e2 : ((2 : Int) ^ (IntKind.i16.bits - 1)) = 32768 := by decide
  have e3 : IntKind.i16.signed = true := rfl
  unfold IntKind.wrap
  simp only [e1, e2, e3, Bool.true_and, decide_eq_true_eq]
  split <;> omega
theorem Val.s32 (x : Int) : IntKind.i32.wrap x = (x + 2147483648) % 4294967296 - 2147483648 := by
  have e1 : ((2 : Int) ^ IntKind.i32.bits) = 4294967296 := by decide
  have e2 : ((2 : Int) ^ (IntKind.i32.bits - 1)) = 2147483648 := by decide
  have e3 : IntKind.i32.signed = true := rfl
  unfold IntKind.wrap
  simp only [e1, e2, e3, Bool.true_and, decide_eq_true_eq]
  split <;> omega
theorem Val.wrap32_i (x : Int) : wrap32 x = (x + 2147483648) % 4294967296 - 2147483648 := by first | rfl | (unfold wrap32; omega)
theorem Val.s64 (x : Int) : IntKind.i64.wrap x = (x + 9223372036854775808) % 18446744073709551616 - 9223372036854775808 := by
  have e1 : ((2 : Int) ^ IntKind.i64.bits) = 18446744073709551616 := by decide
  have e2 : ((2 : Int) ^ (IntKind.i64.bits - 1)) = 9223372036854775808 := by decide
  have e3 : IntKind.i64.signed = true := rfl
  unfold IntKind.wrap
  simp only [e1, e2, e3, Bool.true_and, decide_eq_true_eq]
  split <;> omega

theorem Val.into3 (n : Int) : Val.into 3 (Val.u n) = n % 256 := by
  have e1 : Val.bits 3 = 8 := by decide
  have e2 : Val.signed 3 = false := by decide
  unfold Val.into Val.fold Val.u
  rw [e1, e2]
  simp (decide := true)
  try (split <;> omega)
  try omega
theorem Val.into4 (n : Int) : Val.into 4 (Val.u n) = n % 65536 := by
  have e1 : Val.bits 4 = 16 := by decide
  have e2 : Val.signed 4 = false := by decide
  unfold Val.into Val.fold Val.u
  rw [e1, e2]
  simp (decide := true)
  try (split <;> omega)
  try omega
theorem Val.into5 (n : Int) : Val.into 5 (Val.u n) = n % 4294967296 := by
  have e1 : Val.bits 5 = 32 := by decide
  have e2 : Val.signed 5 = false := by decide
  unfold Val.into Val.fold Val.u
  rw [e1, e2]
  simp (decide := true)
  try (split <;> omega)
  try omega
theorem Val.into6 (n : Int) : Val.into 6 (Val.u n) = (n + 9223372036854775808) % 18446744073709551616 - 9223372036854775808 := by
  have e1 : Val.bits 6 = 64 := by decide
  have e2 : Val.signed 6 = false := by decide
  unfold Val.into Val.fold Val.u
  rw [e1, e2]
  simp (decide := true)
  try (split <;> omega)
  try omega
theorem Val.into7 (n : Int) : Val.into 7 (Val.u n) = (n + 128) % 256 - 128 := by
  have e1 : Val.bits 7 = 8 := by decide
  have e2 : Val.signed 7 = true := by decide
  unfold Val.into Val.fold Val.u
  rw [e1, e2]
  simp (decide := true)
  try (split <;> omega)
  try omega
theorem Val.into8 (n : Int) : Val.into 8 (Val.u n) = (n + 32768) % 65536 - 32768 := by
  have e1 : Val.bits 8 = 16 := by decide
  have e2 : Val.signed 8 = true := by decide
  unfold Val.into Val.fold Val.u
  rw [e1, e2]
  simp (decide := true)
  try (split <;> omega)
  try omega
theorem Val.into9 (n : Int) : Val.into 9 (Val.u n) = (n + 2147483648) % 4294967296 - 2147483648 := by
  have e1 : Val.bits 9 = 32 := by decide
  have e2 : Val.signed 9 = true := by decide
  unfold Val.into Val.fold Val.u
  rw [e1, e2]
  simp (decide := true)
  try (split <;> omega)
  try omega
theorem Val.into10 (n : Int) : Val.into 10 (Val.u n) = (n + 9223372036854775808) % 18446744073709551616 - 9223372036854775808 := by
  have e1 : Val.bits 10 = 64 := by decide
  have e2 : Val.signed 10 = true := by decide
  unfold Val.into Val.fold Val.u
  rw [e1, e2]
  simp (decide := true)
  try (split <;> omega)
  try omega
theorem Val.taken_uint8 (n : Int) (_hn : -9223372036854775808 ≤ n ∧ n ≤ 9223372036854775807) (w : World) :
    Calls Try.prog 31 #[.agg #[], .int .i64 n] w fun e w' => e = .returned (.int .i64 (Val.into 3 (Val.u n))) ∧ Below w.heap.size w w' := by
  go_enter Try.func31, Try.ntmps31
  go_wp2
  go_ret
  refine ⟨Val.ret_i ?_, (Below.refl _ w).alloc (Nat.le_refl _) _⟩
  rw [Val.into3]
theorem Val.taken_uint16 (n : Int) (_hn : -9223372036854775808 ≤ n ∧ n ≤ 9223372036854775807) (w : World) :
    Calls Try.prog 35 #[.agg #[], .int .i64 n] w fun e w' => e = .returned (.int .i64 (Val.into 4 (Val.u n))) ∧ Below w.heap.size w w' := by
  go_enter Try.func35, Try.ntmps35
  go_wp2
  go_ret
  refine ⟨Val.ret_i ?_, (Below.refl _ w).alloc (Nat.le_refl _) _⟩
  rw [Val.into4, Val.wrap_i, Val.w16]; omega
theorem Val.taken_uint32 (n : Int) (_hn : -9223372036854775808 ≤ n ∧ n ≤ 9223372036854775807) (w : World) :
    Calls Try.prog 39 #[.agg #[], .int .i64 n] w fun e w' => e = .returned (.int .i64 (Val.into 5 (Val.u n))) ∧ Below w.heap.size w w' := by
  go_enter Try.func39, Try.ntmps39
  go_wp2
  go_ret
  refine ⟨Val.ret_i ?_, (Below.refl _ w).alloc (Nat.le_refl _) _⟩
  rw [Val.into5]
theorem Val.taken_uint64 (n : Int) (_hn : -9223372036854775808 ≤ n ∧ n ≤ 9223372036854775807) (w : World) :
    Calls Try.prog 43 #[.agg #[], .int .i64 n] w fun e w' => e = .returned (.int .i64 (Val.into 6 (Val.u n))) ∧ Below w.heap.size w w' := by
  go_enter Try.func43, Try.ntmps43
  go_wp2
  go_ret
  refine ⟨Val.ret_i ?_, (Below.refl _ w).alloc (Nat.le_refl _) _⟩
  rw [Val.into6, Val.wrap_i, Val.wrap_u]; omega
theorem Val.taken_int8 (n : Int) (_hn : -9223372036854775808 ≤ n ∧ n ≤ 9223372036854775807) (w : World) :
    Calls Try.prog 47 #[.agg #[], .int .i64 n] w fun e w' => e = .returned (.int .i64 (Val.into 7 (Val.u n))) ∧ Below w.heap.size w w' := by
  go_enter Try.func47, Try.ntmps47
  go_wp2
  go_ret
  refine ⟨Val.ret_i ?_, (Below.refl _ w).alloc (Nat.le_refl _) _⟩
  rw [Val.into7, Val.wrap_i, Val.s8]; omega
theorem Val.taken_int16 (n : Int) (_hn : -9223372036854775808 ≤ n ∧ n ≤ 9223372036854775807) (w : World) :
    Calls Try.prog 51 #[.agg #[], .int .i64 n] w fun e w' => e = .returned (.int .i64 (Val.into 8 (Val.u n))) ∧ Below w.heap.size w w' := by
  go_enter Try.func51, Try.ntmps51
  go_wp2
  go_ret
  refine ⟨Val.ret_i ?_, (Below.refl _ w).alloc (Nat.le_refl _) _⟩
  rw [Val.into8, Val.wrap_i, Val.s16]; omega
theorem Val.taken_int32 (n : Int) (_hn : -9223372036854775808 ≤ n ∧ n ≤ 9223372036854775807) (w : World) :
    Calls Try.prog 55 #[.agg #[], .int .i64 n] w fun e w' => e = .returned (.int .i64 (Val.into 9 (Val.u n))) ∧ Below w.heap.size w w' := by
  go_enter Try.func55, Try.ntmps55
  go_wp2
  go_ret
  refine ⟨Val.ret_i ?_, (Below.refl _ w).alloc (Nat.le_refl _) _⟩
  rw [Val.into9, Val.wrap_i, Val.wrap32_i]; omega
theorem Val.taken_int64 (n : Int) (hn : -9223372036854775808 ≤ n ∧ n ≤ 9223372036854775807) (w : World) :
    Calls Try.prog 59 #[.agg #[], .int .i64 n] w fun e w' => e = .returned (.int .i64 (Val.into 10 (Val.u n))) ∧ Below w.heap.size w w' := by
  go_enter Try.func59, Try.ntmps59
  go_wp2
  go_ret
  refine ⟨Val.ret_i ?_, (Below.refl _ w).alloc (Nat.le_refl _) _⟩
  rw [Val.into10]; omega
end Go.Proofs.Ytgoigbegahlfaaa
