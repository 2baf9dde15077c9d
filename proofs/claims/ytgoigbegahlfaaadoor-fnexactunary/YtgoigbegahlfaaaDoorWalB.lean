import Derived.Test.YtgoigbegahlfaaaDoorWalA
namespace Go.Proofs.YtgoigbegahlfaaaDoor
open Go.RowKit

theorem Tryd.tk_uint8 (v : Value) (w : World) : (method 197 56 v "loop.example/kilnmill/impl.taken").run Tryd.prog w = .ok (48, v) w := by kernel_rfl
theorem Tryd.tk_uint16 (v : Value) (w : World) : (method 197 57 v "loop.example/kilnmill/impl.taken").run Tryd.prog w = .ok (53, v) w := by kernel_rfl
theorem Tryd.tk_uint32 (v : Value) (w : World) : (method 197 58 v "loop.example/kilnmill/impl.taken").run Tryd.prog w = .ok (58, v) w := by kernel_rfl
theorem Tryd.tk_uint64 (v : Value) (w : World) : (method 197 59 v "loop.example/kilnmill/impl.taken").run Tryd.prog w = .ok (63, v) w := by kernel_rfl
theorem Tryd.tk_int8 (v : Value) (w : World) : (method 197 60 v "loop.example/kilnmill/impl.taken").run Tryd.prog w = .ok (68, v) w := by kernel_rfl
theorem Tryd.tk_int16 (v : Value) (w : World) : (method 197 61 v "loop.example/kilnmill/impl.taken").run Tryd.prog w = .ok (73, v) w := by kernel_rfl
theorem Tryd.tk_int32 (v : Value) (w : World) : (method 197 62 v "loop.example/kilnmill/impl.taken").run Tryd.prog w = .ok (78, v) w := by kernel_rfl
theorem Tryd.tk_int64 (v : Value) (w : World) : (method 197 63 v "loop.example/kilnmill/impl.taken").run Tryd.prog w = .ok (83, v) w := by kernel_rfl
theorem Val.w8 (x : Int) : IntKind.u8.wrap x = x % 256 := by rfl
theorem Val.w16 (x : Int) : IntKind.u16.wrap x = x % 65536 := by rfl
theorem Val.w32 (x : Int) : IntKind.u32.wrap x = x % 4294967296 := by rfl
theorem Val.s8 (x : Int) : IntKind.i8.wrap x = (x + 128) % 256 - 128 := by
  have e1 : ((2 : Int) ^ IntKind.i8.bits) = 256 := by decide
  have e2 : ((2 : Int) ^ (IntKind.i8.bits - 1)) = 128 := by decide
  have e3 : IntKind.i8.signed = true := rfl
  unfold IntKind.wrap
  simp only [e1, e2, e3, Bool.true_and, decide_eq_true_eq]
  split <;> omega
theorem Val.s16 (x : Int) : IntKind.i16.wrap x = (x + 32768) % 65536 - 32768 := by
  have e1 : ((2 : Int) ^ IntKind.i16.bits) = 65536 := by decide
  have e2 : ((2 : Int) ^ (IntKind.i16.bits - 1)) = 32768 := by decide
  have e3 : IntKind.i16.signed = true := rfl
  unfold IntKind.wrap
  simp only [e1, e2, e3, Bool.true_and, decide_eq_true_eq]
  split <;> omega
theorem Val.s32 (x : Int) : IntKind.i32.wrap x = (x + 2147483648) % 4294967296 - 2147483648 := by
  have e1 : ((2 : Int) ^ IntKind.i32.bits) = 4294967296 := by decide
  have e2 : ((2 : Int) ^ (IntKind.i32.bits - 1)) = 2147483648 := by decide
  have e3 : IntKind.i32.signed = true := rfl
  unfold IntKind.wrap
  simp only [e1, e2, e3, Bool.true_and, decide_eq_true_eq]
  split <;> omega
theorem Val.wrap32_i (x : Int) : wrap32 x = (x + 2147483648) % 4294967296 - 2147483648 := by first | rfl | (unfold wrap32; omega)
theorem Val.s64 (x : Int) : IntKind.i64.wrap x = (x + 9223372036854775808) % 18446744073709551616 - 9223372036854775808 := by
  have e1 : ((2 : Int) ^ IntKind.i64.bits) = 18446744073709551616 := by decide
  have e2 : ((2 : Int) ^ (IntKind.i64.bits - 1)) = 9223372036854775808 := by decide
  have e3 : IntKind.i64.signed = true := rfl
  unfold IntKind.wrap
  simp only [e1, e2, e3, Bool.true_and, decide_eq_true_eq]
  split <;> omega

theorem Val.into3 (n : Int) : Val.into 3 (Val.u n) = n % 256 := by
  have e1 : Val.bits 3 = 8 := by decide
  have e2 : Val.signed 3 = false := by decide
  unfold Val.into Val.fold Val.u
  rw [e1, e2]
  simp (decide := true)
  try (split <;> omega)
  try omega
theorem Val.into4 (n : Int) : Val.into 4 (Val.u n) = n % 65536 := by
  have e1 : Val.bits 4 = 16 := by decide
  have e2 : Val.signed 4 = false := by decide
  unfold Val.into Val.fold Val.u
  rw [e1, e2]
  simp (decide := true)
  try (split <;> omega)
  try omega
theorem Val.into5 (n : Int) : Val.into 5 (Val.u n) = n % 4294967296 := by
  have e1 : Val.bits 5 = 32 := by decide
  have e2 : Val.signed 5 = false := by decide
  unfold Val.into Val.fold Val.u
  rw [e1, e2]
  simp (decide := true)
  try (split <;> omega)
  try omega
theorem Val.into6 (n : Int) : Val.into 6 (Val.u n) = (n + 9223372036854775808) % 18446744073709551616 - 9223372036854775808 := by
  have e1 : Val.bits 6 = 64 := by decide
  have e2 : Val.signed 6 = false := by decide
  unfold Val.into Val.fold Val.u
  rw [e1, e2]
  simp (decide := true)
  try (split <;> omega)
  try omega
theorem Val.into7 (n : Int) : Val.into 7 (Val.u n) = (n + 128) % 256 - 128 := by
  have e1 : Val.bits 7 = 8 := by decide
  have e2 : Val.signed 7 = true := by decide
  unfold Val.into Val.fold Val.u
  rw [e1, e2]
  simp (decide := true)
  try (split <;> omega)
  try omega
theorem Val.into8 (n : Int) : Val.into 8 (Val.u n) = (n + 32768) % 65536 - 32768 := by
  have e1 : Val.bits 8 = 16 := by decide
  have e2 : Val.signed 8 = true := by decide
  unfold Val.into Val.fold Val.u
  rw [e1, e2]
  simp (decide := true)
  try (split <;> omega)
  try omega
theorem Val.into9 (n : Int) : Val.into 9 (Val.u n) = (n + 2147483648) % 4294967296 - 2147483648 := by
  have e1 : Val.bits 9 = 32 := by decide
  have e2 : Val.signed 9 = true := by decide
  unfold Val.into Val.fold Val.u
  rw [e1, e2]
  simp (decide := true)
  try (split <;> omega)
  try omega
theorem Val.into10 (n : Int) : Val.into 10 (Val.u n) = (n + 9223372036854775808) % 18446744073709551616 - 9223372036854775808 := by
  have e1 : Val.bits 10 = 64 := by decide
  have e2 : Val.signed 10 = true := by decide
  unfold Val.into Val.fold Val.u
  rw [e1, e2]
  simp (decide := true)
  try (split <;> omega)
  try omega
theorem Val.taken_uint8 (n : Int) (_hn : -9223372036854775808 ≤ n ∧ n ≤ 9223372036854775807) (w : World) :
    Calls Tryd.prog 48 #[.agg #[], .int .i64 n] w fun e w' => e = .returned (.int .i64 (Val.into 3 (Val.u n))) ∧ Below w.heap.size w w' := by
  go_enter Tryd.func48, Tryd.ntmps48
  go_wp2
  go_ret
  refine ⟨Val.ret_i ?_, (Below.refl _ w).alloc (Nat.le_refl _) _⟩
  rw [Val.into3]
theorem Val.taken_uint16 (n : Int) (_hn : -9223372036854775808 ≤ n ∧ n ≤ 9223372036854775807) (w : World) :
    Calls Tryd.prog 53 #[.agg #[], .int .i64 n] w fun e w' => e = .returned (.int .i64 (Val.into 4 (Val.u n))) ∧ Below w.heap.size w w' := by
  go_enter Tryd.func53, Tryd.ntmps53
  go_wp2
  go_ret
  refine ⟨Val.ret_i ?_, (Below.refl _ w).alloc (Nat.le_refl _) _⟩
  rw [Val.into4, Val.wrap_i, Val.w16]; omega
theorem Val.taken_uint32 (n : Int) (_hn : -9223372036854775808 ≤ n ∧ n ≤ 9223372036854775807) (w : World) :
    Calls Tryd.prog 58 #[.agg #[], .int .i64 n] w fun e w' => e = .returned (.int .i64 (Val.into 5 (Val.u n))) ∧ Below w.heap.size w w' := by
  go_enter Tryd.func58, Tryd.ntmps58
  go_wp2
  go_ret
  refine ⟨Val.ret_i ?_, (Below.refl _ w).alloc (Nat.le_refl _) _⟩
  rw [Val.into5]
theorem Val.taken_uint64 (n : Int) (_hn : -9223372036854775808 ≤ n ∧ n ≤ 9223372036854775807) (w : World) :
    Calls Tryd.prog 63 #[.agg #[], .int .i64 n] w fun e w' => e = .returned (.int .i64 (Val.into 6 (Val.u n))) ∧ Below w.heap.size w w' := by
  go_enter Tryd.func63, Tryd.ntmps63
  go_wp2
  go_ret
  refine ⟨Val.ret_i ?_, (Below.refl _ w).alloc (Nat.le_refl _) _⟩
  rw [Val.into6, Val.wrap_i, Val.wrap_u]; omega
theorem Val.taken_int8 (n : Int) (_hn : -9223372036854775808 ≤ n ∧ n ≤ 9223372036854775807) (w : World) :
    Calls Tryd.prog 68 #[.agg #[], .int .i64 n] w fun e w' => e = .returned (.int .i64 (Val.into 7 (Val.u n))) ∧ Below w.heap.size w w' := by
  go_enter Tryd.func68, Tryd.ntmps68
  go_wp2
  go_ret
  refine ⟨Val.ret_i ?_, (Below.refl _ w).alloc (Nat.le_refl _) _⟩
  rw [Val.into7, Val.wrap_i, Val.s8]; omega
theorem Val.taken_int16 (n : Int) (_hn : -9223372036854775808 ≤ n ∧ n ≤ 9223372036854775807) (w : World) :
    Calls Tryd.prog 73 #[.agg #[], .int .i64 n] w fun e w' => e = .returned (.int .i64 (Val.into 8 (Val.u n))) ∧ Below w.heap.size w w' := by
  go_enter Tryd.func73, Tryd.ntmps73
  go_wp2
  go_ret
  refine ⟨Val.ret_i ?_, (Below.refl _ w).alloc (Nat.le_refl _) _⟩
  rw [Val.into8, Val.wrap_i, Val.s16]; omega
theorem Val.taken_int32 (n : Int) (_hn : -9223372036854775808 ≤ n ∧ n ≤ 9223372036854775807) (w : World) :
    Calls Tryd.prog 78 #[.agg #[], .int .i64 n] w fun e w' => e = .returned (.int .i64 (Val.into 9 (Val.u n))) ∧ Below w.heap.size w w' := by
  go_enter Tryd.func78, Tryd.ntmps78
  go_wp2
  go_ret
  refine ⟨Val.ret_i ?_, (Below.refl _ w).alloc (Nat.le_refl _) _⟩
  rw [Val.into9, Val.wrap_i, Val.wrap32_i]; omega
theorem Val.taken_int64 (n : Int) (hn : -9223372036854775808 ≤ n ∧ n ≤ 9223372036854775807) (w : World) :
    Calls Tryd.prog 83 #[.agg #[], .int .i64 n] w fun e w' => e = .returned (.int .i64 (Val.into 10 (Val.u n))) ∧ Below w.heap.size w w' := by
  go_enter Tryd.func83, Tryd.ntmps83
  go_wp2
  go_ret
  refine ⟨Val.ret_i ?_, (Below.refl _ w).alloc (Nat.le_refl _) _⟩
  rw [Val.into10]; omega
end Go.Proofs.YtgoigbegahlfaaaDoor
