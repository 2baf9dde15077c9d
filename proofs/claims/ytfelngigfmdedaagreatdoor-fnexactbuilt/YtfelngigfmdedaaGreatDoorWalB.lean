import Derived.Test.YtfelngigfmdedaaGreatDoorWalA
namespace Go.Proofs.YtfelngigfmdedaaGreatDoor
open Go.RowKit

theorem Tryz.tk_uint8 (v : Value) (w : World) : (method 262 86 v "loop.example/kilnmill/impl.taken").run Tryz.prog w = .ok (94, v) w := by kernel_rfl
theorem Tryz.tk_uint16 (v : Value) (w : World) : (method 262 87 v "loop.example/kilnmill/impl.taken").run Tryz.prog w = .ok (98, v) w := by kernel_rfl
theorem Tryz.tk_uint32 (v : Value) (w : World) : (method 262 88 v "loop.example/kilnmill/impl.taken").run Tryz.prog w = .ok (102, v) w := by kernel_rfl
theorem Tryz.tk_uint64 (v : Value) (w : World) : (method 262 89 v "loop.example/kilnmill/impl.taken").run Tryz.prog w = .ok (106, v) w := by kernel_rfl
theorem Tryz.tk_int8 (v : Value) (w : World) : (method 262 90 v "loop.example/kilnmill/impl.taken").run Tryz.prog w = .ok (110, v) w := by kernel_rfl
theorem Tryz.tk_int16 (v : Value) (w : World) : (method 262 91 v "loop.example/kilnmill/impl.taken").run Tryz.prog w = .ok (114, v) w := by kernel_rfl
theorem Tryz.tk_int32 (v : Value) (w : World) : (method 262 92 v "loop.example/kilnmill/impl.taken").run Tryz.prog w = .ok (118, v) w := by kernel_rfl
theorem Tryz.tk_int64 (v : Value) (w : World) : (method 262 93 v "loop.example/kilnmill/impl.taken").run Tryz.prog w = .ok (122, v) w := by kernel_rfl
theorem Val.w8 (x : Int) : IntKind.u8.wrap x = x % 256 := by rfl
theorem Val.w16 (x : Int) : IntKind.u16.wrap x = x % 65536 := by rfl
theorem Val.w32 (x : Int) : IntKind.u32.wrap x = x % 4294967296 := by rfl
theorem Val.s8 (x : Int) : IntKind.i8.wrap x = (x + 128) % 256 - 128 := by
  have e1 : ((2 : Int) ^ IntKind.i8.bits) = 256 := by decide
  have e2 : ((2 : Int) ^ (IntKind.i8.bits - 1)) = 128 := by decide
  have e3 : IntKind.i8.signed = true := rfl
  unfold IntKind.wrap
  simp only [e1, e2, e3, Bool.true_and, decide_eq_true_eq]
  split <;> omega
theorem Val.s16 (x : Int) : IntKind.i16.wrap x = (x + 32768) % 65536 - 32768 := by
  have e1 : ((2 : Int) ^ IntKind.i16.bits) = 65536 := by decide
  have e2 : ((2 : Int) ^ (IntKind.i16.bits - 1)) = 32768 := by decide
  have e3 : IntKind.i16.signed = true := rfl
  unfold IntKind.wrap
  simp only [e1, e2, e3, Bool.true_and, decide_eq_true_eq]
  split <;> omega
theorem Val.s32 (x : Int) : IntKind.i32.wrap x = (x + 2147483648) % 4294967296 - 2147483648 := by
  have e1 : ((2 : Int) ^ IntKind.i32.bits) = 4294967296 := by decide
  have e2 : ((2 : Int) ^ (IntKind.i32.bits - 1)) = 2147483648 := by decide
  have e3 : IntKind.i32.signed = true := rfl
  unfold IntKind.wrap
  simp only [e1, e2, e3, Bool.true_and, decide_eq_true_eq]
  split <;> omega
theorem Val.wrap32_i (x : Int) : wrap32 x = (x + 2147483648) % 4294967296 - 2147483648 := by first | rfl | (unfold wrap32; omega)
theorem Val.s64 (x : Int) : IntKind.i64.wrap x = (x + 9223372036854775808) % 18446744073709551616 - 9223372036854775808 := by
  have e1 : ((2 : Int) ^ IntKind.i64.bits) = 18446744073709551616 := by decide
  have e2 : ((2 : Int) ^ (IntKind.i64.bits - 1)) = 9223372036854775808 := by decide
  have e3 : IntKind.i64.signed = true := rfl
  unfold IntKind.wrap
  simp only [e1, e2, e3, Bool.true_and, decide_eq_true_eq]
  split <;> omega

theorem Val.into3 (n : Int) : Val.into 3 (Val.u n) = n % 256 := by
  have e1 : Val.bits 3 = 8 := by decide
  have e2 : Val.signed 3 = false := by decide
  unfold Val.into Val.fold Val.u
  rw [e1, e2]
  simp (decide := true)
  try (split <;> omega)
  try omega
theorem Val.into4 (n : Int) : Val.into 4 (Val.u n) = n % 65536 := by
  have e1 : Val.bits 4 = 16 := by decide
  have e2 : Val.signed 4 = false := by decide
  unfold Val.into Val.fold Val.u
  rw [e1, e2]
  simp (decide := true)
  try (split <;> omega)
  try omega
theorem Val.into5 (n : Int) : Val.into 5 (Val.u n) = n % 4294967296 := by
  have e1 : Val.bits 5 = 32 := by decide
  have e2 : Val.signed 5 = false := by decide
  unfold Val.into Val.fold Val.u
  rw [e1, e2]
  simp (decide := true)
  try (split <;> omega)
  try omega
theorem Val.into6 (n : Int) : Val.into 6 (Val.u n) = (n + 9223372036854775808) % 18446744073709551616 - 9223372036854775808 := by
  have e1 : Val.bits 6 = 64 := by decide
  have e2 : Val.signed 6 = false := by decide
  unfold Val.into Val.fold Val.u
  rw [e1, e2]
  simp (decide := true)
  try (split <;> omega)
  try omega
theorem Val.into7 (n : Int) : Val.into 7 (Val.u n) = (n + 128) % 256 - 128 := by
  have e1 : Val.bits 7 = 8 := by decide
  have e2 : Val.signed 7 = true := by decide
  unfold Val.into Val.fold Val.u
  rw [e1, e2]
  simp (decide := true)
  try (split <;> omega)
  try omega
theorem Val.into8 (n : Int) : Val.into 8 (Val.u n) = (n + 32768) % 65536 - 32768 := by
  have e1 : Val.bits 8 = 16 := by decide
  have e2 : Val.signed 8 = true := by decide
  unfold Val.into Val.fold Val.u
  rw [e1, e2]
  simp (decide := true)
  try (split <;> omega)
  try omega
theorem Val.into9 (n : Int) : Val.into 9 (Val.u n) = (n + 2147483648) % 4294967296 - 2147483648 := by
  have e1 : Val.bits 9 = 32 := by decide
  have e2 : Val.signed 9 = true := by decide
  unfold Val.into Val.fold Val.u
  rw [e1, e2]
  simp (decide := true)
  try (split <;> omega)
  try omega
theorem Val.into10 (n : Int) : Val.into 10 (Val.u n) = (n + 9223372036854775808) % 18446744073709551616 - 9223372036854775808 := by
  have e1 : Val.bits 10 = 64 := by decide
  have e2 : Val.signed 10 = true := by decide
  unfold Val.into Val.fold Val.u
  rw [e1, e2]
  simp (decide := true)
  try (split <;> omega)
  try omega
theorem Val.taken_uint8 (n : Int) (_hn : -9223372036854775808 ≤ n ∧ n ≤ 9223372036854775807) (w : World) :
    Calls Tryz.prog 94 #[.agg #[], .int .i64 n] w fun e w' => e = .returned (.int .i64 (Val.into 3 (Val.u n))) ∧ Below w.heap.size w w' := by
  go_enter Tryz.func94, Tryz.ntmps94
  go_wp2
  go_ret
  refine ⟨Val.ret_i ?_, (Below.refl _ w).alloc (Nat.le_refl _) _⟩
  rw [Val.into3]
theorem Val.taken_uint16 (n : Int) (_hn : -9223372036854775808 ≤ n ∧ n ≤ 9223372036854775807) (w : World) :
    Calls Tryz.prog 98 #[.agg #[], .int .i64 n] w fun e w' => e = .returned (.int .i64 (Val.into 4 (Val.u n))) ∧ Below w.heap.size w w' := by
  go_enter Tryz.func98, Tryz.ntmps98
  go_wp2
  go_ret
  refine ⟨Val.ret_i ?_, (Below.refl _ w).alloc (Nat.le_refl _) _⟩
  rw [Val.into4, Val.wrap_i, Val.w16]; omega
theorem Val.taken_uint32 (n : Int) (_hn : -9223372036854775808 ≤ n ∧ n ≤ 9223372036854775807) (w : World) :
    Calls Tryz.prog 102 #[.agg #[], .int .i64 n] w fun e w' => e = .returned (.int .i64 (Val.into 5 (Val.u n))) ∧ Below w.heap.size w w' := by
  go_enter Tryz.func102, Tryz.ntmps102
  go_wp2
  go_ret
  refine ⟨Val.ret_i ?_, (Below.refl _ w).alloc (Nat.le_refl _) _⟩
  rw [Val.into5]
theorem Val.taken_uint64 (n : Int) (_hn : -9223372036854775808 ≤ n ∧ n ≤ 9223372036854775807) (w : World) :
    Calls Tryz.prog 106 #[.agg #[], .int .i64 n] w fun e w' => e = .returned (.int .i64 (Val.into 6 (Val.u n))) ∧ Below w.heap.size w w' := by
  go_enter Tryz.func106, Tryz.ntmps106
  go_wp2
  go_ret
  refine ⟨Val.ret_i ?_, (Below.refl _ w).alloc (Nat.le_refl _) _⟩
  rw [Val.into6, Val.wrap_i, Val.wrap_u]; omega
theorem Val.taken_int8 (n : Int) (_hn : -9223372036854775808 ≤ n ∧ n ≤ 9223372036854775807) (w : World) :
    Calls Tryz.prog 110 #[.agg #[], .int .i64 n] w fun e w' => e = .returned (.int .i64 (Val.into 7 (Val.u n))) ∧ Below w.heap.size w w' := by
  go_enter Tryz.func110, Tryz.ntmps110
  go_wp2
  go_ret
  refine ⟨Val.ret_i ?_, (Below.refl _ w).alloc (Nat.le_refl _) _⟩
  rw [Val.into7, Val.wrap_i, Val.s8]; omega
theorem Val.taken_int16 (n : Int) (_hn : -9223372036854775808 ≤ n ∧ n ≤ 9223372036854775807) (w : World) :
    Calls Tryz.prog 114 #[.agg #[], .int .i64 n] w fun e w' => e = .returned (.int .i64 (Val.into 8 (Val.u n))) ∧ Below w.heap.size w w' := by
  go_enter Tryz.func114, Tryz.ntmps114
  go_wp2
  go_ret
  refine ⟨Val.ret_i ?_, (Below.refl _ w).alloc (Nat.le_refl _) _⟩
  rw [Val.into8, Val.wrap_i, Val.s16]; omega
theorem Val.taken_int32 (n : Int) (_hn : -9223372036854775808 ≤ n ∧ n ≤ 9223372036854775807) (w : World) :
    Calls Tryz.prog 118 #[.agg #[], .int .i64 n] w fun e w' => e = .returned (.int .i64 (Val.into 9 (Val.u n))) ∧ Below w.heap.size w w' := by
  go_enter Tryz.func118, Tryz.ntmps118
  go_wp2
  go_ret
  refine ⟨Val.ret_i ?_, (Below.refl _ w).alloc (Nat.le_refl _) _⟩
  rw [Val.into9, Val.wrap_i, Val.wrap32_i]; omega
theorem Val.taken_int64 (n : Int) (hn : -9223372036854775808 ≤ n ∧ n ≤ 9223372036854775807) (w : World) :
    Calls Tryz.prog 122 #[.agg #[], .int .i64 n] w fun e w' => e = .returned (.int .i64 (Val.into 10 (Val.u n))) ∧ Below w.heap.size w w' := by
  go_enter Tryz.func122, Tryz.ntmps122
  go_wp2
  go_ret
  refine ⟨Val.ret_i ?_, (Below.refl _ w).alloc (Nat.le_refl _) _⟩
  rw [Val.into10]; omega
end Go.Proofs.YtfelngigfmdedaaGreatDoor
