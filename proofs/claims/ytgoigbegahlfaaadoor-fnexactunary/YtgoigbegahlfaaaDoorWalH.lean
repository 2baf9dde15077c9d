import Derived.Test.YtgoigbegahlfaaaDoorWalG
namespace Go.Proofs.YtgoigbegahlfaaaDoor
open Go.RowKit

theorem Tryd.tu_uint8 (v : Value) (w : World) : (method 197 56 v "loop.example/kilnmill/impl.turned").run Tryd.prog w = .ok (49, v) w := by kernel_rfl
theorem Tryd.tu_uint16 (v : Value) (w : World) : (method 197 57 v "loop.example/kilnmill/impl.turned").run Tryd.prog w = .ok (54, v) w := by kernel_rfl
theorem Tryd.tu_uint32 (v : Value) (w : World) : (method 197 58 v "loop.example/kilnmill/impl.turned").run Tryd.prog w = .ok (59, v) w := by kernel_rfl
theorem Tryd.tu_uint64 (v : Value) (w : World) : (method 197 59 v "loop.example/kilnmill/impl.turned").run Tryd.prog w = .ok (64, v) w := by kernel_rfl
theorem Tryd.tu_int8 (v : Value) (w : World) : (method 197 60 v "loop.example/kilnmill/impl.turned").run Tryd.prog w = .ok (69, v) w := by kernel_rfl
theorem Tryd.tu_int16 (v : Value) (w : World) : (method 197 61 v "loop.example/kilnmill/impl.turned").run Tryd.prog w = .ok (74, v) w := by kernel_rfl
theorem Tryd.tu_int32 (v : Value) (w : World) : (method 197 62 v "loop.example/kilnmill/impl.turned").run Tryd.prog w = .ok (79, v) w := by kernel_rfl
theorem Tryd.tu_int64 (v : Value) (w : World) : (method 197 63 v "loop.example/kilnmill/impl.turned").run Tryd.prog w = .ok (84, v) w := by kernel_rfl
theorem Val.not8 (y : Int) : ((BitVec.allOnes 8 ^^^ BitVec.ofInt 8 y).toNat : Int) = 255 - y % 256 := by
  have e : ((2 : Nat) ^ 8 : Nat) = 256 := by decide
  have hlt := (BitVec.ofInt 8 y).isLt
  have h2 : ((BitVec.ofInt 8 y).toNat : Int) = y % 256 := by
    rw [BitVec.toNat_ofInt, e]; omega
  rw [BitVec.allOnes_xor, BitVec.toNat_not]
  rw [e] at hlt ⊢
  omega
theorem Val.not16 (y : Int) : ((BitVec.allOnes 16 ^^^ BitVec.ofInt 16 y).toNat : Int) = 65535 - y % 65536 := by
  have e : ((2 : Nat) ^ 16 : Nat) = 65536 := by decide
  have hlt := (BitVec.ofInt 16 y).isLt
  have h2 : ((BitVec.ofInt 16 y).toNat : Int) = y % 65536 := by
    rw [BitVec.toNat_ofInt, e]; omega
  rw [BitVec.allOnes_xor, BitVec.toNat_not]
  rw [e] at hlt ⊢
  omega
theorem Val.not32 (y : Int) : ((BitVec.allOnes 32 ^^^ BitVec.ofInt 32 y).toNat : Int) = 4294967295 - y % 4294967296 := by
  have e : ((2 : Nat) ^ 32 : Nat) = 4294967296 := by decide
  have hlt := (BitVec.ofInt 32 y).isLt
  have h2 : ((BitVec.ofInt 32 y).toNat : Int) = y % 4294967296 := by
    rw [BitVec.toNat_ofInt, e]; omega
  rw [BitVec.allOnes_xor, BitVec.toNat_not]
  rw [e] at hlt ⊢
  omega
theorem Val.not64 (y : Int) : ((BitVec.allOnes 64 ^^^ BitVec.ofInt 64 y).toNat : Int) = 18446744073709551615 - y % 18446744073709551616 := by
  have e : ((2 : Nat) ^ 64 : Nat) = 18446744073709551616 := by decide
  have hlt := (BitVec.ofInt 64 y).isLt
  have h2 : ((BitVec.ofInt 64 y).toNat : Int) = y % 18446744073709551616 := by
    rw [BitVec.toNat_ofInt, e]; omega
  rw [BitVec.allOnes_xor, BitVec.toNat_not]
  rw [e] at hlt ⊢
  omega
theorem Val.inv_u8 (y : Int) : Go.bits BinOp.xor IntKind.u8 IntKind.u8.max y = IntKind.u8.wrap (255 - y % 256) := by
  show IntKind.u8.wrap ((BitVec.ofInt 8 IntKind.u8.max ^^^ BitVec.ofInt 8 y).toNat : Int) = _
  have h1 : BitVec.ofInt 8 IntKind.u8.max = BitVec.allOnes 8 := by decide
  rw [h1, Val.not8]
theorem Val.inv_u16 (y : Int) : Go.bits BinOp.xor IntKind.u16 IntKind.u16.max y = IntKind.u16.wrap (65535 - y % 65536) := by
  show IntKind.u16.wrap ((BitVec.ofInt 16 IntKind.u16.max ^^^ BitVec.ofInt 16 y).toNat : Int) = _
  have h1 : BitVec.ofInt 16 IntKind.u16.max = BitVec.allOnes 16 := by decide
  rw [h1, Val.not16]
theorem Val.inv_u32 (y : Int) : Go.bits BinOp.xor IntKind.u32 IntKind.u32.max y = IntKind.u32.wrap (4294967295 - y % 4294967296) := by
  show IntKind.u32.wrap ((BitVec.ofInt 32 IntKind.u32.max ^^^ BitVec.ofInt 32 y).toNat : Int) = _
  have h1 : BitVec.ofInt 32 IntKind.u32.max = BitVec.allOnes 32 := by decide
  rw [h1, Val.not32]
theorem Val.inv_u64 (y : Int) : Go.bits BinOp.xor IntKind.u64 IntKind.u64.max y = IntKind.u64.wrap (18446744073709551615 - y % 18446744073709551616) := by
  show IntKind.u64.wrap ((BitVec.ofInt 64 IntKind.u64.max ^^^ BitVec.ofInt 64 y).toNat : Int) = _
  have h1 : BitVec.ofInt 64 IntKind.u64.max = BitVec.allOnes 64 := by decide
  rw [h1, Val.not64]
theorem Val.inv_i8 (y : Int) : Go.bits BinOp.xor IntKind.i8 (-1) y = IntKind.i8.wrap (255 - y % 256) := by
  show IntKind.i8.wrap ((BitVec.ofInt 8 (-1) ^^^ BitVec.ofInt 8 y).toNat : Int) = _
  have h1 : BitVec.ofInt 8 (-1) = BitVec.allOnes 8 := by decide
  rw [h1, Val.not8]
theorem Val.inv_i16 (y : Int) : Go.bits BinOp.xor IntKind.i16 (-1) y = IntKind.i16.wrap (65535 - y % 65536) := by
  show IntKind.i16.wrap ((BitVec.ofInt 16 (-1) ^^^ BitVec.ofInt 16 y).toNat : Int) = _
  have h1 : BitVec.ofInt 16 (-1) = BitVec.allOnes 16 := by decide
  rw [h1, Val.not16]
theorem Val.inv_i32 (y : Int) : Go.bits BinOp.xor IntKind.i32 (-1) y = IntKind.i32.wrap (4294967295 - y % 4294967296) := by
  show IntKind.i32.wrap ((BitVec.ofInt 32 (-1) ^^^ BitVec.ofInt 32 y).toNat : Int) = _
  have h1 : BitVec.ofInt 32 (-1) = BitVec.allOnes 32 := by decide
  rw [h1, Val.not32]
theorem Val.inv_i64 (y : Int) : Go.bits BinOp.xor IntKind.i64 (-1) y = IntKind.i64.wrap (18446744073709551615 - y % 18446744073709551616) := by
  show IntKind.i64.wrap ((BitVec.ofInt 64 (-1) ^^^ BitVec.ofInt 64 y).toNat : Int) = _
  have h1 : BitVec.ofInt 64 (-1) = BitVec.allOnes 64 := by decide
  rw [h1, Val.not64]
theorem Val.turned1_uint8 (n : Int) (w : World) :
    Calls Tryd.prog 49 #[.agg #[], .int .i64 1, .int .i64 n] w fun e w' => e = .returned (.int .i64 (Val.into 3 (Val.u (-n)))) ∧ Below w.heap.size w w' := by
  go_enter Tryd.func49, Tryd.ntmps49
  go_wp2
  go_ret
  refine ⟨Val.ret_i ?_, (Below.refl _ w).alloc (Nat.le_refl _) _⟩
  rw [Val.into3]
  omega
theorem Val.turned3_uint8 (n : Int) (w : World) :
    Calls Tryd.prog 49 #[.agg #[], .int .i64 3, .int .i64 n] w fun e w' => e = .returned (.int .i64 (Val.into 3 (Val.u (-n - 1)))) ∧ Below w.heap.size w w' := by
  go_enter Tryd.func49, Tryd.ntmps49
  go_wp2
  go_ret
  refine ⟨Val.ret_i ?_, (Below.refl _ w).alloc (Nat.le_refl _) _⟩
  rw [Val.into3]
  rw [Val.inv_u8, Val.wrap_i, Val.w8]; omega
theorem Val.turned1_uint16 (n : Int) (w : World) :
    Calls Tryd.prog 54 #[.agg #[], .int .i64 1, .int .i64 n] w fun e w' => e = .returned (.int .i64 (Val.into 4 (Val.u (-n)))) ∧ Below w.heap.size w w' := by
  go_enter Tryd.func54, Tryd.ntmps54
  go_wp2
  go_ret
  refine ⟨Val.ret_i ?_, (Below.refl _ w).alloc (Nat.le_refl _) _⟩
  rw [Val.into4]
  rw [Val.wrap_i, Val.w16, Val.w16]; omega
theorem Val.turned3_uint16 (n : Int) (w : World) :
    Calls Tryd.prog 54 #[.agg #[], .int .i64 3, .int .i64 n] w fun e w' => e = .returned (.int .i64 (Val.into 4 (Val.u (-n - 1)))) ∧ Below w.heap.size w w' := by
  go_enter Tryd.func54, Tryd.ntmps54
  go_wp2
  go_ret
  refine ⟨Val.ret_i ?_, (Below.refl _ w).alloc (Nat.le_refl _) _⟩
  rw [Val.into4]
  rw [Val.inv_u16, Val.wrap_i, Val.w16, Val.w16]; omega
theorem Val.turned1_uint32 (n : Int) (w : World) :
    Calls Tryd.prog 59 #[.agg #[], .int .i64 1, .int .i64 n] w fun e w' => e = .returned (.int .i64 (Val.into 5 (Val.u (-n)))) ∧ Below w.heap.size w w' := by
  go_enter Tryd.func59, Tryd.ntmps59
  go_wp2
  go_ret
  refine ⟨Val.ret_i ?_, (Below.refl _ w).alloc (Nat.le_refl _) _⟩
  rw [Val.into5]
  omega
theorem Val.turned3_uint32 (n : Int) (w : World) :
    Calls Tryd.prog 59 #[.agg #[], .int .i64 3, .int .i64 n] w fun e w' => e = .returned (.int .i64 (Val.into 5 (Val.u (-n - 1)))) ∧ Below w.heap.size w w' := by
  go_enter Tryd.func59, Tryd.ntmps59
  go_wp2
  go_ret
  refine ⟨Val.ret_i ?_, (Below.refl _ w).alloc (Nat.le_refl _) _⟩
  rw [Val.into5]
  rw [Val.inv_u32, Val.wrap_i, Val.w32]; omega
theorem Val.turned1_uint64 (n : Int) (w : World) :
    Calls Tryd.prog 64 #[.agg #[], .int .i64 1, .int .i64 n] w fun e w' => e = .returned (.int .i64 (Val.into 6 (Val.u (-n)))) ∧ Below w.heap.size w w' := by
  go_enter Tryd.func64, Tryd.ntmps64
  go_wp2
  go_ret
  refine ⟨Val.ret_i ?_, (Below.refl _ w).alloc (Nat.le_refl _) _⟩
  rw [Val.into6]
  rw [Val.wrap_i, Val.wrap_u, Val.wrap_u]; omega
theorem Val.turned3_uint64 (n : Int) (w : World) :
    Calls Tryd.prog 64 #[.agg #[], .int .i64 3, .int .i64 n] w fun e w' => e = .returned (.int .i64 (Val.into 6 (Val.u (-n - 1)))) ∧ Below w.heap.size w w' := by
  go_enter Tryd.func64, Tryd.ntmps64
  go_wp2
  go_ret
  refine ⟨Val.ret_i ?_, (Below.refl _ w).alloc (Nat.le_refl _) _⟩
  rw [Val.into6]
  rw [Val.inv_u64, Val.wrap_i, Val.wrap_u, Val.wrap_u]; omega
theorem Val.turned1_int8 (n : Int) (w : World) :
    Calls Tryd.prog 69 #[.agg #[], .int .i64 1, .int .i64 n] w fun e w' => e = .returned (.int .i64 (Val.into 7 (Val.u (-n)))) ∧ Below w.heap.size w w' := by
  go_enter Tryd.func69, Tryd.ntmps69
  go_wp2
  go_ret
  refine ⟨Val.ret_i ?_, (Below.refl _ w).alloc (Nat.le_refl _) _⟩
  rw [Val.into7]
  rw [Val.wrap_i, Val.s8, Val.s8]; omega
theorem Val.turned3_int8 (n : Int) (w : World) :
    Calls Tryd.prog 69 #[.agg #[], .int .i64 3, .int .i64 n] w fun e w' => e = .returned (.int .i64 (Val.into 7 (Val.u (-n - 1)))) ∧ Below w.heap.size w w' := by
  go_enter Tryd.func69, Tryd.ntmps69
  go_wp2
  go_ret
  refine ⟨Val.ret_i ?_, (Below.refl _ w).alloc (Nat.le_refl _) _⟩
  rw [Val.into7]
  rw [Val.inv_i8, Val.wrap_i, Val.s8, Val.s8]; omega
theorem Val.turned1_int16 (n : Int) (w : World) :
    Calls Tryd.prog 74 #[.agg #[], .int .i64 1, .int .i64 n] w fun e w' => e = .returned (.int .i64 (Val.into 8 (Val.u (-n)))) ∧ Below w.heap.size w w' := by
  go_enter Tryd.func74, Tryd.ntmps74
  go_wp2
  go_ret
  refine ⟨Val.ret_i ?_, (Below.refl _ w).alloc (Nat.le_refl _) _⟩
  rw [Val.into8]
  rw [Val.wrap_i, Val.s16, Val.s16]; omega
theorem Val.turned3_int16 (n : Int) (w : World) :
    Calls Tryd.prog 74 #[.agg #[], .int .i64 3, .int .i64 n] w fun e w' => e = .returned (.int .i64 (Val.into 8 (Val.u (-n - 1)))) ∧ Below w.heap.size w w' := by
  go_enter Tryd.func74, Tryd.ntmps74
  go_wp2
  go_ret
  refine ⟨Val.ret_i ?_, (Below.refl _ w).alloc (Nat.le_refl _) _⟩
  rw [Val.into8]
  rw [Val.inv_i16, Val.wrap_i, Val.s16, Val.s16]; omega
theorem Val.turned1_int32 (n : Int) (w : World) :
    Calls Tryd.prog 79 #[.agg #[], .int .i64 1, .int .i64 n] w fun e w' => e = .returned (.int .i64 (Val.into 9 (Val.u (-n)))) ∧ Below w.heap.size w w' := by
  go_enter Tryd.func79, Tryd.ntmps79
  go_wp2
  go_ret
  refine ⟨Val.ret_i ?_, (Below.refl _ w).alloc (Nat.le_refl _) _⟩
  rw [Val.into9]
  rw [Val.wrap_i, Val.wrap32_i, Val.wrap32_i]; omega
theorem Val.turned3_int32 (n : Int) (w : World) :
    Calls Tryd.prog 79 #[.agg #[], .int .i64 3, .int .i64 n] w fun e w' => e = .returned (.int .i64 (Val.into 9 (Val.u (-n - 1)))) ∧ Below w.heap.size w w' := by
  go_enter Tryd.func79, Tryd.ntmps79
  go_wp2
  go_ret
  refine ⟨Val.ret_i ?_, (Below.refl _ w).alloc (Nat.le_refl _) _⟩
  rw [Val.into9]
  rw [Val.inv_i32, Val.wrap_i, Val.s32, Val.wrap32_i]; omega
theorem Val.turned1_int64 (n : Int) (w : World) :
    Calls Tryd.prog 84 #[.agg #[], .int .i64 1, .int .i64 n] w fun e w' => e = .returned (.int .i64 (Val.into 10 (Val.u (-n)))) ∧ Below w.heap.size w w' := by
  go_enter Tryd.func84, Tryd.ntmps84
  go_wp2
  go_ret
  refine ⟨Val.ret_i ?_, (Below.refl _ w).alloc (Nat.le_refl _) _⟩
  rw [Val.into10]
  rw [Val.wrap_i]
theorem Val.turned3_int64 (n : Int) (w : World) :
    Calls Tryd.prog 84 #[.agg #[], .int .i64 3, .int .i64 n] w fun e w' => e = .returned (.int .i64 (Val.into 10 (Val.u (-n - 1)))) ∧ Below w.heap.size w w' := by
  go_enter Tryd.func84, Tryd.ntmps84
  go_wp2
  go_ret
  refine ⟨Val.ret_i ?_, (Below.refl _ w).alloc (Nat.le_refl _) _⟩
  rw [Val.into10]
  rw [Val.inv_i64, Val.s64]; omega
end Go.Proofs.YtgoigbegahlfaaaDoor
