import Derived.Test.YtkijfehdgiiejaaDoorWalE
namespace Go.Proofs.YtkijfehdgiiejaaDoor
open Go.RowKit


theorem Val.reck9_uint8 (x y : Int) (w : World) : Calls Tryd.prog 57 #[.int .i64 9, .int .u8 x, .int .u8 y] w fun e w' => ∃ r, e = .returned (.tuple #[.int .u8 r, .nilIface]) ∧ Hid (r = IntKind.u8.wrap (x + y)) ∧ w = w' := by
  go_enter Tryd.func57, Tryd.ntmps57
  go_wp2
  exact bodyPost_ret (v := .tuple #[.int .u8 (((x + y) % 256)), .nilIface]) (by simp [results, Tryd.results57, go_sem]) rfl ⟨_, rfl, (Val.w8 _).symm, rfl⟩

theorem Val.reck11_uint8 (x y : Int) (w : World) : Calls Tryd.prog 57 #[.int .i64 11, .int .u8 x, .int .u8 y] w fun e w' => ∃ r, e = .returned (.tuple #[.int .u8 r, .nilIface]) ∧ Hid (r = Go.bits BinOp.or IntKind.u8 x y) ∧ w = w' := by
  go_enter Tryd.func57, Tryd.ntmps57
  go_wp2
  exact bodyPost_ret (v := .tuple #[.int .u8 (Go.bits BinOp.or IntKind.u8 x y), .nilIface]) (by simp [results, Tryd.results57, go_sem]) rfl ⟨_, rfl, rfl, rfl⟩

theorem Val.reck12_uint8 (x y : Int) (w : World) : Calls Tryd.prog 57 #[.int .i64 12, .int .u8 x, .int .u8 y] w fun e w' => ∃ r, e = .returned (.tuple #[.int .u8 r, .nilIface]) ∧ Hid (r = Go.bits BinOp.xor IntKind.u8 x y) ∧ w = w' := by
  go_enter Tryd.func57, Tryd.ntmps57
  go_wp2
  exact bodyPost_ret (v := .tuple #[.int .u8 (Go.bits BinOp.xor IntKind.u8 x y), .nilIface]) (by simp [results, Tryd.results57, go_sem]) rfl ⟨_, rfl, rfl, rfl⟩

theorem Val.reck16_uint8 (x y : Int) (w : World) : Calls Tryd.prog 57 #[.int .i64 16, .int .u8 x, .int .u8 y] w fun e w' => ∃ r, e = .returned (.tuple #[.int .u8 r, .nilIface]) ∧ Hid (r = Go.bits BinOp.and IntKind.u8 x y) ∧ w = w' := by
  go_enter Tryd.func57, Tryd.ntmps57
  go_wp2
  exact bodyPost_ret (v := .tuple #[.int .u8 (Go.bits BinOp.and IntKind.u8 x y), .nilIface]) (by simp [results, Tryd.results57, go_sem]) rfl ⟨_, rfl, rfl, rfl⟩

theorem Val.reck17_uint8 (x y : Int) (k : Nat) (hk : k ≤ 70) (hy : y = (k : Int)) (w : World) : Calls Tryd.prog 57 #[.int .i64 17, .int .u8 x, .int .u8 y] w fun e w' => ∃ r, e = .returned (.tuple #[.int .u8 r, .nilIface]) ∧ Hid (r = IntKind.u8.wrap (x * 2 ^ min k 8)) ∧ w = w' := by
  subst hy
  have h1 : IntKind.u64.wrap (k : Int) = (k : Int) := by rw [Val.wrap_u]; omega
  go_enter Tryd.func57, Tryd.ntmps57
  go_wp2
  exact bodyPost_ret (v := .tuple #[.int .u8 (((x * 2 ^ min k 8) % 256)), .nilIface]) (by simp [results, Tryd.results57, go_sem]) rfl ⟨_, rfl, (Val.w8 _).symm, rfl⟩

theorem Val.reck18_uint8 (x y : Int) (k : Nat) (hk : k ≤ 70) (hy : y = (k : Int)) (w : World) : Calls Tryd.prog 57 #[.int .i64 18, .int .u8 x, .int .u8 y] w fun e w' => ∃ r, e = .returned (.tuple #[.int .u8 r, .nilIface]) ∧ Hid (r = x / 2 ^ min k 8) ∧ w = w' := by
  subst hy
  have h1 : IntKind.u64.wrap (k : Int) = (k : Int) := by rw [Val.wrap_u]; omega
  go_enter Tryd.func57, Tryd.ntmps57
  go_wp2
  exact bodyPost_ret (v := .tuple #[.int .u8 (x / 2 ^ min k 8), .nilIface]) (by simp [results, Tryd.results57, go_sem]) rfl ⟨_, rfl, rfl, rfl⟩

theorem Val.reck9_uint16 (x y : Int) (w : World) : Calls Tryd.prog 63 #[.int .i64 9, .int .u16 x, .int .u16 y] w fun e w' => ∃ r, e = .returned (.tuple #[.int .u16 r, .nilIface]) ∧ Hid (r = IntKind.u16.wrap (x + y)) ∧ w = w' := by
  go_enter Tryd.func63, Tryd.ntmps63
  go_wp2
  exact bodyPost_ret (v := .tuple #[.int .u16 ((IntKind.u16.wrap (x + y))), .nilIface]) (by simp [results, Tryd.results63, go_sem]) rfl ⟨_, rfl, rfl, rfl⟩

theorem Val.reck11_uint16 (x y : Int) (w : World) : Calls Tryd.prog 63 #[.int .i64 11, .int .u16 x, .int .u16 y] w fun e w' => ∃ r, e = .returned (.tuple #[.int .u16 r, .nilIface]) ∧ Hid (r = Go.bits BinOp.or IntKind.u16 x y) ∧ w = w' := by
  go_enter Tryd.func63, Tryd.ntmps63
  go_wp2
  exact bodyPost_ret (v := .tuple #[.int .u16 (Go.bits BinOp.or IntKind.u16 x y), .nilIface]) (by simp [results, Tryd.results63, go_sem]) rfl ⟨_, rfl, rfl, rfl⟩

theorem Val.reck12_uint16 (x y : Int) (w : World) : Calls Tryd.prog 63 #[.int .i64 12, .int .u16 x, .int .u16 y] w fun e w' => ∃ r, e = .returned (.tuple #[.int .u16 r, .nilIface]) ∧ Hid (r = Go.bits BinOp.xor IntKind.u16 x y) ∧ w = w' := by
  go_enter Tryd.func63, Tryd.ntmps63
  go_wp2
  exact bodyPost_ret (v := .tuple #[.int .u16 (Go.bits BinOp.xor IntKind.u16 x y), .nilIface]) (by simp [results, Tryd.results63, go_sem]) rfl ⟨_, rfl, rfl, rfl⟩

theorem Val.reck16_uint16 (x y : Int) (w : World) : Calls Tryd.prog 63 #[.int .i64 16, .int .u16 x, .int .u16 y] w fun e w' => ∃ r, e = .returned (.tuple #[.int .u16 r, .nilIface]) ∧ Hid (r = Go.bits BinOp.and IntKind.u16 x y) ∧ w = w' := by
  go_enter Tryd.func63, Tryd.ntmps63
  go_wp2
  exact bodyPost_ret (v := .tuple #[.int .u16 (Go.bits BinOp.and IntKind.u16 x y), .nilIface]) (by simp [results, Tryd.results63, go_sem]) rfl ⟨_, rfl, rfl, rfl⟩

theorem Val.reck17_uint16 (x y : Int) (k : Nat) (hk : k ≤ 70) (hy : y = (k : Int)) (w : World) : Calls Tryd.prog 63 #[.int .i64 17, .int .u16 x, .int .u16 y] w fun e w' => ∃ r, e = .returned (.tuple #[.int .u16 r, .nilIface]) ∧ Hid (r = IntKind.u16.wrap (x * 2 ^ min k 16)) ∧ w = w' := by
  subst hy
  have h1 : IntKind.u64.wrap (k : Int) = (k : Int) := by rw [Val.wrap_u]; omega
  go_enter Tryd.func63, Tryd.ntmps63
  go_wp2
  exact bodyPost_ret (v := .tuple #[.int .u16 ((IntKind.u16.wrap (x * 2 ^ min k 16))), .nilIface]) (by simp [results, Tryd.results63, go_sem]) rfl ⟨_, rfl, rfl, rfl⟩

theorem Val.reck18_uint16 (x y : Int) (k : Nat) (hk : k ≤ 70) (hy : y = (k : Int)) (w : World) : Calls Tryd.prog 63 #[.int .i64 18, .int .u16 x, .int .u16 y] w fun e w' => ∃ r, e = .returned (.tuple #[.int .u16 r, .nilIface]) ∧ Hid (r = x / 2 ^ min k 16) ∧ w = w' := by
  subst hy
  have h1 : IntKind.u64.wrap (k : Int) = (k : Int) := by rw [Val.wrap_u]; omega
  go_enter Tryd.func63, Tryd.ntmps63
  go_wp2
  exact bodyPost_ret (v := .tuple #[.int .u16 (x / 2 ^ min k 16), .nilIface]) (by simp [results, Tryd.results63, go_sem]) rfl ⟨_, rfl, rfl, rfl⟩

theorem Val.reck9_uint32 (x y : Int) (w : World) : Calls Tryd.prog 69 #[.int .i64 9, .int .u32 x, .int .u32 y] w fun e w' => ∃ r, e = .returned (.tuple #[.int .u32 r, .nilIface]) ∧ Hid (r = IntKind.u32.wrap (x + y)) ∧ w = w' := by
  go_enter Tryd.func69, Tryd.ntmps69
  go_wp2
  exact bodyPost_ret (v := .tuple #[.int .u32 (((x + y) % 4294967296)), .nilIface]) (by simp [results, Tryd.results69, go_sem]) rfl ⟨_, rfl, (Val.w32 _).symm, rfl⟩

theorem Val.reck11_uint32 (x y : Int) (w : World) : Calls Tryd.prog 69 #[.int .i64 11, .int .u32 x, .int .u32 y] w fun e w' => ∃ r, e = .returned (.tuple #[.int .u32 r, .nilIface]) ∧ Hid (r = Go.bits BinOp.or IntKind.u32 x y) ∧ w = w' := by
  go_enter Tryd.func69, Tryd.ntmps69
  go_wp2
  exact bodyPost_ret (v := .tuple #[.int .u32 (Go.bits BinOp.or IntKind.u32 x y), .nilIface]) (by simp [results, Tryd.results69, go_sem]) rfl ⟨_, rfl, rfl, rfl⟩

theorem Val.reck12_uint32 (x y : Int) (w : World) : Calls Tryd.prog 69 #[.int .i64 12, .int .u32 x, .int .u32 y] w fun e w' => ∃ r, e = .returned (.tuple #[.int .u32 r, .nilIface]) ∧ Hid (r = Go.bits BinOp.xor IntKind.u32 x y) ∧ w = w' := by
  go_enter Tryd.func69, Tryd.ntmps69
  go_wp2
  exact bodyPost_ret (v := .tuple #[.int .u32 (Go.bits BinOp.xor IntKind.u32 x y), .nilIface]) (by simp [results, Tryd.results69, go_sem]) rfl ⟨_, rfl, rfl, rfl⟩

theorem Val.reck16_uint32 (x y : Int) (w : World) : Calls Tryd.prog 69 #[.int .i64 16, .int .u32 x, .int .u32 y] w fun e w' => ∃ r, e = .returned (.tuple #[.int .u32 r, .nilIface]) ∧ Hid (r = Go.bits BinOp.and IntKind.u32 x y) ∧ w = w' := by
  go_enter Tryd.func69, Tryd.ntmps69
  go_wp2
  exact bodyPost_ret (v := .tuple #[.int .u32 (Go.bits BinOp.and IntKind.u32 x y), .nilIface]) (by simp [results, Tryd.results69, go_sem]) rfl ⟨_, rfl, rfl, rfl⟩

theorem Val.reck17_uint32 (x y : Int) (k : Nat) (hk : k ≤ 70) (hy : y = (k : Int)) (w : World) : Calls Tryd.prog 69 #[.int .i64 17, .int .u32 x, .int .u32 y] w fun e w' => ∃ r, e = .returned (.tuple #[.int .u32 r, .nilIface]) ∧ Hid (r = IntKind.u32.wrap (x * 2 ^ min k 32)) ∧ w = w' := by
  subst hy
  have h1 : IntKind.u64.wrap (k : Int) = (k : Int) := by rw [Val.wrap_u]; omega
  go_enter Tryd.func69, Tryd.ntmps69
  go_wp2
  exact bodyPost_ret (v := .tuple #[.int .u32 (((x * 2 ^ min k 32) % 4294967296)), .nilIface]) (by simp [results, Tryd.results69, go_sem]) rfl ⟨_, rfl, (Val.w32 _).symm, rfl⟩

theorem Val.reck18_uint32 (x y : Int) (k : Nat) (hk : k ≤ 70) (hy : y = (k : Int)) (w : World) : Calls Tryd.prog 69 #[.int .i64 18, .int .u32 x, .int .u32 y] w fun e w' => ∃ r, e = .returned (.tuple #[.int .u32 r, .nilIface]) ∧ Hid (r = x / 2 ^ min k 32) ∧ w = w' := by
  subst hy
  have h1 : IntKind.u64.wrap (k : Int) = (k : Int) := by rw [Val.wrap_u]; omega
  go_enter Tryd.func69, Tryd.ntmps69
  go_wp2
  exact bodyPost_ret (v := .tuple #[.int .u32 (x / 2 ^ min k 32), .nilIface]) (by simp [results, Tryd.results69, go_sem]) rfl ⟨_, rfl, rfl, rfl⟩

theorem Val.reck9_uint64 (x y : Int) (w : World) : Calls Tryd.prog 75 #[.int .i64 9, .int .u64 x, .int .u64 y] w fun e w' => ∃ r, e = .returned (.tuple #[.int .u64 r, .nilIface]) ∧ Hid (r = IntKind.u64.wrap (x + y)) ∧ w = w' := by
  go_enter Tryd.func75, Tryd.ntmps75
  go_wp2
  exact bodyPost_ret (v := .tuple #[.int .u64 ((IntKind.u64.wrap (x + y))), .nilIface]) (by simp [results, Tryd.results75, go_sem]) rfl ⟨_, rfl, rfl, rfl⟩

theorem Val.reck11_uint64 (x y : Int) (w : World) : Calls Tryd.prog 75 #[.int .i64 11, .int .u64 x, .int .u64 y] w fun e w' => ∃ r, e = .returned (.tuple #[.int .u64 r, .nilIface]) ∧ Hid (r = Go.bits BinOp.or IntKind.u64 x y) ∧ w = w' := by
  go_enter Tryd.func75, Tryd.ntmps75
  go_wp2
  exact bodyPost_ret (v := .tuple #[.int .u64 (Go.bits BinOp.or IntKind.u64 x y), .nilIface]) (by simp [results, Tryd.results75, go_sem]) rfl ⟨_, rfl, rfl, rfl⟩

theorem Val.reck12_uint64 (x y : Int) (w : World) : Calls Tryd.prog 75 #[.int .i64 12, .int .u64 x, .int .u64 y] w fun e w' => ∃ r, e = .returned (.tuple #[.int .u64 r, .nilIface]) ∧ Hid (r = Go.bits BinOp.xor IntKind.u64 x y) ∧ w = w' := by
  go_enter Tryd.func75, Tryd.ntmps75
  go_wp2
  exact bodyPost_ret (v := .tuple #[.int .u64 (Go.bits BinOp.xor IntKind.u64 x y), .nilIface]) (by simp [results, Tryd.results75, go_sem]) rfl ⟨_, rfl, rfl, rfl⟩

theorem Val.reck16_uint64 (x y : Int) (w : World) : Calls Tryd.prog 75 #[.int .i64 16, .int .u64 x, .int .u64 y] w fun e w' => ∃ r, e = .returned (.tuple #[.int .u64 r, .nilIface]) ∧ Hid (r = Go.bits BinOp.and IntKind.u64 x y) ∧ w = w' := by
  go_enter Tryd.func75, Tryd.ntmps75
  go_wp2
  exact bodyPost_ret (v := .tuple #[.int .u64 (Go.bits BinOp.and IntKind.u64 x y), .nilIface]) (by simp [results, Tryd.results75, go_sem]) rfl ⟨_, rfl, rfl, rfl⟩

theorem Val.reck17_uint64 (x y : Int) (k : Nat) (hk : k ≤ 70) (hy : y = (k : Int)) (w : World) : Calls Tryd.prog 75 #[.int .i64 17, .int .u64 x, .int .u64 y] w fun e w' => ∃ r, e = .returned (.tuple #[.int .u64 r, .nilIface]) ∧ Hid (r = IntKind.u64.wrap (x * 2 ^ min k 64)) ∧ w = w' := by
  subst hy
  have h1 : IntKind.u64.wrap (k : Int) = (k : Int) := by rw [Val.wrap_u]; omega
  go_enter Tryd.func75, Tryd.ntmps75
  go_wp2
  exact bodyPost_ret (v := .tuple #[.int .u64 ((IntKind.u64.wrap (x * 2 ^ min k 64))), .nilIface]) (by simp [results, Tryd.results75, go_sem]) rfl ⟨_, rfl, rfl, rfl⟩

theorem Val.reck18_uint64 (x y : Int) (k : Nat) (hk : k ≤ 70) (hy : y = (k : Int)) (w : World) : Calls Tryd.prog 75 #[.int .i64 18, .int .u64 x, .int .u64 y] w fun e w' => ∃ r, e = .returned (.tuple #[.int .u64 r, .nilIface]) ∧ Hid (r = x / 2 ^ min k 64) ∧ w = w' := by
  subst hy
  have h1 : IntKind.u64.wrap (k : Int) = (k : Int) := by rw [Val.wrap_u]; omega
  go_enter Tryd.func75, Tryd.ntmps75
  go_wp2
  exact bodyPost_ret (v := .tuple #[.int .u64 (x / 2 ^ min k 64), .nilIface]) (by simp [results, Tryd.results75, go_sem]) rfl ⟨_, rfl, rfl, rfl⟩

theorem Val.reck9_int8 (x y : Int) (w : World) : Calls Tryd.prog 81 #[.int .i64 9, .int .i8 x, .int .i8 y] w fun e w' => ∃ r, e = .returned (.tuple #[.int .i8 r, .nilIface]) ∧ Hid (r = IntKind.i8.wrap (x + y)) ∧ w = w' := by
  go_enter Tryd.func81, Tryd.ntmps81
  go_wp2
  exact bodyPost_ret (v := .tuple #[.int .i8 ((IntKind.i8.wrap (x + y))), .nilIface]) (by simp [results, Tryd.results81, go_sem]) rfl ⟨_, rfl, rfl, rfl⟩

theorem Val.reck11_int8 (x y : Int) (w : World) : Calls Tryd.prog 81 #[.int .i64 11, .int .i8 x, .int .i8 y] w fun e w' => ∃ r, e = .returned (.tuple #[.int .i8 r, .nilIface]) ∧ Hid (r = Go.bits BinOp.or IntKind.i8 x y) ∧ w = w' := by
  go_enter Tryd.func81, Tryd.ntmps81
  go_wp2
  exact bodyPost_ret (v := .tuple #[.int .i8 (Go.bits BinOp.or IntKind.i8 x y), .nilIface]) (by simp [results, Tryd.results81, go_sem]) rfl ⟨_, rfl, rfl, rfl⟩

theorem Val.reck12_int8 (x y : Int) (w : World) : Calls Tryd.prog 81 #[.int .i64 12, .int .i8 x, .int .i8 y] w fun e w' => ∃ r, e = .returned (.tuple #[.int .i8 r, .nilIface]) ∧ Hid (r = Go.bits BinOp.xor IntKind.i8 x y) ∧ w = w' := by
  go_enter Tryd.func81, Tryd.ntmps81
  go_wp2
  exact bodyPost_ret (v := .tuple #[.int .i8 (Go.bits BinOp.xor IntKind.i8 x y), .nilIface]) (by simp [results, Tryd.results81, go_sem]) rfl ⟨_, rfl, rfl, rfl⟩

theorem Val.reck16_int8 (x y : Int) (w : World) : Calls Tryd.prog 81 #[.int .i64 16, .int .i8 x, .int .i8 y] w fun e w' => ∃ r, e = .returned (.tuple #[.int .i8 r, .nilIface]) ∧ Hid (r = Go.bits BinOp.and IntKind.i8 x y) ∧ w = w' := by
  go_enter Tryd.func81, Tryd.ntmps81
  go_wp2
  exact bodyPost_ret (v := .tuple #[.int .i8 (Go.bits BinOp.and IntKind.i8 x y), .nilIface]) (by simp [results, Tryd.results81, go_sem]) rfl ⟨_, rfl, rfl, rfl⟩

theorem Val.reck17_int8 (x y : Int) (k : Nat) (hk : k ≤ 70) (hy : y = (k : Int)) (w : World) : Calls Tryd.prog 81 #[.int .i64 17, .int .i8 x, .int .i8 y] w fun e w' => ∃ r, e = .returned (.tuple #[.int .i8 r, .nilIface]) ∧ Hid (r = IntKind.i8.wrap (x * 2 ^ min k 8)) ∧ w = w' := by
  subst hy
  have h1 : IntKind.u64.wrap (k : Int) = (k : Int) := by rw [Val.wrap_u]; omega
  go_enter Tryd.func81, Tryd.ntmps81
  go_wp2
  exact bodyPost_ret (v := .tuple #[.int .i8 ((IntKind.i8.wrap (x * 2 ^ min k 8))), .nilIface]) (by simp [results, Tryd.results81, go_sem]) rfl ⟨_, rfl, rfl, rfl⟩

theorem Val.reck18_int8 (x y : Int) (k : Nat) (hk : k ≤ 70) (hy : y = (k : Int)) (w : World) : Calls Tryd.prog 81 #[.int .i64 18, .int .i8 x, .int .i8 y] w fun e w' => ∃ r, e = .returned (.tuple #[.int .i8 r, .nilIface]) ∧ Hid (r = x / 2 ^ min k 8) ∧ w = w' := by
  subst hy
  have h1 : IntKind.u64.wrap (k : Int) = (k : Int) := by rw [Val.wrap_u]; omega
  go_enter Tryd.func81, Tryd.ntmps81
  go_wp2
  exact bodyPost_ret (v := .tuple #[.int .i8 (x / 2 ^ min k 8), .nilIface]) (by simp [results, Tryd.results81, go_sem]) rfl ⟨_, rfl, rfl, rfl⟩

theorem Val.reck9_int16 (x y : Int) (w : World) : Calls Tryd.prog 87 #[.int .i64 9, .int .i16 x, .int .i16 y] w fun e w' => ∃ r, e = .returned (.tuple #[.int .i16 r, .nilIface]) ∧ Hid (r = IntKind.i16.wrap (x + y)) ∧ w = w' := by
  go_enter Tryd.func87, Tryd.ntmps87
  go_wp2
  exact bodyPost_ret (v := .tuple #[.int .i16 ((IntKind.i16.wrap (x + y))), .nilIface]) (by simp [results, Tryd.results87, go_sem]) rfl ⟨_, rfl, rfl, rfl⟩

theorem Val.reck11_int16 (x y : Int) (w : World) : Calls Tryd.prog 87 #[.int .i64 11, .int .i16 x, .int .i16 y] w fun e w' => ∃ r, e = .returned (.tuple #[.int .i16 r, .nilIface]) ∧ Hid (r = Go.bits BinOp.or IntKind.i16 x y) ∧ w = w' := by
  go_enter Tryd.func87, Tryd.ntmps87
  go_wp2
  exact bodyPost_ret (v := .tuple #[.int .i16 (Go.bits BinOp.or IntKind.i16 x y), .nilIface]) (by simp [results, Tryd.results87, go_sem]) rfl ⟨_, rfl, rfl, rfl⟩

theorem Val.reck12_int16 (x y : Int) (w : World) : Calls Tryd.prog 87 #[.int .i64 12, .int .i16 x, .int .i16 y] w fun e w' => ∃ r, e = .returned (.tuple #[.int .i16 r, .nilIface]) ∧ Hid (r = Go.bits BinOp.xor IntKind.i16 x y) ∧ w = w' := by
  go_enter Tryd.func87, Tryd.ntmps87
  go_wp2
  exact bodyPost_ret (v := .tuple #[.int .i16 (Go.bits BinOp.xor IntKind.i16 x y), .nilIface]) (by simp [results, Tryd.results87, go_sem]) rfl ⟨_, rfl, rfl, rfl⟩

theorem Val.reck16_int16 (x y : Int) (w : World) : Calls Tryd.prog 87 #[.int .i64 16, .int .i16 x, .int .i16 y] w fun e w' => ∃ r, e = .returned (.tuple #[.int .i16 r, .nilIface]) ∧ Hid (r = Go.bits BinOp.and IntKind.i16 x y) ∧ w = w' := by
  go_enter Tryd.func87, Tryd.ntmps87
  go_wp2
  exact bodyPost_ret (v := .tuple #[.int .i16 (Go.bits BinOp.and IntKind.i16 x y), .nilIface]) (by simp [results, Tryd.results87, go_sem]) rfl ⟨_, rfl, rfl, rfl⟩

theorem Val.reck17_int16 (x y : Int) (k : Nat) (hk : k ≤ 70) (hy : y = (k : Int)) (w : World) : Calls Tryd.prog 87 #[.int .i64 17, .int .i16 x, .int .i16 y] w fun e w' => ∃ r, e = .returned (.tuple #[.int .i16 r, .nilIface]) ∧ Hid (r = IntKind.i16.wrap (x * 2 ^ min k 16)) ∧ w = w' := by
  subst hy
  have h1 : IntKind.u64.wrap (k : Int) = (k : Int) := by rw [Val.wrap_u]; omega
  go_enter Tryd.func87, Tryd.ntmps87
  go_wp2
  exact bodyPost_ret (v := .tuple #[.int .i16 ((IntKind.i16.wrap (x * 2 ^ min k 16))), .nilIface]) (by simp [results, Tryd.results87, go_sem]) rfl ⟨_, rfl, rfl, rfl⟩

theorem Val.reck18_int16 (x y : Int) (k : Nat) (hk : k ≤ 70) (hy : y = (k : Int)) (w : World) : Calls Tryd.prog 87 #[.int .i64 18, .int .i16 x, .int .i16 y] w fun e w' => ∃ r, e = .returned (.tuple #[.int .i16 r, .nilIface]) ∧ Hid (r = x / 2 ^ min k 16) ∧ w = w' := by
  subst hy
  have h1 : IntKind.u64.wrap (k : Int) = (k : Int) := by rw [Val.wrap_u]; omega
  go_enter Tryd.func87, Tryd.ntmps87
  go_wp2
  exact bodyPost_ret (v := .tuple #[.int .i16 (x / 2 ^ min k 16), .nilIface]) (by simp [results, Tryd.results87, go_sem]) rfl ⟨_, rfl, rfl, rfl⟩

theorem Val.reck9_int32 (x y : Int) (w : World) : Calls Tryd.prog 93 #[.int .i64 9, .int .i32 x, .int .i32 y] w fun e w' => ∃ r, e = .returned (.tuple #[.int .i32 r, .nilIface]) ∧ Hid (r = IntKind.i32.wrap (x + y)) ∧ w = w' := by
  go_enter Tryd.func93, Tryd.ntmps93
  go_wp2
  exact bodyPost_ret (v := .tuple #[.int .i32 ((wrap32 (x + y))), .nilIface]) (by simp [results, Tryd.results93, go_sem]) rfl ⟨_, rfl, (by rw [Hid, Val.wrap32_i, Val.s32]), rfl⟩

theorem Val.reck11_int32 (x y : Int) (w : World) : Calls Tryd.prog 93 #[.int .i64 11, .int .i32 x, .int .i32 y] w fun e w' => ∃ r, e = .returned (.tuple #[.int .i32 r, .nilIface]) ∧ Hid (r = Go.bits BinOp.or IntKind.i32 x y) ∧ w = w' := by
  go_enter Tryd.func93, Tryd.ntmps93
  go_wp2
  exact bodyPost_ret (v := .tuple #[.int .i32 (Go.bits BinOp.or IntKind.i32 x y), .nilIface]) (by simp [results, Tryd.results93, go_sem]) rfl ⟨_, rfl, rfl, rfl⟩

theorem Val.reck12_int32 (x y : Int) (w : World) : Calls Tryd.prog 93 #[.int .i64 12, .int .i32 x, .int .i32 y] w fun e w' => ∃ r, e = .returned (.tuple #[.int .i32 r, .nilIface]) ∧ Hid (r = Go.bits BinOp.xor IntKind.i32 x y) ∧ w = w' := by
  go_enter Tryd.func93, Tryd.ntmps93
  go_wp2
  exact bodyPost_ret (v := .tuple #[.int .i32 (Go.bits BinOp.xor IntKind.i32 x y), .nilIface]) (by simp [results, Tryd.results93, go_sem]) rfl ⟨_, rfl, rfl, rfl⟩

theorem Val.reck16_int32 (x y : Int) (w : World) : Calls Tryd.prog 93 #[.int .i64 16, .int .i32 x, .int .i32 y] w fun e w' => ∃ r, e = .returned (.tuple #[.int .i32 r, .nilIface]) ∧ Hid (r = Go.bits BinOp.and IntKind.i32 x y) ∧ w = w' := by
  go_enter Tryd.func93, Tryd.ntmps93
  go_wp2
  exact bodyPost_ret (v := .tuple #[.int .i32 (Go.bits BinOp.and IntKind.i32 x y), .nilIface]) (by simp [results, Tryd.results93, go_sem]) rfl ⟨_, rfl, rfl, rfl⟩

theorem Val.reck17_int32 (x y : Int) (k : Nat) (hk : k ≤ 70) (hy : y = (k : Int)) (w : World) : Calls Tryd.prog 93 #[.int .i64 17, .int .i32 x, .int .i32 y] w fun e w' => ∃ r, e = .returned (.tuple #[.int .i32 r, .nilIface]) ∧ Hid (r = IntKind.i32.wrap (x * 2 ^ min k 32)) ∧ w = w' := by
  subst hy
  have h1 : IntKind.u64.wrap (k : Int) = (k : Int) := by rw [Val.wrap_u]; omega
  go_enter Tryd.func93, Tryd.ntmps93
  go_wp2
  exact bodyPost_ret (v := .tuple #[.int .i32 ((wrap32 (x * 2 ^ min k 32))), .nilIface]) (by simp [results, Tryd.results93, go_sem]) rfl ⟨_, rfl, (by rw [Hid, Val.wrap32_i, Val.s32]), rfl⟩

theorem Val.reck18_int32 (x y : Int) (k : Nat) (hk : k ≤ 70) (hy : y = (k : Int)) (w : World) : Calls Tryd.prog 93 #[.int .i64 18, .int .i32 x, .int .i32 y] w fun e w' => ∃ r, e = .returned (.tuple #[.int .i32 r, .nilIface]) ∧ Hid (r = x / 2 ^ min k 32) ∧ w = w' := by
  subst hy
  have h1 : IntKind.u64.wrap (k : Int) = (k : Int) := by rw [Val.wrap_u]; omega
  go_enter Tryd.func93, Tryd.ntmps93
  go_wp2
  exact bodyPost_ret (v := .tuple #[.int .i32 (x / 2 ^ min k 32), .nilIface]) (by simp [results, Tryd.results93, go_sem]) rfl ⟨_, rfl, rfl, rfl⟩

theorem Val.reck9_int64 (x y : Int) (w : World) : Calls Tryd.prog 98 #[.int .i64 9, .int .i64 x, .int .i64 y] w fun e w' => ∃ r, e = .returned (.tuple #[.int .i64 r, .nilIface]) ∧ Hid (r = IntKind.i64.wrap (x + y)) ∧ w = w' := by
  go_enter Tryd.func98, Tryd.ntmps98
  go_wp2
  exact bodyPost_ret (v := .tuple #[.int .i64 ((wrap64 (x + y))), .nilIface]) (by simp [results, Tryd.results98, go_sem]) rfl ⟨_, rfl, (by rw [Hid, Val.wrap_i, Val.s64]), rfl⟩

theorem Val.reck11_int64 (x y : Int) (w : World) : Calls Tryd.prog 98 #[.int .i64 11, .int .i64 x, .int .i64 y] w fun e w' => ∃ r, e = .returned (.tuple #[.int .i64 r, .nilIface]) ∧ Hid (r = Go.bits BinOp.or IntKind.i64 x y) ∧ w = w' := by
  go_enter Tryd.func98, Tryd.ntmps98
  go_wp2
  exact bodyPost_ret (v := .tuple #[.int .i64 (Go.bits BinOp.or IntKind.i64 x y), .nilIface]) (by simp [results, Tryd.results98, go_sem]) rfl ⟨_, rfl, rfl, rfl⟩

theorem Val.reck12_int64 (x y : Int) (w : World) : Calls Tryd.prog 98 #[.int .i64 12, .int .i64 x, .int .i64 y] w fun e w' => ∃ r, e = .returned (.tuple #[.int .i64 r, .nilIface]) ∧ Hid (r = Go.bits BinOp.xor IntKind.i64 x y) ∧ w = w' := by
  go_enter Tryd.func98, Tryd.ntmps98
  go_wp2
  exact bodyPost_ret (v := .tuple #[.int .i64 (Go.bits BinOp.xor IntKind.i64 x y), .nilIface]) (by simp [results, Tryd.results98, go_sem]) rfl ⟨_, rfl, rfl, rfl⟩

theorem Val.reck16_int64 (x y : Int) (w : World) : Calls Tryd.prog 98 #[.int .i64 16, .int .i64 x, .int .i64 y] w fun e w' => ∃ r, e = .returned (.tuple #[.int .i64 r, .nilIface]) ∧ Hid (r = Go.bits BinOp.and IntKind.i64 x y) ∧ w = w' := by
  go_enter Tryd.func98, Tryd.ntmps98
  go_wp2
  exact bodyPost_ret (v := .tuple #[.int .i64 (Go.bits BinOp.and IntKind.i64 x y), .nilIface]) (by simp [results, Tryd.results98, go_sem]) rfl ⟨_, rfl, rfl, rfl⟩

theorem Val.reck17_int64 (x y : Int) (k : Nat) (hk : k ≤ 70) (hy : y = (k : Int)) (w : World) : Calls Tryd.prog 98 #[.int .i64 17, .int .i64 x, .int .i64 y] w fun e w' => ∃ r, e = .returned (.tuple #[.int .i64 r, .nilIface]) ∧ Hid (r = IntKind.i64.wrap (x * 2 ^ min k 64)) ∧ w = w' := by
  subst hy
  have h1 : IntKind.u64.wrap (k : Int) = (k : Int) := by rw [Val.wrap_u]; omega
  go_enter Tryd.func98, Tryd.ntmps98
  go_wp2
  exact bodyPost_ret (v := .tuple #[.int .i64 ((wrap64 (x * 2 ^ min k 64))), .nilIface]) (by simp [results, Tryd.results98, go_sem]) rfl ⟨_, rfl, (by rw [Hid, Val.wrap_i, Val.s64]), rfl⟩

theorem Val.reck18_int64 (x y : Int) (k : Nat) (hk : k ≤ 70) (hy : y = (k : Int)) (w : World) : Calls Tryd.prog 98 #[.int .i64 18, .int .i64 x, .int .i64 y] w fun e w' => ∃ r, e = .returned (.tuple #[.int .i64 r, .nilIface]) ∧ Hid (r = x / 2 ^ min k 64) ∧ w = w' := by
  subst hy
  have h1 : IntKind.u64.wrap (k : Int) = (k : Int) := by rw [Val.wrap_u]; omega
  go_enter Tryd.func98, Tryd.ntmps98
  go_wp2
  exact bodyPost_ret (v := .tuple #[.int .i64 (x / 2 ^ min k 64), .nilIface]) (by simp [results, Tryd.results98, go_sem]) rfl ⟨_, rfl, rfl, rfl⟩

end Go.Proofs.YtkijfehdgiiejaaDoor
