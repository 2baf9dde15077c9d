import Derived.Test.YtkijfehdgiiejaaDoorBitA
namespace Go.Proofs.YtkijfehdgiiejaaDoor
open Go.RowKit


def Val.bor (a b : Int) : Int := ((BitVec.ofInt 64 a ||| BitVec.ofInt 64 b).toNat : Int)
def Val.bxor (a b : Int) : Int := ((BitVec.ofInt 64 a ^^^ BitVec.ofInt 64 b).toNat : Int)
def Val.band (a b : Int) : Int := ((BitVec.ofInt 64 a &&& BitVec.ofInt 64 b).toNat : Int)
theorem Val.disjoint64 (x y : BitVec 64) : (x &&& y).toNat + (x ^^^ y).toNat = (x ||| y).toNat := by
  have h0 : (x &&& y) &&& (x ^^^ y) = 0#64 := by
    ext i hi
    simp only [BitVec.getElem_and, BitVec.getElem_xor, BitVec.getElem_zero]
    cases x[i] <;> cases y[i] <;> rfl
  have h1 : (x &&& y) ||| (x ^^^ y) = x ||| y := by
    ext i hi
    simp only [BitVec.getElem_and, BitVec.getElem_xor, BitVec.getElem_or]
    cases x[i] <;> cases y[i] <;> rfl
  have h2 : (x &&& y) + (x ^^^ y) = x ||| y := by rw [BitVec.add_eq_or_of_and_eq_zero _ _ h0, h1]
  rw [← BitVec.toNat_add_of_and_eq_zero h0, h2]
theorem Val.bor_sum (a b : Int) : Val.band a b + Val.bxor a b = Val.bor a b := by
  unfold Val.band Val.bxor Val.bor
  have := Val.disjoint64 (BitVec.ofInt 64 a) (BitVec.ofInt 64 b)
  omega

theorem Val.cut8 (a : Int) : BitVec.ofInt 8 a = (BitVec.ofInt 64 a).setWidth 8 := by
  apply BitVec.eq_of_toNat_eq
  rw [BitVec.toNat_setWidth, BitVec.toNat_ofInt, BitVec.toNat_ofInt]
  have e : ((2 : Nat) ^ 8 : Nat) = 256 := by decide
  have e2 : ((2 : Nat) ^ 64 : Nat) = 18446744073709551616 := by decide
  rw [e, e2]
  omega

theorem Val.same8 (a b : Int) (h : a % 256 = b % 256) : BitVec.ofInt 8 a = BitVec.ofInt 8 b := by
  apply BitVec.eq_of_toNat_eq
  rw [BitVec.toNat_ofInt, BitVec.toNat_ofInt]
  have e : ((2 : Nat) ^ 8 : Nat) = 256 := by decide
  rw [e]
  omega
theorem Val.bor8 (x y a b : Int) (hx : x % 256 = a % 256) (hy : y % 256 = b % 256) : ((BitVec.ofInt 8 x ||| BitVec.ofInt 8 y).toNat : Int) = Val.bor a b % 256 := by
  have e : ((2 : Nat) ^ 8 : Nat) = 256 := by decide
  rw [Val.same8 x a hx, Val.same8 y b hy, Val.cut8 a, Val.cut8 b, ← BitVec.setWidth_or, BitVec.toNat_setWidth, e]
  unfold Val.bor
  omega
theorem Val.bxor8 (x y a b : Int) (hx : x % 256 = a % 256) (hy : y % 256 = b % 256) : ((BitVec.ofInt 8 x ^^^ BitVec.ofInt 8 y).toNat : Int) = Val.bxor a b % 256 := by
  have e : ((2 : Nat) ^ 8 : Nat) = 256 := by decide
  rw [Val.same8 x a hx, Val.same8 y b hy, Val.cut8 a, Val.cut8 b, ← BitVec.setWidth_xor, BitVec.toNat_setWidth, e]
  unfold Val.bxor
  omega
theorem Val.band8 (x y a b : Int) (hx : x % 256 = a % 256) (hy : y % 256 = b % 256) : ((BitVec.ofInt 8 x &&& BitVec.ofInt 8 y).toNat : Int) = Val.band a b % 256 := by
  have e : ((2 : Nat) ^ 8 : Nat) = 256 := by decide
  rw [Val.same8 x a hx, Val.same8 y b hy, Val.cut8 a, Val.cut8 b, ← BitVec.setWidth_and, BitVec.toNat_setWidth, e]
  unfold Val.band
  omega
theorem Val.cut16 (a : Int) : BitVec.ofInt 16 a = (BitVec.ofInt 64 a).setWidth 16 := by
  apply BitVec.eq_of_toNat_eq
  rw [BitVec.toNat_setWidth, BitVec.toNat_ofInt, BitVec.toNat_ofInt]
  have e : ((2 : Nat) ^ 16 : Nat) = 65536 := by decide
  have e2 : ((2 : Nat) ^ 64 : Nat) = 18446744073709551616 := by decide
  rw [e, e2]
  omega

theorem Val.same16 (a b : Int) (h : a % 65536 = b % 65536) : BitVec.ofInt 16 a = BitVec.ofInt 16 b := by
  apply BitVec.eq_of_toNat_eq
  rw [BitVec.toNat_ofInt, BitVec.toNat_ofInt]
  have e : ((2 : Nat) ^ 16 : Nat) = 65536 := by decide
  rw [e]
  omega
theorem Val.bor16 (x y a b : Int) (hx : x % 65536 = a % 65536) (hy : y % 65536 = b % 65536) : ((BitVec.ofInt 16 x ||| BitVec.ofInt 16 y).toNat : Int) = Val.bor a b % 65536 := by
  have e : ((2 : Nat) ^ 16 : Nat) = 65536 := by decide
  rw [Val.same16 x a hx, Val.same16 y b hy, Val.cut16 a, Val.cut16 b, ← BitVec.setWidth_or, BitVec.toNat_setWidth, e]
  unfold Val.bor
  omega
theorem Val.bxor16 (x y a b : Int) (hx : x % 65536 = a % 65536) (hy : y % 65536 = b % 65536) : ((BitVec.ofInt 16 x ^^^ BitVec.ofInt 16 y).toNat : Int) = Val.bxor a b % 65536 := by
  have e : ((2 : Nat) ^ 16 : Nat) = 65536 := by decide
  rw [Val.same16 x a hx, Val.same16 y b hy, Val.cut16 a, Val.cut16 b, ← BitVec.setWidth_xor, BitVec.toNat_setWidth, e]
  unfold Val.bxor
  omega
theorem Val.band16 (x y a b : Int) (hx : x % 65536 = a % 65536) (hy : y % 65536 = b % 65536) : ((BitVec.ofInt 16 x &&& BitVec.ofInt 16 y).toNat : Int) = Val.band a b % 65536 := by
  have e : ((2 : Nat) ^ 16 : Nat) = 65536 := by decide
  rw [Val.same16 x a hx, Val.same16 y b hy, Val.cut16 a, Val.cut16 b, ← BitVec.setWidth_and, BitVec.toNat_setWidth, e]
  unfold Val.band
  omega
theorem Val.cut32 (a : Int) : BitVec.ofInt 32 a = (BitVec.ofInt 64 a).setWidth 32 := by
  apply BitVec.eq_of_toNat_eq
  rw [BitVec.toNat_setWidth, BitVec.toNat_ofInt, BitVec.toNat_ofInt]
  have e : ((2 : Nat) ^ 32 : Nat) = 4294967296 := by decide
  have e2 : ((2 : Nat) ^ 64 : Nat) = 18446744073709551616 := by decide
  rw [e, e2]
  omega

theorem Val.same32 (a b : Int) (h : a % 4294967296 = b % 4294967296) : BitVec.ofInt 32 a = BitVec.ofInt 32 b := by
  apply BitVec.eq_of_toNat_eq
  rw [BitVec.toNat_ofInt, BitVec.toNat_ofInt]
  have e : ((2 : Nat) ^ 32 : Nat) = 4294967296 := by decide
  rw [e]
  omega
theorem Val.bor32 (x y a b : Int) (hx : x % 4294967296 = a % 4294967296) (hy : y % 4294967296 = b % 4294967296) : ((BitVec.ofInt 32 x ||| BitVec.ofInt 32 y).toNat : Int) = Val.bor a b % 4294967296 := by
  have e : ((2 : Nat) ^ 32 : Nat) = 4294967296 := by decide
  rw [Val.same32 x a hx, Val.same32 y b hy, Val.cut32 a, Val.cut32 b, ← BitVec.setWidth_or, BitVec.toNat_setWidth, e]
  unfold Val.bor
  omega
theorem Val.bxor32 (x y a b : Int) (hx : x % 4294967296 = a % 4294967296) (hy : y % 4294967296 = b % 4294967296) : ((BitVec.ofInt 32 x ^^^ BitVec.ofInt 32 y).toNat : Int) = Val.bxor a b % 4294967296 := by
  have e : ((2 : Nat) ^ 32 : Nat) = 4294967296 := by decide
  rw [Val.same32 x a hx, Val.same32 y b hy, Val.cut32 a, Val.cut32 b, ← BitVec.setWidth_xor, BitVec.toNat_setWidth, e]
  unfold Val.bxor
  omega
theorem Val.band32 (x y a b : Int) (hx : x % 4294967296 = a % 4294967296) (hy : y % 4294967296 = b % 4294967296) : ((BitVec.ofInt 32 x &&& BitVec.ofInt 32 y).toNat : Int) = Val.band a b % 4294967296 := by
  have e : ((2 : Nat) ^ 32 : Nat) = 4294967296 := by decide
  rw [Val.same32 x a hx, Val.same32 y b hy, Val.cut32 a, Val.cut32 b, ← BitVec.setWidth_and, BitVec.toNat_setWidth, e]
  unfold Val.band
  omega
theorem Val.cut64 (a : Int) : BitVec.ofInt 64 a = (BitVec.ofInt 64 a).setWidth 64 := by rw [BitVec.setWidth_eq]
theorem Val.same64 (a b : Int) (h : a % 18446744073709551616 = b % 18446744073709551616) : BitVec.ofInt 64 a = BitVec.ofInt 64 b := by
  apply BitVec.eq_of_toNat_eq
  rw [BitVec.toNat_ofInt, BitVec.toNat_ofInt]
  have e : ((2 : Nat) ^ 64 : Nat) = 18446744073709551616 := by decide
  rw [e]
  omega
theorem Val.bor64 (x y a b : Int) (hx : x % 18446744073709551616 = a % 18446744073709551616) (hy : y % 18446744073709551616 = b % 18446744073709551616) : ((BitVec.ofInt 64 x ||| BitVec.ofInt 64 y).toNat : Int) = Val.bor a b % 18446744073709551616 := by
  have e : ((2 : Nat) ^ 64 : Nat) = 18446744073709551616 := by decide
  rw [Val.same64 x a hx, Val.same64 y b hy, Val.cut64 a, Val.cut64 b, ← BitVec.setWidth_or, BitVec.toNat_setWidth, e]
  unfold Val.bor
  omega
theorem Val.bxor64 (x y a b : Int) (hx : x % 18446744073709551616 = a % 18446744073709551616) (hy : y % 18446744073709551616 = b % 18446744073709551616) : ((BitVec.ofInt 64 x ^^^ BitVec.ofInt 64 y).toNat : Int) = Val.bxor a b % 18446744073709551616 := by
  have e : ((2 : Nat) ^ 64 : Nat) = 18446744073709551616 := by decide
  rw [Val.same64 x a hx, Val.same64 y b hy, Val.cut64 a, Val.cut64 b, ← BitVec.setWidth_xor, BitVec.toNat_setWidth, e]
  unfold Val.bxor
  omega
theorem Val.band64 (x y a b : Int) (hx : x % 18446744073709551616 = a % 18446744073709551616) (hy : y % 18446744073709551616 = b % 18446744073709551616) : ((BitVec.ofInt 64 x &&& BitVec.ofInt 64 y).toNat : Int) = Val.band a b % 18446744073709551616 := by
  have e : ((2 : Nat) ^ 64 : Nat) = 18446744073709551616 := by decide
  rw [Val.same64 x a hx, Val.same64 y b hy, Val.cut64 a, Val.cut64 b, ← BitVec.setWidth_and, BitVec.toNat_setWidth, e]
  unfold Val.band
  omega
theorem Val.wr_u8 (x y : Int) (h : x % 256 = y % 256) : IntKind.u8.wrap x = IntKind.u8.wrap y := by rw [Val.w8, Val.w8]; omega
theorem Val.bit_or_u8 (x y a b : Int) (hx : x % 256 = a % 256) (hy : y % 256 = b % 256) : Go.bits BinOp.or IntKind.u8 x y = IntKind.u8.wrap (Val.bor a b) := by
  show IntKind.u8.wrap ((BitVec.ofInt 8 x ||| BitVec.ofInt 8 y).toNat : Int) = _
  rw [Val.bor8 x y a b hx hy]
  exact Val.wr_u8 _ _ (by omega)
theorem Val.bit_xor_u8 (x y a b : Int) (hx : x % 256 = a % 256) (hy : y % 256 = b % 256) : Go.bits BinOp.xor IntKind.u8 x y = IntKind.u8.wrap (Val.bxor a b) := by
  show IntKind.u8.wrap ((BitVec.ofInt 8 x ^^^ BitVec.ofInt 8 y).toNat : Int) = _
  rw [Val.bxor8 x y a b hx hy]
  exact Val.wr_u8 _ _ (by omega)
theorem Val.bit_and_u8 (x y a b : Int) (hx : x % 256 = a % 256) (hy : y % 256 = b % 256) : Go.bits BinOp.and IntKind.u8 x y = IntKind.u8.wrap (Val.band a b) := by
  show IntKind.u8.wrap ((BitVec.ofInt 8 x &&& BitVec.ofInt 8 y).toNat : Int) = _
  rw [Val.band8 x y a b hx hy]
  exact Val.wr_u8 _ _ (by omega)
theorem Val.wr_u16 (x y : Int) (h : x % 65536 = y % 65536) : IntKind.u16.wrap x = IntKind.u16.wrap y := by rw [Val.w16, Val.w16]; omega
theorem Val.bit_or_u16 (x y a b : Int) (hx : x % 65536 = a % 65536) (hy : y % 65536 = b % 65536) : Go.bits BinOp.or IntKind.u16 x y = IntKind.u16.wrap (Val.bor a b) := by
  show IntKind.u16.wrap ((BitVec.ofInt 16 x ||| BitVec.ofInt 16 y).toNat : Int) = _
  rw [Val.bor16 x y a b hx hy]
  exact Val.wr_u16 _ _ (by omega)
theorem Val.bit_xor_u16 (x y a b : Int) (hx : x % 65536 = a % 65536) (hy : y % 65536 = b % 65536) : Go.bits BinOp.xor IntKind.u16 x y = IntKind.u16.wrap (Val.bxor a b) := by
  show IntKind.u16.wrap ((BitVec.ofInt 16 x ^^^ BitVec.ofInt 16 y).toNat : Int) = _
  rw [Val.bxor16 x y a b hx hy]
  exact Val.wr_u16 _ _ (by omega)
theorem Val.bit_and_u16 (x y a b : Int) (hx : x % 65536 = a % 65536) (hy : y % 65536 = b % 65536) : Go.bits BinOp.and IntKind.u16 x y = IntKind.u16.wrap (Val.band a b) := by
  show IntKind.u16.wrap ((BitVec.ofInt 16 x &&& BitVec.ofInt 16 y).toNat : Int) = _
  rw [Val.band16 x y a b hx hy]
  exact Val.wr_u16 _ _ (by omega)
theorem Val.wr_u32 (x y : Int) (h : x % 4294967296 = y % 4294967296) : IntKind.u32.wrap x = IntKind.u32.wrap y := by rw [Val.w32, Val.w32]; omega
theorem Val.bit_or_u32 (x y a b : Int) (hx : x % 4294967296 = a % 4294967296) (hy : y % 4294967296 = b % 4294967296) : Go.bits BinOp.or IntKind.u32 x y = IntKind.u32.wrap (Val.bor a b) := by
  show IntKind.u32.wrap ((BitVec.ofInt 32 x ||| BitVec.ofInt 32 y).toNat : Int) = _
  rw [Val.bor32 x y a b hx hy]
  exact Val.wr_u32 _ _ (by omega)
theorem Val.bit_xor_u32 (x y a b : Int) (hx : x % 4294967296 = a % 4294967296) (hy : y % 4294967296 = b % 4294967296) : Go.bits BinOp.xor IntKind.u32 x y = IntKind.u32.wrap (Val.bxor a b) := by
  show IntKind.u32.wrap ((BitVec.ofInt 32 x ^^^ BitVec.ofInt 32 y).toNat : Int) = _
  rw [Val.bxor32 x y a b hx hy]
  exact Val.wr_u32 _ _ (by omega)
theorem Val.bit_and_u32 (x y a b : Int) (hx : x % 4294967296 = a % 4294967296) (hy : y % 4294967296 = b % 4294967296) : Go.bits BinOp.and IntKind.u32 x y = IntKind.u32.wrap (Val.band a b) := by
  show IntKind.u32.wrap ((BitVec.ofInt 32 x &&& BitVec.ofInt 32 y).toNat : Int) = _
  rw [Val.band32 x y a b hx hy]
  exact Val.wr_u32 _ _ (by omega)
theorem Val.wr_u64 (x y : Int) (h : x % 18446744073709551616 = y % 18446744073709551616) : IntKind.u64.wrap x = IntKind.u64.wrap y := by rw [Val.wrap_u, Val.wrap_u]; omega
theorem Val.bit_or_u64 (x y a b : Int) (hx : x % 18446744073709551616 = a % 18446744073709551616) (hy : y % 18446744073709551616 = b % 18446744073709551616) : Go.bits BinOp.or IntKind.u64 x y = IntKind.u64.wrap (Val.bor a b) := by
  show IntKind.u64.wrap ((BitVec.ofInt 64 x ||| BitVec.ofInt 64 y).toNat : Int) = _
  rw [Val.bor64 x y a b hx hy]
  exact Val.wr_u64 _ _ (by omega)
theorem Val.bit_xor_u64 (x y a b : Int) (hx : x % 18446744073709551616 = a % 18446744073709551616) (hy : y % 18446744073709551616 = b % 18446744073709551616) : Go.bits BinOp.xor IntKind.u64 x y = IntKind.u64.wrap (Val.bxor a b) := by
  show IntKind.u64.wrap ((BitVec.ofInt 64 x ^^^ BitVec.ofInt 64 y).toNat : Int) = _
  rw [Val.bxor64 x y a b hx hy]
  exact Val.wr_u64 _ _ (by omega)
theorem Val.bit_and_u64 (x y a b : Int) (hx : x % 18446744073709551616 = a % 18446744073709551616) (hy : y % 18446744073709551616 = b % 18446744073709551616) : Go.bits BinOp.and IntKind.u64 x y = IntKind.u64.wrap (Val.band a b) := by
  show IntKind.u64.wrap ((BitVec.ofInt 64 x &&& BitVec.ofInt 64 y).toNat : Int) = _
  rw [Val.band64 x y a b hx hy]
  exact Val.wr_u64 _ _ (by omega)
theorem Val.wr_i8 (x y : Int) (h : x % 256 = y % 256) : IntKind.i8.wrap x = IntKind.i8.wrap y := by rw [Val.s8, Val.s8]; omega
theorem Val.bit_or_i8 (x y a b : Int) (hx : x % 256 = a % 256) (hy : y % 256 = b % 256) : Go.bits BinOp.or IntKind.i8 x y = IntKind.i8.wrap (Val.bor a b) := by
  show IntKind.i8.wrap ((BitVec.ofInt 8 x ||| BitVec.ofInt 8 y).toNat : Int) = _
  rw [Val.bor8 x y a b hx hy]
  exact Val.wr_i8 _ _ (by omega)
theorem Val.bit_xor_i8 (x y a b : Int) (hx : x % 256 = a % 256) (hy : y % 256 = b % 256) : Go.bits BinOp.xor IntKind.i8 x y = IntKind.i8.wrap (Val.bxor a b) := by
  show IntKind.i8.wrap ((BitVec.ofInt 8 x ^^^ BitVec.ofInt 8 y).toNat : Int) = _
  rw [Val.bxor8 x y a b hx hy]
  exact Val.wr_i8 _ _ (by omega)
theorem Val.bit_and_i8 (x y a b : Int) (hx : x % 256 = a % 256) (hy : y % 256 = b % 256) : Go.bits BinOp.and IntKind.i8 x y = IntKind.i8.wrap (Val.band a b) := by
  show IntKind.i8.wrap ((BitVec.ofInt 8 x &&& BitVec.ofInt 8 y).toNat : Int) = _
  rw [Val.band8 x y a b hx hy]
  exact Val.wr_i8 _ _ (by omega)
theorem Val.wr_i16 (x y : Int) (h : x % 65536 = y % 65536) : IntKind.i16.wrap x = IntKind.i16.wrap y := by rw [Val.s16, Val.s16]; omega
theorem Val.bit_or_i16 (x y a b : Int) (hx : x % 65536 = a % 65536) (hy : y % 65536 = b % 65536) : Go.bits BinOp.or IntKind.i16 x y = IntKind.i16.wrap (Val.bor a b) := by
  show IntKind.i16.wrap ((BitVec.ofInt 16 x ||| BitVec.ofInt 16 y).toNat : Int) = _
  rw [Val.bor16 x y a b hx hy]
  exact Val.wr_i16 _ _ (by omega)
theorem Val.bit_xor_i16 (x y a b : Int) (hx : x % 65536 = a % 65536) (hy : y % 65536 = b % 65536) : Go.bits BinOp.xor IntKind.i16 x y = IntKind.i16.wrap (Val.bxor a b) := by
  show IntKind.i16.wrap ((BitVec.ofInt 16 x ^^^ BitVec.ofInt 16 y).toNat : Int) = _
  rw [Val.bxor16 x y a b hx hy]
  exact Val.wr_i16 _ _ (by omega)
theorem Val.bit_and_i16 (x y a b : Int) (hx : x % 65536 = a % 65536) (hy : y % 65536 = b % 65536) : Go.bits BinOp.and IntKind.i16 x y = IntKind.i16.wrap (Val.band a b) := by
  show IntKind.i16.wrap ((BitVec.ofInt 16 x &&& BitVec.ofInt 16 y).toNat : Int) = _
  rw [Val.band16 x y a b hx hy]
  exact Val.wr_i16 _ _ (by omega)
theorem Val.wr_i32 (x y : Int) (h : x % 4294967296 = y % 4294967296) : IntKind.i32.wrap x = IntKind.i32.wrap y := by rw [Val.s32, Val.s32]; omega
theorem Val.bit_or_i32 (x y a b : Int) (hx : x % 4294967296 = a % 4294967296) (hy : y % 4294967296 = b % 4294967296) : Go.bits BinOp.or IntKind.i32 x y = IntKind.i32.wrap (Val.bor a b) := by
  show IntKind.i32.wrap ((BitVec.ofInt 32 x ||| BitVec.ofInt 32 y).toNat : Int) = _
  rw [Val.bor32 x y a b hx hy]
  exact Val.wr_i32 _ _ (by omega)
theorem Val.bit_xor_i32 (x y a b : Int) (hx : x % 4294967296 = a % 4294967296) (hy : y % 4294967296 = b % 4294967296) : Go.bits BinOp.xor IntKind.i32 x y = IntKind.i32.wrap (Val.bxor a b) := by
  show IntKind.i32.wrap ((BitVec.ofInt 32 x ^^^ BitVec.ofInt 32 y).toNat : Int) = _
  rw [Val.bxor32 x y a b hx hy]
  exact Val.wr_i32 _ _ (by omega)
theorem Val.bit_and_i32 (x y a b : Int) (hx : x % 4294967296 = a % 4294967296) (hy : y % 4294967296 = b % 4294967296) : Go.bits BinOp.and IntKind.i32 x y = IntKind.i32.wrap (Val.band a b) := by
  show IntKind.i32.wrap ((BitVec.ofInt 32 x &&& BitVec.ofInt 32 y).toNat : Int) = _
  rw [Val.band32 x y a b hx hy]
  exact Val.wr_i32 _ _ (by omega)
theorem Val.wr_i64 (x y : Int) (h : x % 18446744073709551616 = y % 18446744073709551616) : IntKind.i64.wrap x = IntKind.i64.wrap y := by rw [Val.s64, Val.s64]; omega
theorem Val.bit_or_i64 (x y a b : Int) (hx : x % 18446744073709551616 = a % 18446744073709551616) (hy : y % 18446744073709551616 = b % 18446744073709551616) : Go.bits BinOp.or IntKind.i64 x y = IntKind.i64.wrap (Val.bor a b) := by
  show IntKind.i64.wrap ((BitVec.ofInt 64 x ||| BitVec.ofInt 64 y).toNat : Int) = _
  rw [Val.bor64 x y a b hx hy]
  exact Val.wr_i64 _ _ (by omega)
theorem Val.bit_xor_i64 (x y a b : Int) (hx : x % 18446744073709551616 = a % 18446744073709551616) (hy : y % 18446744073709551616 = b % 18446744073709551616) : Go.bits BinOp.xor IntKind.i64 x y = IntKind.i64.wrap (Val.bxor a b) := by
  show IntKind.i64.wrap ((BitVec.ofInt 64 x ^^^ BitVec.ofInt 64 y).toNat : Int) = _
  rw [Val.bxor64 x y a b hx hy]
  exact Val.wr_i64 _ _ (by omega)
theorem Val.bit_and_i64 (x y a b : Int) (hx : x % 18446744073709551616 = a % 18446744073709551616) (hy : y % 18446744073709551616 = b % 18446744073709551616) : Go.bits BinOp.and IntKind.i64 x y = IntKind.i64.wrap (Val.band a b) := by
  show IntKind.i64.wrap ((BitVec.ofInt 64 x &&& BitVec.ofInt 64 y).toNat : Int) = _
  rw [Val.band64 x y a b hx hy]
  exact Val.wr_i64 _ _ (by omega)
theorem Val.pow_split (k n : Nat) (h : n ≤ k) : (2 : Int) ^ k = 2 ^ n * 2 ^ (k - n) := by rw [← Int.pow_add]; congr 1; omega
theorem Val.div_min (x : Int) (n k : Nat) (h0 : -(2 ^ n) ≤ x) (h1 : x < 2 ^ n) : x / 2 ^ min k n = x / 2 ^ k := by
  by_cases hk : k ≤ n
  · rw [Nat.min_eq_left hk]
  · rw [Nat.min_eq_right (by omega)]
    have hp : (1 : Int) ≤ 2 ^ n := by exact_mod_cast Nat.one_le_two_pow
    have hq : (1 : Int) ≤ 2 ^ (k - n) := by exact_mod_cast Nat.one_le_two_pow
    have hm : (2 : Int) ^ n ≤ 2 ^ k := by
      rw [Val.pow_split k n (by omega)]
      have := Int.mul_le_mul_of_nonneg_left hq (show (0 : Int) ≤ 2 ^ n by omega)
      omega
    generalize (2 : Int) ^ n = P at *
    generalize (2 : Int) ^ k = Q at *
    by_cases hx : 0 ≤ x
    · rw [Int.ediv_eq_zero_of_lt hx h1, Int.ediv_eq_zero_of_lt hx (by omega)]
    · have e : ∀ R : Int, 0 < R → -R ≤ x → x / R = -1 := fun R hR hx2 => ((Int.ediv_emod_unique (a := x) (b := R) (r := x + R) (q := -1) hR).2 ⟨by omega, by omega, by omega⟩).1
      rw [e P (by omega) h0, e Q (by omega) (by omega)]
theorem Val.div_in (x lo hi : Int) (k : Nat) (h0 : lo ≤ x) (h1 : x ≤ hi) (hl : lo ≤ 0) (hh : 0 ≤ hi) : lo ≤ x / 2 ^ k ∧ x / 2 ^ k ≤ hi := by
  have hp : (1 : Int) ≤ 2 ^ k := by exact_mod_cast Nat.one_le_two_pow
  generalize (2 : Int) ^ k = P at *
  by_cases hx : 0 ≤ x
  · have a1 := Int.ediv_nonneg hx (show 0 ≤ P by omega)
    have a2 := Int.ediv_le_self P hx
    omega
  · have a1 : x ≤ x / P := by
      apply Int.le_ediv_of_mul_le (by omega)
      have := Int.mul_le_mul_of_nonpos_left (a := x) (b := P) (c := 1) (by omega) hp
      omega
    have a2 : x / P < 0 := Int.ediv_neg_of_neg_of_pos (by omega) (by omega)
    omega

end Go.Proofs.YtkijfehdgiiejaaDoor
