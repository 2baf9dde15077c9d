import Derived.Test.YtkijfehdgiiejaaDoorBitB
namespace Go.Proofs.YtkijfehdgiiejaaDoor
open Go.RowKit


theorem Val.shm8 (x a : Int) (k : Nat) (hx : x % 256 = a % 256) : (x * 2 ^ min k 8) % 256 = (a * 2 ^ k) % 256 := by
  by_cases hk : k ≤ 8
  · rw [Nat.min_eq_left hk, Int.mul_emod x, hx, ← Int.mul_emod]
  · rw [Nat.min_eq_right (by omega), Val.pow_split k 8 (by omega), ← Int.mul_assoc]
    have e : (2 : Int) ^ 8 = 256 := by decide
    rw [e, Int.mul_emod_left, Int.mul_right_comm, Int.mul_emod_left]
theorem Val.shm16 (x a : Int) (k : Nat) (hx : x % 65536 = a % 65536) : (x * 2 ^ min k 16) % 65536 = (a * 2 ^ k) % 65536 := by
  by_cases hk : k ≤ 16
  · rw [Nat.min_eq_left hk, Int.mul_emod x, hx, ← Int.mul_emod]
  · rw [Nat.min_eq_right (by omega), Val.pow_split k 16 (by omega), ← Int.mul_assoc]
    have e : (2 : Int) ^ 16 = 65536 := by decide
    rw [e, Int.mul_emod_left, Int.mul_right_comm, Int.mul_emod_left]
theorem Val.shm32 (x a : Int) (k : Nat) (hx : x % 4294967296 = a % 4294967296) : (x * 2 ^ min k 32) % 4294967296 = (a * 2 ^ k) % 4294967296 := by
  by_cases hk : k ≤ 32
  · rw [Nat.min_eq_left hk, Int.mul_emod x, hx, ← Int.mul_emod]
  · rw [Nat.min_eq_right (by omega), Val.pow_split k 32 (by omega), ← Int.mul_assoc]
    have e : (2 : Int) ^ 32 = 4294967296 := by decide
    rw [e, Int.mul_emod_left, Int.mul_right_comm, Int.mul_emod_left]
theorem Val.shm64 (x a : Int) (k : Nat) (hx : x % 18446744073709551616 = a % 18446744073709551616) : (x * 2 ^ min k 64) % 18446744073709551616 = (a * 2 ^ k) % 18446744073709551616 := by
  by_cases hk : k ≤ 64
  · rw [Nat.min_eq_left hk, Int.mul_emod x, hx, ← Int.mul_emod]
  · rw [Nat.min_eq_right (by omega), Val.pow_split k 64 (by omega), ← Int.mul_assoc]
    have e : (2 : Int) ^ 64 = 18446744073709551616 := by decide
    rw [e, Int.mul_emod_left, Int.mul_right_comm, Int.mul_emod_left]
def Val.shr (t a : Int) (k : Nat) : Int := if t = 6 then wrap64 (Val.u a / 2 ^ k) else a / 2 ^ k
theorem Val.wreck9_uint8 (a b : Int) (w : World) : Calls Tryd.prog 53 #[.agg #[], .int .i64 9, .int .i64 a, .int .i64 b] w fun e w' => e = .returned (.tuple #[.int .i64 (Val.into 3 (Val.u (a + b))), .nilIface]) ∧ Below w.heap.size w w' := by
  go_enter Tryd.func53, Tryd.ntmps53
  go_wp2_with (go_at_call 57; refine (Val.reck9_uint8 _ _ _).mono ?_; rintro e w' ⟨r, rfl, hr, rfl⟩)
  have he : wrap64 r = Val.into 3 (Val.u (a + b)) := by rw [hr.out, Val.into3, Val.wrap_i, Val.w8]; omega
  exact bodyPost_ret (v := .tuple #[.int .i64 (wrap64 r), .nilIface]) (by simp [results, Tryd.results53, go_sem]) rfl ⟨by rw [he], (Below.refl _ w).alloc (Nat.le_refl _) _⟩
theorem Val.wreck11_uint8 (a b : Int) (w : World) : Calls Tryd.prog 53 #[.agg #[], .int .i64 11, .int .i64 a, .int .i64 b] w fun e w' => e = .returned (.tuple #[.int .i64 (Val.into 3 (Val.u (Val.bor a b))), .nilIface]) ∧ Below w.heap.size w w' := by
  go_enter Tryd.func53, Tryd.ntmps53
  go_wp2_with (go_at_call 57; refine (Val.reck11_uint8 _ _ _).mono ?_; rintro e w' ⟨r, rfl, hr, rfl⟩)
  have he : wrap64 r = Val.into 3 (Val.u (Val.bor a b)) := by rw [hr.out, Val.bit_or_u8 _ _ a b (by omega) (by omega), Val.into3, Val.wrap_i, Val.w8]; omega
  exact bodyPost_ret (v := .tuple #[.int .i64 (wrap64 r), .nilIface]) (by simp [results, Tryd.results53, go_sem]) rfl ⟨by rw [he], (Below.refl _ w).alloc (Nat.le_refl _) _⟩
theorem Val.wreck12_uint8 (a b : Int) (w : World) : Calls Tryd.prog 53 #[.agg #[], .int .i64 12, .int .i64 a, .int .i64 b] w fun e w' => e = .returned (.tuple #[.int .i64 (Val.into 3 (Val.u (Val.bxor a b))), .nilIface]) ∧ Below w.heap.size w w' := by
  go_enter Tryd.func53, Tryd.ntmps53
  go_wp2_with (go_at_call 57; refine (Val.reck12_uint8 _ _ _).mono ?_; rintro e w' ⟨r, rfl, hr, rfl⟩)
  have he : wrap64 r = Val.into 3 (Val.u (Val.bxor a b)) := by rw [hr.out, Val.bit_xor_u8 _ _ a b (by omega) (by omega), Val.into3, Val.wrap_i, Val.w8]; omega
  exact bodyPost_ret (v := .tuple #[.int .i64 (wrap64 r), .nilIface]) (by simp [results, Tryd.results53, go_sem]) rfl ⟨by rw [he], (Below.refl _ w).alloc (Nat.le_refl _) _⟩
theorem Val.wreck16_uint8 (a b : Int) (w : World) : Calls Tryd.prog 53 #[.agg #[], .int .i64 16, .int .i64 a, .int .i64 b] w fun e w' => e = .returned (.tuple #[.int .i64 (Val.into 3 (Val.u (Val.band a b))), .nilIface]) ∧ Below w.heap.size w w' := by
  go_enter Tryd.func53, Tryd.ntmps53
  go_wp2_with (go_at_call 57; refine (Val.reck16_uint8 _ _ _).mono ?_; rintro e w' ⟨r, rfl, hr, rfl⟩)
  have he : wrap64 r = Val.into 3 (Val.u (Val.band a b)) := by rw [hr.out, Val.bit_and_u8 _ _ a b (by omega) (by omega), Val.into3, Val.wrap_i, Val.w8]; omega
  exact bodyPost_ret (v := .tuple #[.int .i64 (wrap64 r), .nilIface]) (by simp [results, Tryd.results53, go_sem]) rfl ⟨by rw [he], (Below.refl _ w).alloc (Nat.le_refl _) _⟩
theorem Val.wreck17_uint8 (a : Int) (k : Nat) (hk : k ≤ 70) (w : World) : Calls Tryd.prog 53 #[.agg #[], .int .i64 17, .int .i64 a, .int .i64 (k : Int)] w fun e w' => e = .returned (.tuple #[.int .i64 (Val.into 3 (Val.u (a * 2 ^ k))), .nilIface]) ∧ Below w.heap.size w w' := by
  go_enter Tryd.func53, Tryd.ntmps53
  go_wp2_with (go_at_call 57; refine (Val.reck17_uint8 _ _ k hk (by omega) _).mono ?_; rintro e w' ⟨r, rfl, hr, rfl⟩)
  have he : wrap64 r = Val.into 3 (Val.u (a * 2 ^ k)) := by
    rw [hr.out, Val.wr_u8 _ _ (Val.shm8 _ a k (by omega))]
    generalize a * 2 ^ k = z
    rw [Val.into3, Val.wrap_i, Val.w8]; omega
  exact bodyPost_ret (v := .tuple #[.int .i64 (wrap64 r), .nilIface]) (by simp [results, Tryd.results53, go_sem]) rfl ⟨by rw [he], (Below.refl _ w).alloc (Nat.le_refl _) _⟩
theorem Val.wreck18_uint8 (a : Int) (k : Nat) (hk : k ≤ 70) (ha : a = Val.into 3 (Val.u a)) (w : World) : Calls Tryd.prog 53 #[.agg #[], .int .i64 18, .int .i64 a, .int .i64 (k : Int)] w fun e w' => e = .returned (.tuple #[.int .i64 (Val.shr 3 a k), .nilIface]) ∧ Below w.heap.size w w' := by
  have HA : Hid (a = Val.into 3 (Val.u a)) := ha
  clear ha
  go_enter Tryd.func53, Tryd.ntmps53
  go_wp2_with (go_at_call 57; refine (Val.reck18_uint8 _ _ k hk (by omega) _).mono ?_; rintro e w' ⟨r, rfl, hr, rfl⟩)
  have he : wrap64 r = Val.shr 3 a k := by
    have ha := HA.out
    rw [Val.into3] at ha
    have hb := Val.div_in a (0) 255 k (by omega) (by omega) (by omega) (by omega)
    have e2 : (2 : Int) ^ 8 = 256 := by decide
    rw [hr.out, (show (a % 256) = a by omega), Val.div_min a 8 k (by omega) (by omega)]
    rw [Val.shr, if_neg (by decide)]
    rw [Val.wrap_i]; omega
  exact bodyPost_ret (v := .tuple #[.int .i64 (wrap64 r), .nilIface]) (by simp [results, Tryd.results53, go_sem]) rfl ⟨by rw [he], (Below.refl _ w).alloc (Nat.le_refl _) _⟩
theorem Val.wreck9_uint16 (a b : Int) (w : World) : Calls Tryd.prog 59 #[.agg #[], .int .i64 9, .int .i64 a, .int .i64 b] w fun e w' => e = .returned (.tuple #[.int .i64 (Val.into 4 (Val.u (a + b))), .nilIface]) ∧ Below w.heap.size w w' := by
  go_enter Tryd.func59, Tryd.ntmps59
  go_wp2_with (go_at_call 63; refine (Val.reck9_uint16 _ _ _).mono ?_; rintro e w' ⟨r, rfl, hr, rfl⟩)
  have he : wrap64 r = Val.into 4 (Val.u (a + b)) := by rw [hr.out, Val.into4, Val.wrap_i, Val.w16, Val.w16, Val.w16]; omega
  exact bodyPost_ret (v := .tuple #[.int .i64 (wrap64 r), .nilIface]) (by simp [results, Tryd.results59, go_sem]) rfl ⟨by rw [he], (Below.refl _ w).alloc (Nat.le_refl _) _⟩
theorem Val.wreck11_uint16 (a b : Int) (w : World) : Calls Tryd.prog 59 #[.agg #[], .int .i64 11, .int .i64 a, .int .i64 b] w fun e w' => e = .returned (.tuple #[.int .i64 (Val.into 4 (Val.u (Val.bor a b))), .nilIface]) ∧ Below w.heap.size w w' := by
  go_enter Tryd.func59, Tryd.ntmps59
  go_wp2_with (go_at_call 63; refine (Val.reck11_uint16 _ _ _).mono ?_; rintro e w' ⟨r, rfl, hr, rfl⟩)
  have he : wrap64 r = Val.into 4 (Val.u (Val.bor a b)) := by rw [hr.out, Val.bit_or_u16 _ _ a b (by rw [Val.w16]; omega) (by rw [Val.w16]; omega), Val.into4, Val.wrap_i, Val.w16]; omega
  exact bodyPost_ret (v := .tuple #[.int .i64 (wrap64 r), .nilIface]) (by simp [results, Tryd.results59, go_sem]) rfl ⟨by rw [he], (Below.refl _ w).alloc (Nat.le_refl _) _⟩
theorem Val.wreck12_uint16 (a b : Int) (w : World) : Calls Tryd.prog 59 #[.agg #[], .int .i64 12, .int .i64 a, .int .i64 b] w fun e w' => e = .returned (.tuple #[.int .i64 (Val.into 4 (Val.u (Val.bxor a b))), .nilIface]) ∧ Below w.heap.size w w' := by
  go_enter Tryd.func59, Tryd.ntmps59
  go_wp2_with (go_at_call 63; refine (Val.reck12_uint16 _ _ _).mono ?_; rintro e w' ⟨r, rfl, hr, rfl⟩)
  have he : wrap64 r = Val.into 4 (Val.u (Val.bxor a b)) := by rw [hr.out, Val.bit_xor_u16 _ _ a b (by rw [Val.w16]; omega) (by rw [Val.w16]; omega), Val.into4, Val.wrap_i, Val.w16]; omega
  exact bodyPost_ret (v := .tuple #[.int .i64 (wrap64 r), .nilIface]) (by simp [results, Tryd.results59, go_sem]) rfl ⟨by rw [he], (Below.refl _ w).alloc (Nat.le_refl _) _⟩
theorem Val.wreck16_uint16 (a b : Int) (w : World) : Calls Tryd.prog 59 #[.agg #[], .int .i64 16, .int .i64 a, .int .i64 b] w fun e w' => e = .returned (.tuple #[.int .i64 (Val.into 4 (Val.u (Val.band a b))), .nilIface]) ∧ Below w.heap.size w w' := by
  go_enter Tryd.func59, Tryd.ntmps59
  go_wp2_with (go_at_call 63; refine (Val.reck16_uint16 _ _ _).mono ?_; rintro e w' ⟨r, rfl, hr, rfl⟩)
  have he : wrap64 r = Val.into 4 (Val.u (Val.band a b)) := by rw [hr.out, Val.bit_and_u16 _ _ a b (by rw [Val.w16]; omega) (by rw [Val.w16]; omega), Val.into4, Val.wrap_i, Val.w16]; omega
  exact bodyPost_ret (v := .tuple #[.int .i64 (wrap64 r), .nilIface]) (by simp [results, Tryd.results59, go_sem]) rfl ⟨by rw [he], (Below.refl _ w).alloc (Nat.le_refl _) _⟩
theorem Val.wreck17_uint16 (a : Int) (k : Nat) (hk : k ≤ 70) (w : World) : Calls Tryd.prog 59 #[.agg #[], .int .i64 17, .int .i64 a, .int .i64 (k : Int)] w fun e w' => e = .returned (.tuple #[.int .i64 (Val.into 4 (Val.u (a * 2 ^ k))), .nilIface]) ∧ Below w.heap.size w w' := by
  go_enter Tryd.func59, Tryd.ntmps59
  go_wp2_with (go_at_call 63; refine (Val.reck17_uint16 _ _ k hk (by first | omega | (rw [Val.w16]; omega) | (trace_state; fail)) _).mono ?_; rintro e w' ⟨r, rfl, hr, rfl⟩)
  have he : wrap64 r = Val.into 4 (Val.u (a * 2 ^ k)) := by
    rw [hr.out, Val.wr_u16 _ _ (Val.shm16 _ a k (by rw [Val.w16]; omega))]
    generalize a * 2 ^ k = z
    rw [Val.into4, Val.wrap_i, Val.w16]; omega
  exact bodyPost_ret (v := .tuple #[.int .i64 (wrap64 r), .nilIface]) (by simp [results, Tryd.results59, go_sem]) rfl ⟨by rw [he], (Below.refl _ w).alloc (Nat.le_refl _) _⟩
theorem Val.wreck18_uint16 (a : Int) (k : Nat) (hk : k ≤ 70) (ha : a = Val.into 4 (Val.u a)) (w : World) : Calls Tryd.prog 59 #[.agg #[], .int .i64 18, .int .i64 a, .int .i64 (k : Int)] w fun e w' => e = .returned (.tuple #[.int .i64 (Val.shr 4 a k), .nilIface]) ∧ Below w.heap.size w w' := by
  have HA : Hid (a = Val.into 4 (Val.u a)) := ha
  clear ha
  go_enter Tryd.func59, Tryd.ntmps59
  go_wp2_with (go_at_call 63; refine (Val.reck18_uint16 _ _ k hk (by first | omega | (rw [Val.w16]; omega) | (trace_state; fail)) _).mono ?_; rintro e w' ⟨r, rfl, hr, rfl⟩)
  have he : wrap64 r = Val.shr 4 a k := by
    have ha := HA.out
    rw [Val.into4] at ha
    have hb := Val.div_in a (0) 65535 k (by omega) (by omega) (by omega) (by omega)
    have e2 : (2 : Int) ^ 16 = 65536 := by decide
    rw [hr.out, (show (IntKind.u16.wrap (a)) = a by rw [Val.w16]; omega), Val.div_min a 16 k (by omega) (by omega)]
    rw [Val.shr, if_neg (by decide)]
    rw [Val.wrap_i]; omega
  exact bodyPost_ret (v := .tuple #[.int .i64 (wrap64 r), .nilIface]) (by simp [results, Tryd.results59, go_sem]) rfl ⟨by rw [he], (Below.refl _ w).alloc (Nat.le_refl _) _⟩
theorem Val.wreck9_uint32 (a b : Int) (w : World) : Calls Tryd.prog 65 #[.agg #[], .int .i64 9, .int .i64 a, .int .i64 b] w fun e w' => e = .returned (.tuple #[.int .i64 (Val.into 5 (Val.u (a + b))), .nilIface]) ∧ Below w.heap.size w w' := by
  go_enter Tryd.func65, Tryd.ntmps65
  go_wp2_with (go_at_call 69; refine (Val.reck9_uint32 _ _ _).mono ?_; rintro e w' ⟨r, rfl, hr, rfl⟩)
  have he : wrap64 r = Val.into 5 (Val.u (a + b)) := by rw [hr.out, Val.into5, Val.wrap_i, Val.w32]; omega
  exact bodyPost_ret (v := .tuple #[.int .i64 (wrap64 r), .nilIface]) (by simp [results, Tryd.results65, go_sem]) rfl ⟨by rw [he], (Below.refl _ w).alloc (Nat.le_refl _) _⟩
theorem Val.wreck11_uint32 (a b : Int) (w : World) : Calls Tryd.prog 65 #[.agg #[], .int .i64 11, .int .i64 a, .int .i64 b] w fun e w' => e = .returned (.tuple #[.int .i64 (Val.into 5 (Val.u (Val.bor a b))), .nilIface]) ∧ Below w.heap.size w w' := by
  go_enter Tryd.func65, Tryd.ntmps65
  go_wp2_with (go_at_call 69; refine (Val.reck11_uint32 _ _ _).mono ?_; rintro e w' ⟨r, rfl, hr, rfl⟩)
  have he : wrap64 r = Val.into 5 (Val.u (Val.bor a b)) := by rw [hr.out, Val.bit_or_u32 _ _ a b (by omega) (by omega), Val.into5, Val.wrap_i, Val.w32]; omega
  exact bodyPost_ret (v := .tuple #[.int .i64 (wrap64 r), .nilIface]) (by simp [results, Tryd.results65, go_sem]) rfl ⟨by rw [he], (Below.refl _ w).alloc (Nat.le_refl _) _⟩
theorem Val.wreck12_uint32 (a b : Int) (w : World) : Calls Tryd.prog 65 #[.agg #[], .int .i64 12, .int .i64 a, .int .i64 b] w fun e w' => e = .returned (.tuple #[.int .i64 (Val.into 5 (Val.u (Val.bxor a b))), .nilIface]) ∧ Below w.heap.size w w' := by
  go_enter Tryd.func65, Tryd.ntmps65
  go_wp2_with (go_at_call 69; refine (Val.reck12_uint32 _ _ _).mono ?_; rintro e w' ⟨r, rfl, hr, rfl⟩)
  have he : wrap64 r = Val.into 5 (Val.u (Val.bxor a b)) := by rw [hr.out, Val.bit_xor_u32 _ _ a b (by omega) (by omega), Val.into5, Val.wrap_i, Val.w32]; omega
  exact bodyPost_ret (v := .tuple #[.int .i64 (wrap64 r), .nilIface]) (by simp [results, Tryd.results65, go_sem]) rfl ⟨by rw [he], (Below.refl _ w).alloc (Nat.le_refl _) _⟩
theorem Val.wreck16_uint32 (a b : Int) (w : World) : Calls Tryd.prog 65 #[.agg #[], .int .i64 16, .int .i64 a, .int .i64 b] w fun e w' => e = .returned (.tuple #[.int .i64 (Val.into 5 (Val.u (Val.band a b))), .nilIface]) ∧ Below w.heap.size w w' := by
  go_enter Tryd.func65, Tryd.ntmps65
  go_wp2_with (go_at_call 69; refine (Val.reck16_uint32 _ _ _).mono ?_; rintro e w' ⟨r, rfl, hr, rfl⟩)
  have he : wrap64 r = Val.into 5 (Val.u (Val.band a b)) := by rw [hr.out, Val.bit_and_u32 _ _ a b (by omega) (by omega), Val.into5, Val.wrap_i, Val.w32]; omega
  exact bodyPost_ret (v := .tuple #[.int .i64 (wrap64 r), .nilIface]) (by simp [results, Tryd.results65, go_sem]) rfl ⟨by rw [he], (Below.refl _ w).alloc (Nat.le_refl _) _⟩
theorem Val.wreck17_uint32 (a : Int) (k : Nat) (hk : k ≤ 70) (w : World) : Calls Tryd.prog 65 #[.agg #[], .int .i64 17, .int .i64 a, .int .i64 (k : Int)] w fun e w' => e = .returned (.tuple #[.int .i64 (Val.into 5 (Val.u (a * 2 ^ k))), .nilIface]) ∧ Below w.heap.size w w' := by
  go_enter Tryd.func65, Tryd.ntmps65
  go_wp2_with (go_at_call 69; refine (Val.reck17_uint32 _ _ k hk (by omega) _).mono ?_; rintro e w' ⟨r, rfl, hr, rfl⟩)
  have he : wrap64 r = Val.into 5 (Val.u (a * 2 ^ k)) := by
    rw [hr.out, Val.wr_u32 _ _ (Val.shm32 _ a k (by omega))]
    generalize a * 2 ^ k = z
    rw [Val.into5, Val.wrap_i, Val.w32]; omega
  exact bodyPost_ret (v := .tuple #[.int .i64 (wrap64 r), .nilIface]) (by simp [results, Tryd.results65, go_sem]) rfl ⟨by rw [he], (Below.refl _ w).alloc (Nat.le_refl _) _⟩
theorem Val.wreck18_uint32 (a : Int) (k : Nat) (hk : k ≤ 70) (ha : a = Val.into 5 (Val.u a)) (w : World) : Calls Tryd.prog 65 #[.agg #[], .int .i64 18, .int .i64 a, .int .i64 (k : Int)] w fun e w' => e = .returned (.tuple #[.int .i64 (Val.shr 5 a k), .nilIface]) ∧ Below w.heap.size w w' := by
  have HA : Hid (a = Val.into 5 (Val.u a)) := ha
  clear ha
  go_enter Tryd.func65, Tryd.ntmps65
  go_wp2_with (go_at_call 69; refine (Val.reck18_uint32 _ _ k hk (by omega) _).mono ?_; rintro e w' ⟨r, rfl, hr, rfl⟩)
  have he : wrap64 r = Val.shr 5 a k := by
    have ha := HA.out
    rw [Val.into5] at ha
    have hb := Val.div_in a (0) 4294967295 k (by omega) (by omega) (by omega) (by omega)
    have e2 : (2 : Int) ^ 32 = 4294967296 := by decide
    rw [hr.out, (show (a % 4294967296) = a by omega), Val.div_min a 32 k (by omega) (by omega)]
    rw [Val.shr, if_neg (by decide)]
    rw [Val.wrap_i]; omega
  exact bodyPost_ret (v := .tuple #[.int .i64 (wrap64 r), .nilIface]) (by simp [results, Tryd.results65, go_sem]) rfl ⟨by rw [he], (Below.refl _ w).alloc (Nat.le_refl _) _⟩
theorem Val.wreck9_uint64 (a b : Int) (w : World) : Calls Tryd.prog 71 #[.agg #[], .int .i64 9, .int .i64 a, .int .i64 b] w fun e w' => e = .returned (.tuple #[.int .i64 (Val.into 6 (Val.u (a + b))), .nilIface]) ∧ Below w.heap.size w w' := by
  go_enter Tryd.func71, Tryd.ntmps71
  go_wp2_with (go_at_call 75; refine (Val.reck9_uint64 _ _ _).mono ?_; rintro e w' ⟨r, rfl, hr, rfl⟩)
  have he : wrap64 r = Val.into 6 (Val.u (a + b)) := by rw [hr.out, Val.into6, Val.wrap_i, Val.wrap_u, Val.wrap_u, Val.wrap_u]; omega
  exact bodyPost_ret (v := .tuple #[.int .i64 (wrap64 r), .nilIface]) (by simp [results, Tryd.results71, go_sem]) rfl ⟨by rw [he], (Below.refl _ w).alloc (Nat.le_refl _) _⟩
theorem Val.wreck11_uint64 (a b : Int) (w : World) : Calls Tryd.prog 71 #[.agg #[], .int .i64 11, .int .i64 a, .int .i64 b] w fun e w' => e = .returned (.tuple #[.int .i64 (Val.into 6 (Val.u (Val.bor a b))), .nilIface]) ∧ Below w.heap.size w w' := by
  go_enter Tryd.func71, Tryd.ntmps71
  go_wp2_with (go_at_call 75; refine (Val.reck11_uint64 _ _ _).mono ?_; rintro e w' ⟨r, rfl, hr, rfl⟩)
  have he : wrap64 r = Val.into 6 (Val.u (Val.bor a b)) := by rw [hr.out, Val.bit_or_u64 _ _ a b (by rw [Val.wrap_u]; omega) (by rw [Val.wrap_u]; omega), Val.into6, Val.wrap_i, Val.wrap_u]; omega
  exact bodyPost_ret (v := .tuple #[.int .i64 (wrap64 r), .nilIface]) (by simp [results, Tryd.results71, go_sem]) rfl ⟨by rw [he], (Below.refl _ w).alloc (Nat.le_refl _) _⟩
theorem Val.wreck12_uint64 (a b : Int) (w : World) : Calls Tryd.prog 71 #[.agg #[], .int .i64 12, .int .i64 a, .int .i64 b] w fun e w' => e = .returned (.tuple #[.int .i64 (Val.into 6 (Val.u (Val.bxor a b))), .nilIface]) ∧ Below w.heap.size w w' := by
  go_enter Tryd.func71, Tryd.ntmps71
  go_wp2_with (go_at_call 75; refine (Val.reck12_uint64 _ _ _).mono ?_; rintro e w' ⟨r, rfl, hr, rfl⟩)
  have he : wrap64 r = Val.into 6 (Val.u (Val.bxor a b)) := by rw [hr.out, Val.bit_xor_u64 _ _ a b (by rw [Val.wrap_u]; omega) (by rw [Val.wrap_u]; omega), Val.into6, Val.wrap_i, Val.wrap_u]; omega
  exact bodyPost_ret (v := .tuple #[.int .i64 (wrap64 r), .nilIface]) (by simp [results, Tryd.results71, go_sem]) rfl ⟨by rw [he], (Below.refl _ w).alloc (Nat.le_refl _) _⟩
theorem Val.wreck16_uint64 (a b : Int) (w : World) : Calls Tryd.prog 71 #[.agg #[], .int .i64 16, .int .i64 a, .int .i64 b] w fun e w' => e = .returned (.tuple #[.int .i64 (Val.into 6 (Val.u (Val.band a b))), .nilIface]) ∧ Below w.heap.size w w' := by
  go_enter Tryd.func71, Tryd.ntmps71
  go_wp2_with (go_at_call 75; refine (Val.reck16_uint64 _ _ _).mono ?_; rintro e w' ⟨r, rfl, hr, rfl⟩)
  have he : wrap64 r = Val.into 6 (Val.u (Val.band a b)) := by rw [hr.out, Val.bit_and_u64 _ _ a b (by rw [Val.wrap_u]; omega) (by rw [Val.wrap_u]; omega), Val.into6, Val.wrap_i, Val.wrap_u]; omega
  exact bodyPost_ret (v := .tuple #[.int .i64 (wrap64 r), .nilIface]) (by simp [results, Tryd.results71, go_sem]) rfl ⟨by rw [he], (Below.refl _ w).alloc (Nat.le_refl _) _⟩
theorem Val.wreck17_uint64 (a : Int) (k : Nat) (hk : k ≤ 70) (w : World) : Calls Tryd.prog 71 #[.agg #[], .int .i64 17, .int .i64 a, .int .i64 (k : Int)] w fun e w' => e = .returned (.tuple #[.int .i64 (Val.into 6 (Val.u (a * 2 ^ k))), .nilIface]) ∧ Below w.heap.size w w' := by
  go_enter Tryd.func71, Tryd.ntmps71
  go_wp2_with (go_at_call 75; refine (Val.reck17_uint64 _ _ k hk (by first | omega | (rw [Val.wrap_u]; omega) | (trace_state; fail)) _).mono ?_; rintro e w' ⟨r, rfl, hr, rfl⟩)
  have he : wrap64 r = Val.into 6 (Val.u (a * 2 ^ k)) := by
    rw [hr.out, Val.wr_u64 _ _ (Val.shm64 _ a k (by rw [Val.wrap_u]; omega))]
    generalize a * 2 ^ k = z
    rw [Val.into6, Val.wrap_i, Val.wrap_u]; omega
  exact bodyPost_ret (v := .tuple #[.int .i64 (wrap64 r), .nilIface]) (by simp [results, Tryd.results71, go_sem]) rfl ⟨by rw [he], (Below.refl _ w).alloc (Nat.le_refl _) _⟩
theorem Val.wreck18_uint64 (a : Int) (k : Nat) (hk : k ≤ 70) (ha : a = Val.into 6 (Val.u a)) (w : World) : Calls Tryd.prog 71 #[.agg #[], .int .i64 18, .int .i64 a, .int .i64 (k : Int)] w fun e w' => e = .returned (.tuple #[.int .i64 (Val.shr 6 a k), .nilIface]) ∧ Below w.heap.size w w' := by
  have HA : Hid (a = Val.into 6 (Val.u a)) := ha
  clear ha
  go_enter Tryd.func71, Tryd.ntmps71
  go_wp2_with (go_at_call 75; refine (Val.reck18_uint64 _ _ k hk (by first | omega | (rw [Val.wrap_u]; omega) | (trace_state; fail)) _).mono ?_; rintro e w' ⟨r, rfl, hr, rfl⟩)
  have he : wrap64 r = Val.shr 6 a k := by
    have ha := HA.out
    have e2 : (2 : Int) ^ 64 = 18446744073709551616 := by decide
    rw [hr.out, Val.wrap_u, Val.div_min _ 64 k (by omega) (by omega)]
    rfl
  exact bodyPost_ret (v := .tuple #[.int .i64 (wrap64 r), .nilIface]) (by simp [results, Tryd.results71, go_sem]) rfl ⟨by rw [he], (Below.refl _ w).alloc (Nat.le_refl _) _⟩
theorem Val.wreck9_int8 (a b : Int) (w : World) : Calls Tryd.prog 77 #[.agg #[], .int .i64 9, .int .i64 a, .int .i64 b] w fun e w' => e = .returned (.tuple #[.int .i64 (Val.into 7 (Val.u (a + b))), .nilIface]) ∧ Below w.heap.size w w' := by
  go_enter Tryd.func77, Tryd.ntmps77
  go_wp2_with (go_at_call 81; refine (Val.reck9_int8 _ _ _).mono ?_; rintro e w' ⟨r, rfl, hr, rfl⟩)
  have he : wrap64 r = Val.into 7 (Val.u (a + b)) := by rw [hr.out, Val.into7, Val.wrap_i, Val.s8, Val.s8, Val.s8]; omega
  exact bodyPost_ret (v := .tuple #[.int .i64 (wrap64 r), .nilIface]) (by simp [results, Tryd.results77, go_sem]) rfl ⟨by rw [he], (Below.refl _ w).alloc (Nat.le_refl _) _⟩
theorem Val.wreck11_int8 (a b : Int) (w : World) : Calls Tryd.prog 77 #[.agg #[], .int .i64 11, .int .i64 a, .int .i64 b] w fun e w' => e = .returned (.tuple #[.int .i64 (Val.into 7 (Val.u (Val.bor a b))), .nilIface]) ∧ Below w.heap.size w w' := by
  go_enter Tryd.func77, Tryd.ntmps77
  go_wp2_with (go_at_call 81; refine (Val.reck11_int8 _ _ _).mono ?_; rintro e w' ⟨r, rfl, hr, rfl⟩)
  have he : wrap64 r = Val.into 7 (Val.u (Val.bor a b)) := by rw [hr.out, Val.bit_or_i8 _ _ a b (by rw [Val.s8]; omega) (by rw [Val.s8]; omega), Val.into7, Val.wrap_i, Val.s8]; omega
  exact bodyPost_ret (v := .tuple #[.int .i64 (wrap64 r), .nilIface]) (by simp [results, Tryd.results77, go_sem]) rfl ⟨by rw [he], (Below.refl _ w).alloc (Nat.le_refl _) _⟩
theorem Val.wreck12_int8 (a b : Int) (w : World) : Calls Tryd.prog 77 #[.agg #[], .int .i64 12, .int .i64 a, .int .i64 b] w fun e w' => e = .returned (.tuple #[.int .i64 (Val.into 7 (Val.u (Val.bxor a b))), .nilIface]) ∧ Below w.heap.size w w' := by
  go_enter Tryd.func77, Tryd.ntmps77
  go_wp2_with (go_at_call 81; refine (Val.reck12_int8 _ _ _).mono ?_; rintro e w' ⟨r, rfl, hr, rfl⟩)
  have he : wrap64 r = Val.into 7 (Val.u (Val.bxor a b)) := by rw [hr.out, Val.bit_xor_i8 _ _ a b (by rw [Val.s8]; omega) (by rw [Val.s8]; omega), Val.into7, Val.wrap_i, Val.s8]; omega
  exact bodyPost_ret (v := .tuple #[.int .i64 (wrap64 r), .nilIface]) (by simp [results, Tryd.results77, go_sem]) rfl ⟨by rw [he], (Below.refl _ w).alloc (Nat.le_refl _) _⟩
theorem Val.wreck16_int8 (a b : Int) (w : World) : Calls Tryd.prog 77 #[.agg #[], .int .i64 16, .int .i64 a, .int .i64 b] w fun e w' => e = .returned (.tuple #[.int .i64 (Val.into 7 (Val.u (Val.band a b))), .nilIface]) ∧ Below w.heap.size w w' := by
  go_enter Tryd.func77, Tryd.ntmps77
  go_wp2_with (go_at_call 81; refine (Val.reck16_int8 _ _ _).mono ?_; rintro e w' ⟨r, rfl, hr, rfl⟩)
  have he : wrap64 r = Val.into 7 (Val.u (Val.band a b)) := by rw [hr.out, Val.bit_and_i8 _ _ a b (by rw [Val.s8]; omega) (by rw [Val.s8]; omega), Val.into7, Val.wrap_i, Val.s8]; omega
  exact bodyPost_ret (v := .tuple #[.int .i64 (wrap64 r), .nilIface]) (by simp [results, Tryd.results77, go_sem]) rfl ⟨by rw [he], (Below.refl _ w).alloc (Nat.le_refl _) _⟩
theorem Val.wreck17_int8 (a : Int) (k : Nat) (hk : k ≤ 70) (w : World) : Calls Tryd.prog 77 #[.agg #[], .int .i64 17, .int .i64 a, .int .i64 (k : Int)] w fun e w' => e = .returned (.tuple #[.int .i64 (Val.into 7 (Val.u (a * 2 ^ k))), .nilIface]) ∧ Below w.heap.size w w' := by
  go_enter Tryd.func77, Tryd.ntmps77
  go_wp2_with (go_at_call 81; refine (Val.reck17_int8 _ _ k hk (by first | omega | (rw [Val.s8]; omega) | (trace_state; fail)) _).mono ?_; rintro e w' ⟨r, rfl, hr, rfl⟩)
  have he : wrap64 r = Val.into 7 (Val.u (a * 2 ^ k)) := by
    rw [hr.out, Val.wr_i8 _ _ (Val.shm8 _ a k (by rw [Val.s8]; omega))]
    generalize a * 2 ^ k = z
    rw [Val.into7, Val.wrap_i, Val.s8]; omega
  exact bodyPost_ret (v := .tuple #[.int .i64 (wrap64 r), .nilIface]) (by simp [results, Tryd.results77, go_sem]) rfl ⟨by rw [he], (Below.refl _ w).alloc (Nat.le_refl _) _⟩
theorem Val.wreck18_int8 (a : Int) (k : Nat) (hk : k ≤ 70) (ha : a = Val.into 7 (Val.u a)) (w : World) : Calls Tryd.prog 77 #[.agg #[], .int .i64 18, .int .i64 a, .int .i64 (k : Int)] w fun e w' => e = .returned (.tuple #[.int .i64 (Val.shr 7 a k), .nilIface]) ∧ Below w.heap.size w w' := by
  have HA : Hid (a = Val.into 7 (Val.u a)) := ha
  clear ha
  go_enter Tryd.func77, Tryd.ntmps77
  go_wp2_with (go_at_call 81; refine (Val.reck18_int8 _ _ k hk (by first | omega | (rw [Val.s8]; omega) | (trace_state; fail)) _).mono ?_; rintro e w' ⟨r, rfl, hr, rfl⟩)
  have he : wrap64 r = Val.shr 7 a k := by
    have ha := HA.out
    rw [Val.into7] at ha
    have hb := Val.div_in a (-128) 127 k (by omega) (by omega) (by omega) (by omega)
    have e2 : (2 : Int) ^ 8 = 256 := by decide
    rw [hr.out, (show (IntKind.i8.wrap (a)) = a by rw [Val.s8]; omega), Val.div_min a 8 k (by omega) (by omega)]
    rw [Val.shr, if_neg (by decide)]
    rw [Val.wrap_i]; omega
  exact bodyPost_ret (v := .tuple #[.int .i64 (wrap64 r), .nilIface]) (by simp [results, Tryd.results77, go_sem]) rfl ⟨by rw [he], (Below.refl _ w).alloc (Nat.le_refl _) _⟩
theorem Val.wreck9_int16 (a b : Int) (w : World) : Calls Tryd.prog 83 #[.agg #[], .int .i64 9, .int .i64 a, .int .i64 b] w fun e w' => e = .returned (.tuple #[.int .i64 (Val.into 8 (Val.u (a + b))), .nilIface]) ∧ Below w.heap.size w w' := by
  go_enter Tryd.func83, Tryd.ntmps83
  go_wp2_with (go_at_call 87; refine (Val.reck9_int16 _ _ _).mono ?_; rintro e w' ⟨r, rfl, hr, rfl⟩)
  have he : wrap64 r = Val.into 8 (Val.u (a + b)) := by rw [hr.out, Val.into8, Val.wrap_i, Val.s16, Val.s16, Val.s16]; omega
  exact bodyPost_ret (v := .tuple #[.int .i64 (wrap64 r), .nilIface]) (by simp [results, Tryd.results83, go_sem]) rfl ⟨by rw [he], (Below.refl _ w).alloc (Nat.le_refl _) _⟩
theorem Val.wreck11_int16 (a b : Int) (w : World) : Calls Tryd.prog 83 #[.agg #[], .int .i64 11, .int .i64 a, .int .i64 b] w fun e w' => e = .returned (.tuple #[.int .i64 (Val.into 8 (Val.u (Val.bor a b))), .nilIface]) ∧ Below w.heap.size w w' := by
  go_enter Tryd.func83, Tryd.ntmps83
  go_wp2_with (go_at_call 87; refine (Val.reck11_int16 _ _ _).mono ?_; rintro e w' ⟨r, rfl, hr, rfl⟩)
  have he : wrap64 r = Val.into 8 (Val.u (Val.bor a b)) := by rw [hr.out, Val.bit_or_i16 _ _ a b (by rw [Val.s16]; omega) (by rw [Val.s16]; omega), Val.into8, Val.wrap_i, Val.s16]; omega
  exact bodyPost_ret (v := .tuple #[.int .i64 (wrap64 r), .nilIface]) (by simp [results, Tryd.results83, go_sem]) rfl ⟨by rw [he], (Below.refl _ w).alloc (Nat.le_refl _) _⟩
theorem Val.wreck12_int16 (a b : Int) (w : World) : Calls Tryd.prog 83 #[.agg #[], .int .i64 12, .int .i64 a, .int .i64 b] w fun e w' => e = .returned (.tuple #[.int .i64 (Val.into 8 (Val.u (Val.bxor a b))), .nilIface]) ∧ Below w.heap.size w w' := by
  go_enter Tryd.func83, Tryd.ntmps83
  go_wp2_with (go_at_call 87; refine (Val.reck12_int16 _ _ _).mono ?_; rintro e w' ⟨r, rfl, hr, rfl⟩)
  have he : wrap64 r = Val.into 8 (Val.u (Val.bxor a b)) := by rw [hr.out, Val.bit_xor_i16 _ _ a b (by rw [Val.s16]; omega) (by rw [Val.s16]; omega), Val.into8, Val.wrap_i, Val.s16]; omega
  exact bodyPost_ret (v := .tuple #[.int .i64 (wrap64 r), .nilIface]) (by simp [results, Tryd.results83, go_sem]) rfl ⟨by rw [he], (Below.refl _ w).alloc (Nat.le_refl _) _⟩
theorem Val.wreck16_int16 (a b : Int) (w : World) : Calls Tryd.prog 83 #[.agg #[], .int .i64 16, .int .i64 a, .int .i64 b] w fun e w' => e = .returned (.tuple #[.int .i64 (Val.into 8 (Val.u (Val.band a b))), .nilIface]) ∧ Below w.heap.size w w' := by
  go_enter Tryd.func83, Tryd.ntmps83
  go_wp2_with (go_at_call 87; refine (Val.reck16_int16 _ _ _).mono ?_; rintro e w' ⟨r, rfl, hr, rfl⟩)
  have he : wrap64 r = Val.into 8 (Val.u (Val.band a b)) := by rw [hr.out, Val.bit_and_i16 _ _ a b (by rw [Val.s16]; omega) (by rw [Val.s16]; omega), Val.into8, Val.wrap_i, Val.s16]; omega
  exact bodyPost_ret (v := .tuple #[.int .i64 (wrap64 r), .nilIface]) (by simp [results, Tryd.results83, go_sem]) rfl ⟨by rw [he], (Below.refl _ w).alloc (Nat.le_refl _) _⟩
theorem Val.wreck17_int16 (a : Int) (k : Nat) (hk : k ≤ 70) (w : World) : Calls Tryd.prog 83 #[.agg #[], .int .i64 17, .int .i64 a, .int .i64 (k : Int)] w fun e w' => e = .returned (.tuple #[.int .i64 (Val.into 8 (Val.u (a * 2 ^ k))), .nilIface]) ∧ Below w.heap.size w w' := by
  go_enter Tryd.func83, Tryd.ntmps83
  go_wp2_with (go_at_call 87; refine (Val.reck17_int16 _ _ k hk (by first | omega | (rw [Val.s16]; omega) | (trace_state; fail)) _).mono ?_; rintro e w' ⟨r, rfl, hr, rfl⟩)
  have he : wrap64 r = Val.into 8 (Val.u (a * 2 ^ k)) := by
    rw [hr.out, Val.wr_i16 _ _ (Val.shm16 _ a k (by rw [Val.s16]; omega))]
    generalize a * 2 ^ k = z
    rw [Val.into8, Val.wrap_i, Val.s16]; omega
  exact bodyPost_ret (v := .tuple #[.int .i64 (wrap64 r), .nilIface]) (by simp [results, Tryd.results83, go_sem]) rfl ⟨by rw [he], (Below.refl _ w).alloc (Nat.le_refl _) _⟩
theorem Val.wreck18_int16 (a : Int) (k : Nat) (hk : k ≤ 70) (ha : a = Val.into 8 (Val.u a)) (w : World) : Calls Tryd.prog 83 #[.agg #[], .int .i64 18, .int .i64 a, .int .i64 (k : Int)] w fun e w' => e = .returned (.tuple #[.int .i64 (Val.shr 8 a k), .nilIface]) ∧ Below w.heap.size w w' := by
  have HA : Hid (a = Val.into 8 (Val.u a)) := ha
  clear ha
  go_enter Tryd.func83, Tryd.ntmps83
  go_wp2_with (go_at_call 87; refine (Val.reck18_int16 _ _ k hk (by first | omega | (rw [Val.s16]; omega) | (trace_state; fail)) _).mono ?_; rintro e w' ⟨r, rfl, hr, rfl⟩)
  have he : wrap64 r = Val.shr 8 a k := by
    have ha := HA.out
    rw [Val.into8] at ha
    have hb := Val.div_in a (-32768) 32767 k (by omega) (by omega) (by omega) (by omega)
    have e2 : (2 : Int) ^ 16 = 65536 := by decide
    rw [hr.out, (show (IntKind.i16.wrap (a)) = a by rw [Val.s16]; omega), Val.div_min a 16 k (by omega) (by omega)]
    rw [Val.shr, if_neg (by decide)]
    rw [Val.wrap_i]; omega
  exact bodyPost_ret (v := .tuple #[.int .i64 (wrap64 r), .nilIface]) (by simp [results, Tryd.results83, go_sem]) rfl ⟨by rw [he], (Below.refl _ w).alloc (Nat.le_refl _) _⟩
theorem Val.wreck9_int32 (a b : Int) (w : World) : Calls Tryd.prog 89 #[.agg #[], .int .i64 9, .int .i64 a, .int .i64 b] w fun e w' => e = .returned (.tuple #[.int .i64 (Val.into 9 (Val.u (a + b))), .nilIface]) ∧ Below w.heap.size w w' := by
  go_enter Tryd.func89, Tryd.ntmps89
  go_wp2_with (go_at_call 93; refine (Val.reck9_int32 _ _ _).mono ?_; rintro e w' ⟨r, rfl, hr, rfl⟩)
  have he : wrap64 r = Val.into 9 (Val.u (a + b)) := by rw [hr.out, Val.into9, Val.wrap_i, Val.s32, Val.wrap32_i, Val.wrap32_i]; omega
  exact bodyPost_ret (v := .tuple #[.int .i64 (wrap64 r), .nilIface]) (by simp [results, Tryd.results89, go_sem]) rfl ⟨by rw [he], (Below.refl _ w).alloc (Nat.le_refl _) _⟩
theorem Val.wreck11_int32 (a b : Int) (w : World) : Calls Tryd.prog 89 #[.agg #[], .int .i64 11, .int .i64 a, .int .i64 b] w fun e w' => e = .returned (.tuple #[.int .i64 (Val.into 9 (Val.u (Val.bor a b))), .nilIface]) ∧ Below w.heap.size w w' := by
  go_enter Tryd.func89, Tryd.ntmps89
  go_wp2_with (go_at_call 93; refine (Val.reck11_int32 _ _ _).mono ?_; rintro e w' ⟨r, rfl, hr, rfl⟩)
  have he : wrap64 r = Val.into 9 (Val.u (Val.bor a b)) := by rw [hr.out, Val.bit_or_i32 _ _ a b (by rw [Val.wrap32_i]; omega) (by rw [Val.wrap32_i]; omega), Val.into9, Val.wrap_i, Val.s32]; omega
  exact bodyPost_ret (v := .tuple #[.int .i64 (wrap64 r), .nilIface]) (by simp [results, Tryd.results89, go_sem]) rfl ⟨by rw [he], (Below.refl _ w).alloc (Nat.le_refl _) _⟩
theorem Val.wreck12_int32 (a b : Int) (w : World) : Calls Tryd.prog 89 #[.agg #[], .int .i64 12, .int .i64 a, .int .i64 b] w fun e w' => e = .returned (.tuple #[.int .i64 (Val.into 9 (Val.u (Val.bxor a b))), .nilIface]) ∧ Below w.heap.size w w' := by
  go_enter Tryd.func89, Tryd.ntmps89
  go_wp2_with (go_at_call 93; refine (Val.reck12_int32 _ _ _).mono ?_; rintro e w' ⟨r, rfl, hr, rfl⟩)
  have he : wrap64 r = Val.into 9 (Val.u (Val.bxor a b)) := by rw [hr.out, Val.bit_xor_i32 _ _ a b (by rw [Val.wrap32_i]; omega) (by rw [Val.wrap32_i]; omega), Val.into9, Val.wrap_i, Val.s32]; omega
  exact bodyPost_ret (v := .tuple #[.int .i64 (wrap64 r), .nilIface]) (by simp [results, Tryd.results89, go_sem]) rfl ⟨by rw [he], (Below.refl _ w).alloc (Nat.le_refl _) _⟩
theorem Val.wreck16_int32 (a b : Int) (w : World) : Calls Tryd.prog 89 #[.agg #[], .int .i64 16, .int .i64 a, .int .i64 b] w fun e w' => e = .returned (.tuple #[.int .i64 (Val.into 9 (Val.u (Val.band a b))), .nilIface]) ∧ Below w.heap.size w w' := by
  go_enter Tryd.func89, Tryd.ntmps89
  go_wp2_with (go_at_call 93; refine (Val.reck16_int32 _ _ _).mono ?_; rintro e w' ⟨r, rfl, hr, rfl⟩)
  have he : wrap64 r = Val.into 9 (Val.u (Val.band a b)) := by rw [hr.out, Val.bit_and_i32 _ _ a b (by rw [Val.wrap32_i]; omega) (by rw [Val.wrap32_i]; omega), Val.into9, Val.wrap_i, Val.s32]; omega
  exact bodyPost_ret (v := .tuple #[.int .i64 (wrap64 r), .nilIface]) (by simp [results, Tryd.results89, go_sem]) rfl ⟨by rw [he], (Below.refl _ w).alloc (Nat.le_refl _) _⟩
theorem Val.wreck17_int32 (a : Int) (k : Nat) (hk : k ≤ 70) (w : World) : Calls Tryd.prog 89 #[.agg #[], .int .i64 17, .int .i64 a, .int .i64 (k : Int)] w fun e w' => e = .returned (.tuple #[.int .i64 (Val.into 9 (Val.u (a * 2 ^ k))), .nilIface]) ∧ Below w.heap.size w w' := by
  go_enter Tryd.func89, Tryd.ntmps89
  go_wp2_with (go_at_call 93; refine (Val.reck17_int32 _ _ k hk (by first | omega | (rw [Val.wrap32_i]; omega) | (trace_state; fail)) _).mono ?_; rintro e w' ⟨r, rfl, hr, rfl⟩)
  have he : wrap64 r = Val.into 9 (Val.u (a * 2 ^ k)) := by
    rw [hr.out, Val.wr_i32 _ _ (Val.shm32 _ a k (by rw [Val.wrap32_i]; omega))]
    generalize a * 2 ^ k = z
    rw [Val.into9, Val.wrap_i, Val.s32]; omega
  exact bodyPost_ret (v := .tuple #[.int .i64 (wrap64 r), .nilIface]) (by simp [results, Tryd.results89, go_sem]) rfl ⟨by rw [he], (Below.refl _ w).alloc (Nat.le_refl _) _⟩
theorem Val.wreck18_int32 (a : Int) (k : Nat) (hk : k ≤ 70) (ha : a = Val.into 9 (Val.u a)) (w : World) : Calls Tryd.prog 89 #[.agg #[], .int .i64 18, .int .i64 a, .int .i64 (k : Int)] w fun e w' => e = .returned (.tuple #[.int .i64 (Val.shr 9 a k), .nilIface]) ∧ Below w.heap.size w w' := by
  have HA : Hid (a = Val.into 9 (Val.u a)) := ha
  clear ha
  go_enter Tryd.func89, Tryd.ntmps89
  go_wp2_with (go_at_call 93; refine (Val.reck18_int32 _ _ k hk (by first | omega | (rw [Val.wrap32_i]; omega) | (trace_state; fail)) _).mono ?_; rintro e w' ⟨r, rfl, hr, rfl⟩)
  have he : wrap64 r = Val.shr 9 a k := by
    have ha := HA.out
    rw [Val.into9] at ha
    have hb := Val.div_in a (-2147483648) 2147483647 k (by omega) (by omega) (by omega) (by omega)
    have e2 : (2 : Int) ^ 32 = 4294967296 := by decide
    rw [hr.out, (show (wrap32 (a)) = a by rw [Val.wrap32_i]; omega), Val.div_min a 32 k (by omega) (by omega)]
    rw [Val.shr, if_neg (by decide)]
    rw [Val.wrap_i]; omega
  exact bodyPost_ret (v := .tuple #[.int .i64 (wrap64 r), .nilIface]) (by simp [results, Tryd.results89, go_sem]) rfl ⟨by rw [he], (Below.refl _ w).alloc (Nat.le_refl _) _⟩
theorem Val.wreck9_int64 (a b : Int) (w : World) : Calls Tryd.prog 95 #[.agg #[], .int .i64 9, .int .i64 a, .int .i64 b] w fun e w' => e = .returned (.tuple #[.int .i64 (Val.into 10 (Val.u (a + b))), .nilIface]) ∧ Below w.heap.size w w' := by
  go_enter Tryd.func95, Tryd.ntmps95
  go_wp2_with (go_at_call 98; refine (Val.reck9_int64 _ _ _).mono ?_; rintro e w' ⟨r, rfl, hr, rfl⟩)
  have he : r = Val.into 10 (Val.u (a + b)) := by rw [hr.out, Val.into10, Val.s64]
  exact bodyPost_ret (v := .tuple #[.int .i64 (r), .nilIface]) (by simp [results, Tryd.results95, go_sem]) rfl ⟨by rw [he], (Below.refl _ w).alloc (Nat.le_refl _) _⟩
theorem Val.wreck11_int64 (a b : Int) (w : World) : Calls Tryd.prog 95 #[.agg #[], .int .i64 11, .int .i64 a, .int .i64 b] w fun e w' => e = .returned (.tuple #[.int .i64 (Val.into 10 (Val.u (Val.bor a b))), .nilIface]) ∧ Below w.heap.size w w' := by
  go_enter Tryd.func95, Tryd.ntmps95
  go_wp2_with (go_at_call 98; refine (Val.reck11_int64 _ _ _).mono ?_; rintro e w' ⟨r, rfl, hr, rfl⟩)
  have he : r = Val.into 10 (Val.u (Val.bor a b)) := by rw [hr.out, Val.bit_or_i64 _ _ a b rfl rfl, Val.into10, Val.s64]
  exact bodyPost_ret (v := .tuple #[.int .i64 (r), .nilIface]) (by simp [results, Tryd.results95, go_sem]) rfl ⟨by rw [he], (Below.refl _ w).alloc (Nat.le_refl _) _⟩
theorem Val.wreck12_int64 (a b : Int) (w : World) : Calls Tryd.prog 95 #[.agg #[], .int .i64 12, .int .i64 a, .int .i64 b] w fun e w' => e = .returned (.tuple #[.int .i64 (Val.into 10 (Val.u (Val.bxor a b))), .nilIface]) ∧ Below w.heap.size w w' := by
  go_enter Tryd.func95, Tryd.ntmps95
  go_wp2_with (go_at_call 98; refine (Val.reck12_int64 _ _ _).mono ?_; rintro e w' ⟨r, rfl, hr, rfl⟩)
  have he : r = Val.into 10 (Val.u (Val.bxor a b)) := by rw [hr.out, Val.bit_xor_i64 _ _ a b rfl rfl, Val.into10, Val.s64]
  exact bodyPost_ret (v := .tuple #[.int .i64 (r), .nilIface]) (by simp [results, Tryd.results95, go_sem]) rfl ⟨by rw [he], (Below.refl _ w).alloc (Nat.le_refl _) _⟩
theorem Val.wreck16_int64 (a b : Int) (w : World) : Calls Tryd.prog 95 #[.agg #[], .int .i64 16, .int .i64 a, .int .i64 b] w fun e w' => e = .returned (.tuple #[.int .i64 (Val.into 10 (Val.u (Val.band a b))), .nilIface]) ∧ Below w.heap.size w w' := by
  go_enter Tryd.func95, Tryd.ntmps95
  go_wp2_with (go_at_call 98; refine (Val.reck16_int64 _ _ _).mono ?_; rintro e w' ⟨r, rfl, hr, rfl⟩)
  have he : r = Val.into 10 (Val.u (Val.band a b)) := by rw [hr.out, Val.bit_and_i64 _ _ a b rfl rfl, Val.into10, Val.s64]
  exact bodyPost_ret (v := .tuple #[.int .i64 (r), .nilIface]) (by simp [results, Tryd.results95, go_sem]) rfl ⟨by rw [he], (Below.refl _ w).alloc (Nat.le_refl _) _⟩
theorem Val.wreck17_int64 (a : Int) (k : Nat) (hk : k ≤ 70) (w : World) : Calls Tryd.prog 95 #[.agg #[], .int .i64 17, .int .i64 a, .int .i64 (k : Int)] w fun e w' => e = .returned (.tuple #[.int .i64 (Val.into 10 (Val.u (a * 2 ^ k))), .nilIface]) ∧ Below w.heap.size w w' := by
  go_enter Tryd.func95, Tryd.ntmps95
  go_wp2_with (go_at_call 98; refine (Val.reck17_int64 _ _ k hk rfl _).mono ?_; rintro e w' ⟨r, rfl, hr, rfl⟩)
  have he : r = Val.into 10 (Val.u (a * 2 ^ k)) := by
    rw [hr.out, Val.wr_i64 _ _ (Val.shm64 _ a k rfl)]
    generalize a * 2 ^ k = z
    rw [Val.into10, Val.s64]
  exact bodyPost_ret (v := .tuple #[.int .i64 (r), .nilIface]) (by simp [results, Tryd.results95, go_sem]) rfl ⟨by rw [he], (Below.refl _ w).alloc (Nat.le_refl _) _⟩
theorem Val.wreck18_int64 (a : Int) (k : Nat) (hk : k ≤ 70) (ha : a = Val.into 10 (Val.u a)) (w : World) : Calls Tryd.prog 95 #[.agg #[], .int .i64 18, .int .i64 a, .int .i64 (k : Int)] w fun e w' => e = .returned (.tuple #[.int .i64 (Val.shr 10 a k), .nilIface]) ∧ Below w.heap.size w w' := by
  have HA : Hid (a = Val.into 10 (Val.u a)) := ha
  clear ha
  go_enter Tryd.func95, Tryd.ntmps95
  go_wp2_with (go_at_call 98; refine (Val.reck18_int64 _ _ k hk rfl _).mono ?_; rintro e w' ⟨r, rfl, hr, rfl⟩)
  have he : r = Val.shr 10 a k := by
    have ha := HA.out
    rw [Val.into10] at ha
    have hb := Val.div_in a (-9223372036854775808) 9223372036854775807 k (by omega) (by omega) (by omega) (by omega)
    have e2 : (2 : Int) ^ 64 = 18446744073709551616 := by decide
    rw [hr.out, Val.div_min a 64 k (by omega) (by omega)]
    rw [Val.shr, if_neg (by decide)]
  exact bodyPost_ret (v := .tuple #[.int .i64 (r), .nilIface]) (by simp [results, Tryd.results95, go_sem]) rfl ⟨by rw [he], (Below.refl _ w).alloc (Nat.le_refl _) _⟩
end Go.Proofs.YtkijfehdgiiejaaDoor
