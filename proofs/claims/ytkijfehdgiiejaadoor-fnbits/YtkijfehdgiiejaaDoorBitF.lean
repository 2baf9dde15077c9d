import Derived.Test.YtkijfehdgiiejaaDoorBitE1
import Derived.Test.YtkijfehdgiiejaaDoorBitE2
import Derived.Test.YtkijfehdgiiejaaDoorBitE3
import Derived.Test.YtkijfehdgiiejaaDoorBitE4
import Derived.Test.YtkijfehdgiiejaaDoorDrawF
namespace Go.Proofs.YtkijfehdgiiejaaDoor
open Go.RowKit


set_option maxRecDepth 100000 in
set_option maxHeartbeats 1000000 in
theorem Val.implBinary_ok (op t n m r : Int) (w : World)
    (hI : Hid (∀ w1, Calls Tryd.prog 17 #[.int .i64 op, .agg #[.int .i64 t, .int .i64 n, .string ⟨#[]⟩], .agg #[.int .i64 t, .int .i64 m, .string ⟨#[]⟩]] w1 fun e w' => e = .returned (.tuple #[.agg #[.int .i64 t, .int .i64 r, .string ⟨#[]⟩], .nilIface]) ∧ Below w1.heap.size w1 w')) :
    Calls Tryd.prog 7 #[.int .i64 op, .agg #[.int .i64 t, .int .i64 n, .string ⟨#[]⟩], .agg #[.int .i64 t, .int .i64 m, .string ⟨#[]⟩]] w fun e w' => e = .returned (.tuple #[.agg #[.int .i64 t, .int .i64 r, .string ⟨#[]⟩], .string ⟨#[]⟩]) ∧ Below w.heap.size w w' := by
  have hbc := Below.refl (w.heap.size + 1 + 1 + 1) (((w.alloc (.cells #[.int .i64 t, .int .i64 n, .string ⟨#[]⟩] 24)).alloc (.cells #[.int .i64 t, .int .i64 m, .string ⟨#[]⟩] 24)).alloc (.cells #[.int .i64 0, .int .i64 0, .string ⟨#[]⟩] 24))
  go_enter Tryd.func7, Tryd.ntmps7
  go_wp2_with (first
    | (go_at_call 17; refine (hI.out _).mono ?_; rintro e w1 ⟨rfl, hb1⟩
       have hbc := Val.on3 hbc hb1
       obtain ⟨⟨⟨a0, a1, a2⟩, f0, f1, f2⟩, ⟨⟨b0, b1, b2⟩, k0, k1, k2⟩, ⟨c0, c1, c2⟩, l0, l1, l2⟩ := Val.spill3 hbc)
    | (go_at_call 16; refine (Val.told_ok _ _ _).mono ?_; rintro e w2 ⟨rfl, hb2⟩
       have hbc := Val.on3 hbc hb2
       obtain ⟨⟨⟨a0, a1, a2⟩, f0, f1, f2⟩, ⟨⟨b0, b1, b2⟩, k0, k1, k2⟩, ⟨c0, c1, c2⟩, l0, l1, l2⟩ := Val.spill3 hbc))
  exact bodyPost_ret (v := .tuple #[.agg #[.int .i64 t, .int .i64 r, .string ⟨#[]⟩], .string ⟨#[]⟩]) (by simp [results, Tryd.results7, go_sem, c0, c1, c2]) rfl ⟨rfl, Val.set33 (Val.alloc3 hbc) _ _ _⟩
theorem Val.valid_into {t a : Int} (ht : 3 ≤ t) (h : Val.valid ⟨t, a, ⟨#[]⟩⟩ = true) : Val.isInt t = true ∧ a = Val.into t (Val.u a) := by
  rw [Val.valid, if_neg (by simp only; omega), if_neg (by simp only; omega)] at h
  simp only [Bool.and_eq_true, decide_eq_true_eq] at h
  exact ⟨h.1.1, h.2⟩
theorem Val.into_valid {t a : Int} (ht : Val.isInt t = true) (h : a = Val.into t (Val.u a)) : Val.valid ⟨t, a, ⟨#[]⟩⟩ = true := by
  have h3 : 3 ≤ t := by simp [Val.isInt] at ht; omega
  rw [Val.valid, if_neg (by simp only; omega), if_neg (by simp only; omega)]
  simp only [Bool.and_eq_true, decide_eq_true_eq]
  exact ⟨⟨ht, by first | decide | (rw [ByteArray.toList, ByteArray.toList.loop]; rfl) | simp [ByteArray.toList, ByteArray.toList.loop]⟩, h⟩
theorem Val.into_bds {t a : Int} (h : a = Val.into t (Val.u a)) : -9223372036854775808 ≤ a ∧ a ≤ 9223372036854775807 := by
  rw [h]; exact Mill.into_bd t _
theorem Val.eight {t : Int} (ht : Val.isInt t = true) : t = 3 ∨ t = 4 ∨ t = 5 ∨ t = 6 ∨ t = 7 ∨ t = 8 ∨ t = 9 ∨ t = 10 := by simp [Val.isInt] at ht; omega

theorem Val.implBin9 (t a b : Int) (ht : Val.isInt t = true) (ha : a = Val.into t (Val.u a)) (hb : b = Val.into t (Val.u b)) (w : World) :
    Calls Tryd.prog 7 #[.int .i64 9, .agg #[.int .i64 t, .int .i64 a, .string ⟨#[]⟩], .agg #[.int .i64 t, .int .i64 b, .string ⟨#[]⟩]] w fun e w' => e = .returned (.tuple #[.agg #[.int .i64 t, .int .i64 (Val.into t (Val.u (a + b))), .string ⟨#[]⟩], .string ⟨#[]⟩]) ∧ Below w.heap.size w w' := by
  have hv := Val.into_valid ht ha
  have hw := Val.into_valid ht hb
  have hn := Val.into_bds ha
  have hm := Val.into_bds hb
  rcases Val.eight ht with rfl | rfl | rfl | rfl | rfl | rfl | rfl | rfl
  · exact Val.implBinary_ok 9 3 _ _ _ w (fun w1 => Val.binary_uint8 9 _ _ _ (by decide) hn hm w1 hv hw (fun w2 => Val.wreck9_uint8 a b w2))
  · exact Val.implBinary_ok 9 4 _ _ _ w (fun w1 => Val.binary_uint16 9 _ _ _ (by decide) hn hm w1 hv hw (fun w2 => Val.wreck9_uint16 a b w2))
  · exact Val.implBinary_ok 9 5 _ _ _ w (fun w1 => Val.binary_uint32 9 _ _ _ (by decide) hn hm w1 hv hw (fun w2 => Val.wreck9_uint32 a b w2))
  · exact Val.implBinary_ok 9 6 _ _ _ w (fun w1 => Val.binary_uint64 9 _ _ _ (by decide) hn hm w1 hv hw (fun w2 => Val.wreck9_uint64 a b w2))
  · exact Val.implBinary_ok 9 7 _ _ _ w (fun w1 => Val.binary_int8 9 _ _ _ (by decide) hn hm w1 hv hw (fun w2 => Val.wreck9_int8 a b w2))
  · exact Val.implBinary_ok 9 8 _ _ _ w (fun w1 => Val.binary_int16 9 _ _ _ (by decide) hn hm w1 hv hw (fun w2 => Val.wreck9_int16 a b w2))
  · exact Val.implBinary_ok 9 9 _ _ _ w (fun w1 => Val.binary_int32 9 _ _ _ (by decide) hn hm w1 hv hw (fun w2 => Val.wreck9_int32 a b w2))
  · exact Val.implBinary_ok 9 10 _ _ _ w (fun w1 => Val.binary_int64 9 _ _ _ (by decide) hn hm w1 hv hw (fun w2 => Val.wreck9_int64 a b w2))
theorem Val.implBin11 (t a b : Int) (ht : Val.isInt t = true) (ha : a = Val.into t (Val.u a)) (hb : b = Val.into t (Val.u b)) (w : World) :
    Calls Tryd.prog 7 #[.int .i64 11, .agg #[.int .i64 t, .int .i64 a, .string ⟨#[]⟩], .agg #[.int .i64 t, .int .i64 b, .string ⟨#[]⟩]] w fun e w' => e = .returned (.tuple #[.agg #[.int .i64 t, .int .i64 (Val.into t (Val.u (Val.bor a b))), .string ⟨#[]⟩], .string ⟨#[]⟩]) ∧ Below w.heap.size w w' := by
  have hv := Val.into_valid ht ha
  have hw := Val.into_valid ht hb
  have hn := Val.into_bds ha
  have hm := Val.into_bds hb
  rcases Val.eight ht with rfl | rfl | rfl | rfl | rfl | rfl | rfl | rfl
  · exact Val.implBinary_ok 11 3 _ _ _ w (fun w1 => Val.binary_uint8 11 _ _ _ (by decide) hn hm w1 hv hw (fun w2 => Val.wreck11_uint8 a b w2))
  · exact Val.implBinary_ok 11 4 _ _ _ w (fun w1 => Val.binary_uint16 11 _ _ _ (by decide) hn hm w1 hv hw (fun w2 => Val.wreck11_uint16 a b w2))
  · exact Val.implBinary_ok 11 5 _ _ _ w (fun w1 => Val.binary_uint32 11 _ _ _ (by decide) hn hm w1 hv hw (fun w2 => Val.wreck11_uint32 a b w2))
  · exact Val.implBinary_ok 11 6 _ _ _ w (fun w1 => Val.binary_uint64 11 _ _ _ (by decide) hn hm w1 hv hw (fun w2 => Val.wreck11_uint64 a b w2))
  · exact Val.implBinary_ok 11 7 _ _ _ w (fun w1 => Val.binary_int8 11 _ _ _ (by decide) hn hm w1 hv hw (fun w2 => Val.wreck11_int8 a b w2))
  · exact Val.implBinary_ok 11 8 _ _ _ w (fun w1 => Val.binary_int16 11 _ _ _ (by decide) hn hm w1 hv hw (fun w2 => Val.wreck11_int16 a b w2))
  · exact Val.implBinary_ok 11 9 _ _ _ w (fun w1 => Val.binary_int32 11 _ _ _ (by decide) hn hm w1 hv hw (fun w2 => Val.wreck11_int32 a b w2))
  · exact Val.implBinary_ok 11 10 _ _ _ w (fun w1 => Val.binary_int64 11 _ _ _ (by decide) hn hm w1 hv hw (fun w2 => Val.wreck11_int64 a b w2))
theorem Val.implBin12 (t a b : Int) (ht : Val.isInt t = true) (ha : a = Val.into t (Val.u a)) (hb : b = Val.into t (Val.u b)) (w : World) :
    Calls Tryd.prog 7 #[.int .i64 12, .agg #[.int .i64 t, .int .i64 a, .string ⟨#[]⟩], .agg #[.int .i64 t, .int .i64 b, .string ⟨#[]⟩]] w fun e w' => e = .returned (.tuple #[.agg #[.int .i64 t, .int .i64 (Val.into t (Val.u (Val.bxor a b))), .string ⟨#[]⟩], .string ⟨#[]⟩]) ∧ Below w.heap.size w w' := by
  have hv := Val.into_valid ht ha
  have hw := Val.into_valid ht hb
  have hn := Val.into_bds ha
  have hm := Val.into_bds hb
  rcases Val.eight ht with rfl | rfl | rfl | rfl | rfl | rfl | rfl | rfl
  · exact Val.implBinary_ok 12 3 _ _ _ w (fun w1 => Val.binary_uint8 12 _ _ _ (by decide) hn hm w1 hv hw (fun w2 => Val.wreck12_uint8 a b w2))
  · exact Val.implBinary_ok 12 4 _ _ _ w (fun w1 => Val.binary_uint16 12 _ _ _ (by decide) hn hm w1 hv hw (fun w2 => Val.wreck12_uint16 a b w2))
  · exact Val.implBinary_ok 12 5 _ _ _ w (fun w1 => Val.binary_uint32 12 _ _ _ (by decide) hn hm w1 hv hw (fun w2 => Val.wreck12_uint32 a b w2))
  · exact Val.implBinary_ok 12 6 _ _ _ w (fun w1 => Val.binary_uint64 12 _ _ _ (by decide) hn hm w1 hv hw (fun w2 => Val.wreck12_uint64 a b w2))
  · exact Val.implBinary_ok 12 7 _ _ _ w (fun w1 => Val.binary_int8 12 _ _ _ (by decide) hn hm w1 hv hw (fun w2 => Val.wreck12_int8 a b w2))
  · exact Val.implBinary_ok 12 8 _ _ _ w (fun w1 => Val.binary_int16 12 _ _ _ (by decide) hn hm w1 hv hw (fun w2 => Val.wreck12_int16 a b w2))
  · exact Val.implBinary_ok 12 9 _ _ _ w (fun w1 => Val.binary_int32 12 _ _ _ (by decide) hn hm w1 hv hw (fun w2 => Val.wreck12_int32 a b w2))
  · exact Val.implBinary_ok 12 10 _ _ _ w (fun w1 => Val.binary_int64 12 _ _ _ (by decide) hn hm w1 hv hw (fun w2 => Val.wreck12_int64 a b w2))
theorem Val.implBin16 (t a b : Int) (ht : Val.isInt t = true) (ha : a = Val.into t (Val.u a)) (hb : b = Val.into t (Val.u b)) (w : World) :
    Calls Tryd.prog 7 #[.int .i64 16, .agg #[.int .i64 t, .int .i64 a, .string ⟨#[]⟩], .agg #[.int .i64 t, .int .i64 b, .string ⟨#[]⟩]] w fun e w' => e = .returned (.tuple #[.agg #[.int .i64 t, .int .i64 (Val.into t (Val.u (Val.band a b))), .string ⟨#[]⟩], .string ⟨#[]⟩]) ∧ Below w.heap.size w w' := by
  have hv := Val.into_valid ht ha
  have hw := Val.into_valid ht hb
  have hn := Val.into_bds ha
  have hm := Val.into_bds hb
  rcases Val.eight ht with rfl | rfl | rfl | rfl | rfl | rfl | rfl | rfl
  · exact Val.implBinary_ok 16 3 _ _ _ w (fun w1 => Val.binary_uint8 16 _ _ _ (by decide) hn hm w1 hv hw (fun w2 => Val.wreck16_uint8 a b w2))
  · exact Val.implBinary_ok 16 4 _ _ _ w (fun w1 => Val.binary_uint16 16 _ _ _ (by decide) hn hm w1 hv hw (fun w2 => Val.wreck16_uint16 a b w2))
  · exact Val.implBinary_ok 16 5 _ _ _ w (fun w1 => Val.binary_uint32 16 _ _ _ (by decide) hn hm w1 hv hw (fun w2 => Val.wreck16_uint32 a b w2))
  · exact Val.implBinary_ok 16 6 _ _ _ w (fun w1 => Val.binary_uint64 16 _ _ _ (by decide) hn hm w1 hv hw (fun w2 => Val.wreck16_uint64 a b w2))
  · exact Val.implBinary_ok 16 7 _ _ _ w (fun w1 => Val.binary_int8 16 _ _ _ (by decide) hn hm w1 hv hw (fun w2 => Val.wreck16_int8 a b w2))
  · exact Val.implBinary_ok 16 8 _ _ _ w (fun w1 => Val.binary_int16 16 _ _ _ (by decide) hn hm w1 hv hw (fun w2 => Val.wreck16_int16 a b w2))
  · exact Val.implBinary_ok 16 9 _ _ _ w (fun w1 => Val.binary_int32 16 _ _ _ (by decide) hn hm w1 hv hw (fun w2 => Val.wreck16_int32 a b w2))
  · exact Val.implBinary_ok 16 10 _ _ _ w (fun w1 => Val.binary_int64 16 _ _ _ (by decide) hn hm w1 hv hw (fun w2 => Val.wreck16_int64 a b w2))
theorem Val.implBin17 (t a : Int) (k : Nat) (hk : k ≤ 70) (ht : Val.isInt t = true) (ha : a = Val.into t (Val.u a)) (w : World) :
    Calls Tryd.prog 7 #[.int .i64 17, .agg #[.int .i64 t, .int .i64 a, .string ⟨#[]⟩], .agg #[.int .i64 t, .int .i64 (k : Int), .string ⟨#[]⟩]] w fun e w' => e = .returned (.tuple #[.agg #[.int .i64 t, .int .i64 (Val.into t (Val.u (a * 2 ^ k))), .string ⟨#[]⟩], .string ⟨#[]⟩]) ∧ Below w.heap.size w w' := by
  have hv := Val.into_valid ht ha
  have hw : Val.valid ⟨t, (k : Int), ⟨#[]⟩⟩ = true := Val.into_valid ht (by
    rcases Val.eight ht with rfl | rfl | rfl | rfl | rfl | rfl | rfl | rfl
    · rw [Val.into3]; omega
    · rw [Val.into4]; omega
    · rw [Val.into5]; omega
    · rw [Val.into6]; omega
    · rw [Val.into7]; omega
    · rw [Val.into8]; omega
    · rw [Val.into9]; omega
    · rw [Val.into10]; omega)
  have hn := Val.into_bds ha
  have hm : -9223372036854775808 ≤ (k : Int) ∧ (k : Int) ≤ 9223372036854775807 := by omega
  rcases Val.eight ht with rfl | rfl | rfl | rfl | rfl | rfl | rfl | rfl
  · exact Val.implBinary_ok 17 3 _ _ _ w (fun w1 => Val.binary_uint8 17 _ _ _ (by decide) hn hm w1 hv hw (fun w2 => Val.wreck17_uint8 a k hk w2))
  · exact Val.implBinary_ok 17 4 _ _ _ w (fun w1 => Val.binary_uint16 17 _ _ _ (by decide) hn hm w1 hv hw (fun w2 => Val.wreck17_uint16 a k hk w2))
  · exact Val.implBinary_ok 17 5 _ _ _ w (fun w1 => Val.binary_uint32 17 _ _ _ (by decide) hn hm w1 hv hw (fun w2 => Val.wreck17_uint32 a k hk w2))
  · exact Val.implBinary_ok 17 6 _ _ _ w (fun w1 => Val.binary_uint64 17 _ _ _ (by decide) hn hm w1 hv hw (fun w2 => Val.wreck17_uint64 a k hk w2))
  · exact Val.implBinary_ok 17 7 _ _ _ w (fun w1 => Val.binary_int8 17 _ _ _ (by decide) hn hm w1 hv hw (fun w2 => Val.wreck17_int8 a k hk w2))
  · exact Val.implBinary_ok 17 8 _ _ _ w (fun w1 => Val.binary_int16 17 _ _ _ (by decide) hn hm w1 hv hw (fun w2 => Val.wreck17_int16 a k hk w2))
  · exact Val.implBinary_ok 17 9 _ _ _ w (fun w1 => Val.binary_int32 17 _ _ _ (by decide) hn hm w1 hv hw (fun w2 => Val.wreck17_int32 a k hk w2))
  · exact Val.implBinary_ok 17 10 _ _ _ w (fun w1 => Val.binary_int64 17 _ _ _ (by decide) hn hm w1 hv hw (fun w2 => Val.wreck17_int64 a k hk w2))
theorem Val.implBin18 (t a : Int) (k : Nat) (hk : k ≤ 70) (ht : Val.isInt t = true) (ha : a = Val.into t (Val.u a)) (w : World) :
    Calls Tryd.prog 7 #[.int .i64 18, .agg #[.int .i64 t, .int .i64 a, .string ⟨#[]⟩], .agg #[.int .i64 t, .int .i64 (k : Int), .string ⟨#[]⟩]] w fun e w' => e = .returned (.tuple #[.agg #[.int .i64 t, .int .i64 (Val.shr t a k), .string ⟨#[]⟩], .string ⟨#[]⟩]) ∧ Below w.heap.size w w' := by
  have hv := Val.into_valid ht ha
  have hw : Val.valid ⟨t, (k : Int), ⟨#[]⟩⟩ = true := Val.into_valid ht (by
    rcases Val.eight ht with rfl | rfl | rfl | rfl | rfl | rfl | rfl | rfl
    · rw [Val.into3]; omega
    · rw [Val.into4]; omega
    · rw [Val.into5]; omega
    · rw [Val.into6]; omega
    · rw [Val.into7]; omega
    · rw [Val.into8]; omega
    · rw [Val.into9]; omega
    · rw [Val.into10]; omega)
  have hn := Val.into_bds ha
  have hm : -9223372036854775808 ≤ (k : Int) ∧ (k : Int) ≤ 9223372036854775807 := by omega
  rcases Val.eight ht with rfl | rfl | rfl | rfl | rfl | rfl | rfl | rfl
  · exact Val.implBinary_ok 18 3 _ _ _ w (fun w1 => Val.binary_uint8 18 _ _ _ (by decide) hn hm w1 hv hw (fun w2 => Val.wreck18_uint8 a k hk ha w2))
  · exact Val.implBinary_ok 18 4 _ _ _ w (fun w1 => Val.binary_uint16 18 _ _ _ (by decide) hn hm w1 hv hw (fun w2 => Val.wreck18_uint16 a k hk ha w2))
  · exact Val.implBinary_ok 18 5 _ _ _ w (fun w1 => Val.binary_uint32 18 _ _ _ (by decide) hn hm w1 hv hw (fun w2 => Val.wreck18_uint32 a k hk ha w2))
  · exact Val.implBinary_ok 18 6 _ _ _ w (fun w1 => Val.binary_uint64 18 _ _ _ (by decide) hn hm w1 hv hw (fun w2 => Val.wreck18_uint64 a k hk ha w2))
  · exact Val.implBinary_ok 18 7 _ _ _ w (fun w1 => Val.binary_int8 18 _ _ _ (by decide) hn hm w1 hv hw (fun w2 => Val.wreck18_int8 a k hk ha w2))
  · exact Val.implBinary_ok 18 8 _ _ _ w (fun w1 => Val.binary_int16 18 _ _ _ (by decide) hn hm w1 hv hw (fun w2 => Val.wreck18_int16 a k hk ha w2))
  · exact Val.implBinary_ok 18 9 _ _ _ w (fun w1 => Val.binary_int32 18 _ _ _ (by decide) hn hm w1 hv hw (fun w2 => Val.wreck18_int32 a k hk ha w2))
  · exact Val.implBinary_ok 18 10 _ _ _ w (fun w1 => Val.binary_int64 18 _ _ _ (by decide) hn hm w1 hv hw (fun w2 => Val.wreck18_int64 a k hk ha w2))
theorem Val.into_idem (t z : Int) (ht : Val.isInt t = true) : Val.into t (Val.u z) = Val.into t (Val.u (Val.into t (Val.u z))) := by
  rcases Val.eight ht with rfl | rfl | rfl | rfl | rfl | rfl | rfl | rfl
  · rw [Val.into3, Val.into3]; omega
  · rw [Val.into4, Val.into4]; omega
  · rw [Val.into5, Val.into5]; omega
  · rw [Val.into6, Val.into6]; omega
  · rw [Val.into7, Val.into7]; omega
  · rw [Val.into8, Val.into8]; omega
  · rw [Val.into9, Val.into9]; omega
  · rw [Val.into10, Val.into10]; omega
theorem Val.into_add (t y z : Int) (ht : Val.isInt t = true) : Val.into t (Val.u (Val.into t (Val.u y) + Val.into t (Val.u z))) = Val.into t (Val.u (y + z)) := by
  rcases Val.eight ht with rfl | rfl | rfl | rfl | rfl | rfl | rfl | rfl
  · rw [Val.into3, Val.into3, Val.into3, Val.into3]; omega
  · rw [Val.into4, Val.into4, Val.into4, Val.into4]; omega
  · rw [Val.into5, Val.into5, Val.into5, Val.into5]; omega
  · rw [Val.into6, Val.into6, Val.into6, Val.into6]; omega
  · rw [Val.into7, Val.into7, Val.into7, Val.into7]; omega
  · rw [Val.into8, Val.into8, Val.into8, Val.into8]; omega
  · rw [Val.into9, Val.into9, Val.into9, Val.into9]; omega
  · rw [Val.into10, Val.into10, Val.into10, Val.into10]; omega
theorem Val.into_dbl (t z : Int) (ht : Val.isInt t = true) : Val.into t (Val.u (Val.into t (Val.u z) * 2)) = Val.into t (Val.u (z * 2)) := by
  have e : ∀ x : Int, x * 2 = x + x := fun x => by omega
  rw [e, e, Val.into_add t z z ht]
theorem Val.shl_next (t a : Int) (k : Nat) (ht : Val.isInt t = true) : Val.into t (Val.u (Val.into t (Val.u (a * 2 ^ k)) * 2 ^ 1)) = Val.into t (Val.u (a * 2 ^ (k + 1))) := by
  rw [show (2 : Int) ^ 1 = 2 by decide, Val.into_dbl t _ ht, Int.pow_succ, Int.mul_assoc]
theorem Val.u_wrap (y : Int) (h0 : 0 ≤ y) (h1 : y < 18446744073709551616) : Val.u (wrap64 y) = y := by rw [Val.wrap_i, Val.u]; omega
theorem Val.shr_next (t a : Int) (k : Nat) : Val.shr t (Val.shr t a k) 1 = Val.shr t a (k + 1) := by
  have hp : (1 : Int) ≤ 2 ^ k := by exact_mod_cast Nat.one_le_two_pow
  have hp0 : (0 : Int) ≤ 2 ^ k := by omega
  unfold Val.shr
  split
  · have hu := Val.u_bd a
    have h0 : 0 ≤ Val.u a / 2 ^ k := Int.ediv_nonneg hu.1 hp0
    have h1 : Val.u a / 2 ^ k < 18446744073709551616 := Int.lt_of_le_of_lt (Int.ediv_le_self _ hu.1) hu.2
    rw [Val.u_wrap _ h0 h1, Int.ediv_ediv_of_nonneg hp0, Int.pow_succ, Int.pow_succ, Int.pow_zero, Int.one_mul]
  · rw [Int.ediv_ediv_of_nonneg hp0, Int.pow_succ, Int.pow_succ, Int.pow_zero, Int.one_mul]

theorem Val.shr_valid (t a : Int) (k : Nat) (ht : Val.isInt t = true) (ha : a = Val.into t (Val.u a)) : Val.shr t a k = Val.into t (Val.u (Val.shr t a k)) := by
  rcases Val.eight ht with rfl | rfl | rfl | rfl | rfl | rfl | rfl | rfl
  · rw [Val.into3] at ha
    have hb := Val.div_in a (0) 255 k (by omega) (by omega) (by omega) (by omega)
    rw [Val.shr, if_neg (by decide), Val.into3]
    omega
  · rw [Val.into4] at ha
    have hb := Val.div_in a (0) 65535 k (by omega) (by omega) (by omega) (by omega)
    rw [Val.shr, if_neg (by decide), Val.into4]
    omega
  · rw [Val.into5] at ha
    have hb := Val.div_in a (0) 4294967295 k (by omega) (by omega) (by omega) (by omega)
    rw [Val.shr, if_neg (by decide), Val.into5]
    omega
  · rw [Val.shr, if_pos rfl, Val.into6, Val.wrap_i]; omega
  · rw [Val.into7] at ha
    have hb := Val.div_in a (-128) 127 k (by omega) (by omega) (by omega) (by omega)
    rw [Val.shr, if_neg (by decide), Val.into7]
    omega
  · rw [Val.into8] at ha
    have hb := Val.div_in a (-32768) 32767 k (by omega) (by omega) (by omega) (by omega)
    rw [Val.shr, if_neg (by decide), Val.into8]
    omega
  · rw [Val.into9] at ha
    have hb := Val.div_in a (-2147483648) 2147483647 k (by omega) (by omega) (by omega) (by omega)
    rw [Val.shr, if_neg (by decide), Val.into9]
    omega
  · rw [Val.into10] at ha
    have hb := Val.div_in a (-9223372036854775808) 9223372036854775807 k (by omega) (by omega) (by omega) (by omega)
    rw [Val.shr, if_neg (by decide), Val.into10]
    omega
end Go.Proofs.YtkijfehdgiiejaaDoor
