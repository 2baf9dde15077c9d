import Derived.Test.YtfelngigfmdedaaGreatDoorBltF
namespace Go.Proofs.YtfelngigfmdedaaGreatDoor
open Go.RowKit

def Val.looseN (s : ByteArray) : Int := match s.data.toList with
  | 45 :: r => Val.u (-Val.loose r 0)
  | l => Val.loose l 0
def Val.parse (s : ByteArray) : Int × Bool := if 1 ≤ s.size ∧ s.size ≤ 20 then (Val.into 10 (Val.looseN s), Val.dec 10 (Val.into 10 (Val.looseN s)) == s.data.toList) else (0, false)
theorem Val.loose_bd : ∀ (l : List UInt8) (n : Int), 0 ≤ n → n < 18446744073709551616 → 0 ≤ Val.loose l n ∧ Val.loose l n < 18446744073709551616
  | [], n, h0, h1 => ⟨h0, h1⟩
  | c :: r, n, _, _ => by rw [Val.loose]; exact Val.loose_bd r _ (Val.u_bd _).1 (Val.u_bd _).2
set_option maxRecDepth 100000 in
set_option maxHeartbeats 1000000 in
theorem Val.l4Parse_no (s : ByteArray) (h : ¬ (1 ≤ s.size ∧ s.size ≤ 20)) (w : World) :
    Calls Tryz.prog 17 #[.string s] w fun e w' => e = .returned (.tuple #[.int .i64 0, .bool false]) ∧ Below w.heap.size w w' := by
  have h2 : s.size < 1 ∨ 20 < s.size := by omega
  rcases h2 with h2 | h2
  all_goals
    go_enter Tryz.func17, Tryz.ntmps17
    go_wp2
    go_ret2
    exact ⟨rfl, Below.refl _ _⟩
theorem Val.into10w (L : Int) (_h0 : 0 ≤ L) (_h1 : L < 18446744073709551616) : wrap64 L = Val.into 10 L := by
  have e1 : Val.bits 10 = 64 := by decide
  rw [Val.wrap_i]
  unfold Val.into Val.fold
  rw [e1]
  simp (decide := true)
  split <;> omega
theorem Val.wrap3 (q c : Int) : IntKind.u64.wrap (IntKind.u64.wrap (IntKind.u64.wrap (q * 10) + c) - 48) = Val.u (q * 10 + c - 48) := by
  rw [Val.wrap_u, Val.wrap_u, Val.wrap_u]; unfold Val.u; omega
theorem Val.wrapByte (c : UInt8) : IntKind.u64.wrap (c.toNat : Int) = (c.toNat : Int) := by
  have := c.toNat_lt
  rw [Val.wrap_u]; omega
theorem Val.drop_at (s : ByteArray) (i : Nat) (h : i < s.size) : s.data.toList.drop i = s[i] :: s.data.toList.drop (i + 1) := by
  rw [List.drop_eq_getElem_cons (by simpa using h)]
  rfl
theorem Val.looseN_plus (s : ByteArray) (h : 0 < s.size) (hc : ((s[0]).toNat == 45) = false) : Val.looseN s = Val.loose s.data.toList 0 := by
  have hd := Val.drop_at s 0 h
  rw [List.drop_zero] at hd
  unfold Val.looseN
  rw [hd]
  split
  · rename_i r he
    injection he with he1 he2
    rw [he1] at hc
    exact absurd hc (by decide)
  · rfl
theorem Val.looseN_minus (s : ByteArray) (h : 0 < s.size) (hc : ((s[0]).toNat == 45) = true) : Val.looseN s = Val.u (-Val.loose (s.data.toList.drop 1) 0) := by
  have hd := Val.drop_at s 0 h
  rw [List.drop_zero] at hd
  have h45 : s[0] = 45 := by
    apply UInt8.toNat_inj.1
    simpa using hc
  unfold Val.looseN
  rw [hd, h45]
  simp
theorem Val.eq_list (l : List UInt8) (s : ByteArray) : ((⟨l.toArray⟩ : ByteArray).toList == s.toList) = (l == s.data.toList) := by
  rw [ByteArray.toList_eq, ByteArray.toList_eq]
set_option maxRecDepth 100000 in
set_option maxHeartbeats 2000000 in
theorem Val.l4Parse_plus (s : ByteArray) (h1 : 1 ≤ s.size) (h2 : s.size ≤ 20) (hc0 : ((s[0]).toNat == 45) = false) (w : World) :
    Calls Tryz.prog 17 #[.string s] w fun e w' => e = .returned (.tuple #[.int .i64 (Val.into 10 (Val.looseN s)), .bool (Val.dec 10 (Val.into 10 (Val.looseN s)) == s.data.toList)]) ∧ Below w.heap.size w w' := by
  have hl : s.data.toList.length = s.size := by simp
  obtain ⟨L, HL⟩ : ∃ L, Hid (Val.loose s.data.toList 0 = L) := ⟨_, (rfl : _ = _)⟩
  have hLb := Val.loose_bd s.data.toList 0 (by omega) (by omega)
  rw [HL.out] at hLb
  have HW : Hid (wrap64 L = Val.into 10 (Val.looseN s)) := by rw [Hid, Val.into10w L hLb.1 hLb.2, Val.looseN_plus s (by omega) hc0, HL.out]
  obtain ⟨v, HV⟩ : ∃ v, Hid (Val.into 10 (Val.looseN s) = v) := ⟨_, (rfl : _ = _)⟩
  rw [HV.out] at HW ⊢
  have hw : wrap64 L = v := HW.out
  obtain ⟨b, HB⟩ : ∃ b, Hid ((Val.dec 10 v == s.data.toList) = b) := ⟨_, (rfl : _ = _)⟩
  rw [HB.out]
  have hbe := Val.eq_list (Val.dec 10 v) s
  rw [HB.out] at hbe
  have hm : (((s[0]).toNat : Int) == 45) = false := by
    have := hc0; simp at this ⊢; omega
  have HD : Hid (∀ w : World, Calls Tryz.prog 16 #[.int .i64 10, .int .i64 v] w fun e w' => e = .returned (.string ⟨(Val.dec 10 v).toArray⟩) ∧ Below w.heap.size w w') := fun w => Val.l4Dec_any 10 v w
  generalize (⟨(Val.dec 10 v).toArray⟩ : ByteArray) = ds at *
  go_enter Tryz.func17, Tryz.ntmps17
  go_wp2_with fail
  go_loopw [4, 5] (fun tn ti wr => ∃ (i : Nat) (q : Int), ti = .int .i64 (i : Int) ∧ tn = .int .u64 q ∧ i ≤ s.size ∧ 0 ≤ q ∧ q < 18446744073709551616 ∧ Val.loose (s.data.toList.drop i) q = L ∧ w = wr) (fun _ ti _ => s.size - (intOf ti).toNat)
  case atStart => exact ⟨0, 0, rfl, rfl, by omega, by omega, by omega, HL.out, rfl⟩
  case round =>
    obtain ⟨i, q, rfl, rfl, hi, hq0, hq1, hu, rfl⟩ := hrel
    by_cases hlt : i < s.size
    · rw [Val.drop_at s i hlt, Val.loose] at hu
      have HU : Hid (Val.loose (s.data.toList.drop (i + 1)) (Val.u (q * 10 + ((s[i]).toNat : Int) - 48)) = L) := hu
      clear hu
      go_wp2
      go_roundw
      case rel => exact ⟨i + 1, Val.u (q * 10 + ((s[i]).toNat : Int) - 48), by go_num, by rw [Val.wrap3, Val.wrapByte], by omega, (Val.u_bd _).1, (Val.u_bd _).2, HU.out, trivial⟩
      case measure => simp [intOf]; omega
    · have HU : Hid (q = L) := by rw [List.drop_of_length_le (by rw [hl]; omega)] at hu; exact hu
      clear hu
      rw [HU.out]
      go_wp2_with (go_at_call 16; (refine (HD.out _).mono ?_; rintro e w1 ⟨rfl, hb1⟩))
      go_ret2
      exact ⟨rfl, hb1⟩
set_option maxRecDepth 100000 in
set_option maxHeartbeats 2000000 in
theorem Val.l4Parse_minus (s : ByteArray) (h1 : 1 ≤ s.size) (h2 : s.size ≤ 20) (hc0 : ((s[0]).toNat == 45) = true) (w : World) :
    Calls Tryz.prog 17 #[.string s] w fun e w' => e = .returned (.tuple #[.int .i64 (Val.into 10 (Val.looseN s)), .bool (Val.dec 10 (Val.into 10 (Val.looseN s)) == s.data.toList)]) ∧ Below w.heap.size w w' := by
  have hl : s.data.toList.length = s.size := by simp
  obtain ⟨L, HL⟩ : ∃ L, Hid (Val.loose (s.data.toList.drop 1) 0 = L) := ⟨_, (rfl : _ = _)⟩
  have hLb := Val.loose_bd (s.data.toList.drop 1) 0 (by omega) (by omega)
  rw [HL.out] at hLb
  have HW : Hid (wrap64 (IntKind.u64.wrap (-L)) = Val.into 10 (Val.looseN s)) := by rw [Hid, Val.wrap_u, Val.into10w _ (by omega) (by omega), Val.looseN_minus s (by omega) hc0, HL.out]; rfl
  obtain ⟨v, HV⟩ : ∃ v, Hid (Val.into 10 (Val.looseN s) = v) := ⟨_, (rfl : _ = _)⟩
  rw [HV.out] at HW ⊢
  have hw : wrap64 (IntKind.u64.wrap (-L)) = v := HW.out
  obtain ⟨b, HB⟩ : ∃ b, Hid ((Val.dec 10 v == s.data.toList) = b) := ⟨_, (rfl : _ = _)⟩
  rw [HB.out]
  have hbe := Val.eq_list (Val.dec 10 v) s
  rw [HB.out] at hbe
  have hm : (((s[0]).toNat : Int) == 45) = true := by
    have := hc0; simp at this ⊢; omega
  have HD : Hid (∀ w : World, Calls Tryz.prog 16 #[.int .i64 10, .int .i64 v] w fun e w' => e = .returned (.string ⟨(Val.dec 10 v).toArray⟩) ∧ Below w.heap.size w w') := fun w => Val.l4Dec_any 10 v w
  generalize (⟨(Val.dec 10 v).toArray⟩ : ByteArray) = ds at *
  go_enter Tryz.func17, Tryz.ntmps17
  go_wp2_with fail
  go_loopw [4, 5] (fun tn ti wr => ∃ (i : Nat) (q : Int), ti = .int .i64 (i : Int) ∧ tn = .int .u64 q ∧ i ≤ s.size ∧ 0 ≤ q ∧ q < 18446744073709551616 ∧ w = wr) (fun _ ti _ => s.size - (intOf ti).toNat)
  case atStart => exact ⟨0, 0, rfl, rfl, by omega, by omega, by omega, rfl⟩
  case round =>
    obtain ⟨i, q, rfl, rfl, hi, hq0, hq1, rfl⟩ := hrel
    by_cases hlt : i < s.size
    · go_wp2
      go_roundw
      case rel => exact ⟨i + 1, Val.u (q * 10 + ((s[i]).toNat : Int) - 48), by go_num, by rw [Val.wrap3, Val.wrapByte], by omega, (Val.u_bd _).1, (Val.u_bd _).2, trivial⟩
      case measure => simp [intOf]; omega
    · go_wp2_with fail
      go_loopw [4, 6] (fun tn ti wr => ∃ (i : Nat) (q : Int), ti = .int .i64 (i : Int) ∧ tn = .int .u64 q ∧ i ≤ s.size ∧ 0 ≤ q ∧ q < 18446744073709551616 ∧ Val.loose (s.data.toList.drop i) q = L ∧ w = wr) (fun _ ti _ => s.size - (intOf ti).toNat)
      case atStart => exact ⟨1, 0, rfl, rfl, by omega, by omega, by omega, HL.out, rfl⟩
      case round =>
        obtain ⟨j, q2, rfl, rfl, hj, hq20, hq21, hu, rfl⟩ := hrel
        by_cases hlt2 : j < s.size
        · rw [Val.drop_at s j hlt2, Val.loose] at hu
          have HU : Hid (Val.loose (s.data.toList.drop (j + 1)) (Val.u (q2 * 10 + ((s[j]).toNat : Int) - 48)) = L) := hu
          clear hu
          go_wp2
          go_roundw
          case rel => exact ⟨j + 1, Val.u (q2 * 10 + ((s[j]).toNat : Int) - 48), by go_num, by rw [Val.wrap3, Val.wrapByte], by omega, (Val.u_bd _).1, (Val.u_bd _).2, HU.out, trivial⟩
          case measure => simp [intOf]; omega
        · have HU : Hid (q2 = L) := by rw [List.drop_of_length_le (by rw [hl]; omega)] at hu; exact hu
          clear hu
          rw [HU.out]
          go_wp2_with (go_at_call 16; (refine (HD.out _).mono ?_; rintro e w1 ⟨rfl, hb1⟩))
          go_ret2
          exact ⟨rfl, hb1⟩
theorem Val.l4Parse_any (s : ByteArray) (w : World) :
    Calls Tryz.prog 17 #[.string s] w fun e w' => e = .returned (.tuple #[.int .i64 (Val.parse s).1, .bool (Val.parse s).2]) ∧ Below w.heap.size w w' := by
  by_cases h : 1 ≤ s.size ∧ s.size ≤ 20
  · rw [Val.parse, if_pos h]
    cases hc : ((s[0]).toNat == 45) with
    | true => exact Val.l4Parse_minus s h.1 h.2 hc w
    | false => exact Val.l4Parse_plus s h.1 h.2 hc w
  · rw [Val.parse, if_neg h]
    exact Val.l4Parse_no s h w
end Go.Proofs.YtfelngigfmdedaaGreatDoor
