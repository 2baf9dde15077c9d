import Derived.Test.YtfelngigfmdedaaGreatDoorBltH
import Derived.Lib.ParseIntB
import Derived.Test.YtfelngigfmdedaaGreatDoorWalB
namespace Go.Proofs.YtfelngigfmdedaaGreatDoor
open Go.RowKit

theorem Val.dg (k : Nat) (h : k < 10) : (UInt8.ofNat (48 + k)).toNat = 48 + k := by simp; omega
theorem Val.parseM_app (M : Nat) (hM : M ≤ 18446744073709551615) : ∀ (l : List UInt8) (acc u k : Nat), Lib.parseUintM M acc l = .ok u → k < 10 → u * 10 + k ≤ M → Lib.parseUintM M acc (l ++ [UInt8.ofNat (48 + k)]) = .ok (u * 10 + k)
  | [], acc, u, k, h, hk, hle => by
    simp only [Lib.parseUintM] at h
    injection h with h
    subst h
    rw [List.nil_append, Lib.parseUintM, Val.dg k hk, if_pos (by omega), if_neg (by omega), if_neg (by omega), Lib.parseUintM]
    congr 1; omega
  | c :: r, acc, u, k, h, hk, hle => by
    rw [Lib.parseUintM] at h
    rw [List.cons_append, Lib.parseUintM]
    split at h
    · rename_i h1
      rw [if_pos h1]
      split at h
      · cases h
      · rename_i h2
        rw [if_neg h2]
        split at h
        · cases h
        · rename_i h3
          rw [if_neg h3]
          exact Val.parseM_app M hM r _ u k h hk hle
    · cases h
theorem Val.parseM_dec (M : Nat) (hM : M ≤ 18446744073709551615) (u : Nat) (hu : u ≤ M) : Lib.parseUintM M 0 (Lib.decDigits u) = .ok u := by
  induction u using Nat.strongRecOn with
  | _ u ih =>
    by_cases h : u < 10
    · rw [Lib.decDigits_one h, Lib.parseUintM, Val.dg u h, if_pos (by omega), if_neg (by omega), if_neg (by omega), Lib.parseUintM]
      congr 1; omega
    · rw [Lib.decDigits, dif_neg h, Val.parseM_app M hM _ 0 (u / 10) (u % 10) (ih (u / 10) (by omega) (by omega)) (by omega) (by omega)]
      congr 1; omega
theorem Val.dec_ne (u : Nat) : Lib.decDigits u ≠ [] := by
  rw [Lib.decDigits]; split <;> simp
theorem Val.dec_head (u : Nat) : ∀ c r, Lib.decDigits u = c :: r → 48 ≤ c.toNat ∧ c.toNat ≤ 57 := by
  induction u using Nat.strongRecOn with
  | _ u ih =>
    intro c r h
    by_cases h1 : u < 10
    · rw [Lib.decDigits_one h1] at h
      injection h with h2 h3
      subst h2
      rw [Val.dg u h1]; omega
    · rw [Lib.decDigits, dif_neg h1] at h
      cases hd : Lib.decDigits (u / 10) with
      | nil => exact absurd hd (Val.dec_ne _)
      | cons c' r' =>
        rw [hd, List.cons_append] at h
        injection h with h2 h3
        subst h2
        exact ih (u / 10) (by omega) c' r' hd
theorem Val.loose_app (l : List UInt8) (n k : Nat) (hk : k < 10) (q : Int) (h : Val.loose l q = (n : Int)) (hn : n * 10 + k < 18446744073709551616) : Val.loose (l ++ [UInt8.ofNat (48 + k)]) q = ((n * 10 + k : Nat) : Int) := by
  induction l generalizing q with
  | nil =>
    rw [Val.loose] at h
    subst h
    rw [List.nil_append, Val.loose, Val.loose, Val.dg k hk]
    unfold Val.u; omega
  | cons c r ih =>
    rw [Val.loose] at h
    rw [List.cons_append, Val.loose]
    exact ih _ h
theorem Val.loose_dec (u : Nat) (hu : u < 18446744073709551616) : Val.loose (Lib.decDigits u) 0 = (u : Int) := by
  induction u using Nat.strongRecOn with
  | _ u ih =>
    by_cases h : u < 10
    · rw [Lib.decDigits_one h, Val.loose, Val.loose, Val.dg u h]
      unfold Val.u; omega
    · rw [Lib.decDigits, dif_neg h, Val.loose_app _ (u / 10) (u % 10) (by omega) 0 (ih (u / 10) (by omega) (by omega)) (by omega)]
      omega
theorem Val.dec10 (v : Int) (hv : -9223372036854775808 ≤ v ∧ v ≤ 9223372036854775807) : Val.dec 10 v = Lib.itoa v := by
  unfold Val.dec Lib.itoa
  have hs : Val.signed 10 = true := by decide
  by_cases h : v < 0
  · have hn : Val.neg 10 v = true := by simp [Val.neg, hs, h]
    rw [if_pos hn, if_pos h, Val.abs, if_pos hn]
    congr 2
    unfold Val.u; omega
  · have hn : ¬ Val.neg 10 v = true := by simp [Val.neg, h]
    rw [if_neg hn, if_neg h, Val.abs, if_neg hn]
    congr 1
    unfold Val.u; omega
theorem Val.parse_itoa (v : Int) (hv : -9223372036854775808 ≤ v ∧ v ≤ 9223372036854775807) : Lib.parseIntB 64 (Lib.itoa v) = .ok v := by
  unfold Lib.itoa
  split
  · rename_i h
    have hp := Val.parseM_dec (2 ^ 64 - 1) (by decide) v.natAbs (by omega)
    unfold Lib.parseIntB
    simp only
    have e45 : (45 : UInt8).toNat = 45 := rfl
    rw [e45, if_pos (Or.inr rfl), Lib.parseUintB, if_neg (Val.dec_ne _), hp]
    simp only
    rw [if_neg (by simp), if_neg (by omega), if_pos trivial]
    congr 1; omega
  · rename_i h
    have hp := Val.parseM_dec (2 ^ 64 - 1) (by decide) v.toNat (by omega)
    cases hd : Lib.decDigits v.toNat with
    | nil => exact absurd hd (Val.dec_ne _)
    | cons c r =>
      have hc := Val.dec_head _ c r hd
      unfold Lib.parseIntB
      simp only
      rw [if_neg (by omega), Lib.parseUintB, if_neg (by simp), ← hd, hp]
      simp only
      rw [if_neg (by omega), if_neg (by omega), if_neg (by omega)]
      congr 1; omega
theorem Val.into10_id (v : Int) (hv : -9223372036854775808 ≤ v ∧ v ≤ 9223372036854775807) (N : Int) (h0 : 0 ≤ N) (h1 : N < 18446744073709551616) (hN : N = Val.u v) : Val.into 10 N = v := by
  rw [← Val.into10w N h0 h1, Val.wrap_i, hN]; unfold Val.u; omega
theorem Val.looseN_itoa (v : Int) (hv : -9223372036854775808 ≤ v ∧ v ≤ 9223372036854775807) (s : ByteArray) (h : s.data.toList = Lib.itoa v) : Val.looseN s = Val.u v := by
  by_cases h1 : v < 0
  · have e : s.data.toList = 45 :: Lib.decDigits v.natAbs := by rw [h, Lib.itoa, if_pos h1]
    unfold Val.looseN
    rw [e]
    simp only
    rw [Val.loose_dec _ (by omega)]
    unfold Val.u; omega
  · have e : s.data.toList = Lib.decDigits v.toNat := by rw [h, Lib.itoa, if_neg h1]
    unfold Val.looseN
    rw [e]
    cases hd : Lib.decDigits v.toNat with
    | nil => exact absurd hd (Val.dec_ne _)
    | cons c r =>
      have hc := Val.dec_head _ c r hd
      split
      · rename_i r' hr
        injection hr with h2 h3
        rw [h2] at hc
        exact absurd hc (by decide)
      · rw [← hd, Val.loose_dec _ (by omega)]
        unfold Val.u; omega
theorem Val.itoa_len (v : Int) (hv : -9223372036854775808 ≤ v ∧ v ≤ 9223372036854775807) : 1 ≤ (Lib.itoa v).length ∧ (Lib.itoa v).length ≤ 20 := by
  unfold Lib.itoa
  split
  · have := Val.decLen 18 v.natAbs (by omega)
    simp; omega
  · have h := Val.decLen 18 v.toNat (by omega)
    have : Lib.decDigits v.toNat ≠ [] := Val.dec_ne _
    have := List.length_pos_iff.2 this
    omega
theorem Val.parse_of (s : ByteArray) (v : Int) (hv : -9223372036854775808 ≤ v ∧ v ≤ 9223372036854775807) (h : s.data.toList = Lib.itoa v) : Val.parse s = (v, true) := by
  have hl := Val.itoa_len v hv
  have hs : s.size = (Lib.itoa v).length := by rw [← h]; simp
  have hb := Val.u_bd v
  have e : Val.into 10 (Val.looseN s) = v := by rw [Val.looseN_itoa v hv s h]; exact Val.into10_id v hv _ hb.1 hb.2 rfl
  rw [Val.parse, if_pos (by omega), e, Val.dec10 v hv, h]
  simp
theorem Val.into10_bd (N : Int) (h0 : 0 ≤ N) (h1 : N < 18446744073709551616) : -9223372036854775808 ≤ Val.into 10 N ∧ Val.into 10 N ≤ 9223372036854775807 := by
  rw [← Val.into10w N h0 h1, Val.wrap_i]; omega
theorem Val.looseN_bd (s : ByteArray) : 0 ≤ Val.looseN s ∧ Val.looseN s < 18446744073709551616 := by
  unfold Val.looseN
  split
  · exact Val.u_bd _
  · exact Val.loose_bd _ 0 (by omega) (by omega)
theorem Val.of_parse (s : ByteArray) (v : Int) (h : Val.parse s = (v, true)) : (-9223372036854775808 ≤ v ∧ v ≤ 9223372036854775807) ∧ s.data.toList = Lib.itoa v := by
  unfold Val.parse at h
  split at h
  · injection h with h1 h2
    have hb := Val.looseN_bd s
    have hv := Val.into10_bd _ hb.1 hb.2
    rw [h1] at hv h2
    refine ⟨hv, ?_⟩
    rw [Val.dec10 v hv] at h2
    exact (beq_iff_eq.1 h2).symm
  · injection h with h1 h2
    cases h2
theorem Val.num_yes (s : ByteArray) (v : Int) (h : Val.parse s = (v, true)) : Lib.parseIntB 64 s.data.toList = .ok v ∧ Lib.itoa v = s.data.toList ∧ (-9223372036854775808 ≤ v ∧ v ≤ 9223372036854775807) := by
  obtain ⟨hv, hs⟩ := Val.of_parse s v h
  exact ⟨by rw [hs]; exact Val.parse_itoa v hv, hs.symm, hv⟩
theorem Val.num_no (s : ByteArray) (h : (Val.parse s).2 = false) (v : Int) (hv : -9223372036854775808 ≤ v ∧ v ≤ 9223372036854775807) : Lib.itoa v ≠ s.data.toList := by
  intro he
  rw [Val.parse_of s v hv he.symm] at h
  cases h
theorem Val.dec_valid (t n : Int) (x : ByteArray) (h : Val.valid ⟨t, n, x⟩ = true) (ht : Val.isInt t = true) (hn : -9223372036854775808 ≤ n ∧ n ≤ 9223372036854775807) : Val.dec t n = if t = 6 then Lib.decDigits (Val.u n).toNat else Lib.itoa n := by
  have h3 : t = 3 ∨ t = 4 ∨ t = 5 ∨ t = 6 ∨ t = 7 ∨ t = 8 ∨ t = 9 ∨ t = 10 := by simp [Val.isInt] at ht; omega
  by_cases hs : Val.signed t = true
  · have h6 : t ≠ 6 := by rintro rfl; revert hs; decide
    rw [if_neg h6, ← Val.dec10 n hn]
    have hs10 : Val.signed 10 = true := by decide
    have hneg : Val.neg t n = Val.neg 10 n := by simp [Val.neg, hs, hs10]
    unfold Val.dec Val.abs
    rw [hneg]
  · have hneg : ¬ Val.neg t n = true := by simp [Val.neg, hs]
    rw [Val.dec, if_neg hneg, Val.abs, if_neg hneg]
    by_cases h6 : t = 6
    · rw [if_pos h6]
    · rw [if_neg h6]
      have hv : n = Val.into t (Val.u n) := by
        rw [Val.valid, if_neg (by show ¬ t = 1; omega), if_neg (by show ¬ t = 2; omega)] at h
        simp only [Bool.and_eq_true, decide_eq_true_eq] at h
        exact h.2
      have hpos : 0 ≤ n := by
        have h345 : t = 3 ∨ t = 4 ∨ t = 5 := by
          rcases h3 with h | h | h | h | h | h | h | h
          · exact .inl h
          · exact .inr (.inl h)
          · exact .inr (.inr h)
          · exact absurd h h6
          all_goals exact absurd (by subst h; decide) hs
        rcases h345 with rfl | rfl | rfl
        · rw [Val.into3] at hv; omega
        · rw [Val.into4] at hv; omega
        · rw [Val.into5] at hv; omega
      unfold Lib.itoa
      rw [if_neg (by omega)]
      congr 1
      unfold Val.u; omega
end Go.Proofs.YtfelngigfmdedaaGreatDoor
