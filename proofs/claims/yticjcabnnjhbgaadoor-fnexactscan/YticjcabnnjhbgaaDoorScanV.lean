import Derived.Test.YticjcabnnjhbgaaDoorScanU
import Derived.Lib.ParseIntBCases
namespace Go.Proofs.YticjcabnnjhbgaaDoor
open Go.RowKit

def Mill.val (a : Nat) (l : List UInt8) : Nat := l.foldl (fun a c => a * 10 + (c.toNat - 48)) a
theorem Mill.val_nil (a : Nat) : Mill.val a [] = a := rfl
theorem Mill.val_cons (a : Nat) (c : UInt8) (r : List UInt8) : Mill.val a (c :: r) = Mill.val (a * 10 + (c.toNat - 48)) r := by simp only [Mill.val, List.foldl_cons]
theorem Mill.mem_tw {α : Type} (p : α → Bool) (c : α) : ∀ l : List α, c ∈ l.takeWhile p → p c = true
  | [], h => by simp at h
  | a :: r, h => by
    cases ha : p a with
    | false => simp [ha] at h
    | true =>
      simp [ha] at h
      rcases h with rfl | h
      · exact ha
      · exact Mill.mem_tw p c r h
theorem Mill.val_ge : ∀ (l : List UInt8) (a : Nat), a * 10 ^ l.length ≤ Mill.val a l
  | [], a => by simp [Mill.val_nil]
  | c :: r, a => by
    have := Mill.val_ge r (a * 10 + (c.toNat - 48))
    rw [Mill.val_cons, List.length_cons, Nat.pow_succ]
    have h : a * (10 ^ r.length * 10) ≤ (a * 10 + (c.toNat - 48)) * 10 ^ r.length := by
      rw [show a * (10 ^ r.length * 10) = a * 10 * 10 ^ r.length by rw [Nat.mul_comm (10 ^ r.length) 10, Nat.mul_assoc]]
      exact Nat.mul_le_mul_right _ (by omega)
    omega
theorem Mill.val_le (l : List UInt8) (a : Nat) : a ≤ Mill.val a l := by
  have := Mill.val_ge l a
  have h1 : 1 ≤ 10 ^ l.length := Nat.one_le_pow _ _ (by omega)
  have := Nat.mul_le_mul_left a h1
  omega
theorem Mill.num_val (mx : Int) (hmx : 9 ≤ mx) : ∀ (l : List UInt8) (a : Nat), (∀ c ∈ l, Mill.isDig c = true) → (a : Int) ≤ mx → Mill.numOf mx l (a : Int) = if (Mill.val a l : Int) ≤ mx then some (Mill.val a l : Int) else none
  | [], a, _, ha => by rw [Mill.numOf, Mill.val_nil, if_pos ha]
  | c :: r, a, hd, ha => by
    have hc := Mill.digit_bd (hd c (by simp))
    have e : (a : Int) * 10 + ((c.toNat : Int) - 48) = ((a * 10 + (c.toNat - 48) : Nat) : Int) := by omega
    by_cases h : (mx - ((c.toNat : Int) - 48)) / 10 < (a : Int)
    · rw [Mill.num_bad _ _ _ _ h, Mill.val_cons]
      have := Mill.val_le r (a * 10 + (c.toNat - 48))
      rw [if_neg (by omega)]
    · rw [Mill.num_ok _ _ _ _ h, e, Mill.num_val mx hmx r _ (fun x hx => hd x (by simp [hx])) (by omega), Mill.val_cons]
theorem Mill.parse_val : ∀ (l : List UInt8) (a : Nat), (∀ c ∈ l, Mill.isDig c = true) → a < 18446744073709551616 → Lib.parseUint10 a l = if Mill.val a l < 18446744073709551616 then .ok (Mill.val a l) else .range
  | [], a, _, ha => by rw [Lib.parseUint10, Mill.val_nil, if_pos ha]
  | c :: r, a, hd, ha => by
    have hc := Mill.digit_bd (hd c (by simp))
    have hv := Mill.val_le r (a * 10 + (c.toNat - 48))
    rw [Lib.parseUint10, if_pos (by omega), Mill.val_cons]
    by_cases h1 : 1844674407370955162 ≤ a
    · rw [if_pos h1, if_neg (by omega)]
    · rw [if_neg h1]
      by_cases h2 : 18446744073709551616 ≤ a * 10 + (c.toNat - 48)
      · rw [if_pos h2, if_neg (by omega)]
      · rw [if_neg h2, Mill.parse_val r _ (fun x hx => hd x (by simp [hx])) (by omega)]
theorem Mill.take_dig (l : List UInt8) : ∀ c ∈ l.take (Mill.digLen l), Mill.isDig c = true := by
  intro c hc
  rw [Mill.digLen, Mill.takeWhile_take] at hc
  exact Mill.mem_tw _ _ _ hc
theorem Mill.typeOf_bd (k : List UInt8) : 0 ≤ Mill.typeOf (Mill.ba k) ∧ Mill.typeOf (Mill.ba k) ≤ 10 := by
  rw [Mill.typeOf_ba]
  repeat' split
  all_goals omega

def Mill.itype (W : List UInt8) : Int := if Mill.digLen W < W.length then Mill.typeOf (Mill.ba (W.drop (Mill.digLen W))) else 10
def Mill.ival (W : List UInt8) : Nat := Mill.val 0 (W.take (Mill.digLen W))
theorem Mill.numType_ba (W : List UInt8) : Mill.numType (Mill.ba W) (Mill.digLen W) = Mill.itype W := by
  unfold Mill.numType Mill.itype
  rw [Mill.ba_size, Mill.extract_ba]
  have e : List.take (W.length - Mill.digLen W) (List.drop (Mill.digLen W) (Mill.ba W).data.toList) = W.drop (Mill.digLen W) := by
    show List.take (W.length - Mill.digLen W) (List.drop (Mill.digLen W) W) = _
    rw [List.take_of_length_le (by simp)]
  rw [e]
theorem Mill.itype_bd (W : List UInt8) : 0 ≤ Mill.itype W ∧ Mill.itype W ≤ 10 := by
  unfold Mill.itype
  split
  · exact Mill.typeOf_bd _
  · omega
theorem Mill.intRead_ba (W : List UInt8) : Mill.intRead (Mill.ba W) = if Mill.intBad (Mill.ba W) (Mill.digLen W) (Mill.itype W) = true then none else if (Mill.ival W : Int) ≤ Mill.maxOf (Mill.itype W) then some (Mill.itype W, (Mill.ival W : Int)) else none := by
  have hb := Mill.maxOf_bd (Mill.itype W)
  have hnv := Mill.num_val (Mill.maxOf (Mill.itype W)) (by omega) (W.take (Mill.digLen W)) 0 (Mill.take_dig W) (by omega)
  have e : Mill.intRead (Mill.ba W) = if Mill.intBad (Mill.ba W) (Mill.digLen W) (Mill.numType (Mill.ba W) (Mill.digLen W)) = true then none
    else (Mill.numOf (Mill.maxOf (Mill.numType (Mill.ba W) (Mill.digLen W))) (W.take (Mill.digLen W)) 0).map (fun n => (Mill.numType (Mill.ba W) (Mill.digLen W), n)) := rfl
  rw [e, Mill.numType_ba]
  have e0 : ((0 : Nat) : Int) = 0 := rfl
  rw [e0] at hnv
  rw [hnv]
  split
  · rfl
  · show Option.map _ (if (Mill.ival W : Int) ≤ _ then some (Mill.ival W : Int) else none) = _
    split <;> rfl
def Mill.ibad (W : List UInt8) : Prop := (1 < Mill.digLen W ∧ W.head? = some 48) ∨ Mill.itype W < 3 ∨ Mill.maxOf (Mill.itype W) < (Mill.ival W : Int)
theorem Mill.head_dig (W : List UInt8) (h : 1 ≤ Mill.digLen W) : ∃ c r, W = c :: r ∧ Mill.isDig c = true := by
  cases W with
  | nil => simp [Mill.digLen] at h
  | cons c r =>
    cases hc : Mill.isDig c with
    | true => exact ⟨c, r, rfl, hc⟩
    | false => simp [Mill.digLen, hc] at h
theorem Mill.long_val (W : List UInt8) (h : 20 < Mill.digLen W) (hh : W.head? ≠ some 48) : 100000000000000000000 ≤ Mill.ival W := by
  obtain ⟨c, r, rfl, hc⟩ := Mill.head_dig W (by omega)
  have hcb := Mill.digit_bd hc
  have hne : c ≠ 48 := by simpa using hh
  have hct : 49 ≤ c.toNat := by
    have : c.toNat ≠ 48 := fun e => hne (UInt8.toNat_inj.1 (by simpa using e))
    omega
  have hlen : (List.take (Mill.digLen (c :: r)) (c :: r)).length = Mill.digLen (c :: r) := by
    rw [List.length_take]; have := Mill.tw_le Mill.isDig (c :: r); simp only [Mill.digLen] at *; omega
  unfold Mill.ival
  generalize hD : Mill.digLen (c :: r) = D at *
  obtain ⟨D, rfl⟩ : ∃ d, D = d + 1 := ⟨D - 1, by omega⟩
  rw [List.take_succ_cons] at hlen ⊢
  simp at hlen
  rw [Mill.val_cons]
  have hv := Mill.val_ge (List.take D r) (0 * 10 + (c.toNat - 48))
  have hl : (List.take D r).length = D := by simp; omega
  rw [hl] at hv
  have h20 : 10 ^ 20 ≤ 10 ^ D := Nat.pow_le_pow_right (by omega) (by omega)
  have h1 : 1 * 10 ^ D ≤ (0 * 10 + (c.toNat - 48)) * 10 ^ D := Nat.mul_le_mul_right _ (by omega)
  have e20 : (10 : Nat) ^ 20 = 100000000000000000000 := by decide
  omega
theorem Mill.intP_bad (W : List UInt8) (h : Mill.ibad W) : Mill.intP W = Mill.bad 3 := by
  unfold Mill.intP
  rw [Mill.intRead_ba]
  have hd : (Mill.ba W).data.toList = W := rfl
  rcases h with h | h | h
  · rw [if_pos (by simp [Mill.intBad, hd, h])]
  · rw [if_pos (by simp [Mill.intBad]; omega)]
  · split
    · rename_i hq; rfl
    · rename_i t n hq
      split at hq
      · simp at hq
      · rw [if_neg (by omega)] at hq; simp at hq
theorem Mill.intP_ok (W : List UInt8) (h : ¬ Mill.ibad W) : Mill.intP W = ⟨3, [], Mill.itype W, wrap64 (Mill.ival W : Int), W.length, 0⟩ := by
  have hb := Mill.itype_bd W
  have hmx := Mill.maxOf_bd (Mill.itype W)
  unfold Mill.ibad at h
  have h1 : ¬ (1 < Mill.digLen W ∧ W.head? = some 48) := fun a => h (.inl a)
  have h2 : ¬ Mill.itype W < 3 := fun a => h (.inr (.inl a))
  have h3 : ¬ Mill.maxOf (Mill.itype W) < (Mill.ival W : Int) := fun a => h (.inr (.inr a))
  have h20 : ¬ 20 < Mill.digLen W := fun a => by
    have := Mill.long_val W a (fun e => h1 ⟨by omega, e⟩)
    omega
  have hd : (Mill.ba W).data.toList = W := rfl
  have hf : Mill.intBad (Mill.ba W) (Mill.digLen W) (Mill.itype W) = false := by
    simp only [Mill.intBad, hd]
    have a1 : (decide (3 ≤ Mill.itype W) && decide (Mill.itype W ≤ 10)) = true := by simp; omega
    have a2 : decide (20 < Mill.digLen W) = false := by simp; omega
    have a3 : (decide (1 < Mill.digLen W) && (W.head? == some 48)) = false := by
      by_cases hk : 1 < Mill.digLen W
      · have : W.head? ≠ some 48 := fun e => h1 ⟨hk, e⟩
        simp [hk]; exact this
      · simp [hk]
    rw [a1, a2, a3]; rfl
  unfold Mill.intP
  rw [Mill.intRead_ba, hf, if_neg (by simp), if_pos (by omega)]

end Go.Proofs.YticjcabnnjhbgaaDoor
