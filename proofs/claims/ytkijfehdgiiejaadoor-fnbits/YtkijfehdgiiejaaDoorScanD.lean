import Derived.Test.YtkijfehdgiiejaaDoorScanC
namespace Go.Proofs.YtkijfehdgiiejaaDoor
open Go.RowKit

theorem Mill.tw_step {α : Type} (p : α → Bool) : ∀ (l : List α) (k : Nat) (h : k < l.length), k ≤ (l.takeWhile p).length → p l[k] = true → k + 1 ≤ (l.takeWhile p).length
  | [], k, h, _, _ => by simp at h
  | a :: r, 0, _, _, hp => by simp at hp; simp [hp]
  | a :: r, k + 1, h, hk, hp => by
    cases ha : p a with
    | false => simp [ha] at hk
    | true =>
      simp [ha] at hk ⊢
      simp at hp
      exact Mill.tw_step p r k (by simpa using h) hk hp
theorem Mill.tw_stop {α : Type} (p : α → Bool) : ∀ (l : List α) (k : Nat), k ≤ (l.takeWhile p).length → (∀ (h : k < l.length), p l[k] = false) → k = (l.takeWhile p).length
  | [], k, hk, _ => by simp at hk; simp [hk]
  | a :: r, 0, _, hp => by have := hp (by simp); simp at this; simp [this]
  | a :: r, k + 1, hk, hp => by
    cases ha : p a with
    | false => simp [ha] at hk
    | true =>
      simp [ha] at hk ⊢
      exact Mill.tw_stop p r k hk (fun h => by have := hp (by simpa using h); simpa using this)
theorem Mill.tw_le {α : Type} (p : α → Bool) (l : List α) : (l.takeWhile p).length ≤ l.length := List.Sublist.length_le (List.takeWhile_sublist p)

def Mill.bits (b : Int) : Int := if b = 3 ∨ b = 7 then 8 else if b = 4 ∨ b = 8 then 16 else if b = 5 ∨ b = 9 then 32 else 64
def Mill.maxBits (b : Int) : Int := if 7 ≤ b ∧ b ≤ 10 then Mill.bits b - 1 else Mill.bits b
def Mill.maxOf (b : Int) : Int := (2 : Int) ^ (Mill.maxBits b).toNat - 1

set_option maxHeartbeats 400000 in
theorem l1Bits_any (b : Int) (w : World) :
    Calls Tryd.prog 20 #[.int .i64 b] w fun e w' => e = .returned (.int .i64 (Mill.bits b)) ∧ w = w' := by
  go_enter Tryd.func20, Tryd.ntmps20
  go_wp2
  all_goals go_ret
  all_goals exact ⟨by simp_all [Mill.bits], rfl⟩

theorem Mill.bits_bd (b : Int) : 8 ≤ Mill.bits b ∧ Mill.bits b ≤ 64 := by
  unfold Mill.bits; split <;> (try split) <;> (try split) <;> omega

theorem Mill.pow_step (k : Nat) : ((2 : Int) ^ k - 1) * 2 + 1 = (2 : Int) ^ (k + 1) - 1 := by rw [Int.pow_succ]; omega
theorem Mill.pow_pos (k : Nat) : 1 ≤ (2 : Int) ^ k := by
  induction k with
  | zero => simp
  | succ k ih => rw [Int.pow_succ]; omega
theorem Mill.pow_le (k n : Nat) (h : k ≤ n) : (2 : Int) ^ k ≤ (2 : Int) ^ n := by
  induction n with
  | zero => have : k = 0 := by omega
            subst this; exact Int.le_refl _
  | succ n ih =>
    by_cases hk : k = n + 1
    · subst hk; exact Int.le_refl _
    · have := ih (by omega); have := Mill.pow_pos n; rw [Int.pow_succ]; omega
theorem Mill.pow_bd (k : Nat) (h : k ≤ 63) : (2 : Int) ^ k - 1 ≤ 9223372036854775807 := by
  have := Mill.pow_le k 63 h
  have e : (2 : Int) ^ 63 = 9223372036854775808 := by decide
  omega


theorem l1Max_aux (b : Int) (n : Nat) (hn : n ≤ 64) (w : World)
    (hm : (n : Int) = Mill.maxBits b) : Calls Tryd.prog 12 #[.int .i64 b] w fun e w' => e = .returned (.int .u64 (Mill.maxOf b)) ∧ w = w' := by
  have hb1 := (Mill.bits_bd b).1
  have hb2 := (Mill.bits_bd b).2
  have HM : Hid ((2 : Int) ^ n - 1 = Mill.maxOf b) := by simp only [Hid, Mill.maxOf, ← hm, Int.toNat_natCast]
  by_cases hs : 7 ≤ b ∧ b ≤ 10
  all_goals
    first
    | (have hs1 : (decide (7 ≤ b) && decide (b ≤ 10)) = true := by simp [hs])
    | (have hs1 : (decide (7 ≤ b) && decide (b ≤ 10)) = false := by simp; omega)
    first
    | (have HN : Hid (Mill.bits b - 1 = (n : Int)) := by simp only [Mill.maxBits, if_pos hs] at hm; simp only [Hid, hm])
    | (have HN : Hid (Mill.bits b = (n : Int)) := by simp only [Mill.maxBits, if_neg hs] at hm; simp only [Hid, hm])
    clear hm hs
    go_enter Tryd.func12, Tryd.ntmps12
    go_wp2_with (first | (go_at_call 20; refine (l1Bits_any _ _).mono ?_; rintro e w' ⟨rfl, rfl⟩) | (go_at_call 21; refine (l1Signed_any _ _).mono ?_; rintro e w' ⟨rfl, rfl⟩; rw [hs1]))
    simp only [HN.out]
    go_loop [4, 5] (fun m i => ∃ k : Nat, k ≤ n ∧ i = .int .i64 (k : Int) ∧ m = .int .u64 ((2 : Int) ^ k - 1)) (fun _ i => n - (intOf i).toNat)
    case atStart => exact ⟨0, by omega, rfl, rfl⟩
    case round =>
      obtain ⟨k, hk, rfl, rfl⟩ := hrel
      by_cases hlt : k < n
      · have h1 := Mill.pow_pos k
        have h2 := Mill.pow_bd k (by omega)
        have HP : Hid (((2 : Int) ^ k - 1) * 2 + 1 = (2 : Int) ^ (k + 1) - 1) := Mill.pow_step k
        have h0 : 0 ≤ (2 : Int) ^ k - 1 := by omega
        clear h1
        generalize hg : (2 : Int) ^ k - 1 = m at *
        have HG := hg
        clear hg
        go_wp2
        go_round
        case rel => exact ⟨k + 1, by omega, by go_num, by rw [← HP.out]⟩
        case measure => simp [intOf]; omega
      · have h0 : k = n := by omega
        subst h0
        go_wp2
        go_ret
        exact ⟨Mill.ret_int HM.out, rfl⟩
theorem Mill.maxBits_bd (b : Int) : 7 ≤ Mill.maxBits b ∧ Mill.maxBits b ≤ 64 := by
  have := Mill.bits_bd b
  unfold Mill.maxBits; split <;> omega
theorem l1Max_any (b : Int) (w : World) :
    Calls Tryd.prog 12 #[.int .i64 b] w fun e w' => e = .returned (.int .u64 (Mill.maxOf b)) ∧ w = w' :=
  have h := Mill.maxBits_bd b
  l1Max_aux b (Mill.maxBits b).toNat (by omega) w (by omega)
theorem Mill.maxOf_bd (b : Int) : 127 ≤ Mill.maxOf b ∧ Mill.maxOf b ≤ 18446744073709551615 := by
  have h := Mill.maxBits_bd b
  have h1 := Mill.pow_le 7 (Mill.maxBits b).toNat (by omega)
  have h2 := Mill.pow_le (Mill.maxBits b).toNat 64 (by omega)
  have e1 : (2 : Int) ^ 7 = 128 := by decide
  have e2 : (2 : Int) ^ 64 = 18446744073709551616 := by decide
  unfold Mill.maxOf
  omega

end Go.Proofs.YtkijfehdgiiejaaDoor
