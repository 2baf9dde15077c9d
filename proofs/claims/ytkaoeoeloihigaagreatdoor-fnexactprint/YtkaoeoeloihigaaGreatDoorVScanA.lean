import Derived.Test.YtkaoeoeloihigaaGreatDoorRows
import Derived.WalkKit
import Derived.WalkSpells
import Derived.WalkLawsBesides
namespace Go.Proofs.YtkaoeoeloihigaaGreatDoor
open Go.RowKit

def Mill.letter (b : Int) : Bool := decide (97 ≤ b) && decide (b ≤ 122)
def Mill.digit (b : Int) : Bool := decide (48 ≤ b) && decide (b ≤ 57)
def Mill.tail (b : Int) : Bool := Mill.letter b || Mill.digit b || (b == 95)
def Mill.bare (b : Int) : Bool := decide (32 ≤ b) && decide (b ≤ 126) && b != 34 && b != 92
def Mill.hex (b : Int) : Int := if 48 ≤ b ∧ b ≤ 57 then b - 48 else if 97 ≤ b ∧ b ≤ 102 then b - 97 + 10 else -1
def Mill.typeWords : List (List UInt8) := [[98, 111, 111, 108], [116, 101, 120, 116], [117, 56], [117, 49, 54], [117, 51, 50], [117, 54, 52], [105, 56], [105, 49, 54], [105, 51, 50], [105, 54, 52]]
def Mill.builtWords : List (List UInt8) := [[114, 101, 97, 100], [104, 97, 115], [108, 105, 115, 116], [116, 111, 111, 108], [97, 114, 103], [108, 101, 110], [97, 116], [99, 117, 116], [102, 105, 110, 100], [99, 104, 114], [100, 101, 99], [110, 117, 109]]
def Mill.plainWords : List (List UInt8) := [[102, 110], [108, 101, 116], [105, 102], [101, 108, 115, 101], [119, 104, 105, 108, 101], [98, 114, 101, 97, 107], [99, 111, 110, 116, 105, 110, 117, 101], [114, 101, 116, 117, 114, 110], [102, 97, 105, 108], [119, 114, 105, 116, 101], [115, 97, 121], [116, 114, 117, 101], [102, 97, 108, 115, 101]]
def Mill.marks : List (List UInt8) := [[45, 62], [61, 61], [33, 61], [60, 61], [62, 61], [60, 60], [62, 62], [38, 38], [124, 124], [40], [41], [123], [125], [44], [59], [61], [60], [62], [43], [45], [42], [47], [37], [38], [124], [94], [33], [126]]
def Mill.typeWord (t : Int) : ByteArray := if t = 1 then ⟨#[98, 111, 111, 108]⟩ else if t = 2 then ⟨#[116, 101, 120, 116]⟩ else if t = 3 then ⟨#[117, 56]⟩ else if t = 4 then ⟨#[117, 49, 54]⟩ else if t = 5 then ⟨#[117, 51, 50]⟩ else if t = 6 then ⟨#[117, 54, 52]⟩ else if t = 7 then ⟨#[105, 56]⟩ else if t = 8 then ⟨#[105, 49, 54]⟩ else if t = 9 then ⟨#[105, 51, 50]⟩ else if t = 10 then ⟨#[105, 54, 52]⟩ else ⟨#[]⟩
def Mill.builtWord (t : Int) : ByteArray := if t = 1 then ⟨#[114, 101, 97, 100]⟩ else if t = 2 then ⟨#[104, 97, 115]⟩ else if t = 3 then ⟨#[108, 105, 115, 116]⟩ else if t = 4 then ⟨#[116, 111, 111, 108]⟩ else if t = 5 then ⟨#[97, 114, 103]⟩ else if t = 6 then ⟨#[108, 101, 110]⟩ else if t = 7 then ⟨#[97, 116]⟩ else if t = 8 then ⟨#[99, 117, 116]⟩ else if t = 9 then ⟨#[102, 105, 110, 100]⟩ else if t = 10 then ⟨#[99, 104, 114]⟩ else if t = 11 then ⟨#[100, 101, 99]⟩ else if t = 12 then ⟨#[110, 117, 109]⟩ else ⟨#[]⟩
def Mill.builtKids (t : Int) : Int := if t = 1 then 1 else if t = 2 then 1 else if t = 3 then 1 else if t = 4 then 2 else if t = 5 then 0 else if t = 6 then 1 else if t = 7 then 2 else if t = 8 then 3 else if t = 9 then 2 else if t = 10 then 1 else if t = 11 then 1 else if t = 12 then 1 else 0


set_option maxHeartbeats 400000 in
theorem l1Letter_any (b : Int) (w : World) :
    Calls Tryz.prog 58 #[.int .u8 b] w fun e w' => e = .returned (.bool (Mill.letter b)) ∧ w = w' := by
  go_enter Tryz.func58, Tryz.ntmps58
  go_wp2
  all_goals go_ret
  all_goals exact ⟨by simp [Mill.letter, *] <;> omega, rfl⟩

set_option maxHeartbeats 400000 in
theorem l1Digit_any (b : Int) (w : World) :
    Calls Tryz.prog 78 #[.int .u8 b] w fun e w' => e = .returned (.bool (Mill.digit b)) ∧ w = w' := by
  go_enter Tryz.func78, Tryz.ntmps78
  go_wp2
  all_goals go_ret
  all_goals exact ⟨by simp [Mill.digit, *] <;> omega, rfl⟩

set_option maxHeartbeats 400000 in
theorem l1Bare_any (b : Int) (w : World) :
    Calls Tryz.prog 95 #[.int .u8 b] w fun e w' => e = .returned (.bool (Mill.bare b)) ∧ w = w' := by
  go_enter Tryz.func95, Tryz.ntmps95
  go_wp2
  all_goals go_ret
  all_goals exact ⟨by simp [Mill.bare, *] <;> omega, rfl⟩

set_option maxHeartbeats 400000 in
theorem l1Integer_any (b : Int) (w : World) :
    Calls Tryz.prog 38 #[.int .i64 b] w fun e w' => e = .returned (.bool (decide (3 ≤ b) && decide (b ≤ 10))) ∧ w = w' := by
  go_enter Tryz.func38, Tryz.ntmps38
  go_wp2
  all_goals go_ret
  all_goals exact ⟨by simp [decide_eq_true_eq, *] <;> omega, rfl⟩

set_option maxHeartbeats 400000 in
theorem l1Signed_any (b : Int) (w : World) :
    Calls Tryz.prog 62 #[.int .i64 b] w fun e w' => e = .returned (.bool (decide (7 ≤ b) && decide (b ≤ 10))) ∧ w = w' := by
  go_enter Tryz.func62, Tryz.ntmps62
  go_wp2
  all_goals go_ret
  all_goals exact ⟨by simp [decide_eq_true_eq, *] <;> omega, rfl⟩

set_option maxHeartbeats 400000 in
theorem isLetter_any (b : Int) (w : World) :
    Calls Tryz.prog 65 #[.int .i32 b] w fun e w' => e = .returned (.bool (Mill.letter b)) ∧ w = w' := by
  go_enter Tryz.func65, Tryz.ntmps65
  go_wp2
  all_goals go_ret
  all_goals exact ⟨by simp [Mill.letter, *] <;> omega, rfl⟩

set_option maxHeartbeats 400000 in
theorem isDigit_any (b : Int) (w : World) :
    Calls Tryz.prog 84 #[.int .i32 b] w fun e w' => e = .returned (.bool (Mill.digit b)) ∧ w = w' := by
  go_enter Tryz.func84, Tryz.ntmps84
  go_wp2
  all_goals go_ret
  all_goals exact ⟨by simp [Mill.digit, *] <;> omega, rfl⟩

set_option maxHeartbeats 400000 in
theorem l1Tail_any (b : Int) (w : World) :
    Calls Tryz.prog 60 #[.int .u8 b] w fun e w' => e = .returned (.bool (Mill.tail b)) ∧ w = w' := by
  cases h1 : Mill.letter b <;> cases h2 : Mill.digit b
  all_goals
    go_enter Tryz.func60, Tryz.ntmps60
    go_wp2_with (first | (go_at_call 58; refine (l1Letter_any _ _).mono ?_; rintro e w' ⟨rfl, rfl⟩; rw [h1]) | (go_at_call 78; refine (l1Digit_any _ _).mono ?_; rintro e w' ⟨rfl, rfl⟩; rw [h2]))
    all_goals go_ret
    all_goals exact ⟨by simp [Mill.tail, *], rfl⟩

set_option maxHeartbeats 400000 in
theorem l1TypeWord_any (b : Int) (w : World) :
    Calls Tryz.prog 22 #[.int .i64 b] w fun e w' => e = .returned (.string (Mill.typeWord b)) ∧ w = w' := by
  go_enter Tryz.func22, Tryz.ntmps22
  go_wp2
  all_goals go_ret
  all_goals exact ⟨by simp_all [Mill.typeWord], rfl⟩

set_option maxHeartbeats 400000 in
theorem l1BuiltWord_any (b : Int) (w : World) :
    Calls Tryz.prog 42 #[.int .i64 b] w fun e w' => e = .returned (.tuple #[.string (Mill.builtWord b), .int .i64 (Mill.builtKids b)]) ∧ w = w' := by
  go_enter Tryz.func42, Tryz.ntmps42
  go_wp2
  all_goals go_ret2
  all_goals exact ⟨by simp_all [Mill.builtWord, Mill.builtKids], rfl⟩

end Go.Proofs.YtkaoeoeloihigaaGreatDoor

namespace Go.Proofs.YtkaoeoeloihigaaGreatDoor
open Go.RowKit

def Mill.typeFrom (s : ByteArray) : Nat → Int → Int
  | 0, _ => 0
  | k + 1, t => if ((Mill.typeWord t).toList == s.toList) = true then t else Mill.typeFrom s k (t + 1)
def Mill.typeOf (s : ByteArray) : Int := Mill.typeFrom s 10 1

theorem Mill.ret_int {k : IntKind} {a b : Int} (h : a = b) : Ending.returned (.int k a) = .returned (.int k b) := by rw [h]
theorem Mill.ret_bool {a b : Bool} (h : a = b) : Ending.returned (.bool a) = .returned (.bool b) := by rw [h]

set_option maxHeartbeats 400000 in
theorem l1Type_any (s : ByteArray) (w : World) :
    Calls Tryz.prog 76 #[.string s] w fun e w' => e = .returned (.int .i64 (Mill.typeOf s)) ∧ w = w' := by
  go_enter Tryz.func76, Tryz.ntmps76
  go_wp2
  go_loop [3] (fun t => ∃ k : Nat, k ≤ 10 ∧ t = .int .i64 ((k : Int) + 1) ∧ Mill.typeFrom s (10 - k) ((k : Int) + 1) = Mill.typeOf s) (fun t => 11 - (intOf t).toNat)
  case atStart => exact ⟨0, by omega, rfl, rfl⟩
  case round =>
    obtain ⟨k, hk, rfl, hf⟩ := hrel
    by_cases hlt : k < 10
    · obtain ⟨j, hj⟩ : ∃ j, 10 - k = j + 1 := ⟨9 - k, by omega⟩
      by_cases hc : ((Mill.typeWord ((k : Int) + 1)).toList == s.toList) = true
      · have HF : Hid ((k : Int) + 1 = Mill.typeOf s) := by rw [hj, Mill.typeFrom, if_pos hc] at hf; exact hf
        clear hf hj
        go_wp2_with (go_at_call 22; refine (l1TypeWord_any _ _).mono ?_; rintro e w' ⟨rfl, rfl⟩)
        go_ret
        exact ⟨Mill.ret_int HF.out, rfl⟩
      · have HF : Hid (Mill.typeFrom s (10 - (k + 1)) ((k : Int) + 1 + 1) = Mill.typeOf s) := by
          rw [hj, Mill.typeFrom, if_neg hc] at hf
          rw [show 10 - (k + 1) = j by omega]; exact hf
        have hc' : ((Mill.typeWord ((k : Int) + 1)).toList == s.toList) = false := by simpa using hc
        clear hf hj hc
        go_wp2_with (go_at_call 22; refine (l1TypeWord_any _ _).mono ?_; rintro e w' ⟨rfl, rfl⟩)
        go_round
        case rel => exact ⟨k + 1, by omega, by go_num, by rw [show ((k + 1 : Nat) : Int) + 1 = (k : Int) + 1 + 1 by omega]; exact HF.out⟩
        case measure => simp [intOf]; omega
    · have h0 : k = 10 := by omega
      subst h0
      have HF : Hid (0 = Mill.typeOf s) := hf
      clear hf
      go_wp2
      go_ret
      exact ⟨Mill.ret_int HF.out, rfl⟩
def Mill.builtIn (s : ByteArray) : Nat → Int → Bool
  | 0, _ => false
  | k + 1, t => ((Mill.builtWord t).toList == s.toList) || Mill.builtIn s k (t + 1)
def Mill.strOf (l : List UInt8) : Value := .string ⟨l.toArray⟩
def Mill.plainCells : Array Value := (Mill.plainWords.map Mill.strOf).toArray
def Mill.taken (s : ByteArray) : Bool := (Mill.typeOf s != 0) || Mill.builtIn s 12 1 || Mill.plainWords.any (fun p => p == s.toList)

set_option maxHeartbeats 400000 in
theorem l1Plain_any (w : World) :
    Calls Tryz.prog 77 #[] w fun e w' => e = .returned (.slice (some ⟨w.heap.size, 0, none⟩) 13 13) ∧ w' = w.alloc (.cells Mill.plainCells 9) := by
  go_enter Tryz.func77, Tryz.ntmps77
  go_wp2
  go_ret
  exact ⟨rfl, rfl⟩

end Go.Proofs.YtkaoeoeloihigaaGreatDoor

namespace Go.Proofs.YtkaoeoeloihigaaGreatDoor
open Go.RowKit

theorem Mill.plain_cell (w : World) (k : Nat) (p : List UInt8) (h : Mill.plainWords[k]? = some p) : (w.alloc (.cells Mill.plainCells 9)).cell? ⟨w.heap.size, k, none⟩ = some (Mill.strOf p) := by
  rw [cell_of_row _ _ _ Mill.plainCells 9 (0, 0) (heap_alloc_new w _)]
  simp [Mill.plainCells, h]

set_option maxHeartbeats 1000000 in
theorem l1Taken_any (s : ByteArray) (w : World) :
    Calls Tryz.prog 59 #[.string s] w fun e w' => e = .returned (.bool (Mill.taken s)) ∧ Below w.heap.size w w' := by
  by_cases h0 : (Mill.typeOf s != 0) = true
  · go_enter Tryz.func59, Tryz.ntmps59
    go_wp2_with (go_at_call 76; refine (l1Type_any _ _).mono ?_; rintro e w' ⟨rfl, rfl⟩)
    go_ret
    exact ⟨by simp [Mill.taken, h0], Below.refl _ _⟩
  have h1 : (Mill.typeOf s != 0) = false := by simpa using h0
  have HT : Hid (Mill.taken s = (Mill.builtIn s 12 1 || Mill.plainWords.any (fun p => p == s.toList))) := by simp [Hid, Mill.taken, h1]
  clear h0
  go_enter Tryz.func59, Tryz.ntmps59
  go_wp2_with (go_at_call 76; refine (l1Type_any _ _).mono ?_; rintro e w' ⟨rfl, rfl⟩)
  go_loop [3, 4, 5] (fun t _ _ => ∃ k : Nat, k ≤ 12 ∧ t = .int .i64 ((k : Int) + 1) ∧ Mill.builtIn s (12 - k) ((k : Int) + 1) = Mill.builtIn s 12 1) (fun t _ _ => 13 - (intOf t).toNat)
  case atStart => exact ⟨0, by omega, rfl, rfl⟩
  case round =>
    obtain ⟨k, hk, rfl, hf⟩ := hrel
    by_cases hlt : k < 12
    · obtain ⟨j, hj⟩ : ∃ j, 12 - k = j + 1 := ⟨11 - k, by omega⟩
      by_cases hc : ((Mill.builtWord ((k : Int) + 1)).toList == s.toList) = true
      · have HF : Hid (Mill.taken s = true) := by rw [hj, Mill.builtIn, hc] at hf; rw [Hid, HT.out, ← hf]; rfl
        clear hf hj
        go_wp2_with (go_at_call 42; refine (l1BuiltWord_any _ _).mono ?_; rintro e w' ⟨rfl, rfl⟩)
        go_ret
        exact ⟨Mill.ret_bool HF.out.symm, Below.refl _ _⟩
      · have hc' : ((Mill.builtWord ((k : Int) + 1)).toList == s.toList) = false := by simpa using hc
        have HF : Hid (Mill.builtIn s (12 - (k + 1)) ((k : Int) + 1 + 1) = Mill.builtIn s 12 1) := by
          rw [hj, Mill.builtIn, hc'] at hf
          rw [show 12 - (k + 1) = j by omega]; exact hf
        clear hf hj hc
        go_wp2_with (go_at_call 42; refine (l1BuiltWord_any _ _).mono ?_; rintro e w' ⟨rfl, rfl⟩)
        go_round
        case rel => exact ⟨k + 1, by omega, by go_num, by rw [show ((k + 1 : Nat) : Int) + 1 = (k : Int) + 1 + 1 by omega]; exact HF.out⟩
        case measure => simp [intOf]; omega
    · have h0 : k = 12 := by omega
      subst h0
      have HF : Hid (Mill.taken s = Mill.plainWords.any (fun p => p == s.toList)) := by
        rw [Hid, HT.out, ← hf]; rfl
      clear hf HT
      have hcell := fun k p => Mill.plain_cell w k p
      go_wp2_with (go_at_call 77; refine (l1Plain_any _).mono ?_; rintro e w' ⟨rfl, rfl⟩)
      go_loop [7] (fun t => ∃ k : Nat, k ≤ 13 ∧ t = .int .i64 (k : Int) ∧ (Mill.plainWords.drop k).any (fun p => p == s.toList) = Mill.plainWords.any (fun p => p == s.toList)) (fun t => 13 - (intOf t).toNat)
      case atStart => exact ⟨0, by omega, rfl, rfl⟩
      case round =>
        obtain ⟨k, hk, rfl, hf⟩ := hrel
        by_cases hlt : k < 13
        · have hlt2 : k < Mill.plainWords.length := hlt
          have hp : Mill.plainWords[k]? = some Mill.plainWords[k] := List.getElem?_eq_getElem hlt2
          have hd : Mill.plainWords.drop k = Mill.plainWords[k] :: Mill.plainWords.drop (k + 1) := List.drop_eq_getElem_cons hlt2
          generalize Mill.plainWords[k] = p at *
          have hcl := hcell k p hp
          clear hcell hp
          rw [hd, List.any_cons] at hf
          have hsl : (⟨p.toArray⟩ : ByteArray).toList = p := by rw [ByteArray.toList_eq]
          by_cases hc : (p == s.toList) = true
          · have HF2 : Hid (Mill.taken s = true) := by rw [hc] at hf; rw [Hid, HF.out, ← hf]; rfl
            clear hf hd
            simp only [Mill.strOf] at hcl
            go_wp2
            go_ret
            exact ⟨Mill.ret_bool HF2.out.symm, (Below.refl _ _).alloc (Nat.le_refl _) _⟩
          · have hc' : (p == s.toList) = false := by simpa using hc
            have HF2 : Hid ((Mill.plainWords.drop (k + 1)).any (fun p => p == s.toList) = Mill.plainWords.any (fun p => p == s.toList)) := by rw [hc'] at hf; exact hf
            clear hf hd hc
            simp only [Mill.strOf] at hcl
            go_wp2
            go_round
            case rel => exact ⟨k + 1, by omega, by go_num, HF2.out⟩
            case measure => simp [intOf]; omega
        · have h0 : k = 13 := by omega
          subst h0
          have HF2 : Hid (Mill.taken s = false) := by rw [Hid, HF.out, ← hf]; rfl
          clear hf hcell
          go_wp2
          go_ret
          exact ⟨Mill.ret_bool HF2.out.symm, (Below.refl _ _).alloc (Nat.le_refl _) _⟩

end Go.Proofs.YtkaoeoeloihigaaGreatDoor

namespace Go.Proofs.YtkaoeoeloihigaaGreatDoor
open Go.RowKit

theorem Mill.tw_step {α : Type} (p : α → Bool) : ∀ (l : List α) (k : Nat) (h : k < l.length), k ≤ (l.takeWhile p).length → p l[k] = true → k + 1 ≤ (l.takeWhile p).length
  | [], k, h, _, _ => by simp at h
  | a :: r, 0, _, _, hp => by simp at hp; simp [hp]
  | a :: r, k + 1, h, hk, hp => by
    cases ha : p a with
    | false => simp [ha] at hk
    | true =>
      simp [ha] at hk ⊢
      simp at hp
      exact Mill.tw_step p r k (by simpa using h) hk hp
theorem Mill.tw_stop {α : Type} (p : α → Bool) : ∀ (l : List α) (k : Nat), k ≤ (l.takeWhile p).length → (∀ (h : k < l.length), p l[k] = false) → k = (l.takeWhile p).length
  | [], k, hk, _ => by simp at hk; simp [hk]
  | a :: r, 0, _, hp => by have := hp (by simp); simp at this; simp [this]
  | a :: r, k + 1, hk, hp => by
    cases ha : p a with
    | false => simp [ha] at hk
    | true =>
      simp [ha] at hk ⊢
      exact Mill.tw_stop p r k hk (fun h => by have := hp (by simpa using h); simpa using this)
theorem Mill.tw_le {α : Type} (p : α → Bool) (l : List α) : (l.takeWhile p).length ≤ l.length := List.Sublist.length_le (List.takeWhile_sublist p)

def Mill.bits (b : Int) : Int := if b = 3 ∨ b = 7 then 8 else if b = 4 ∨ b = 8 then 16 else if b = 5 ∨ b = 9 then 32 else 64
def Mill.maxBits (b : Int) : Int := if 7 ≤ b ∧ b ≤ 10 then Mill.bits b - 1 else Mill.bits b
def Mill.maxOf (b : Int) : Int := (2 : Int) ^ (Mill.maxBits b).toNat - 1

set_option maxHeartbeats 400000 in
theorem l1Bits_any (b : Int) (w : World) :
    Calls Tryz.prog 61 #[.int .i64 b] w fun e w' => e = .returned (.int .i64 (Mill.bits b)) ∧ w = w' := by
  go_enter Tryz.func61, Tryz.ntmps61
  go_wp2
  all_goals go_ret
  all_goals exact ⟨by simp_all [Mill.bits], rfl⟩

theorem Mill.bits_bd (b : Int) : 8 ≤ Mill.bits b ∧ Mill.bits b ≤ 64 := by
  unfold Mill.bits; split <;> (try split) <;> (try split) <;> omega

theorem Mill.pow_step (k : Nat) : ((2 : Int) ^ k - 1) * 2 + 1 = (2 : Int) ^ (k + 1) - 1 := by rw [Int.pow_succ]; omega
theorem Mill.pow_pos (k : Nat) : 1 ≤ (2 : Int) ^ k := by
  induction k with
  | zero => simp
  | succ k ih => rw [Int.pow_succ]; omega
theorem Mill.pow_le (k n : Nat) (h : k ≤ n) : (2 : Int) ^ k ≤ (2 : Int) ^ n := by
  induction n with
  | zero => have : k = 0 := by omega
            subst this; exact Int.le_refl _
  | succ n ih =>
    by_cases hk : k = n + 1
    · subst hk; exact Int.le_refl _
    · have := ih (by omega); have := Mill.pow_pos n; rw [Int.pow_succ]; omega
theorem Mill.pow_bd (k : Nat) (h : k ≤ 63) : (2 : Int) ^ k - 1 ≤ 9223372036854775807 := by
  have := Mill.pow_le k 63 h
  have e : (2 : Int) ^ 63 = 9223372036854775808 := by decide
  omega


theorem l1Max_aux (b : Int) (n : Nat) (hn : n ≤ 64) (w : World)
    (hm : (n : Int) = Mill.maxBits b) : Calls Tryz.prog 39 #[.int .i64 b] w fun e w' => e = .returned (.int .u64 (Mill.maxOf b)) ∧ w = w' := by
  have hb1 := (Mill.bits_bd b).1
  have hb2 := (Mill.bits_bd b).2
  have HM : Hid ((2 : Int) ^ n - 1 = Mill.maxOf b) := by simp only [Hid, Mill.maxOf, ← hm, Int.toNat_natCast]
  by_cases hs : 7 ≤ b ∧ b ≤ 10
  all_goals
    first
    | (have hs1 : (decide (7 ≤ b) && decide (b ≤ 10)) = true := by simp [hs])
    | (have hs1 : (decide (7 ≤ b) && decide (b ≤ 10)) = false := by simp; omega)
    first
    | (have HN : Hid (Mill.bits b - 1 = (n : Int)) := by simp only [Mill.maxBits, if_pos hs] at hm; simp only [Hid, hm])
    | (have HN : Hid (Mill.bits b = (n : Int)) := by simp only [Mill.maxBits, if_neg hs] at hm; simp only [Hid, hm])
    clear hm hs
    go_enter Tryz.func39, Tryz.ntmps39
    go_wp2_with (first | (go_at_call 61; refine (l1Bits_any _ _).mono ?_; rintro e w' ⟨rfl, rfl⟩) | (go_at_call 62; refine (l1Signed_any _ _).mono ?_; rintro e w' ⟨rfl, rfl⟩; rw [hs1]))
    simp only [HN.out]
    go_loop [4, 5] (fun m i => ∃ k : Nat, k ≤ n ∧ i = .int .i64 (k : Int) ∧ m = .int .u64 ((2 : Int) ^ k - 1)) (fun _ i => n - (intOf i).toNat)
    case atStart => exact ⟨0, by omega, rfl, rfl⟩
    case round =>
      obtain ⟨k, hk, rfl, rfl⟩ := hrel
      by_cases hlt : k < n
      · have h1 := Mill.pow_pos k
        have h2 := Mill.pow_bd k (by omega)
        have HP : Hid (((2 : Int) ^ k - 1) * 2 + 1 = (2 : Int) ^ (k + 1) - 1) := Mill.pow_step k
        have h0 : 0 ≤ (2 : Int) ^ k - 1 := by omega
        clear h1
        generalize hg : (2 : Int) ^ k - 1 = m at *
        have HG := hg
        clear hg
        go_wp2
        go_round
        case rel => exact ⟨k + 1, by omega, by go_num, by rw [← HP.out]⟩
        case measure => simp [intOf]; omega
      · have h0 : k = n := by omega
        subst h0
        go_wp2
        go_ret
        exact ⟨Mill.ret_int HM.out, rfl⟩
theorem Mill.maxBits_bd (b : Int) : 7 ≤ Mill.maxBits b ∧ Mill.maxBits b ≤ 64 := by
  have := Mill.bits_bd b
  unfold Mill.maxBits; split <;> omega
theorem l1Max_any (b : Int) (w : World) :
    Calls Tryz.prog 39 #[.int .i64 b] w fun e w' => e = .returned (.int .u64 (Mill.maxOf b)) ∧ w = w' :=
  have h := Mill.maxBits_bd b
  l1Max_aux b (Mill.maxBits b).toNat (by omega) w (by omega)
theorem Mill.maxOf_bd (b : Int) : 127 ≤ Mill.maxOf b ∧ Mill.maxOf b ≤ 18446744073709551615 := by
  have h := Mill.maxBits_bd b
  have h1 := Mill.pow_le 7 (Mill.maxBits b).toNat (by omega)
  have h2 := Mill.pow_le (Mill.maxBits b).toNat 64 (by omega)
  have e1 : (2 : Int) ^ 7 = 128 := by decide
  have e2 : (2 : Int) ^ 64 = 18446744073709551616 := by decide
  unfold Mill.maxOf
  omega

end Go.Proofs.YtkaoeoeloihigaaGreatDoor
