import Derived.Test.YtkaoeoeloihigaaGreatDoorVScanA
namespace Go.Proofs.YtkaoeoeloihigaaGreatDoor
open Go.RowKit

def Mill.isDig (c : UInt8) : Bool := Mill.digit (c.toNat : Int)
def Mill.digLen (l : List UInt8) : Nat := (l.takeWhile Mill.isDig).length
def Mill.numOf (mx : Int) : List UInt8 → Int → Option Int
  | [], n => some n
  | c :: r, n => if (mx - ((c.toNat : Int) - 48)) / 10 < n then none else Mill.numOf mx r (n * 10 + ((c.toNat : Int) - 48))
def Mill.numType (s : ByteArray) (k : Nat) : Int := if k < s.size then Mill.typeOf (s.extract k s.size) else 10
def Mill.intBad (s : ByteArray) (k : Nat) (t : Int) : Bool := !(decide (3 ≤ t) && decide (t ≤ 10)) || decide (20 < k) || (decide (1 < k) && (s.data.toList.head? == some 48))
def Mill.intRead (s : ByteArray) : Option (Int × Int) :=
  if Mill.intBad s (Mill.digLen s.data.toList) (Mill.numType s (Mill.digLen s.data.toList)) = true then none
  else (Mill.numOf (Mill.maxOf (Mill.numType s (Mill.digLen s.data.toList))) (s.data.toList.take (Mill.digLen s.data.toList)) 0).map (fun n => (Mill.numType s (Mill.digLen s.data.toList), n))
def Mill.intVal (o : Option (Int × Int)) : Value := match o with
  | none => .tuple #[.int .i64 0, .int .i64 0, .bool false]
  | some (t, n) => .tuple #[.int .i64 t, .int .i64 (wrap64 n), .bool true]

theorem Mill.digLen_le (s : ByteArray) : Mill.digLen s.data.toList ≤ s.size := by have := Mill.tw_le Mill.isDig s.data.toList; simpa [Mill.digLen] using this
theorem Mill.dig_step (s : ByteArray) (k : Nat) (h : k < s.size) (hk : k ≤ Mill.digLen s.data.toList) (hd : Mill.digit (s[k].toNat : Int) = true) : k + 1 ≤ Mill.digLen s.data.toList :=
  Mill.tw_step Mill.isDig s.data.toList k (by simpa using h) hk hd
theorem Mill.dig_stop (s : ByteArray) (k : Nat) (hk : k ≤ Mill.digLen s.data.toList) (hd : ∀ h : k < s.size, Mill.digit (s[k].toNat : Int) = false) : k = Mill.digLen s.data.toList :=
  Mill.tw_stop Mill.isDig s.data.toList k hk (fun h => hd (by simpa using h))
theorem Mill.dig_at (s : ByteArray) (k : Nat) (h : k < s.size) (hk : k < Mill.digLen s.data.toList) : Mill.digit (s[k].toNat : Int) = true := by
  by_cases hd : Mill.digit (s[k].toNat : Int) = true
  · exact hd
  · have := Mill.dig_stop s k (by omega) (fun _ => by simpa using hd)
    omega

theorem Mill.num_drop (s : ByteArray) (k j : Nat) (hk : k ≤ s.size) (hj : j < k) : (s.data.toList.take k).drop j = s[j] :: (s.data.toList.take k).drop (j + 1) := by
  rw [List.drop_eq_getElem_cons (by simp; omega)]
  simp [List.getElem_take]
  rfl
theorem Mill.num_bad (mx m : Int) (c : UInt8) (r : List UInt8) (h : (mx - ((c.toNat : Int) - 48)) / 10 < m) : Mill.numOf mx (c :: r) m = none := by rw [Mill.numOf, if_pos h]
theorem Mill.num_ok (mx m : Int) (c : UInt8) (r : List UInt8) (h : ¬ (mx - ((c.toNat : Int) - 48)) / 10 < m) : Mill.numOf mx (c :: r) m = Mill.numOf mx r (m * 10 + ((c.toNat : Int) - 48)) := by rw [Mill.numOf, if_neg h]
theorem Mill.ret_none {v : Value} (o : Option (Int × Int)) (h : o = none) (hv : v = .tuple #[.int .i64 0, .int .i64 0, .bool false]) : Ending.returned v = .returned (Mill.intVal o) := by rw [h, hv]; rfl
theorem Mill.digit_bd {b : Int} (h : Mill.digit b = true) : 48 ≤ b ∧ b ≤ 57 := by simpa [Mill.digit] using h
theorem Mill.head_eq (s : ByteArray) (h : 0 < s.size) : s.data.toList.head? = some s[0] := by
  rw [List.head?_eq_getElem?, List.getElem?_eq_getElem (by simpa using h)]; rfl

end Go.Proofs.YtkaoeoeloihigaaGreatDoor
