import Derived.Test.YtdapajkckocmbaaJobB
import Derived.Deep.QuietTactic
import Derived.BigQuiet
import Derived.Laws.Cover1
namespace Go.Proofs.Ytdapajkckocmbaa
open Go.RowKit

def Jb.okI (xs : List ByteArray) (i : Nat) : Bool :=
  match xs[i]? with
  | none => true
  | some x => Jb.name x && (match i with | 0 => true | k + 1 => (match xs[k]? with | none => true | some y => Op.bytesLess y.toList x.toList))
def Jb.okN (xs : List ByteArray) : Nat → Bool
  | 0 => true
  | n + 1 => Jb.okN xs n && Jb.okI xs n
def Jb.ok (a : ByteArray) (xs : List ByteArray) : Bool := decide ((a.size : Int) ≤ 3000) && decide (xs.length ≤ 20) && Jb.okN xs xs.length
theorem Jb.okN_no (xs : List ByteArray) (i n : Nat) (h : i < n) (hi : Jb.okI xs i = false) : Jb.okN xs n = false := by
  induction n with
  | zero => omega
  | succ n ih =>
    rw [Jb.okN]
    by_cases e : i = n
    · subst e; rw [hi, Bool.and_false]
    · rw [ih (by omega), Bool.false_and]
theorem Jb.ok_long (a : ByteArray) (xs : List ByteArray) (h : ¬ ((a.size : Int) ≤ 3000)) : Jb.ok a xs = false := by unfold Jb.ok; simp only [h, decide_false, Bool.false_and]
theorem Jb.ok_many (a : ByteArray) (xs : List ByteArray) (h : ¬ (xs.length ≤ 20)) : Jb.ok a xs = false := by unfold Jb.ok; simp only [h, decide_false, Bool.and_false, Bool.false_and]
theorem Jb.ok_is (a : ByteArray) (xs : List ByteArray) (h0 : (a.size : Int) ≤ 3000) (h : xs.length ≤ 20) : Jb.ok a xs = Jb.okN xs xs.length := by unfold Jb.ok; simp only [h0, h, decide_true, Bool.true_and]
theorem Jb.quiet {P : Program} {f : FuncId} {args : Array Value} {w : World} {n : Nat} {v : Value}
    (h : Calls P f args (w.drewN n) fun e w' => e = .returned v ∧ w.drewN n = w') : Calls P f args (w.drewN n) fun e w'' => e = .returned v ∧ ∃ m, w'' = w.drewN m :=
  h.mono fun _ _ ⟨he, hm⟩ => ⟨he, n, hm.symm⟩
theorem Jb.below_drewN {B : Nat} {a w : World} (n : Nat) (h : Below B a w) : Below B a (w.drewN n) := ⟨h.os, h.tape, h.output, h.size, h.block⟩
theorem Jb.path_is (s : ByteArray) (b : Bool) (h : Hid (Jb.name s = b)) (hs : s.size ≤ 1048576) (w : World) : Calls Try.prog 35 #[.string s] w fun e w' => e = .returned (.bool b) ∧ w = w' := by
  rw [← h.out]; exact Jb.path_any s hs w
theorem Jb.file_is (s : ByteArray) (b : Bool) (h : Hid (Jb.name s = b)) (hs : s.size ≤ 1048576) (w : World) : Calls Try.prog 63 #[.string s] w fun e w' => e = .returned (.bool b) ∧ w = w' := by
  rw [← h.out]; exact Jb.file_any s hs w
theorem Jb.less_le (x y : List UInt8) : (Op.bytesLess x y || x == y) = !Op.bytesLess y x := by
  induction x generalizing y with
  | nil => cases y with
    | nil => rfl
    | cons b s => rfl
  | cons a r ih => cases y with
    | nil => rfl
    | cons b s =>
      have h := ih s
      simp only [Op.bytesLess]
      by_cases h1 : a = b
      · subst h1
        have e1 : decide (a < a) = false := by simp
        simp only [e1, Bool.false_or, BEq.rfl, Bool.true_and, List.cons_beq_cons]
        exact h
      · have e1 : (a == b) = false := by simpa using h1
        have e2 : (b == a) = false := by simpa using fun e => h1 e.symm
        simp only [e1, e2, Bool.false_and, Bool.or_false, List.cons_beq_cons]
        have h1' : a.toNat ≠ b.toNat := fun e => h1 (UInt8.toNat_inj.1 e)
        by_cases h2 : a < b
        · have h3 : ¬ b < a := by rw [UInt8.lt_iff_toNat_lt] at *; omega
          simp [h2, h3]
        · have h3 : b < a := by rw [UInt8.lt_iff_toNat_lt] at *; omega
          simp [h2, h3]
theorem Jb.okI_name {xs : List ByteArray} {i : Nat} (hi : i < xs.length) (h : Jb.name xs[i] = false) : Jb.okI xs i = false := by
  unfold Jb.okI; rw [List.getElem?_eq_getElem hi]; simp only [h, Bool.false_and]
theorem Jb.okI_zero {xs : List ByteArray} (hi : 0 < xs.length) (h : Jb.name xs[0] = true) : Jb.okI xs 0 = true := by
  unfold Jb.okI; rw [List.getElem?_eq_getElem hi]; simp only [h, Bool.true_and]
theorem Jb.okI_succ {xs : List ByteArray} {k : Nat} (hi : k + 1 < xs.length) (h : Jb.name xs[k + 1] = true) : Jb.okI xs (k + 1) = Op.bytesLess (xs[k]'(by omega)).toList xs[k + 1].toList := by
  unfold Jb.okI; rw [List.getElem?_eq_getElem hi]; simp only [h, Bool.true_and]; rw [List.getElem?_eq_getElem (by omega : k < xs.length)]
end Go.Proofs.Ytdapajkckocmbaa
