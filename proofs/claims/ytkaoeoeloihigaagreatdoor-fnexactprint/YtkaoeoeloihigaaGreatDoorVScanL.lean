import Derived.Test.YtkaoeoeloihigaaGreatDoorVScanI
import Derived.Deep.RegionWith
namespace Go.Proofs.YtkaoeoeloihigaaGreatDoor
open Go.RowKit

def Mill.digs : Nat → Int → ByteArray → ByteArray
  | 0, _, out => out
  | f + 1, k, out => if 0 < k then Mill.digs f (k / 10) (⟨#[UInt8.ofNat (48 + k % 10).toNat]⟩ ++ out) else out
def Mill.mark (k : Int) : ByteArray := ⟨#[109]⟩ ++ Mill.digs (k.toNat + 1) k ⟨#[]⟩
theorem Mill.digs_pos (f : Nat) (k : Int) (out : ByteArray) (h : 0 < k) : Mill.digs (f + 1) k out = Mill.digs f (k / 10) (⟨#[UInt8.ofNat (48 + k % 10).toNat]⟩ ++ out) := by rw [Mill.digs, if_pos h]
theorem Mill.digs_zero (f : Nat) (k : Int) (out : ByteArray) (h : ¬ 0 < k) : Mill.digs f k out = out := by
  cases f with
  | zero => rfl
  | succ f => rw [Mill.digs, if_neg h]

theorem Mill.size_one (x : UInt8) : (⟨#[x]⟩ : ByteArray).size = 1 := rfl
theorem Mill.size_app (a b : ByteArray) : (a ++ b).size = a.size + b.size := ByteArray.size_append
theorem Mill.conv_one (w : World) (x : Int) (h0 : 0 ≤ x) (h1 : x ≤ 255) :
    Sem.run Tryz.prog (convert 41 9 (.slice (some ⟨w.heap.size, 0, none⟩) 1 1)) (w.alloc (.cells #[.int .u8 x] 5)) = .ok (.string ⟨#[UInt8.ofNat x.toNat]⟩) (w.alloc (.cells #[.int .u8 x] 5)) := by
  refine run_convert_bytes_back (P := Tryz.prog) (w.alloc (.cells #[.int .u8 x] 5)) 41 9 5 ⟨w.heap.size, 0, none⟩ 1 [UInt8.ofNat x.toNat] Tryz.underlying41 Tryz.underlying5 Tryz.underlying9 ?_
  intro j hj
  have hj0 : j = 0 := by simp at hj; omega
  subst hj0
  refine Mill.cell_new w #[.int .u8 x] 5 0 _ ?_
  simp only [List.getElem_cons_zero, Mill.ofNat_toNat x h0 h1]; rfl

end Go.Proofs.YtkaoeoeloihigaaGreatDoor

namespace Go.Proofs.YtkaoeoeloihigaaGreatDoor
open Go.RowKit

theorem Mill.own_form {w : World} {B e size n : Nat} {v : Value} {xs : List Value} (h : w.ownsRow B e size v n xs) (hn : 0 < n) : ∃ g cap, v = .slice (some ⟨g, 0, none⟩) n cap ∧ B ≤ g ∧ g < w.heap.size := by
  rcases h.2 with ⟨_, h0⟩ | ⟨g, cap, cur, rfl, hg, hgg, _⟩
  · omega
  · exact ⟨g, cap, rfl, hg, (Array.getElem?_eq_some_iff.1 hgg).1⟩
theorem Mill.own_len {w : World} {B e size n : Nat} {v : Value} {xs : List Value} (h : w.ownsRow B e size v n xs) : ∃ a cap, v = .slice a n cap := by
  rcases h.2 with ⟨rfl, h0⟩ | ⟨g, cap, cur, rfl, _⟩
  · exact ⟨none, 0, by rw [h0]⟩
  · exact ⟨_, _, rfl⟩

theorem Mill.tokCs_length (ts : List (Mill.Piece × Nat)) : (Mill.tokCs ts).length = ts.length * 5 := by
  induction ts with
  | nil => rfl
  | cons t r ih => simp [Mill.tokCs, Mill.tokC] at ih ⊢; omega
theorem Mill.tokCs_at (ts : List (Mill.Piece × Nat)) (i : Nat) (h : i < ts.length) (j : Nat) (hj : j < 5) : (Mill.tokCs ts)[i * 5 + j]? = (Mill.tokC ts[i])[j]? := by
  induction ts generalizing i with
  | nil => simp at h
  | cons t r ih =>
    cases i with
    | zero =>
      simp only [Mill.tokCs, List.flatMap_cons, Nat.zero_mul, Nat.zero_add]
      rw [List.getElem?_append_left (by simp [Mill.tokC]; omega)]; rfl
    | succ i =>
      simp only [Mill.tokCs, List.flatMap_cons]
      rw [List.getElem?_append_right (by simp [Mill.tokC]; omega)]
      have e : (i + 1) * 5 + j - (Mill.tokC t).length = i * 5 + j := by simp [Mill.tokC]; omega
      rw [e]
      exact ih i (by simpa using h)

end Go.Proofs.YtkaoeoeloihigaaGreatDoor

namespace Go.Proofs.YtkaoeoeloihigaaGreatDoor
open Go.RowKit

def Mill.mk5 (c : Nat) (k : Int) (xs : List Value) : List Value := ((((xs.set c (.int .i64 k)).set (c + 1) (.string (Mill.mark (k + 1)))).set (c + 2) (.int .i64 (k + 1 + 1))).set (c + 3) (.int .i64 (k + 1 + 1 + 1))).set (c + 4) (.int .i64 (k + 1 + 1 + 1 + 1))
def Mill.markTo (k : Int) : Nat → List Value → List Value
  | 0, xs => xs
  | i + 1, xs => Mill.mk5 (i * 5) (k + 5 * (i : Int)) (Mill.markTo k i xs)
theorem Mill.markTo_length (k : Int) (i : Nat) (xs : List Value) : (Mill.markTo k i xs).length = xs.length := by
  induction i with
  | zero => rfl
  | succ i ih => simp [Mill.markTo, Mill.mk5, ih]
def Mill.five (k : Int) : List Value := [.int .i64 k, .string (Mill.mark (k + 1)), .int .i64 (k + 1 + 1), .int .i64 (k + 1 + 1 + 1), .int .i64 (k + 1 + 1 + 1 + 1)]
theorem Mill.mk5_other (c : Nat) (k : Int) (xs : List Value) (j : Nat) (h : j < c ∨ c + 4 < j) : (Mill.mk5 c k xs)[j]? = xs[j]? := by
  unfold Mill.mk5
  rw [List.getElem?_set_ne (by omega), List.getElem?_set_ne (by omega), List.getElem?_set_ne (by omega), List.getElem?_set_ne (by omega), List.getElem?_set_ne (by omega)]
theorem Mill.mk5_at (c : Nat) (k : Int) (xs : List Value) (hc : c + 5 ≤ xs.length) (j : Nat) (hj : j < 5) : (Mill.mk5 c k xs)[c + j]? = (Mill.five k)[j]? := by
  unfold Mill.mk5
  match j, hj with
  | 0, _ => rw [List.getElem?_set_ne (by omega), List.getElem?_set_ne (by omega), List.getElem?_set_ne (by omega), List.getElem?_set_ne (by omega)]; rw [Nat.add_zero, List.getElem?_set_self (by omega)]; rfl
  | 1, _ => rw [List.getElem?_set_ne (by omega), List.getElem?_set_ne (by omega), List.getElem?_set_ne (by omega)]; rw [List.getElem?_set_self (by simp; omega)]; rfl
  | 2, _ => rw [List.getElem?_set_ne (by omega), List.getElem?_set_ne (by omega)]; rw [List.getElem?_set_self (by simp; omega)]; rfl
  | 3, _ => rw [List.getElem?_set_ne (by omega)]; rw [List.getElem?_set_self (by simp; omega)]; rfl
  | 4, _ => rw [List.getElem?_set_self (by simp; omega)]; rfl
theorem Mill.markTo_at (k : Int) (n : Nat) (xs : List Value) (hn : n * 5 ≤ xs.length) (i : Nat) (hi : i < n) (j : Nat) (hj : j < 5) : (Mill.markTo k n xs)[i * 5 + j]? = (Mill.five (k + 5 * (i : Int)))[j]? := by
  induction n with
  | zero => omega
  | succ n ih =>
    rw [Mill.markTo]
    by_cases h : i = n
    · subst h
      exact Mill.mk5_at _ _ _ (by rw [Mill.markTo_length]; omega) j hj
    · rw [Mill.mk5_other _ _ _ _ (by omega)]
      exact ih (by omega) (by omega)

theorem Mill.own_some {w : World} {B e size n g cap : Nat} {xs : List Value} (h : w.ownsRow B e size (.slice (some ⟨g, 0, none⟩) n cap) n xs) (j : Nat) (hj : j < n * size) : ∃ y, w.cell? ⟨g, j, none⟩ = some y := by
  rw [h.cellAt j hj]; exact ⟨_, List.getElem?_eq_getElem (by rw [h.1]; exact hj)⟩

end Go.Proofs.YtkaoeoeloihigaaGreatDoor
