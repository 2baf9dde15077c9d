import Derived.Test.YtkaoeoeloihigaaGreatDoorVScanG
namespace Go.Proofs.YtkaoeoeloihigaaGreatDoor
open Go.RowKit

theorem Mill.marks_cell (w : World) (k : Nat) (p : List UInt8) (h : Mill.marks[k]? = some p) : (w.alloc (.cells Mill.marksCells 9)).cell? ⟨w.heap.size, k, none⟩ = some (Mill.strOf p) := by
  rw [cell_of_row _ _ _ Mill.marksCells 9 (0, 0) (heap_alloc_new w _)]
  simp [Mill.marksCells, h]
theorem Mill.mark_no (s : ByteArray) (at' : Nat) (m : List UInt8) (hat : at' < s.size) (h : ¬ at' + m.length ≤ s.size) : Mill.markAt (s.data.toList.drop at') m = false := by
  simp [Mill.markAt]; intro h2; omega
theorem Mill.mark_eq (s : ByteArray) (at' : Nat) (m : List UInt8) (h : at' + m.length ≤ s.size) : Mill.markAt (s.data.toList.drop at') m = ((s.extract at' (at' + m.length)).toList == m) := by
  rw [ByteArray.toList_eq, Lib.extract_data, show at' + m.length - at' = m.length by omega]
  simp [Mill.markAt]; omega

theorem Mill.mark_len (k : Nat) (m : List UInt8) (h : Mill.marks[k]? = some m) : m.length ≤ 2 := by
  have hm := List.mem_of_getElem? h
  have : ∀ x ∈ Mill.marks, x.length ≤ 2 := by decide
  exact this m hm

end Go.Proofs.YtkaoeoeloihigaaGreatDoor

namespace Go.Proofs.YtkaoeoeloihigaaGreatDoor
open Go.RowKit

theorem Mill.word_pos (b : UInt8) (r : List UInt8) (h : Mill.isTail b = true) : 1 ≤ (Mill.wordOf (b :: r)).length := by simp [Mill.wordOf, h]
theorem Mill.word_le (l : List UInt8) : (Mill.wordOf l).length ≤ l.length := Mill.tw_le _ _
theorem Mill.mark_pos (m : List UInt8) (h : m ∈ Mill.marks) : 1 ≤ m.length := by
  have : ∀ x ∈ Mill.marks, 1 ≤ x.length := by decide
  exact this m h
theorem Mill.one_size (b : UInt8) (r : List UInt8) (h0 : (Mill.one (b :: r)).code = 0) : 1 ≤ (Mill.one (b :: r)).size ∧ (Mill.one (b :: r)).size ≤ (b :: r).length := by
  revert h0
  simp only [Mill.one]
  by_cases h1 : Mill.letter (b.toNat : Int) = true
  · rw [if_pos h1]
    have hp := Mill.word_pos b r (by simp [Mill.isTail, Mill.tail, h1])
    have hl := Mill.word_le (b :: r)
    intro h0
    unfold Mill.nameP at h0 ⊢
    split
    · exact ⟨hp, hl⟩
    · split
      · rename_i h2 h3; rw [if_neg h2, if_pos h3] at h0; simp [Mill.bad] at h0
      · exact ⟨hp, hl⟩
  · rw [if_neg h1]
    by_cases h2 : Mill.digit (b.toNat : Int) = true
    · rw [if_pos h2]
      have hp := Mill.word_pos b r (by simp [Mill.isTail, Mill.tail, h2])
      have hl := Mill.word_le (b :: r)
      intro h0
      unfold Mill.intP at h0 ⊢
      split
      · rename_i h; rw [h] at h0; simp [Mill.bad] at h0
      · exact ⟨hp, hl⟩
    · rw [if_neg h2]
      by_cases h3 : b = 34
      · rw [if_pos h3]
        intro h0
        unfold Mill.textP at h0 ⊢
        split
        · rename_i h; rw [h] at h0; simp [Mill.bad] at h0
        · rename_i t r2 h
          rw [h] at h0
          have := Mill.unq_len _ _ _ _ _ (Nat.le_refl _) h
          simp at this
          split
          · rename_i h4; simp only [if_pos h4] at h0; simp [Mill.bad] at h0
          · simp; omega
      · rw [if_neg h3]
        intro h0
        unfold Mill.markP at h0 ⊢
        split
        · rename_i m h
          have hm := List.mem_of_find?_eq_some h
          have hq := List.find?_some h
          have := Mill.mark_pos m hm
          simp [Mill.markAt] at hq
          simp; omega
        · rename_i h; rw [h] at h0; simp [Mill.bad] at h0

def Mill.notNl (c : UInt8) : Bool := c != 10
def Mill.rem (l : List UInt8) : Nat := (l.takeWhile Mill.notNl).length
def Mill.scanL : Nat → List UInt8 → Nat → List (Mill.Piece × Nat) → List (Mill.Piece × Nat) × Int × Nat
  | 0, _, _, acc => (acc, 0, 0)
  | _ + 1, [], _, acc => (acc, 0, 0)
  | f + 1, b :: r, i, acc => if b = 32 ∨ b = 10 then Mill.scanL f r (i + 1) acc
      else if b = 35 then Mill.scanL f ((b :: r).drop (Mill.rem (b :: r))) (i + Mill.rem (b :: r)) acc
      else if (Mill.one (b :: r)).code ≠ 0 then ([], (Mill.one (b :: r)).code, i)
      else Mill.scanL f ((b :: r).drop (Mill.one (b :: r)).size) (i + (Mill.one (b :: r)).size) (acc ++ [(Mill.one (b :: r), i)])
def Mill.scan (s : ByteArray) : List (Mill.Piece × Nat) × Int × Nat := if 12000 < s.size then ([], 1, 0) else Mill.scanL (s.size + 1) s.data.toList 0 []
def Mill.tokC (t : Mill.Piece × Nat) : List Value := [.int .i64 t.1.kind, .string (Mill.ba t.1.text), .int .i64 t.1.type, .int .i64 t.1.n, .int .i64 (t.2 : Int)]
def Mill.tokCs (ts : List (Mill.Piece × Nat)) : List Value := ts.flatMap Mill.tokC
theorem Mill.tokCs_snoc (ts : List (Mill.Piece × Nat)) (t : Mill.Piece × Nat) : Mill.tokCs (ts ++ [t]) = Mill.tokCs ts ++ Mill.tokC t := by simp [Mill.tokCs]
def Mill.faultV (c : Int) (a : Nat) : Value := .agg #[.int .i64 c, .int .i64 (a : Int)]

theorem Mill.own_below {W W' : World} {B e size n : Nat} {v : Value} {xs : List Value} (h : W.ownsRow B e size v n xs) (hb : Below W.heap.size W W') : W'.ownsRow B e size v n xs := by
  refine ⟨h.1, ?_⟩
  rcases h.2 with hn | ⟨g, cap, cur, hv, hg, hgg, rest⟩
  · exact .inl hn
  · exact .inr ⟨g, cap, cur, hv, hg, by rw [hb.block g (Array.getElem?_eq_some_iff.1 hgg).1]; exact hgg, rest⟩
theorem Mill.cell_new (w : World) (cs : Array Value) (t : TypeId) (j : Nat) (u : Value) (h : cs.toList[j]? = some u) : (w.alloc (.cells cs t)).cell? ((⟨w.heap.size, 0, none⟩ : Addr).add j) = some u := by
  have hadd : (⟨w.heap.size, 0, none⟩ : Addr).add j = ⟨w.heap.size, j, none⟩ := by unfold Addr.add; split <;> simp_all
  rw [hadd, cell_of_row _ _ _ cs t (0, 0) (heap_alloc_new w _)]
  simpa using h
end Go.Proofs.YtkaoeoeloihigaaGreatDoor

namespace Go.Proofs.YtkaoeoeloihigaaGreatDoor
open Go.RowKit

theorem Mill.scanL_gap (f i : Nat) (b : UInt8) (r : List UInt8) (acc : List (Mill.Piece × Nat)) (h : b = 32 ∨ b = 10) : Mill.scanL (f + 1) (b :: r) i acc = Mill.scanL f r (i + 1) acc := by rw [Mill.scanL, if_pos h]
theorem Mill.scanL_rem (f i : Nat) (b : UInt8) (r : List UInt8) (acc : List (Mill.Piece × Nat)) (h : ¬ (b = 32 ∨ b = 10)) (h2 : b = 35) : Mill.scanL (f + 1) (b :: r) i acc = Mill.scanL f ((b :: r).drop (Mill.rem (b :: r))) (i + Mill.rem (b :: r)) acc := by rw [Mill.scanL, if_neg h, if_pos h2]
theorem Mill.scanL_bad (f i : Nat) (b : UInt8) (r : List UInt8) (acc : List (Mill.Piece × Nat)) (h : ¬ (b = 32 ∨ b = 10)) (h2 : b ≠ 35) (h3 : (Mill.one (b :: r)).code ≠ 0) : Mill.scanL (f + 1) (b :: r) i acc = ([], (Mill.one (b :: r)).code, i) := by rw [Mill.scanL, if_neg h, if_neg h2, if_pos h3]
theorem Mill.scanL_tok (f i : Nat) (b : UInt8) (r : List UInt8) (acc : List (Mill.Piece × Nat)) (h : ¬ (b = 32 ∨ b = 10)) (h2 : b ≠ 35) (h3 : (Mill.one (b :: r)).code = 0) : Mill.scanL (f + 1) (b :: r) i acc = Mill.scanL f ((b :: r).drop (Mill.one (b :: r)).size) (i + (Mill.one (b :: r)).size) (acc ++ [(Mill.one (b :: r), i)]) := by rw [Mill.scanL, if_neg h, if_neg h2, if_neg (by simpa using h3)]
theorem Mill.scanL_nil (f i : Nat) (acc : List (Mill.Piece × Nat)) : Mill.scanL f [] i acc = (acc, 0, 0) := by cases f <;> rfl

def Mill.remN (s : ByteArray) (a : Nat) : Nat := Mill.rem (s.data.toList.drop a)
theorem Mill.remN_le (s : ByteArray) (a : Nat) : Mill.remN s a ≤ s.size - a := by
  have := Mill.tw_le Mill.notNl (s.data.toList.drop a); simpa [Mill.remN, Mill.rem] using this
theorem Mill.rem_step (s : ByteArray) (a k : Nat) (h : k < s.size) (ha : a ≤ k) (hk : k - a ≤ Mill.remN s a) (ht : ((s[k].toNat : Int) != 10) = true) : k + 1 - a ≤ Mill.remN s a := by
  have := Mill.tw_step Mill.notNl (s.data.toList.drop a) (k - a) (by simp; omega) hk (by
    rw [List.getElem_drop]
    have e : a + (k - a) = k := by omega
    simp only [e]
    have hne := Mill.byte_ne s[k] 10 (by simpa [bne] using ht)
    simp [Mill.notNl]; exact hne)
  have e : k + 1 - a = k - a + 1 := by omega
  rw [e]; exact this
theorem Mill.rem_stop (s : ByteArray) (a k : Nat) (ha : a ≤ k) (hk : k - a ≤ Mill.remN s a) (ht : ∀ h : k < s.size, ((s[k].toNat : Int) != 10) = false) : k - a = Mill.remN s a :=
  Mill.tw_stop Mill.notNl (s.data.toList.drop a) (k - a) hk (fun h => by
    rw [List.getElem_drop]
    have e : a + (k - a) = k := by omega
    have hk : k < s.size := by simp at h; omega
    simp only [e]
    have heq := Mill.byte_eq s[k] 10 (by simpa [bne] using ht hk)
    simp [Mill.notNl]; exact heq)

theorem Mill.cell5_new (w : World) (o : Obj) (a b c d e : Value) (t : TypeId) (j : Nat) (u : Value) (h : [a, b, c, d, e][j]? = some u) : ((w.alloc o).alloc (.cells #[a, b, c, d, e] t)).cell? ((⟨w.heap.size + 1, 0, none⟩ : Addr).add j) = some u := by
  have := Mill.cell_new (w.alloc o) #[a, b, c, d, e] t j u h
  simpa using this
theorem Mill.own_mono {w : World} {B B' e size n : Nat} {v : Value} {xs : List Value} (h : w.ownsRow B e size v n xs) (hB : B' ≤ B) : w.ownsRow B' e size v n xs := by
  refine ⟨h.1, ?_⟩
  rcases h.2 with hn | ⟨g, cap, cur, hv, hg, rest⟩
  · exact .inl hn
  · exact .inr ⟨g, cap, cur, hv, by omega, rest⟩
theorem Mill.own_set2 {B : Nat} {wr : World} {e size n : Nat} {v : Value} {xs : List Value} (h : wr.ownsRow (B + 1) e size v n xs) (c0 c1 : Value) :
    ((wr.setCell ⟨B, 0, none⟩ c0).setCell ⟨B, 1, none⟩ c1).ownsRow B e size v n xs :=
  Mill.own_mono (ownsRow_setCell_below (ownsRow_setCell_below h (a := ⟨B, 0, none⟩) (by simp) _) (a := ⟨B, 1, none⟩) (by simp) _) (by omega)
theorem Mill.below_set2 {w wr : World} {o : Obj} (hb : Below (w.heap.size + 1) (w.alloc o) wr) (c0 c1 : Value) :
    Below w.heap.size w ((wr.setCell ⟨w.heap.size, 0, none⟩ c0).setCell ⟨w.heap.size, 1, none⟩ c1) :=
  ((((Below.refl _ w).alloc (Nat.le_refl _) _).trans (hb.mono (by omega))).setCell (p := ⟨w.heap.size, 0, none⟩) (Nat.le_refl _) _).setCell (p := ⟨w.heap.size, 1, none⟩) (Nat.le_refl _) _

end Go.Proofs.YtkaoeoeloihigaaGreatDoor
