import Derived.Test.YticjcabnnjhbgaaDoorScanI
namespace Go.Proofs.YticjcabnnjhbgaaDoor
open Go.RowKit

theorem Mill.word_pos (b : UInt8) (r : List UInt8) (h : Mill.isTail b = true) : 1 ≤ (Mill.wordOf (b :: r)).length := by simp [Mill.wordOf, h]
theorem Mill.word_le (l : List UInt8) : (Mill.wordOf l).length ≤ l.length := Mill.tw_le _ _
theorem Mill.mark_pos (m : List UInt8) (h : m ∈ Mill.marks) : 1 ≤ m.length := by
  have : ∀ x ∈ Mill.marks, 1 ≤ x.length := by decide
  exact this m h
theorem Mill.one_size (b : UInt8) (r : List UInt8) (h0 : (Mill.one (b :: r)).code = 0) : 1 ≤ (Mill.one (b :: r)).size ∧ (Mill.one (b :: r)).size ≤ (b :: r).length := by
  revert h0
  simp only [Mill.one]
  by_cases h1 : Mill.letter (b.toNat : Int) = true
  · rw [if_pos h1]
    have hp := Mill.word_pos b r (by simp [Mill.isTail, Mill.tail, h1])
    have hl := Mill.word_le (b :: r)
    intro h0
    unfold Mill.nameP at h0 ⊢
    split
    · exact ⟨hp, hl⟩
    · split
      · rename_i h2 h3; rw [if_neg h2, if_pos h3] at h0; simp [Mill.bad] at h0
      · exact ⟨hp, hl⟩
  · rw [if_neg h1]
    by_cases h2 : Mill.digit (b.toNat : Int) = true
    · rw [if_pos h2]
      have hp := Mill.word_pos b r (by simp [Mill.isTail, Mill.tail, h2])
      have hl := Mill.word_le (b :: r)
      intro h0
      unfold Mill.intP at h0 ⊢
      split
      · rename_i h; rw [h] at h0; simp [Mill.bad] at h0
      · exact ⟨hp, hl⟩
    · rw [if_neg h2]
      by_cases h3 : b = 34
      · rw [if_pos h3]
        intro h0
        unfold Mill.textP at h0 ⊢
        split
        · rename_i h; rw [h] at h0; simp [Mill.bad] at h0
        · rename_i t r2 h
          rw [h] at h0
          have := Mill.unq_len _ _ _ _ _ (Nat.le_refl _) h
          simp at this
          split
          · rename_i h4; simp only [if_pos h4] at h0; simp [Mill.bad] at h0
          · simp; omega
      · rw [if_neg h3]
        intro h0
        unfold Mill.markP at h0 ⊢
        split
        · rename_i m h
          have hm := List.mem_of_find?_eq_some h
          have hq := List.find?_some h
          have := Mill.mark_pos m hm
          simp [Mill.markAt] at hq
          simp; omega
        · rename_i h; rw [h] at h0; simp [Mill.bad] at h0

def Mill.notNl (c : UInt8) : Bool := c != 10
def Mill.rem (l : List UInt8) : Nat := (l.takeWhile Mill.notNl).length
def Mill.scanL : Nat → List UInt8 → Nat → List (Mill.Piece × Nat) → List (Mill.Piece × Nat) × Int × Nat
  | 0, _, _, acc => (acc, 0, 0)
  | _ + 1, [], _, acc => (acc, 0, 0)
  | f + 1, b :: r, i, acc => if b = 32 ∨ b = 10 then Mill.scanL f r (i + 1) acc
      else if b = 35 then Mill.scanL f ((b :: r).drop (Mill.rem (b :: r))) (i + Mill.rem (b :: r)) acc
      else if (Mill.one (b :: r)).code ≠ 0 then ([], (Mill.one (b :: r)).code, i)
      else Mill.scanL f ((b :: r).drop (Mill.one (b :: r)).size) (i + (Mill.one (b :: r)).size) (acc ++ [(Mill.one (b :: r), i)])
def Mill.scan (s : ByteArray) : List (Mill.Piece × Nat) × Int × Nat := if 12000 < s.size then ([], 1, 0) else Mill.scanL (s.size + 1) s.data.toList 0 []
def Mill.tokC (t : Mill.Piece × Nat) : List Value := [.int .i64 t.1.kind, .string (Mill.ba t.1.text), .int .i64 t.1.type, .int .i64 t.1.n, .int .i64 (t.2 : Int)]
def Mill.tokCs (ts : List (Mill.Piece × Nat)) : List Value := ts.flatMap Mill.tokC
theorem Mill.tokCs_snoc (ts : List (Mill.Piece × Nat)) (t : Mill.Piece × Nat) : Mill.tokCs (ts ++ [t]) = Mill.tokCs ts ++ Mill.tokC t := by simp [Mill.tokCs]
def Mill.faultV (c : Int) (a : Nat) : Value := .agg #[.int .i64 c, .int .i64 (a : Int)]

theorem Mill.own_below {W W' : World} {B e size n : Nat} {v : Value} {xs : List Value} (h : W.ownsRow B e size v n xs) (hb : Below W.heap.size W W') : W'.ownsRow B e size v n xs := by
  refine ⟨h.1, ?_⟩
  rcases h.2 with hn | ⟨g, cap, cur, hv, hg, hgg, rest⟩
  · exact .inl hn
  · exact .inr ⟨g, cap, cur, hv, hg, by rw [hb.block g (Array.getElem?_eq_some_iff.1 hgg).1]; exact hgg, rest⟩
theorem Mill.cell_new (w : World) (cs : Array Value) (t : TypeId) (j : Nat) (u : Value) (h : cs.toList[j]? = some u) : (w.alloc (.cells cs t)).cell? ((⟨w.heap.size, 0, none⟩ : Addr).add j) = some u := by
  have hadd : (⟨w.heap.size, 0, none⟩ : Addr).add j = ⟨w.heap.size, j, none⟩ := by unfold Addr.add; split <;> simp_all
  rw [hadd, cell_of_row _ _ _ cs t (0, 0) (heap_alloc_new w _)]
  simpa using h
theorem Tryd.infoTok : (Tryd.prog.info? 32).map (fun i => (i.zero, i.size, i.bytes)) = some (some (.agg #[.int .i64 0, .string ByteArray.empty, .int .i64 0, .int .i64 0, .int .i64 0]), 5, 48) := by kernel_rfl

end Go.Proofs.YticjcabnnjhbgaaDoor
