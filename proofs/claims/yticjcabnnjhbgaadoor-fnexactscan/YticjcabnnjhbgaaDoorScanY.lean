import Derived.RangeFuncNested
import Derived.RangeFuncBound
import Derived.RangeFuncCalls
import Derived.RangeFuncLeaves
import Derived.RangeFuncBox
import Derived.Shelf.Abstract
import Derived.Shelf.RegionOpen
import Derived.WalkKit
import Derived.OwnWalkIn
import Derived.TacticsInMore
import Derived.LoopNIn
import Derived.LoopIn
import Derived.Test.YticjcabnnjhbgaaDoorScanX
namespace Go.Proofs.YticjcabnnjhbgaaDoor
open Go.RowKit Go.Shelf

attribute [local go_sem] Oper.semAt_some

theorem tokens_in (n : Nat) (s : ByteArray) (w : World) :
    CallsIn Fence.wide n Tryd.prog 11 #[.string s] w fun e w' => e = .returned (.func (.func 21) #[] #[.pointer (some ⟨w.heap.size, 0, none⟩)]) ∧ w' = w.alloc (.cells #[.string s] 9) := by
  refine callsIn_of_wp Tryd.func11 rfl trivial ?_ rfl
  simp only [Tryd.ntmps11, List.size_toArray, List.length_cons, List.length_nil, Nat.reduceAdd, Nat.reduceSub, Array.replicate_succ, Array.replicate_zero, List.push_toArray, List.append_toArray, List.nil_append, List.cons_append]
  gi_wp2
  go_ret
  exact ⟨rfl, rfl⟩

structure Mill.Kp (n₀ : Nat) (W W' : World) : Prop where
  below : Below n₀ W W'
  walks : KeepsWalks W W'
  pieces : ∀ (k : Nat) (c : Array Value) (fz : Nat × Nat), W.heap[k]? = some (Obj.cells c 51 fz) → W'.heap[k]? = W.heap[k]?
  strs : ∀ (k : Nat) (c : Array Value) (fz : Nat × Nat), W.heap[k]? = some (Obj.cells c 9 fz) → W'.heap[k]? = W.heap[k]?
theorem Mill.Kp.trans {n₀ : Nat} {A B C : World} (h : Mill.Kp n₀ A B) (k : Mill.Kp n₀ B C) : Mill.Kp n₀ A C :=
  ⟨h.below.trans k.below, h.walks.trans k.walks, fun i c fz hi => by
    have h1 := h.pieces i c fz hi
    rw [k.pieces i c fz (h1.trans hi), h1], fun i c fz hi => by
    have h1 := h.strs i c fz hi
    rw [k.strs i c fz (h1.trans hi), h1]⟩
theorem Mill.Kp.put {n₀ : Nat} {w : World} (hn : n₀ ≤ w.heap.size) (W : World) (l : Nat) (o o' : Obj) (hl : w.heap.size ≤ l) (h : W.heap[l]? = some o) (hc : o.isCells = false) (hw : o.isWalk = false) : Mill.Kp n₀ W (W.putObj l o') :=
  ⟨belowK_b hn W l o o' hl h hc hw, walksK_b (w := w) W l o o' hl h hc hw, fun k c fz hk => World.putObj_heap_other (fun e => by subst e; rw [hk] at h; cases h; simp [Obj.isCells] at hc), fun k c fz hk => World.putObj_heap_other (fun e => by subst e; rw [hk] at h; cases h; simp [Obj.isCells] at hc)⟩

def Mill.seqL : Nat → List UInt8 → Nat → List (Mill.Piece × Nat)
  | 0, _, _ => []
  | _ + 1, [], _ => []
  | f + 1, b :: r, i => if b = 32 ∨ b = 10 then Mill.seqL f r (i + 1)
      else if b = 35 then Mill.seqL f ((b :: r).drop (Mill.rem (b :: r))) (i + Mill.rem (b :: r))
      else if (Mill.one (b :: r)).code ≠ 0 then [(Mill.one (b :: r), i)]
      else (Mill.one (b :: r), i) :: Mill.seqL f ((b :: r).drop (Mill.one (b :: r)).size) (i + (Mill.one (b :: r)).size)
def Mill.fin : List (Mill.Piece × Nat) → List (Mill.Piece × Nat) → List (Mill.Piece × Nat) × Int × Nat
  | acc, [] => (acc, 0, 0)
  | acc, x :: r => if x.1.code ≠ 0 then ([], x.1.code, x.2) else Mill.fin (acc ++ [x]) r
theorem Mill.scan_seq : ∀ (f : Nat) (l : List UInt8) (i : Nat) (acc : List (Mill.Piece × Nat)), Mill.scanL f l i acc = Mill.fin acc (Mill.seqL f l i)
  | 0, _, _, _ => by rw [Mill.scanL, Mill.seqL, Mill.fin]
  | _ + 1, [], _, _ => by rw [Mill.scanL, Mill.seqL, Mill.fin]
  | f + 1, b :: r, i, acc => by
    rw [Mill.scanL, Mill.seqL]
    by_cases h1 : b = 32 ∨ b = 10
    · rw [if_pos h1, if_pos h1]; exact Mill.scan_seq f _ _ _
    · rw [if_neg h1, if_neg h1]
      by_cases h2 : b = 35
      · rw [if_pos h2, if_pos h2]; exact Mill.scan_seq f _ _ _
      · rw [if_neg h2, if_neg h2]
        by_cases h3 : (Mill.one (b :: r)).code ≠ 0
        · rw [if_pos h3, if_pos h3, Mill.fin, if_pos h3]
        · rw [if_neg h3, if_neg h3, Mill.fin, if_neg h3]; exact Mill.scan_seq f _ _ _
theorem Mill.seq_gap (f i : Nat) (b : UInt8) (r : List UInt8) (h : b = 32 ∨ b = 10) : Mill.seqL (f + 1) (b :: r) i = Mill.seqL f r (i + 1) := by rw [Mill.seqL, if_pos h]
theorem Mill.seq_rem (f i : Nat) (b : UInt8) (r : List UInt8) (h : ¬ (b = 32 ∨ b = 10)) (h2 : b = 35) : Mill.seqL (f + 1) (b :: r) i = Mill.seqL f ((b :: r).drop (Mill.rem (b :: r))) (i + Mill.rem (b :: r)) := by rw [Mill.seqL, if_neg h, if_pos h2]
theorem Mill.seq_bad (f i : Nat) (b : UInt8) (r : List UInt8) (h : ¬ (b = 32 ∨ b = 10)) (h2 : b ≠ 35) (h3 : (Mill.one (b :: r)).code ≠ 0) : Mill.seqL (f + 1) (b :: r) i = [(Mill.one (b :: r), i)] := by rw [Mill.seqL, if_neg h, if_neg h2, if_pos h3]
theorem Mill.seq_tok (f i : Nat) (b : UInt8) (r : List UInt8) (h : ¬ (b = 32 ∨ b = 10)) (h2 : b ≠ 35) (h3 : (Mill.one (b :: r)).code = 0) : Mill.seqL (f + 1) (b :: r) i = (Mill.one (b :: r), i) :: Mill.seqL f ((b :: r).drop (Mill.one (b :: r)).size) (i + (Mill.one (b :: r)).size) := by rw [Mill.seqL, if_neg h, if_neg h2, if_neg (by simpa using h3)]
theorem Mill.seq_nil (f i : Nat) : Mill.seqL f [] i = [] := by cases f <;> rfl
def Mill.seq (s : ByteArray) : List (Mill.Piece × Nat) := Mill.seqL (s.size + 1) s.data.toList 0
theorem Mill.seq_len : ∀ (f : Nat) (l : List UInt8) (i : Nat), (Mill.seqL f l i).length ≤ f
  | 0, _, _ => by rw [Mill.seqL]; simp
  | _ + 1, [], _ => by rw [Mill.seqL]; simp
  | f + 1, b :: r, i => by
    rw [Mill.seqL]
    repeat' split
    · have := Mill.seq_len f r (i + 1); omega
    · have := Mill.seq_len f ((b :: r).drop (Mill.rem (b :: r))) (i + Mill.rem (b :: r)); omega
    · simp
    · have := Mill.seq_len f ((b :: r).drop (Mill.one (b :: r)).size) (i + (Mill.one (b :: r)).size); simp only [List.length_cons]; omega
theorem Mill.ix_rem : ∀ l : List UInt8, Lib.indexByte l 10 = if Mill.rem l < l.length then (Mill.rem l : Int) else -1
  | [] => by simp [Lib.indexByte]
  | b :: r => by
    have ih := Mill.ix_rem r
    by_cases h : b = 10
    · subst h; simp [Lib.indexByte, Mill.rem, Mill.notNl]
    · have hb : (b == 10) = false := by simpa using h
      have hn : Mill.notNl b = true := by simp [Mill.notNl, h]
      have hr : Mill.rem (b :: r) = Mill.rem r + 1 := by simp [Mill.rem, hn]
      rw [Lib.indexByte, hb, hr]
      simp only [Bool.false_eq_true, if_false, List.length_cons]
      by_cases h2 : Mill.rem r < r.length
      · rw [if_pos h2] at ih
        have hm : ((Mill.rem r : Int) == -1) = false := by simp
        rw [ih, hm, if_pos (show Mill.rem r + 1 < r.length + 1 by omega)]; simp
      · rw [if_neg h2] at ih
        rw [ih, if_neg (show ¬ Mill.rem r + 1 < r.length + 1 by omega)]; simp

end Go.Proofs.YticjcabnnjhbgaaDoor
