import Derived.Test.YtkaoeoeloihigaaGreatDoorVScanF
import Derived.Deep.QuietTactic
import Derived.BigQuiet
import Derived.Lib.Strings
namespace Go.Proofs.YtkaoeoeloihigaaGreatDoor
open Go.RowKit

structure Mill.Piece where
  kind : Int
  text : List UInt8
  type : Int
  n : Int
  size : Nat
  code : Int
def Mill.bad (c : Int) : Mill.Piece := ⟨0, [], 0, 0, 0, c⟩
def Mill.ba (l : List UInt8) : ByteArray := ⟨l.toArray⟩
def Mill.isTail (c : UInt8) : Bool := Mill.tail (c.toNat : Int)
def Mill.wordOf (l : List UInt8) : List UInt8 := l.takeWhile Mill.isTail
def Mill.markAt (l m : List UInt8) : Bool := decide (m.length ≤ l.length) && (l.take m.length == m)
def Mill.nameP (w : List UInt8) : Mill.Piece := if Mill.taken (Mill.ba w) = true then ⟨2, w, 0, 0, w.length, 0⟩ else if 30 < w.length then Mill.bad 5 else ⟨1, w, 0, 0, w.length, 0⟩
def Mill.intP (w : List UInt8) : Mill.Piece := match Mill.intRead (Mill.ba w) with
  | none => Mill.bad 3
  | some (t, n) => ⟨3, [], t, wrap64 n, w.length, 0⟩
def Mill.textP (l : List UInt8) : Mill.Piece := match Mill.unq l.tail [] with
  | none => Mill.bad 4
  | some (t, r) => if 3000 < t.length then Mill.bad 5 else ⟨4, t, 0, 0, l.length - r.length, 0⟩
def Mill.markP (l : List UInt8) : Mill.Piece := match Mill.marks.find? (Mill.markAt l) with
  | some m => ⟨5, m, 0, 0, m.length, 0⟩
  | none => Mill.bad 2
def Mill.one (l : List UInt8) : Mill.Piece := match l with
  | [] => Mill.bad 2
  | b :: _ => if Mill.letter (b.toNat : Int) = true then Mill.nameP (Mill.wordOf l) else if Mill.digit (b.toNat : Int) = true then Mill.intP (Mill.wordOf l) else if b = 34 then Mill.textP l else Mill.markP l
def Mill.tokV (p : Mill.Piece) (at' : Int) : Value := .agg #[.int .i64 p.kind, .string (Mill.ba p.text), .int .i64 p.type, .int .i64 p.n, .int .i64 at']
def Mill.oneVal (p : Mill.Piece) (at' : Nat) : Value :=
  if p.code = 0 then .tuple #[Mill.tokV p at', .int .i64 ((at' : Int) + (p.size : Int)), .int .i64 0] else .tuple #[Mill.tokV (Mill.bad 0) 0, .int .i64 (at' : Int), .int .i64 p.code]

def Mill.marksCells : Array Value := (Mill.marks.map Mill.strOf).toArray
theorem Mill.bcell {W w1 : World} (hb : Below W.heap.size W w1) : (∀ b o, b < W.heap.size → w1.cell? ⟨b, o, none⟩ = W.cell? ⟨b, o, none⟩) ∧ (∀ b o, b < W.heap.size → w1.frozen? ⟨b, o, none⟩ = W.frozen? ⟨b, o, none⟩) :=
  ⟨fun b o h => hb.cell (p := ⟨b, o, none⟩) h, fun b o h => hb.frozen (p := ⟨b, o, none⟩) h⟩

theorem Mill.unq_len : ∀ (n : Nat) (l acc t r : List UInt8), l.length ≤ n → Mill.unq l acc = some (t, r) → r.length < l.length ∧ t.length ≤ acc.length + l.length
  | _, [], acc, t, r, _, h => by simp [Mill.unq] at h
  | 0, c :: l, acc, t, r, hn, h => by simp at hn
  | n + 1, c :: l, acc, t, r, hn, h => by
    rw [Mill.unq_def] at h
    by_cases h1 : c = 34
    · rw [if_pos h1] at h; simp at h; obtain ⟨rfl, rfl⟩ := h; simp
    · rw [if_neg h1] at h
      by_cases h2 : Mill.isBare c = true
      · rw [if_pos h2] at h
        have := Mill.unq_len n l _ t r (by simpa using hn) h
        simp at this ⊢; omega
      · rw [if_neg h2] at h
        by_cases h3 : c = 92
        · rw [if_pos h3] at h
          match l, h, hn with
          | a :: b :: r2, h, hn =>
            simp only at h
            by_cases h4 : 0 ≤ Mill.hexOf a ∧ 0 ≤ Mill.hexOf b
            · rw [if_pos h4] at h
              have := Mill.unq_len n r2 _ t r (by simp at hn; omega) h
              simp at this ⊢; omega
            · rw [if_neg h4] at h; simp at h
        · rw [if_neg h3] at h; simp at h

theorem Mill.below5 {w w1 : World} (B : Nat) (hB : B ≤ w.heap.size) (o : Obj) (hb : Below (w.alloc o).heap.size (w.alloc o) w1) (c0 c1 c2 c3 c4 : Value) :
    Below B w (((((w1.setCell ⟨w.heap.size, 0, none⟩ c0).setCell ⟨w.heap.size, 1, none⟩ c1).setCell ⟨w.heap.size, 2, none⟩ c2).setCell ⟨w.heap.size, 3, none⟩ c3).setCell ⟨w.heap.size, 4, none⟩ c4) :=
  ((((((((Below.refl B w).alloc hB o).trans (hb.mono (by simp; omega))).setCell (p := ⟨w.heap.size, 0, none⟩) hB _).setCell (p := ⟨w.heap.size, 1, none⟩) hB _).setCell (p := ⟨w.heap.size, 2, none⟩) hB _).setCell (p := ⟨w.heap.size, 3, none⟩) hB _).setCell (p := ⟨w.heap.size, 4, none⟩) hB _)

end Go.Proofs.YtkaoeoeloihigaaGreatDoor

namespace Go.Proofs.YtkaoeoeloihigaaGreatDoor
open Go.RowKit

def Mill.wlen (s : ByteArray) (a : Nat) : Nat := (Mill.wordOf (s.data.toList.drop a)).length
theorem Mill.wlen_le (s : ByteArray) (a : Nat) : Mill.wlen s a ≤ s.size - a := by
  have := Mill.tw_le Mill.isTail (s.data.toList.drop a); simpa [Mill.wlen, Mill.wordOf] using this
theorem Mill.tail_step (s : ByteArray) (a k : Nat) (h : k < s.size) (ha : a ≤ k) (hk : k - a ≤ Mill.wlen s a) (ht : Mill.tail (s[k].toNat : Int) = true) : k + 1 - a ≤ Mill.wlen s a := by
  have := Mill.tw_step Mill.isTail (s.data.toList.drop a) (k - a) (by simp; omega) hk (by
    rw [List.getElem_drop]
    have e : a + (k - a) = k := by omega
    simp only [e]; exact ht)
  have e : k + 1 - a = k - a + 1 := by omega
  rw [e]; exact this
theorem Mill.tail_stop (s : ByteArray) (a k : Nat) (ha : a ≤ k) (hk : k - a ≤ Mill.wlen s a) (ht : ∀ h : k < s.size, Mill.tail (s[k].toNat : Int) = false) : k - a = Mill.wlen s a :=
  Mill.tw_stop Mill.isTail (s.data.toList.drop a) (k - a) hk (fun h => by
    rw [List.getElem_drop]
    have e : a + (k - a) = k := by omega
    have hk : k < s.size := by simp at h; omega
    simp only [e]; exact ht hk)
theorem Mill.takeWhile_take {α : Type} (p : α → Bool) : ∀ l : List α, l.take (l.takeWhile p).length = l.takeWhile p
  | [] => rfl
  | a :: r => by
    cases h : p a with
    | false => simp [h]
    | true => simp [h, Mill.takeWhile_take p r]
theorem Mill.extract_ba (s : ByteArray) (a k : Nat) : s.extract a k = Mill.ba ((s.data.toList.drop a).take (k - a)) := by
  have h := Lib.extract_data s a k
  exact WideShapes.bytes_inj h
theorem Mill.word_ba (s : ByteArray) (a k : Nat) (hk : k - a = Mill.wlen s a) : s.extract a k = Mill.ba (Mill.wordOf (s.data.toList.drop a)) := by
  rw [Mill.extract_ba, hk, Mill.wlen, Mill.wordOf, Mill.takeWhile_take]
theorem Mill.ba_size (l : List UInt8) : (Mill.ba l).size = l.length := rfl

/- CASES -/
end Go.Proofs.YtkaoeoeloihigaaGreatDoor
