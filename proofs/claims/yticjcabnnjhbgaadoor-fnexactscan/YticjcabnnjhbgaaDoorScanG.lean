import Derived.Test.YticjcabnnjhbgaaDoorScanF
import Derived.Deep.QuietTactic
import Derived.BigQuiet
namespace Go.Proofs.YticjcabnnjhbgaaDoor
open Go.RowKit

structure Mill.Piece where
  kind : Int
  text : List UInt8
  type : Int
  n : Int
  size : Nat
  code : Int
def Mill.bad (c : Int) : Mill.Piece := ⟨0, [], 0, 0, 0, c⟩
def Mill.ba (l : List UInt8) : ByteArray := ⟨l.toArray⟩
def Mill.isTail (c : UInt8) : Bool := Mill.tail (c.toNat : Int)
def Mill.wordOf (l : List UInt8) : List UInt8 := l.takeWhile Mill.isTail
def Mill.markAt (l m : List UInt8) : Bool := decide (m.length ≤ l.length) && (l.take m.length == m)
def Mill.nameP (w : List UInt8) : Mill.Piece := if Mill.taken (Mill.ba w) = true then ⟨2, w, 0, 0, w.length, 0⟩ else if 30 < w.length then Mill.bad 5 else ⟨1, w, 0, 0, w.length, 0⟩
def Mill.intP (w : List UInt8) : Mill.Piece := match Mill.intRead (Mill.ba w) with
  | none => Mill.bad 3
  | some (t, n) => ⟨3, [], t, wrap64 n, w.length, 0⟩
def Mill.textP (l : List UInt8) : Mill.Piece := match Mill.unq l.tail [] with
  | none => Mill.bad 4
  | some (t, r) => if 3000 < t.length then Mill.bad 5 else ⟨4, t, 0, 0, l.length - r.length, 0⟩
def Mill.markP (l : List UInt8) : Mill.Piece := match Mill.marks.find? (Mill.markAt l) with
  | some m => ⟨5, m, 0, 0, m.length, 0⟩
  | none => Mill.bad 2
def Mill.one (l : List UInt8) : Mill.Piece := match l with
  | [] => Mill.bad 2
  | b :: _ => if Mill.letter (b.toNat : Int) = true then Mill.nameP (Mill.wordOf l) else if Mill.digit (b.toNat : Int) = true then Mill.intP (Mill.wordOf l) else if b = 34 then Mill.textP l else Mill.markP l
def Mill.tokV (p : Mill.Piece) (at' : Int) : Value := .agg #[.int .i64 p.kind, .string (Mill.ba p.text), .int .i64 p.type, .int .i64 p.n, .int .i64 at']
def Mill.oneVal (p : Mill.Piece) (at' : Nat) : Value :=
  if p.code = 0 then .tuple #[Mill.tokV p at', .int .i64 ((at' : Int) + (p.size : Int)), .int .i64 0] else .tuple #[Mill.tokV (Mill.bad 0) 0, .int .i64 (at' : Int), .int .i64 p.code]

def Mill.marksCells : Array Value := (Mill.marks.map Mill.strOf).toArray
set_option maxHeartbeats 400000 in
theorem l1Marks_any (w : World) :
    Calls Tryd.prog 20 #[] w fun e w' => e = .returned (.slice (some ⟨w.heap.size, 0, none⟩) 28 28) ∧ w' = w.alloc (.cells Mill.marksCells 9) := by
  go_enter Tryd.func20, Tryd.ntmps20
  go_wp2
  go_ret
  exact ⟨rfl, rfl⟩

theorem Mill.bcell {W w1 : World} (hb : Below W.heap.size W w1) : (∀ b o, b < W.heap.size → w1.cell? ⟨b, o, none⟩ = W.cell? ⟨b, o, none⟩) ∧ (∀ b o, b < W.heap.size → w1.frozen? ⟨b, o, none⟩ = W.frozen? ⟨b, o, none⟩) :=
  ⟨fun b o h => hb.cell (p := ⟨b, o, none⟩) h, fun b o h => hb.frozen (p := ⟨b, o, none⟩) h⟩

theorem Mill.unq_len : ∀ (n : Nat) (l acc t r : List UInt8), l.length ≤ n → Mill.unq l acc = some (t, r) → r.length < l.length ∧ t.length ≤ acc.length + l.length
  | _, [], acc, t, r, _, h => by simp [Mill.unq] at h
  | 0, c :: l, acc, t, r, hn, h => by simp at hn
  | n + 1, c :: l, acc, t, r, hn, h => by
    rw [Mill.unq_def] at h
    by_cases h1 : c = 34
    · rw [if_pos h1] at h; simp at h; obtain ⟨rfl, rfl⟩ := h; simp
    · rw [if_neg h1] at h
      by_cases h2 : Mill.isBare c = true
      · rw [if_pos h2] at h
        have := Mill.unq_len n l _ t r (by simpa using hn) h
        simp at this ⊢; omega
      · rw [if_neg h2] at h
        by_cases h3 : c = 92
        · rw [if_pos h3] at h
          match l, h, hn with
          | a :: b :: r2, h, hn =>
            simp only at h
            by_cases h4 : 0 ≤ Mill.hexOf a ∧ 0 ≤ Mill.hexOf b
            · rw [if_pos h4] at h
              have := Mill.unq_len n r2 _ t r (by simp at hn; omega) h
              simp at this ⊢; omega
            · rw [if_neg h4] at h; simp at h
        · rw [if_neg h3] at h; simp at h

theorem Mill.below5 {w w1 : World} (B : Nat) (hB : B ≤ w.heap.size) (o : Obj) (hb : Below (w.alloc o).heap.size (w.alloc o) w1) (c0 c1 c2 c3 c4 : Value) :
    Below B w (((((w1.setCell ⟨w.heap.size, 0, none⟩ c0).setCell ⟨w.heap.size, 1, none⟩ c1).setCell ⟨w.heap.size, 2, none⟩ c2).setCell ⟨w.heap.size, 3, none⟩ c3).setCell ⟨w.heap.size, 4, none⟩ c4) :=
  ((((((((Below.refl B w).alloc hB o).trans (hb.mono (by simp; omega))).setCell (p := ⟨w.heap.size, 0, none⟩) hB _).setCell (p := ⟨w.heap.size, 1, none⟩) hB _).setCell (p := ⟨w.heap.size, 2, none⟩) hB _).setCell (p := ⟨w.heap.size, 3, none⟩) hB _).setCell (p := ⟨w.heap.size, 4, none⟩) hB _)

set_option maxRecDepth 100000 in
set_option maxHeartbeats 1000000 in
theorem l1One_quote (s : ByteArray) (at' : Nat) (w : World) (hat : at' < s.size) (hs : s.size ≤ 1048576)
    (h1 : Mill.letter (s[at'].toNat : Int) = false) (h2 : Mill.digit (s[at'].toNat : Int) = false) (h3 : ((s[at'].toNat : Int) == 34) = true) :
    Calls Tryd.prog 10 #[.string s, .int .i64 (at' : Int)] w fun e w' => e = .returned (Mill.oneVal (Mill.textP (s.data.toList.drop at')) at') ∧ Below w.heap.size w w' := by
  have hdrop : (s.data.toList.drop at').tail = s.data.toList.drop (at' + 1) := by simp
  cases hu : Mill.unq (s.data.toList.drop (at' + 1)) [] with
  | none =>
    have HP : Hid (Mill.oneVal (Mill.textP (s.data.toList.drop at')) at' = .tuple #[.agg #[.int .i64 0, .string ⟨#[]⟩, .int .i64 0, .int .i64 0, .int .i64 0], .int .i64 (at' : Int), .int .i64 4]) := by rw [Hid, Mill.textP, hdrop, hu]; rfl
    have HU : Hid (Mill.unqVal s at' = .tuple #[.string ⟨#[]⟩, .int .i64 (at' : Int), .bool false]) := by rw [Hid, Mill.unqVal, hu]
    clear hu hdrop
    go_enter Tryd.func10, Tryd.ntmps10
    go_wp2_with (first
      | (go_at_call 14; refine (l1Letter_any _ _).mono ?_; rintro e w' ⟨rfl, rfl⟩; rw [h1])
      | (go_at_call 15; refine (l1Digit_any _ _).mono ?_; rintro e w' ⟨rfl, rfl⟩; rw [h2])
      | (go_at_call 19; refine (l1Unquote_any s at' _ hat hs).mono ?_; rintro e w1 ⟨rfl, hb⟩; rw [HU.out]; obtain ⟨hc, hf⟩ := Mill.bcell hb; have hz := hb.size; simp at hz))
    refine bodyPost_ret (v := .tuple #[.agg #[.int .i64 0, .string ⟨#[]⟩, .int .i64 0, .int .i64 0, .int .i64 0], .int .i64 (at' : Int), .int .i64 4]) (by simp [results, Tryd.results10, go_sem, hc]) rfl ⟨Mill.ret_val HP.out.symm, Mill.below5 _ (Nat.le_refl _) _ hb _ _ _ _ _⟩
  | some p =>
    obtain ⟨t, r⟩ := p
    have hl := Mill.unq_len _ _ _ _ _ (Nat.le_refl _) hu
    simp at hl
    have hsr : s.size - r.length = at' + (s.size - at' - r.length) := by omega
    have HU : Hid (Mill.unqVal s at' = .tuple #[.string ⟨t.toArray⟩, .int .i64 ((s.size - r.length : Nat) : Int), .bool true]) := by rw [Hid, Mill.unqVal, hu]
    have hts : (⟨t.toArray⟩ : ByteArray).size = t.length := rfl
    by_cases h30 : 3000 < t.length
    · have HP : Hid (Mill.oneVal (Mill.textP (s.data.toList.drop at')) at' = .tuple #[.agg #[.int .i64 0, .string ⟨#[]⟩, .int .i64 0, .int .i64 0, .int .i64 0], .int .i64 (at' : Int), .int .i64 5]) := by rw [Hid, Mill.textP, hdrop, hu]; simp only [if_pos h30]; rfl
      clear hu hdrop hsr
      generalize hT : (⟨t.toArray⟩ : ByteArray) = T at *
      have h30' : (3000 : Int) < (T.size : Int) := by omega
      clear hT hts
      go_enter Tryd.func10, Tryd.ntmps10
      go_wp2_with (first
        | (go_at_call 14; refine (l1Letter_any _ _).mono ?_; rintro e w' ⟨rfl, rfl⟩; rw [h1])
        | (go_at_call 15; refine (l1Digit_any _ _).mono ?_; rintro e w' ⟨rfl, rfl⟩; rw [h2])
        | (go_at_call 19; refine (l1Unquote_any s at' _ hat hs).mono ?_; rintro e w1 ⟨rfl, hb⟩; rw [HU.out]; obtain ⟨hc, hf⟩ := Mill.bcell hb; have hz := hb.size; simp at hz))
      refine bodyPost_ret (v := .tuple #[.agg #[.int .i64 0, .string ⟨#[]⟩, .int .i64 0, .int .i64 0, .int .i64 0], .int .i64 (at' : Int), .int .i64 5]) (by simp [results, Tryd.results10, go_sem, hc]) rfl ⟨Mill.ret_val HP.out.symm, Mill.below5 _ (Nat.le_refl _) _ hb _ _ _ _ _⟩
    · have HP : Hid (Mill.oneVal (Mill.textP (s.data.toList.drop at')) at' = .tuple #[.agg #[.int .i64 4, .string ⟨t.toArray⟩, .int .i64 0, .int .i64 0, .int .i64 (at' : Int)], .int .i64 ((s.size - r.length : Nat) : Int), .int .i64 0]) := by
        rw [Hid, Mill.textP, hdrop, hu, hsr]; simp only [if_neg h30, Mill.oneVal, if_true, Mill.tokV, Mill.ba]; simp
      clear hu hdrop hsr
      generalize hT : (⟨t.toArray⟩ : ByteArray) = T at *
      have h30' : (T.size : Int) ≤ (3000 : Int) := by omega
      generalize ((s.size - r.length : Nat) : Int) = E at *
      clear hT hts
      go_enter Tryd.func10, Tryd.ntmps10
      go_wp2_with (first
        | (go_at_call 14; refine (l1Letter_any _ _).mono ?_; rintro e w' ⟨rfl, rfl⟩; rw [h1])
        | (go_at_call 15; refine (l1Digit_any _ _).mono ?_; rintro e w' ⟨rfl, rfl⟩; rw [h2])
        | (go_at_call 19; refine (l1Unquote_any s at' _ hat hs).mono ?_; rintro e w1 ⟨rfl, hb⟩; rw [HU.out]; obtain ⟨hc, hf⟩ := Mill.bcell hb; have hz := hb.size; simp at hz))
      refine bodyPost_ret (v := .tuple #[.agg #[.int .i64 4, .string T, .int .i64 0, .int .i64 0, .int .i64 (at' : Int)], .int .i64 E, .int .i64 0]) (by simp [results, Tryd.results10, go_sem, hc]) rfl ⟨Mill.ret_val HP.out.symm, Mill.below5 _ (Nat.le_refl _) _ hb _ _ _ _ _⟩

end Go.Proofs.YticjcabnnjhbgaaDoor
