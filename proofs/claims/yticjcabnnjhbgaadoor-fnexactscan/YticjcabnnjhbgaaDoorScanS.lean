import Derived.Test.YticjcabnnjhbgaaDoorScanR
import Derived.Lib.IndexAny
namespace Go.Proofs.YticjcabnnjhbgaaDoor
open Go.RowKit

def Mill.twos : List (List UInt8) := [[45, 62], [61, 61], [33, 61], [60, 61], [62, 61], [60, 60], [62, 62], [38, 38], [124, 124]]
def Mill.shorts : List UInt8 := [40, 41, 123, 125, 44, 59, 61, 60, 62, 43, 45, 42, 47, 37, 38, 124, 94, 33, 126]
theorem Mill.marks_split : Mill.marks = Mill.twos ++ Mill.shorts.map (fun c => [c]) := by decide
def Mill.msize (l : List UInt8) : Nat := (Mill.markP l).size
theorem Mill.markP_eq (l : List UInt8) : Mill.markP l = if Mill.msize l = 0 then Mill.bad 2 else ⟨5, l.take (Mill.msize l), 0, 0, Mill.msize l, 0⟩ := by
  unfold Mill.msize Mill.markP
  cases h : Mill.marks.find? (Mill.markAt l) with
  | none => rfl
  | some m =>
    have hm := Mill.mark_pos m (List.mem_of_find?_eq_some h)
    have hq := List.find?_some h
    simp [Mill.markAt] at hq
    simp only
    rw [if_neg (by omega), hq.2]
theorem Mill.msize_two (l : List UInt8) (h2 : 2 ≤ l.length) (hm : l.take 2 ∈ Mill.twos) : Mill.msize l = 2 := by
  have hl : ∀ m ∈ Mill.twos, m.length = 2 := by decide
  have hf : ∃ m, Mill.twos.find? (Mill.markAt l) = some m := by
    cases h : Mill.twos.find? (Mill.markAt l) with
    | some m => exact ⟨m, rfl⟩
    | none =>
      have := List.find?_eq_none.1 h _ hm
      simp [Mill.markAt, h2] at this
  obtain ⟨m, hf⟩ := hf
  have hmm := hl m (List.mem_of_find?_eq_some hf)
  rw [Mill.msize, Mill.markP, Mill.marks_split, List.find?_append, hf]
  exact hmm
theorem Mill.find_short (c : UInt8) (r : List UInt8) : ∀ q : List UInt8, (q.map (fun c => [c])).find? (Mill.markAt (c :: r)) = if c ∈ q then some [c] else none
  | [] => by simp
  | a :: q => by
    rw [List.map_cons, List.find?_cons]
    have he : Mill.markAt (c :: r) [a] = (c == a) := by simp [Mill.markAt]
    rw [he]
    by_cases h : c = a
    · subst h; simp
    · have h' : (c == a) = false := by simpa using h
      rw [h', Mill.find_short c r q]
      simp [h]
theorem Mill.msize_short (c : UInt8) (r : List UInt8) (h : 2 ≤ (c :: r).length → (c :: r).take 2 ∉ Mill.twos) : Mill.msize (c :: r) = if c ∈ Mill.shorts then 1 else 0 := by
  have hf : Mill.twos.find? (Mill.markAt (c :: r)) = none := by
    rw [List.find?_eq_none]
    intro m hm hq
    have hl : ∀ m ∈ Mill.twos, m.length = 2 := by decide
    have h2 := hl m hm
    simp only [Mill.markAt, Bool.and_eq_true, decide_eq_true_eq, h2, beq_iff_eq] at hq
    exact h hq.1 (by rw [hq.2]; exact hm)
  rw [Mill.msize, Mill.markP, Mill.marks_split, List.find?_append, hf, Option.none_or, Mill.find_short]
  split <;> rename_i hq
  · split at hq
    · rename_i hc; simp at hq; rw [← hq, if_pos hc]; rfl
    · simp at hq
  · split at hq
    · simp at hq
    · rename_i hc; rw [if_neg hc]; rfl
theorem Mill.short_ix (c : UInt8) : decide (0 ≤ Lib.indexByte Mill.shorts c) = decide (c ∈ Mill.shorts) := by
  rw [← Lib.contains_iff_indexByte]; simp

set_option maxRecDepth 100000 in
set_option maxHeartbeats 1000000 in
theorem markSize_two (s : ByteArray) (w : World) (h2 : 2 ≤ s.size) (hm : s.data.toList.take 2 ∈ Mill.twos) :
    Calls Tryd.prog 43 #[.string s] w fun e w' => e = .returned (.int .i64 2) ∧ w = w' := by
  have hx : (s.extract 0 2).toList = s.data.toList.take 2 := by rw [ByteArray.toList_eq, Lib.extract_data]; simp
  generalize s.data.toList.take 2 = two at *
  simp only [Mill.twos, List.mem_cons, List.not_mem_nil, or_false] at hm
  rcases hm with rfl | rfl | rfl | rfl | rfl | rfl | rfl | rfl | rfl
  all_goals
    go_enter Tryd.func43, Tryd.ntmps43
    go_wp2
    go_ret
    exact ⟨rfl, rfl⟩

theorem Mill.byte_back (c : UInt8) : ((c.toNat : Int)).toNat.toUInt8 = c := by simp
theorem shortIx_calls (c : UInt8) (w : World) : Calls Tryd.prog 23 #[.string ⟨#[40, 41, 123, 125, 44, 59, 61, 60, 62, 43, 45, 42, 47, 37, 38, 124, 94, 33, 126]⟩, .int .u8 (c.toNat : Int)] w fun e w' => e = .returned (.int .i64 (Lib.indexByte Mill.shorts c)) ∧ w = w' := by
  refine (Tryd.strings_IndexByte _ _ w).mono ?_
  rintro e w' ⟨rfl, rfl⟩
  exact ⟨by rw [Mill.byte_back]; rfl, rfl⟩
set_option maxRecDepth 100000 in
set_option maxHeartbeats 1000000 in
theorem markSize_short (s : ByteArray) (w : World) (h1 : 1 ≤ s.size) (hn : 2 ≤ s.size → s.data.toList.take 2 ∉ Mill.twos) :
    Calls Tryd.prog 43 #[.string s] w fun e w' => e = .returned (.int .i64 (if s[0] ∈ Mill.shorts then 1 else 0)) ∧ w = w' := by
  have hI := Mill.short_ix s[0]
  obtain ⟨I, HI⟩ : ∃ I, Hid (Lib.indexByte Mill.shorts s[0] = I) := ⟨_, (rfl : Lib.indexByte Mill.shorts s[0] = _)⟩
  rw [HI.out] at hI
  by_cases h2 : 2 ≤ s.size
  · have hx : (s.extract 0 2).toList = s.data.toList.take 2 := by rw [ByteArray.toList_eq, Lib.extract_data]; simp
    replace hn := hn h2
    generalize s.data.toList.take 2 = two at *
    have n0 : (two == [45, 62]) = false := by simp; intro e; exact hn (by rw [e]; decide)
    have n1 : (two == [61, 61]) = false := by simp; intro e; exact hn (by rw [e]; decide)
    have n2 : (two == [33, 61]) = false := by simp; intro e; exact hn (by rw [e]; decide)
    have n3 : (two == [60, 61]) = false := by simp; intro e; exact hn (by rw [e]; decide)
    have n4 : (two == [62, 61]) = false := by simp; intro e; exact hn (by rw [e]; decide)
    have n5 : (two == [60, 60]) = false := by simp; intro e; exact hn (by rw [e]; decide)
    have n6 : (two == [62, 62]) = false := by simp; intro e; exact hn (by rw [e]; decide)
    have n7 : (two == [38, 38]) = false := by simp; intro e; exact hn (by rw [e]; decide)
    have n8 : (two == [124, 124]) = false := by simp; intro e; exact hn (by rw [e]; decide)
    clear hn
    by_cases hc : s[0] ∈ Mill.shorts
    · rw [if_pos hc]
      have hi : 0 ≤ I := by simpa [hc] using hI
      clear hI hc
      go_enter Tryd.func43, Tryd.ntmps43
      go_wp2_with (go_at_call 23; refine (shortIx_calls _ _).mono ?_; rintro e w' ⟨rfl, rfl⟩; rw [HI.out])
      go_ret
      exact ⟨rfl, rfl⟩
    · rw [if_neg hc]
      have hi : I < 0 := by simpa [hc] using hI
      clear hI hc
      go_enter Tryd.func43, Tryd.ntmps43
      go_wp2_with (go_at_call 23; refine (shortIx_calls _ _).mono ?_; rintro e w' ⟨rfl, rfl⟩; rw [HI.out])
      go_ret
      exact ⟨rfl, rfl⟩
  · clear hn
    by_cases hc : s[0] ∈ Mill.shorts
    · rw [if_pos hc]
      have hi : 0 ≤ I := by simpa [hc] using hI
      clear hI hc
      go_enter Tryd.func43, Tryd.ntmps43
      go_wp2_with (go_at_call 23; refine (shortIx_calls _ _).mono ?_; rintro e w' ⟨rfl, rfl⟩; rw [HI.out])
      go_ret
      exact ⟨rfl, rfl⟩
    · rw [if_neg hc]
      have hi : I < 0 := by simpa [hc] using hI
      clear hI hc
      go_enter Tryd.func43, Tryd.ntmps43
      go_wp2_with (go_at_call 23; refine (shortIx_calls _ _).mono ?_; rintro e w' ⟨rfl, rfl⟩; rw [HI.out])
      go_ret
      exact ⟨rfl, rfl⟩
theorem Mill.list_cons (s : ByteArray) (h : 1 ≤ s.size) : s.data.toList = s[0] :: s.data.toList.drop 1 := by
  have := Mill.drop_cons s 0 (by omega); simpa using this
theorem markSize_any (s : ByteArray) (w : World) (h1 : 1 ≤ s.size) :
    Calls Tryd.prog 43 #[.string s] w fun e w' => e = .returned (.int .i64 (Mill.msize s.data.toList : Int)) ∧ w = w' := by
  by_cases h : 2 ≤ s.size ∧ s.data.toList.take 2 ∈ Mill.twos
  · rw [Mill.msize_two _ (by simpa using h.1) h.2]
    exact markSize_two s w h.1 h.2
  · have hn : 2 ≤ s.size → s.data.toList.take 2 ∉ Mill.twos := fun a b => h ⟨a, b⟩
    have e : (Mill.msize s.data.toList : Int) = if s[0] ∈ Mill.shorts then 1 else 0 := by
      have hl := Mill.list_cons s h1
      have := Mill.msize_short s[0] (s.data.toList.drop 1) (by rw [← hl]; intro h2; exact hn (by simpa using h2))
      rw [← hl] at this
      rw [this]; split <;> rfl
    rw [e]
    exact markSize_short s w h1 hn

end Go.Proofs.YticjcabnnjhbgaaDoor
