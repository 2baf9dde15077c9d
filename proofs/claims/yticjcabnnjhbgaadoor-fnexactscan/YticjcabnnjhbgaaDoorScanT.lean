import Derived.Test.YticjcabnnjhbgaaDoorScanS
namespace Go.Proofs.YticjcabnnjhbgaaDoor
open Go.RowKit Go.Maps Go.WideMaps

theorem Mill.msize_le (l : List UInt8) : Mill.msize l ≤ l.length := by
  unfold Mill.msize Mill.markP
  cases h : Mill.marks.find? (Mill.markAt l) with
  | none => simp [Mill.bad]
  | some m =>
    have hq := List.find?_some h
    simp [Mill.markAt] at hq
    exact hq.1
theorem Mill.below7 {w w1 : World} (B : Nat) (hB : B ≤ w.heap.size) (o : Obj) (hb : Below (w.alloc o).heap.size (w.alloc o) w1) (c0 c1 c2 c3 c4 c5 c6 : Value) :
    Below B w (((((((w1.setCell ⟨w.heap.size, 0, none⟩ c0).setCell ⟨w.heap.size, 1, none⟩ c1).setCell ⟨w.heap.size, 2, none⟩ c2).setCell ⟨w.heap.size, 3, none⟩ c3).setCell ⟨w.heap.size, 4, none⟩ c4).setCell ⟨w.heap.size, 5, none⟩ c5).setCell ⟨w.heap.size, 6, none⟩ c6) :=
  ((Mill.below5 B hB o hb c0 c1 c2 c3 c4).setCell (p := ⟨w.heap.size, 5, none⟩) hB _).setCell (p := ⟨w.heap.size, 6, none⟩) hB _

set_option maxRecDepth 100000 in
set_option maxHeartbeats 1000000 in
theorem readMark_any (s : ByteArray) (w : World) (h1 : 1 ≤ s.size) (hs : s.size ≤ 1048576) :
    Calls Tryd.prog 29 #[.string s] w fun e w' => e = .returned (Mill.pieceV (Mill.markP s.data.toList)) ∧ Below w.heap.size w w' := by
  have hle := Mill.msize_le s.data.toList
  simp at hle
  have hmp := Mill.markP_eq s.data.toList
  obtain ⟨n, HN⟩ : ∃ n, Hid (Mill.msize s.data.toList = n) := ⟨_, (rfl : Mill.msize s.data.toList = _)⟩
  rw [HN.out] at hle hmp
  by_cases h0 : n = 0
  · subst h0
    rw [if_pos rfl] at hmp
    have HP : Hid (Mill.pieceV (Mill.markP s.data.toList) = Mill.pieceV (Mill.bad 2)) := by rw [Hid, hmp]
    clear hmp
    go_enter Tryd.func29, Tryd.ntmps29
    go_wp2_with (go_at_call 43; refine (markSize_any _ _ h1).mono ?_; rintro e w' ⟨rfl, rfl⟩; rw [HN.out])
    refine bodyPost_ret (v := Mill.pieceV (Mill.bad 2)) (by simp [results, Tryd.results29, go_sem, Mill.pieceV, Mill.bad, Mill.ba]) rfl ⟨Mill.ret_val HP.out.symm, (Below.refl _ w).alloc (Nat.le_refl _) _⟩
  · rw [if_neg h0] at hmp
    have HP : Hid (Mill.pieceV (Mill.markP s.data.toList) = .agg #[.int .i64 5, .string (s.extract 0 n), .int .i64 0, .int .i64 0, .int .i64 0, .int .i64 (n : Int), .int .i64 0]) := by
      rw [Hid, hmp, Mill.extract_ba]; simp [Mill.pieceV]
    have hn0 : ((n : Int) == 0) = false := by simp; omega
    have hxs : (s.extract 0 n).size ≤ 1048576 := by rw [Mill.extract_ba, Mill.ba_size]; simp; omega
    clear hmp
    go_enter Tryd.func29, Tryd.ntmps29
    go_wp2_with (first
      | (go_at_call 43; refine (markSize_any _ _ h1).mono ?_; rintro e w' ⟨rfl, rfl⟩; rw [HN.out])
      | (go_at_call 39; refine (Clone_any _ _ hxs).mono ?_; rintro e w1 ⟨rfl, hb⟩; obtain ⟨hc, hf⟩ := Mill.bcell hb; have hz := hb.size; simp at hz))
    refine bodyPost_ret (v := .agg #[.int .i64 5, .string (s.extract 0 n), .int .i64 0, .int .i64 0, .int .i64 0, .int .i64 (n : Int), .int .i64 0]) (by simp [results, Tryd.results29, go_sem, hc]) rfl ⟨Mill.ret_val HP.out.symm, Mill.below7 _ (Nat.le_refl _) _ hb _ _ _ _ _ _ _⟩

end Go.Proofs.YticjcabnnjhbgaaDoor
