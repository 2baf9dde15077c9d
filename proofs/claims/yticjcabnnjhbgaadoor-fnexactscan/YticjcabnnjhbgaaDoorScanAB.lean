import Derived.Test.YticjcabnnjhbgaaDoorScanAA
namespace Go.Proofs.YticjcabnnjhbgaaDoor
open Go.RowKit Go.Shelf

theorem Mill.fin_len : ∀ (l acc : List (Mill.Piece × Nat)), (Mill.fin acc l).1.length ≤ acc.length + l.length
  | [], acc => by rw [Mill.fin]; simp
  | x :: r, acc => by
    rw [Mill.fin]
    split
    · simp
    · have := Mill.fin_len r (acc ++ [x]); simp at this ⊢; omega
theorem Mill.scan_len (s : ByteArray) : (Mill.scan s).1.length ≤ 12001 := by
  by_cases h : 12000 < s.size
  · rw [Mill.scan, if_pos h]; simp
  · rw [Mill.scan_fin s (by omega)]
    have h1 := Mill.fin_len (Mill.seq s) []
    have h2 : (Mill.seq s).length ≤ s.size + 1 := Mill.seq_len _ _ _
    simp at h1; omega

theorem Mill.pair_cells {w wr : World} {c0 c1 : Value} {t : TypeId} (hb : Below (w.heap.size + 1) (w.alloc (.cells #[c0, c1] t)) wr) :
    wr.cell? ⟨w.heap.size, 0, none⟩ = some c0 ∧ wr.cell? ⟨w.heap.size, 1, none⟩ = some c1 := by
  refine ⟨?_, ?_⟩
  · rw [hb.cell (p := ⟨w.heap.size, 0, none⟩) (by simp)]; simp [go_sem]
  · rw [hb.cell (p := ⟨w.heap.size, 1, none⟩) (by simp)]; simp [go_sem]
theorem Mill.own_belowN {W W' : World} {B e size n N : Nat} {v : Value} {xs : List Value} (h : W.ownsRow B e size v n xs) (hN : W.heap.size ≤ N) (hb : Below N W W') : W'.ownsRow B e size v n xs := Mill.own_below h (hb.mono hN)

set_option maxRecDepth 100000 in
set_option maxHeartbeats 2000000 in
theorem law_short (s : ByteArray) (hs : s.size ≤ 1048576) (w : World) (hG : Mill.Globs w) :
    Calls Tryd.prog 3 #[.string s] w fun e w' => e = .returned (.bool true) ∧ Below w.heap.size w w' := by
  have hl := Mill.scan_len s
  obtain ⟨ts, c, a, HR⟩ : ∃ ts c a, Hid (Mill.scan s = (ts, c, a)) := ⟨_, _, _, (rfl : Mill.scan s = _)⟩
  rw [HR.out] at hl
  obtain ⟨n, HN⟩ : ∃ n, Hid (ts.length = n) := ⟨_, (rfl : ts.length = _)⟩
  have hn : n ≤ 12001 := by have := HN.out; simp at hl; omega
  clear hl
  have hqm : ((1 + 5 * (n : Int)) != (1 + 5 * (n : Int))) = false := by simp
  go_enter Tryd.func3, Tryd.ntmps3
  go_wp2_with (first
    | (go_at_call 4; refine (specScan_any s w).mono ?_; rintro e w1 ⟨vw, rfl, ow1, hb1⟩; rw [HR.out] at ow1; simp only [HN.out] at ow1; rw [HR.out]; simp only [Mill.faultV]
       have hA1 : Below w.heap.size w (w1.alloc (.cells #[.int .i64 c, .int .i64 (a : Int)] 24)) := hb1.alloc hb1.size _
       have oA1 := ow1.alloc (.cells #[.int .i64 c, .int .i64 (a : Int)] 24))
    | (go_at_call 5; refine (implScan_any s (w1.alloc (.cells #[.int .i64 c, .int .i64 (a : Int)] 24)) (hG.below hA1)).mono ?_; rintro e w2 ⟨vg, rfl, og2, hb2⟩; rw [HR.out] at og2; simp only [HN.out, World.size_alloc] at og2; rw [World.size_alloc] at hb2; rw [HR.out]; simp only [Mill.faultV])
    | (go_at_call 6; refine (eqTokenS_same ts n HN vg vw (w2.alloc (.cells #[.int .i64 c, .int .i64 (a : Int)] 24)) (w1.heap.size + 1) w.heap.size (og2.alloc _) ((Mill.own_belowN oA1 (by simp) hb2).alloc _) (by omega)).mono ?_; rintro e w3 ⟨rfl, hb3⟩; rw [World.size_alloc] at hb3
       have hz1 := hb1.size; have hz2 := hb2.size; rw [World.size_alloc] at hz2
       have hd3 : Below (w1.heap.size + 1) (w1.alloc (.cells #[.int .i64 c, .int .i64 (a : Int)] 24)) w3 := (hb2.alloc (by omega) (.cells #[.int .i64 c, .int .i64 (a : Int)] 24)).trans (hb3.mono (by omega))
       obtain ⟨p0, p1⟩ := Mill.pair_cells hd3
       obtain ⟨q0, q1⟩ := Mill.pair_cells hb3)
    | (go_at_call 7; refine (eqFault_same c (a : Int) w3).mono ?_; rintro e w4 ⟨rfl, hb4⟩)
    | (go_at_call 8; refine (markTokenS_any vg n _ 1 (w1.heap.size + 1) w4 (Mill.own_below (Mill.own_belowN (og2.alloc (.cells #[.int .i64 c, .int .i64 (a : Int)] 24)) (by simp) hb3) hb4) (by omega) (by omega) (by omega)).mono ?_; rintro e w5 ⟨rfl, og5, hb5⟩)
    | (go_at_call 9; refine (heldTokenS_any vg n _ 1 (w1.heap.size + 1) w5 og5 (by omega) (by omega) (by omega)).mono ?_; rintro e w6 ⟨rfl, hb6⟩
       have hz3 := hd3.size; have hz4 := hb4.size; have hz5 := hb5.size; have hz6 := hb6.size
       rw [World.size_alloc] at hz3
       have hd6 : Below (w1.heap.size + 1) (w1.alloc (.cells #[.int .i64 c, .int .i64 (a : Int)] 24)) w6 := ((hd3.trans (hb4.mono (by omega))).trans hb5).trans (hb6.mono (by omega))
       have hA6 : Below w.heap.size w w6 := hA1.trans (hd6.mono (by omega))))
  go_wp2_with (first
    | (go_at_call 5; refine (implScan_any s w6 (hG.below hA6)).mono ?_; rintro e w7 ⟨vh, rfl, oh7, hb7⟩; rw [HR.out] at oh7; simp only [HN.out] at oh7; rw [HR.out]; simp only [Mill.faultV])
    | (go_at_call 6; refine (eqTokenS_same ts n HN vh vw (w7.alloc (.cells #[.int .i64 c, .int .i64 (a : Int)] 24)) w6.heap.size w.heap.size (oh7.alloc _) ((Mill.own_below (Mill.own_belowN oA1 (by simp) hd6) hb7).alloc _) (by omega)).mono ?_; rintro e w8 ⟨rfl, hb8⟩; rw [World.size_alloc] at hb8
       have hz7 := hb7.size
       have hd8 : Below (w1.heap.size + 1) (w1.alloc (.cells #[.int .i64 c, .int .i64 (a : Int)] 24)) w8 := ((hd6.trans (hb7.mono (by omega))).alloc (by omega) (.cells #[.int .i64 c, .int .i64 (a : Int)] 24)).trans (hb8.mono (by omega))
       obtain ⟨p2, p3⟩ := Mill.pair_cells hd8
       obtain ⟨q2, q3⟩ := Mill.pair_cells hb8)
    | (go_at_call 7; refine (eqFault_same c (a : Int) w8).mono ?_; rintro e w9 ⟨rfl, hb9⟩)
    | (go_at_call 9; refine (heldTokenS_any vg n _ 1 (w1.heap.size + 1) w9 (Mill.own_below (Mill.own_belowN ((Mill.own_below (Mill.own_below og5 hb6) hb7).alloc (.cells #[.int .i64 c, .int .i64 (a : Int)] 24)) (by simp) hb8) hb9) (by omega) (by omega) (by omega)).mono ?_; rintro e w10 ⟨rfl, hb10⟩))
  have hz8 := hd8.size
  have hz9 := hb9.size
  rw [World.size_alloc] at hz8
  go_ret
  exact ⟨rfl, ((hA1.trans (hd8.mono (by omega))).trans (hb9.mono (by omega))).trans (hb10.mono (by omega))⟩

theorem law_any (s : ByteArray) (w : World) (hG : Mill.Globs w) :
    Calls Tryd.prog 3 #[.string s] w fun e w' => e = .returned (.bool true) ∧ Below w.heap.size w w' := by
  by_cases hs : s.size ≤ 1048576
  · exact law_short s hs w hG
  · go_enter Tryd.func3, Tryd.ntmps3
    go_wp2
    go_ret
    exact ⟨rfl, Below.refl _ _⟩
end Go.Proofs.YticjcabnnjhbgaaDoor
