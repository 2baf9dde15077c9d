import Derived.Test.YticjcabnnjhbgaaDoorScanL
namespace Go.Proofs.YticjcabnnjhbgaaDoor
open Go.RowKit

theorem Mill.own_form {w : World} {B e size n : Nat} {v : Value} {xs : List Value} (h : w.ownsRow B e size v n xs) (hn : 0 < n) : ∃ g cap, v = .slice (some ⟨g, 0, none⟩) n cap ∧ B ≤ g ∧ g < w.heap.size := by
  rcases h.2 with ⟨_, h0⟩ | ⟨g, cap, cur, rfl, hg, hgg, _⟩
  · omega
  · exact ⟨g, cap, rfl, hg, (Array.getElem?_eq_some_iff.1 hgg).1⟩
theorem Mill.own_len {w : World} {B e size n : Nat} {v : Value} {xs : List Value} (h : w.ownsRow B e size v n xs) : ∃ a cap, v = .slice a n cap := by
  rcases h.2 with ⟨rfl, h0⟩ | ⟨g, cap, cur, rfl, _⟩
  · exact ⟨none, 0, by rw [h0]⟩
  · exact ⟨_, _, rfl⟩

theorem Mill.tokCs_length (ts : List (Mill.Piece × Nat)) : (Mill.tokCs ts).length = ts.length * 5 := by
  induction ts with
  | nil => rfl
  | cons t r ih => simp [Mill.tokCs, Mill.tokC] at ih ⊢; omega
theorem Mill.tokCs_at (ts : List (Mill.Piece × Nat)) (i : Nat) (h : i < ts.length) (j : Nat) (hj : j < 5) : (Mill.tokCs ts)[i * 5 + j]? = (Mill.tokC ts[i])[j]? := by
  induction ts generalizing i with
  | nil => simp at h
  | cons t r ih =>
    cases i with
    | zero =>
      simp only [Mill.tokCs, List.flatMap_cons, Nat.zero_mul, Nat.zero_add]
      rw [List.getElem?_append_left (by simp [Mill.tokC]; omega)]; rfl
    | succ i =>
      simp only [Mill.tokCs, List.flatMap_cons]
      rw [List.getElem?_append_right (by simp [Mill.tokC]; omega)]
      have e : (i + 1) * 5 + j - (Mill.tokC t).length = i * 5 + j := by simp [Mill.tokC]; omega
      rw [e]
      exact ih i (by simpa using h)

set_option maxRecDepth 100000 in
set_option maxHeartbeats 1000000 in
theorem eqTokenS_same (ts : List (Mill.Piece × Nat)) (n : Nat) (HN : Hid (ts.length = n)) (va vb : Value) (w : World) (B1 B2 : Nat) (ha : w.ownsRow B1 32 5 va n (Mill.tokCs ts)) (hb : w.ownsRow B2 32 5 vb n (Mill.tokCs ts)) (hl : n ≤ 1000000) :
    Calls Tryd.prog 6 #[va, vb] w fun e w' => e = .returned (.bool true) ∧ Below w.heap.size w w' := by
  have hne : ((n : Int) != (n : Int)) = false := by simp
  by_cases hn : 0 < n
  · obtain ⟨ga, ca, rfl, hga, hga2⟩ := Mill.own_form ha hn
    obtain ⟨gb, cb, rfl, hgb, hgb2⟩ := Mill.own_form hb hn
    have hca : ∀ j, j < n * 5 → w.cell? ⟨ga, j, none⟩ = (Mill.tokCs ts)[j]? := fun j hj => ha.cellAt j hj
    have hcb : ∀ j, j < n * 5 → w.cell? ⟨gb, j, none⟩ = (Mill.tokCs ts)[j]? := fun j hj => hb.cellAt j hj
    clear ha hb
    go_enter Tryd.func6, Tryd.ntmps6
    go_wp2
    go_loopw [5] (fun t wr => ∃ i : Nat, i ≤ n ∧ t = .int .i64 (i : Int) ∧ Below w.heap.size w wr) (fun t _ => n - (intOf t).toNat)
    case atStart => exact ⟨0, by omega, rfl, Below.refl _ _⟩
    case round =>
      obtain ⟨i, hi, rfl, hbw⟩ := hrel
      by_cases hlt : i < n
      · have hil : i < ts.length := by rw [HN.out]; exact hlt
        have hA : ∀ j, j < 5 → wr.cell? ⟨ga, i * 5 + j, none⟩ = (Mill.tokC ts[i])[j]? := fun j hj => by
          rw [hbw.cell (p := ⟨ga, i * 5 + j, none⟩) hga2, hca _ (by omega), Mill.tokCs_at ts i hil j hj]
        have hB : ∀ j, j < 5 → wr.cell? ⟨gb, i * 5 + j, none⟩ = (Mill.tokC ts[i])[j]? := fun j hj => by
          rw [hbw.cell (p := ⟨gb, i * 5 + j, none⟩) hgb2, hcb _ (by omega), Mill.tokCs_at ts i hil j hj]
        generalize ts[i] = t at *
        have a0 := hA 0 (by omega); have a1 := hA 1 (by omega); have a2 := hA 2 (by omega); have a3 := hA 3 (by omega); have a4 := hA 4 (by omega)
        have b0 := hB 0 (by omega); have b1 := hB 1 (by omega); have b2 := hB 2 (by omega); have b3 := hB 3 (by omega); have b4 := hB 4 (by omega)
        simp only [Mill.tokC, List.getElem?_cons_zero, List.getElem?_cons_succ, Nat.add_zero] at a0 a1 a2 a3 a4 b0 b1 b2 b3 b4
        clear hA hB hca hcb hil
        go_wp2_with fail
        have hz : w.heap.size ≤ wr.heap.size := hbw.size
        go_region_with (go_at_call 12; refine (eqToken_same _ _ _ _ _ _).mono ?_; rintro e w1 ⟨rfl, hb1⟩)
        all_goals
          have hbw2 : Below w.heap.size w w1 := hbw.trans (by have := hb1.mono (B' := w.heap.size) (by simpa using hz); exact ⟨this.os, this.tape, this.output, this.size, this.block⟩)
          clear a0 a1 a2 a3 a4 b0 b1 b2 b3 b4
          go_wp2
          go_roundw
          case rel => exact ⟨i + 1, by omega, by go_num, hbw2⟩
          case measure => simp [intOf]; omega
      · go_wp2
        go_ret
        exact ⟨rfl, hbw⟩
  · have h0 : n = 0 := by omega
    subst h0
    obtain ⟨ga, ca, rfl⟩ := Mill.own_len ha
    obtain ⟨gb, cb, rfl⟩ := Mill.own_len hb
    clear ha hb
    go_enter Tryd.func6, Tryd.ntmps6
    go_wp2
    refine wp_loop_rounds 1 ?_
    rw [rounds_succ]
    go_wp2
    go_ret
    exact ⟨rfl, Below.refl _ _⟩

end Go.Proofs.YticjcabnnjhbgaaDoor
