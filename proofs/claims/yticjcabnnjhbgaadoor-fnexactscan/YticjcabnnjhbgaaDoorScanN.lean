import Derived.Test.YticjcabnnjhbgaaDoorScanM
namespace Go.Proofs.YticjcabnnjhbgaaDoor
open Go.RowKit

def Mill.mk5 (c : Nat) (k : Int) (xs : List Value) : List Value := ((((xs.set c (.int .i64 k)).set (c + 1) (.string (Mill.mark (k + 1)))).set (c + 2) (.int .i64 (k + 1 + 1))).set (c + 3) (.int .i64 (k + 1 + 1 + 1))).set (c + 4) (.int .i64 (k + 1 + 1 + 1 + 1))
def Mill.markTo (k : Int) : Nat → List Value → List Value
  | 0, xs => xs
  | i + 1, xs => Mill.mk5 (i * 5) (k + 5 * (i : Int)) (Mill.markTo k i xs)
theorem Mill.markTo_length (k : Int) (i : Nat) (xs : List Value) : (Mill.markTo k i xs).length = xs.length := by
  induction i with
  | zero => rfl
  | succ i ih => simp [Mill.markTo, Mill.mk5, ih]
def Mill.five (k : Int) : List Value := [.int .i64 k, .string (Mill.mark (k + 1)), .int .i64 (k + 1 + 1), .int .i64 (k + 1 + 1 + 1), .int .i64 (k + 1 + 1 + 1 + 1)]
theorem Mill.mk5_other (c : Nat) (k : Int) (xs : List Value) (j : Nat) (h : j < c ∨ c + 4 < j) : (Mill.mk5 c k xs)[j]? = xs[j]? := by
  unfold Mill.mk5
  rw [List.getElem?_set_ne (by omega), List.getElem?_set_ne (by omega), List.getElem?_set_ne (by omega), List.getElem?_set_ne (by omega), List.getElem?_set_ne (by omega)]
theorem Mill.mk5_at (c : Nat) (k : Int) (xs : List Value) (hc : c + 5 ≤ xs.length) (j : Nat) (hj : j < 5) : (Mill.mk5 c k xs)[c + j]? = (Mill.five k)[j]? := by
  unfold Mill.mk5
  match j, hj with
  | 0, _ => rw [List.getElem?_set_ne (by omega), List.getElem?_set_ne (by omega), List.getElem?_set_ne (by omega), List.getElem?_set_ne (by omega)]; rw [Nat.add_zero, List.getElem?_set_self (by omega)]; rfl
  | 1, _ => rw [List.getElem?_set_ne (by omega), List.getElem?_set_ne (by omega), List.getElem?_set_ne (by omega)]; rw [List.getElem?_set_self (by simp; omega)]; rfl
  | 2, _ => rw [List.getElem?_set_ne (by omega), List.getElem?_set_ne (by omega)]; rw [List.getElem?_set_self (by simp; omega)]; rfl
  | 3, _ => rw [List.getElem?_set_ne (by omega)]; rw [List.getElem?_set_self (by simp; omega)]; rfl
  | 4, _ => rw [List.getElem?_set_self (by simp; omega)]; rfl
theorem Mill.markTo_at (k : Int) (n : Nat) (xs : List Value) (hn : n * 5 ≤ xs.length) (i : Nat) (hi : i < n) (j : Nat) (hj : j < 5) : (Mill.markTo k n xs)[i * 5 + j]? = (Mill.five (k + 5 * (i : Int)))[j]? := by
  induction n with
  | zero => omega
  | succ n ih =>
    rw [Mill.markTo]
    by_cases h : i = n
    · subst h
      exact Mill.mk5_at _ _ _ (by rw [Mill.markTo_length]; omega) j hj
    · rw [Mill.mk5_other _ _ _ _ (by omega)]
      exact ih (by omega) (by omega)

theorem Mill.own_some {w : World} {B e size n g cap : Nat} {xs : List Value} (h : w.ownsRow B e size (.slice (some ⟨g, 0, none⟩) n cap) n xs) (j : Nat) (hj : j < n * size) : ∃ y, w.cell? ⟨g, j, none⟩ = some y := by
  rw [h.cellAt j hj]; exact ⟨_, List.getElem?_eq_getElem (by rw [h.1]; exact hj)⟩

set_option maxRecDepth 100000 in
set_option maxHeartbeats 1000000 in
theorem markTokenS_any (v : Value) (n : Nat) (xs : List Value) (k : Int) (B : Nat) (w : World) (hown : w.ownsRow B 32 5 v n xs) (hl : n ≤ 100000) (hk1 : 1 ≤ k) (hk2 : k ≤ 10) :
    Calls Tryd.prog 8 #[v, .int .i64 k] w fun e w' => e = .returned (.int .i64 (k + 5 * (n : Int))) ∧ w'.ownsRow B 32 5 v n (Mill.markTo k n xs) ∧ Below B w w' := by
  by_cases hn : 0 < n
  · obtain ⟨g, cap, rfl, hg, hg2⟩ := Mill.own_form hown hn
    go_enter Tryd.func8, Tryd.ntmps8
    go_wp2
    go_loopw [1, 5] (fun c t wr => ∃ i : Nat, i ≤ n ∧ t = .int .i64 (i : Int) ∧ c = .int .i64 (k + 5 * (i : Int)) ∧ wr.ownsRow B 32 5 (.slice (some ⟨g, 0, none⟩) n cap) n (Mill.markTo k i xs) ∧ Below B w wr) (fun _ t _ => n - (intOf t).toNat)
    case atStart => exact ⟨0, by omega, rfl, by simp, hown, Below.refl _ _⟩
    case round =>
      obtain ⟨i, hi, rfl, rfl, ho, hbw⟩ := hrel
      by_cases hlt : i < n
      · have hlen := ho.1
        have own1 := (ho.stored (i * 5) (.int .i64 (k + 5 * (i : Int)))).1
        have c0 : ∃ y, wr.cell? ⟨g, i * 5, none⟩ = some y := by rw [ho.cellAt (i * 5) (by omega)]; exact ⟨_, List.getElem?_eq_getElem (by omega)⟩
        obtain ⟨y0, c0⟩ := c0
        have f0 := ho.frozenAt (i * 5)
        generalize hK : k + 5 * (i : Int) = K at *
        have hK1 : 1 ≤ K := by omega
        have hK2 : K ≤ 600000 := by omega
        have HK := hK
        clear hK
        have hsz := hbw.size
        go_wp2_with (go_at_call 13; refine (markText_any _ _ (by omega) (by omega)).mono ?_; rintro e w1 ⟨rfl, hb1⟩; have own2 := Mill.own_below own1 hb1; obtain ⟨y1, c1⟩ := Mill.own_some own2 (i * 5 + 1) (by omega); obtain ⟨y2, c2⟩ := Mill.own_some own2 (i * 5 + 2) (by omega); obtain ⟨y3, c3⟩ := Mill.own_some own2 (i * 5 + 3) (by omega); obtain ⟨y4, c4⟩ := Mill.own_some own2 (i * 5 + 4) (by omega); have f1 := own2.frozenAt (i * 5 + 1); have f2 := own2.frozenAt (i * 5 + 2); have f3 := own2.frozenAt (i * 5 + 3); have f4 := own2.frozenAt (i * 5 + 4))
        have own6 := ((((own2.stored (i * 5 + 1) (.string (Mill.mark (K + 1)))).1.stored (i * 5 + 2) (.int .i64 (K + 1 + 1))).1.stored (i * 5 + 3) (.int .i64 (K + 1 + 1 + 1))).1.stored (i * 5 + 4) (.int .i64 (K + 1 + 1 + 1 + 1))).1
        have hb6 : Below B w ((((w1.setCell ⟨g, i * 5 + 1, none⟩ (.string (Mill.mark (K + 1)))).setCell ⟨g, i * 5 + 2, none⟩ (.int .i64 (K + 1 + 1))).setCell ⟨g, i * 5 + 3, none⟩ (.int .i64 (K + 1 + 1 + 1))).setCell ⟨g, i * 5 + 4, none⟩ (.int .i64 (K + 1 + 1 + 1 + 1))) :=
          (((((hbw.setCell (p := ⟨g, i * 5, none⟩) hg _).trans (hb1.mono (by simp; omega))).setCell (p := ⟨g, i * 5 + 1, none⟩) hg _).setCell (p := ⟨g, i * 5 + 2, none⟩) hg _).setCell (p := ⟨g, i * 5 + 3, none⟩) hg _).setCell (p := ⟨g, i * 5 + 4, none⟩) hg _
        go_roundw
        case rel =>
          refine ⟨i + 1, by omega, by go_num, ?_, ?_, hb6⟩
          · rw [show k + 5 * ((i + 1 : Nat) : Int) = K + 5 by omega]; go_num
          · rw [Mill.markTo, HK]; exact own6
        case measure => simp [intOf]; omega
      · have h0 : i = n := by omega
        subst h0
        go_wp2
        go_ret
        exact ⟨rfl, ho, hbw⟩
  · have h0 : n = 0 := by omega
    subst h0
    obtain ⟨ga, ca, rfl⟩ := Mill.own_len hown
    go_enter Tryd.func8, Tryd.ntmps8
    go_wp2
    refine wp_loop_rounds 1 ?_
    rw [rounds_succ]
    go_wp2
    go_ret
    exact ⟨Mill.ret_int (by simp), hown, Below.refl _ _⟩

set_option maxRecDepth 100000 in
set_option maxHeartbeats 1000000 in
theorem heldTokenS_any (v : Value) (n : Nat) (xs : List Value) (k : Int) (B : Nat) (w : World) (hown : w.ownsRow B 32 5 v n (Mill.markTo k n xs)) (hl : n ≤ 100000) (hk1 : 1 ≤ k) (hk2 : k ≤ 10) :
    Calls Tryd.prog 9 #[v, .int .i64 k] w fun e w' => e = .returned (.int .i64 (k + 5 * (n : Int))) ∧ Below w.heap.size w w' := by
  by_cases hn : 0 < n
  · obtain ⟨g, cap, rfl, hg, hg2⟩ := Mill.own_form hown hn
    have hlen : n * 5 ≤ xs.length := by have := hown.1; rw [Mill.markTo_length] at this; omega
    have hcl : ∀ i, i < n → ∀ j, j < 5 → w.cell? ⟨g, i * 5 + j, none⟩ = (Mill.five (k + 5 * (i : Int)))[j]? := fun i hi j hj => by
      rw [hown.cellAt _ (by omega), Mill.markTo_at k n xs hlen i hi j hj]
    clear hown
    go_enter Tryd.func9, Tryd.ntmps9
    go_wp2
    go_loopw [1, 5] (fun c t wr => ∃ i : Nat, i ≤ n ∧ t = .int .i64 (i : Int) ∧ c = .int .i64 (k + 5 * (i : Int)) ∧ Below w.heap.size w wr) (fun _ t _ => n - (intOf t).toNat)
    case atStart => exact ⟨0, by omega, rfl, by simp, Below.refl _ _⟩
    case round =>
      obtain ⟨i, hi, rfl, rfl, hbw⟩ := hrel
      by_cases hlt : i < n
      · have hA : ∀ (wx : World), Below w.heap.size w wx → ∀ j, j < 5 → wx.cell? ⟨g, i * 5 + j, none⟩ = (Mill.five (k + 5 * (i : Int)))[j]? := fun wx hx j hj => by
          rw [hx.cell (p := ⟨g, i * 5 + j, none⟩) hg2]; exact hcl i hlt j hj
        clear hcl
        generalize hK : k + 5 * (i : Int) = K at *
        have hK1 : 1 ≤ K := by omega
        have hK2 : K ≤ 600000 := by omega
        have HK := hK
        clear hK
        have a0 := hA wr hbw 0 (by omega)
        have a1 := hA wr hbw 1 (by omega)
        have hsz := hbw.size
        have n0 : (K != K) = false := by simp
        simp only [Mill.five, List.getElem?_cons_zero, List.getElem?_cons_succ, Nat.add_zero] at a0 a1 hA
        have HA : Hid (∀ (wx : World), Below w.heap.size w wx → wx.cell? ⟨g, i * 5 + 1, none⟩ = some (.string (Mill.mark (K + 1))) ∧ wx.cell? ⟨g, i * 5 + 2, none⟩ = some (.int .i64 (K + 1 + 1)) ∧ wx.cell? ⟨g, i * 5 + 3, none⟩ = some (.int .i64 (K + 1 + 1 + 1)) ∧ wx.cell? ⟨g, i * 5 + 4, none⟩ = some (.int .i64 (K + 1 + 1 + 1 + 1))) := fun wx hx => ⟨hA wx hx 1 (by omega), hA wx hx 2 (by omega), hA wx hx 3 (by omega), hA wx hx 4 (by omega)⟩
        clear hA
        go_wp2_with fail
        have hq : (i : Int) < (n : Int) := by omega
        go_region_with (go_at_call 13; refine (markText_any _ _ (by omega) (by omega)).mono ?_; rintro e w1 ⟨rfl, hb1⟩; have hbw1 : Below w.heap.size w w1 := hbw.trans ⟨hb1.os, hb1.tape, hb1.output, hb1.size, fun j hj => hb1.block j (by have := hbw.size; simp; omega)⟩; obtain ⟨c1, c2, c3, c4⟩ := HA.out w1 hbw1)
        all_goals
          go_wp2
          go_roundw
          case rel =>
            refine ⟨i + 1, by omega, by go_num, ?_, hbw1⟩
            rw [show k + 5 * ((i + 1 : Nat) : Int) = K + 5 by omega]; go_num
          case measure => simp [intOf]; omega
      · have h0 : i = n := by omega
        subst h0
        go_wp2
        go_ret
        exact ⟨rfl, hbw⟩
  · have h0 : n = 0 := by omega
    subst h0
    obtain ⟨ga, ca, rfl⟩ := Mill.own_len hown
    go_enter Tryd.func9, Tryd.ntmps9
    go_wp2
    refine wp_loop_rounds 1 ?_
    rw [rounds_succ]
    go_wp2
    go_ret
    exact ⟨Mill.ret_int (by simp), Below.refl _ _⟩

end Go.Proofs.YticjcabnnjhbgaaDoor
