import Derived.Test.YthichbgddoadbacDoorVScanI
import Derived.Deep.RegionWith
namespace Go.Proofs.YthichbgddoadbacDoor
open Go.RowKit

set_option maxRecDepth 100000 in
set_option maxHeartbeats 1000000 in
theorem eqToken_same (k y n a : Int) (t : ByteArray) (w : World) :
    Calls Tryd.prog 18 #[.agg #[.int .i64 k, .string t, .int .i64 y, .int .i64 n, .int .i64 a], .agg #[.int .i64 k, .string t, .int .i64 y, .int .i64 n, .int .i64 a]] w fun e w' => e = .returned (.bool true) ∧ Below w.heap.size w w' := by
  have h1 : (k != k) = false := by simp
  have h2 : (y != y) = false := by simp
  have h3 : (n != n) = false := by simp
  have h4 : (a != a) = false := by simp
  go_enter Tryd.func18, Tryd.ntmps18
  go_wp2
  all_goals go_ret
  all_goals exact ⟨rfl, ((Below.refl _ w).alloc (Nat.le_refl _) _).alloc (by simp) _⟩

set_option maxHeartbeats 400000 in
theorem eqFault_same (c a : Int) (w : World) :
    Calls Tryd.prog 8 #[.agg #[.int .i64 c, .int .i64 a], .agg #[.int .i64 c, .int .i64 a]] w fun e w' => e = .returned (.bool true) ∧ Below w.heap.size w w' := by
  go_enter Tryd.func8, Tryd.ntmps8
  go_wp2
  all_goals go_ret
  all_goals exact ⟨rfl, ((Below.refl _ w).alloc (Nat.le_refl _) _).alloc (by simp) _⟩

def Mill.digs : Nat → Int → ByteArray → ByteArray
  | 0, _, out => out
  | f + 1, k, out => if 0 < k then Mill.digs f (k / 10) (⟨#[UInt8.ofNat (48 + k % 10).toNat]⟩ ++ out) else out
def Mill.mark (k : Int) : ByteArray := ⟨#[109]⟩ ++ Mill.digs (k.toNat + 1) k ⟨#[]⟩
theorem Mill.digs_pos (f : Nat) (k : Int) (out : ByteArray) (h : 0 < k) : Mill.digs (f + 1) k out = Mill.digs f (k / 10) (⟨#[UInt8.ofNat (48 + k % 10).toNat]⟩ ++ out) := by rw [Mill.digs, if_pos h]
theorem Mill.digs_zero (f : Nat) (k : Int) (out : ByteArray) (h : ¬ 0 < k) : Mill.digs f k out = out := by
  cases f with
  | zero => rfl
  | succ f => rw [Mill.digs, if_neg h]

theorem Mill.size_one (x : UInt8) : (⟨#[x]⟩ : ByteArray).size = 1 := rfl
theorem Mill.size_app (a b : ByteArray) : (a ++ b).size = a.size + b.size := ByteArray.size_append
theorem Mill.conv_one (w : World) (x : Int) (h0 : 0 ≤ x) (h1 : x ≤ 255) :
    Sem.run Tryd.prog (convert 83 9 (.slice (some ⟨w.heap.size, 0, none⟩) 1 1)) (w.alloc (.cells #[.int .u8 x] 5)) = .ok (.string ⟨#[UInt8.ofNat x.toNat]⟩) (w.alloc (.cells #[.int .u8 x] 5)) := by
  refine run_convert_bytes_back (P := Tryd.prog) (w.alloc (.cells #[.int .u8 x] 5)) 83 9 5 ⟨w.heap.size, 0, none⟩ 1 [UInt8.ofNat x.toNat] Tryd.underlying83 Tryd.underlying5 Tryd.underlying9 ?_
  intro j hj
  have hj0 : j = 0 := by simp at hj; omega
  subst hj0
  refine Mill.cell_new w #[.int .u8 x] 5 0 _ ?_
  simp only [List.getElem_cons_zero, Mill.ofNat_toNat x h0 h1]; rfl

set_option maxRecDepth 100000 in
set_option maxHeartbeats 1000000 in
theorem markText_any (k : Int) (w : World) (h1 : 1 ≤ k) (h2 : k ≤ 1000000) :
    Calls Tryd.prog 19 #[.int .i64 k] w fun e w' => e = .returned (.string (Mill.mark k)) ∧ Below w.heap.size w w' := by
  go_enter Tryd.func19, Tryd.ntmps19
  go_wp2
  go_loopw [0, 3] (fun t v wr => ∃ (j : Int) (f : Nat) (out : ByteArray), 0 ≤ j ∧ j ≤ k ∧ j < f ∧ (out.size : Int) ≤ k - j ∧ t = .int .i64 j ∧ v = .string out ∧ Mill.digs f j out = Mill.digs (k.toNat + 1) k ⟨#[]⟩ ∧ Below w.heap.size w wr) (fun t _ _ => (intOf t).toNat)
  case atStart => exact ⟨k, k.toNat + 1, ⟨#[]⟩, by omega, by omega, by omega, by simp [ByteArray.size], rfl, rfl, rfl, Below.refl _ _⟩
  case round =>
    obtain ⟨j, f, out, hj0, hj1, hjf, hos, rfl, rfl, hd, hb⟩ := hrel
    by_cases hp : 0 < j
    · obtain ⟨f, rfl⟩ : ∃ f', f = f' + 1 := ⟨f - 1, by omega⟩
      have HD : Hid (Mill.digs f (j / 10) (⟨#[UInt8.ofNat (48 + j % 10).toNat]⟩ ++ out) = Mill.digs (k.toNat + 1) k ⟨#[]⟩) := by rw [Mill.digs_pos _ _ _ hp] at hd; exact hd
      clear hd
      have hcv := Mill.conv_one wr (48 + j % 10) (by omega) (by omega)
      go_wp2
      go_roundw
      case rel => exact ⟨j / 10, f, _, by omega, by omega, by omega, by rw [Mill.size_app, Mill.size_one]; omega, rfl, rfl, HD.out, hb.alloc hb.size _⟩
      case measure => simp [intOf]; omega
    · have HD : Hid (out = Mill.digs (k.toNat + 1) k ⟨#[]⟩) := by rw [Mill.digs_zero _ _ _ hp] at hd; exact hd
      clear hd
      have HM : Hid (Value.string (⟨#[109]⟩ ++ out) = .string (Mill.mark k)) := by rw [Hid, Mill.mark, ← HD.out]
      go_wp2
      go_ret
      exact ⟨Mill.ret_val HM.out, hb⟩

end Go.Proofs.YthichbgddoadbacDoor

namespace Go.Proofs.YthichbgddoadbacDoor
open Go.RowKit

theorem Mill.own_form {w : World} {B e size n : Nat} {v : Value} {xs : List Value} (h : w.ownsRow B e size v n xs) (hn : 0 < n) : ∃ g cap, v = .slice (some ⟨g, 0, none⟩) n cap ∧ B ≤ g ∧ g < w.heap.size := by
  rcases h.2 with ⟨_, h0⟩ | ⟨g, cap, cur, rfl, hg, hgg, _⟩
  · omega
  · exact ⟨g, cap, rfl, hg, (Array.getElem?_eq_some_iff.1 hgg).1⟩
theorem Mill.own_len {w : World} {B e size n : Nat} {v : Value} {xs : List Value} (h : w.ownsRow B e size v n xs) : ∃ a cap, v = .slice a n cap := by
  rcases h.2 with ⟨rfl, h0⟩ | ⟨g, cap, cur, rfl, _⟩
  · exact ⟨none, 0, by rw [h0]⟩
  · exact ⟨_, _, rfl⟩

theorem Mill.tokCs_length (ts : List (Mill.Piece × Nat)) : (Mill.tokCs ts).length = ts.length * 5 := by
  induction ts with
  | nil => rfl
  | cons t r ih => simp [Mill.tokCs, Mill.tokC] at ih ⊢; omega
theorem Mill.tokCs_at (ts : List (Mill.Piece × Nat)) (i : Nat) (h : i < ts.length) (j : Nat) (hj : j < 5) : (Mill.tokCs ts)[i * 5 + j]? = (Mill.tokC ts[i])[j]? := by
  induction ts generalizing i with
  | nil => simp at h
  | cons t r ih =>
    cases i with
    | zero =>
      simp only [Mill.tokCs, List.flatMap_cons, Nat.zero_mul, Nat.zero_add]
      rw [List.getElem?_append_left (by simp [Mill.tokC]; omega)]; rfl
    | succ i =>
      simp only [Mill.tokCs, List.flatMap_cons]
      rw [List.getElem?_append_right (by simp [Mill.tokC]; omega)]
      have e : (i + 1) * 5 + j - (Mill.tokC t).length = i * 5 + j := by simp [Mill.tokC]; omega
      rw [e]
      exact ih i (by simpa using h)

set_option maxRecDepth 100000 in
set_option maxHeartbeats 1000000 in
theorem eqTokenS_same (ts : List (Mill.Piece × Nat)) (n : Nat) (HN : Hid (ts.length = n)) (va vb : Value) (w : World) (B1 B2 : Nat) (ha : w.ownsRow B1 43 5 va n (Mill.tokCs ts)) (hb : w.ownsRow B2 43 5 vb n (Mill.tokCs ts)) (hl : n ≤ 1000000) :
    Calls Tryd.prog 7 #[va, vb] w fun e w' => e = .returned (.bool true) ∧ Below w.heap.size w w' := by
  have hne : ((n : Int) != (n : Int)) = false := by simp
  by_cases hn : 0 < n
  · obtain ⟨ga, ca, rfl, hga, hga2⟩ := Mill.own_form ha hn
    obtain ⟨gb, cb, rfl, hgb, hgb2⟩ := Mill.own_form hb hn
    have hca : ∀ j, j < n * 5 → w.cell? ⟨ga, j, none⟩ = (Mill.tokCs ts)[j]? := fun j hj => ha.cellAt j hj
    have hcb : ∀ j, j < n * 5 → w.cell? ⟨gb, j, none⟩ = (Mill.tokCs ts)[j]? := fun j hj => hb.cellAt j hj
    clear ha hb
    go_enter Tryd.func7, Tryd.ntmps7
    go_wp2
    go_loopw [5] (fun t wr => ∃ i : Nat, i ≤ n ∧ t = .int .i64 (i : Int) ∧ Below w.heap.size w wr) (fun t _ => n - (intOf t).toNat)
    case atStart => exact ⟨0, by omega, rfl, Below.refl _ _⟩
    case round =>
      obtain ⟨i, hi, rfl, hbw⟩ := hrel
      by_cases hlt : i < n
      · have hil : i < ts.length := by rw [HN.out]; exact hlt
        have hA : ∀ j, j < 5 → wr.cell? ⟨ga, i * 5 + j, none⟩ = (Mill.tokC ts[i])[j]? := fun j hj => by
          rw [hbw.cell (p := ⟨ga, i * 5 + j, none⟩) hga2, hca _ (by omega), Mill.tokCs_at ts i hil j hj]
        have hB : ∀ j, j < 5 → wr.cell? ⟨gb, i * 5 + j, none⟩ = (Mill.tokC ts[i])[j]? := fun j hj => by
          rw [hbw.cell (p := ⟨gb, i * 5 + j, none⟩) hgb2, hcb _ (by omega), Mill.tokCs_at ts i hil j hj]
        generalize ts[i] = t at *
        have a0 := hA 0 (by omega); have a1 := hA 1 (by omega); have a2 := hA 2 (by omega); have a3 := hA 3 (by omega); have a4 := hA 4 (by omega)
        have b0 := hB 0 (by omega); have b1 := hB 1 (by omega); have b2 := hB 2 (by omega); have b3 := hB 3 (by omega); have b4 := hB 4 (by omega)
        simp only [Mill.tokC, List.getElem?_cons_zero, List.getElem?_cons_succ, Nat.add_zero] at a0 a1 a2 a3 a4 b0 b1 b2 b3 b4
        clear hA hB hca hcb hil
        go_wp2_with fail
        have hz : w.heap.size ≤ wr.heap.size := hbw.size
        go_region_with (go_at_call 18; refine (eqToken_same _ _ _ _ _ _).mono ?_; rintro e w1 ⟨rfl, hb1⟩)
        all_goals
          have hbw2 : Below w.heap.size w w1 := hbw.trans (by have := hb1.mono (B' := w.heap.size) (by simpa using hz); exact ⟨this.os, this.tape, this.output, this.size, this.block⟩)
          clear a0 a1 a2 a3 a4 b0 b1 b2 b3 b4
          go_wp2
          go_roundw
          case rel => exact ⟨i + 1, by omega, by go_num, hbw2⟩
          case measure => simp [intOf]; omega
      · go_wp2
        go_ret
        exact ⟨rfl, hbw⟩
  · have h0 : n = 0 := by omega
    subst h0
    obtain ⟨ga, ca, rfl⟩ := Mill.own_len ha
    obtain ⟨gb, cb, rfl⟩ := Mill.own_len hb
    clear ha hb
    go_enter Tryd.func7, Tryd.ntmps7
    go_wp2
    refine wp_loop_rounds 1 ?_
    rw [rounds_succ]
    go_wp2
    go_ret
    exact ⟨rfl, Below.refl _ _⟩

end Go.Proofs.YthichbgddoadbacDoor

namespace Go.Proofs.YthichbgddoadbacDoor
open Go.RowKit

def Mill.mk5 (c : Nat) (k : Int) (xs : List Value) : List Value := ((((xs.set c (.int .i64 k)).set (c + 1) (.string (Mill.mark (k + 1)))).set (c + 2) (.int .i64 (k + 1 + 1))).set (c + 3) (.int .i64 (k + 1 + 1 + 1))).set (c + 4) (.int .i64 (k + 1 + 1 + 1 + 1))
def Mill.markTo (k : Int) : Nat → List Value → List Value
  | 0, xs => xs
  | i + 1, xs => Mill.mk5 (i * 5) (k + 5 * (i : Int)) (Mill.markTo k i xs)
theorem Mill.markTo_length (k : Int) (i : Nat) (xs : List Value) : (Mill.markTo k i xs).length = xs.length := by
  induction i with
  | zero => rfl
  | succ i ih => simp [Mill.markTo, Mill.mk5, ih]
def Mill.five (k : Int) : List Value := [.int .i64 k, .string (Mill.mark (k + 1)), .int .i64 (k + 1 + 1), .int .i64 (k + 1 + 1 + 1), .int .i64 (k + 1 + 1 + 1 + 1)]
theorem Mill.mk5_other (c : Nat) (k : Int) (xs : List Value) (j : Nat) (h : j < c ∨ c + 4 < j) : (Mill.mk5 c k xs)[j]? = xs[j]? := by
  unfold Mill.mk5
  rw [List.getElem?_set_ne (by omega), List.getElem?_set_ne (by omega), List.getElem?_set_ne (by omega), List.getElem?_set_ne (by omega), List.getElem?_set_ne (by omega)]
theorem Mill.mk5_at (c : Nat) (k : Int) (xs : List Value) (hc : c + 5 ≤ xs.length) (j : Nat) (hj : j < 5) : (Mill.mk5 c k xs)[c + j]? = (Mill.five k)[j]? := by
  unfold Mill.mk5
  match j, hj with
  | 0, _ => rw [List.getElem?_set_ne (by omega), List.getElem?_set_ne (by omega), List.getElem?_set_ne (by omega), List.getElem?_set_ne (by omega)]; rw [Nat.add_zero, List.getElem?_set_self (by omega)]; rfl
  | 1, _ => rw [List.getElem?_set_ne (by omega), List.getElem?_set_ne (by omega), List.getElem?_set_ne (by omega)]; rw [List.getElem?_set_self (by simp; omega)]; rfl
  | 2, _ => rw [List.getElem?_set_ne (by omega), List.getElem?_set_ne (by omega)]; rw [List.getElem?_set_self (by simp; omega)]; rfl
  | 3, _ => rw [List.getElem?_set_ne (by omega)]; rw [List.getElem?_set_self (by simp; omega)]; rfl
  | 4, _ => rw [List.getElem?_set_self (by simp; omega)]; rfl
theorem Mill.markTo_at (k : Int) (n : Nat) (xs : List Value) (hn : n * 5 ≤ xs.length) (i : Nat) (hi : i < n) (j : Nat) (hj : j < 5) : (Mill.markTo k n xs)[i * 5 + j]? = (Mill.five (k + 5 * (i : Int)))[j]? := by
  induction n with
  | zero => omega
  | succ n ih =>
    rw [Mill.markTo]
    by_cases h : i = n
    · subst h
      exact Mill.mk5_at _ _ _ (by rw [Mill.markTo_length]; omega) j hj
    · rw [Mill.mk5_other _ _ _ _ (by omega)]
      exact ih (by omega) (by omega)

theorem Mill.own_some {w : World} {B e size n g cap : Nat} {xs : List Value} (h : w.ownsRow B e size (.slice (some ⟨g, 0, none⟩) n cap) n xs) (j : Nat) (hj : j < n * size) : ∃ y, w.cell? ⟨g, j, none⟩ = some y := by
  rw [h.cellAt j hj]; exact ⟨_, List.getElem?_eq_getElem (by rw [h.1]; exact hj)⟩

set_option maxRecDepth 100000 in
set_option maxHeartbeats 1000000 in
theorem markTokenS_any (v : Value) (n : Nat) (xs : List Value) (k : Int) (B : Nat) (w : World) (hown : w.ownsRow B 43 5 v n xs) (hl : n ≤ 100000) (hk1 : 1 ≤ k) (hk2 : k ≤ 10) :
    Calls Tryd.prog 9 #[v, .int .i64 k] w fun e w' => e = .returned (.int .i64 (k + 5 * (n : Int))) ∧ w'.ownsRow B 43 5 v n (Mill.markTo k n xs) ∧ Below B w w' := by
  by_cases hn : 0 < n
  · obtain ⟨g, cap, rfl, hg, hg2⟩ := Mill.own_form hown hn
    go_enter Tryd.func9, Tryd.ntmps9
    go_wp2
    go_loopw [1, 5] (fun c t wr => ∃ i : Nat, i ≤ n ∧ t = .int .i64 (i : Int) ∧ c = .int .i64 (k + 5 * (i : Int)) ∧ wr.ownsRow B 43 5 (.slice (some ⟨g, 0, none⟩) n cap) n (Mill.markTo k i xs) ∧ Below B w wr) (fun _ t _ => n - (intOf t).toNat)
    case atStart => exact ⟨0, by omega, rfl, by simp, hown, Below.refl _ _⟩
    case round =>
      obtain ⟨i, hi, rfl, rfl, ho, hbw⟩ := hrel
      by_cases hlt : i < n
      · have hlen := ho.1
        have own1 := (ho.stored (i * 5) (.int .i64 (k + 5 * (i : Int)))).1
        have c0 : ∃ y, wr.cell? ⟨g, i * 5, none⟩ = some y := by rw [ho.cellAt (i * 5) (by omega)]; exact ⟨_, List.getElem?_eq_getElem (by omega)⟩
        obtain ⟨y0, c0⟩ := c0
        have f0 := ho.frozenAt (i * 5)
        generalize hK : k + 5 * (i : Int) = K at *
        have hK1 : 1 ≤ K := by omega
        have hK2 : K ≤ 600000 := by omega
        have HK := hK
        clear hK
        have hsz := hbw.size
        go_wp2_with (go_at_call 19; refine (markText_any _ _ (by omega) (by omega)).mono ?_; rintro e w1 ⟨rfl, hb1⟩; have own2 := Mill.own_below own1 hb1; obtain ⟨y1, c1⟩ := Mill.own_some own2 (i * 5 + 1) (by omega); obtain ⟨y2, c2⟩ := Mill.own_some own2 (i * 5 + 2) (by omega); obtain ⟨y3, c3⟩ := Mill.own_some own2 (i * 5 + 3) (by omega); obtain ⟨y4, c4⟩ := Mill.own_some own2 (i * 5 + 4) (by omega); have f1 := own2.frozenAt (i * 5 + 1); have f2 := own2.frozenAt (i * 5 + 2); have f3 := own2.frozenAt (i * 5 + 3); have f4 := own2.frozenAt (i * 5 + 4))
        have own6 := ((((own2.stored (i * 5 + 1) (.string (Mill.mark (K + 1)))).1.stored (i * 5 + 2) (.int .i64 (K + 1 + 1))).1.stored (i * 5 + 3) (.int .i64 (K + 1 + 1 + 1))).1.stored (i * 5 + 4) (.int .i64 (K + 1 + 1 + 1 + 1))).1
        have hb6 : Below B w ((((w1.setCell ⟨g, i * 5 + 1, none⟩ (.string (Mill.mark (K + 1)))).setCell ⟨g, i * 5 + 2, none⟩ (.int .i64 (K + 1 + 1))).setCell ⟨g, i * 5 + 3, none⟩ (.int .i64 (K + 1 + 1 + 1))).setCell ⟨g, i * 5 + 4, none⟩ (.int .i64 (K + 1 + 1 + 1 + 1))) :=
          (((((hbw.setCell (p := ⟨g, i * 5, none⟩) hg _).trans (hb1.mono (by simp; omega))).setCell (p := ⟨g, i * 5 + 1, none⟩) hg _).setCell (p := ⟨g, i * 5 + 2, none⟩) hg _).setCell (p := ⟨g, i * 5 + 3, none⟩) hg _).setCell (p := ⟨g, i * 5 + 4, none⟩) hg _
        go_roundw
        case rel =>
          refine ⟨i + 1, by omega, by go_num, ?_, ?_, hb6⟩
          · rw [show k + 5 * ((i + 1 : Nat) : Int) = K + 5 by omega]; go_num
          · rw [Mill.markTo, HK]; exact own6
        case measure => simp [intOf]; omega
      · have h0 : i = n := by omega
        subst h0
        go_wp2
        go_ret
        exact ⟨rfl, ho, hbw⟩
  · have h0 : n = 0 := by omega
    subst h0
    obtain ⟨ga, ca, rfl⟩ := Mill.own_len hown
    go_enter Tryd.func9, Tryd.ntmps9
    go_wp2
    refine wp_loop_rounds 1 ?_
    rw [rounds_succ]
    go_wp2
    go_ret
    exact ⟨Mill.ret_int (by simp), hown, Below.refl _ _⟩

set_option maxRecDepth 100000 in
set_option maxHeartbeats 1000000 in
theorem heldTokenS_any (v : Value) (n : Nat) (xs : List Value) (k : Int) (B : Nat) (w : World) (hown : w.ownsRow B 43 5 v n (Mill.markTo k n xs)) (hl : n ≤ 100000) (hk1 : 1 ≤ k) (hk2 : k ≤ 10) :
    Calls Tryd.prog 10 #[v, .int .i64 k] w fun e w' => e = .returned (.int .i64 (k + 5 * (n : Int))) ∧ Below w.heap.size w w' := by
  by_cases hn : 0 < n
  · obtain ⟨g, cap, rfl, hg, hg2⟩ := Mill.own_form hown hn
    have hlen : n * 5 ≤ xs.length := by have := hown.1; rw [Mill.markTo_length] at this; omega
    have hcl : ∀ i, i < n → ∀ j, j < 5 → w.cell? ⟨g, i * 5 + j, none⟩ = (Mill.five (k + 5 * (i : Int)))[j]? := fun i hi j hj => by
      rw [hown.cellAt _ (by omega), Mill.markTo_at k n xs hlen i hi j hj]
    clear hown
    go_enter Tryd.func10, Tryd.ntmps10
    go_wp2
    go_loopw [1, 5] (fun c t wr => ∃ i : Nat, i ≤ n ∧ t = .int .i64 (i : Int) ∧ c = .int .i64 (k + 5 * (i : Int)) ∧ Below w.heap.size w wr) (fun _ t _ => n - (intOf t).toNat)
    case atStart => exact ⟨0, by omega, rfl, by simp, Below.refl _ _⟩
    case round =>
      obtain ⟨i, hi, rfl, rfl, hbw⟩ := hrel
      by_cases hlt : i < n
      · have hA : ∀ (wx : World), Below w.heap.size w wx → ∀ j, j < 5 → wx.cell? ⟨g, i * 5 + j, none⟩ = (Mill.five (k + 5 * (i : Int)))[j]? := fun wx hx j hj => by
          rw [hx.cell (p := ⟨g, i * 5 + j, none⟩) hg2]; exact hcl i hlt j hj
        clear hcl
        generalize hK : k + 5 * (i : Int) = K at *
        have hK1 : 1 ≤ K := by omega
        have hK2 : K ≤ 600000 := by omega
        have HK := hK
        clear hK
        have a0 := hA wr hbw 0 (by omega)
        have a1 := hA wr hbw 1 (by omega)
        have hsz := hbw.size
        have n0 : (K != K) = false := by simp
        simp only [Mill.five, List.getElem?_cons_zero, List.getElem?_cons_succ, Nat.add_zero] at a0 a1 hA
        have HA : Hid (∀ (wx : World), Below w.heap.size w wx → wx.cell? ⟨g, i * 5 + 1, none⟩ = some (.string (Mill.mark (K + 1))) ∧ wx.cell? ⟨g, i * 5 + 2, none⟩ = some (.int .i64 (K + 1 + 1)) ∧ wx.cell? ⟨g, i * 5 + 3, none⟩ = some (.int .i64 (K + 1 + 1 + 1)) ∧ wx.cell? ⟨g, i * 5 + 4, none⟩ = some (.int .i64 (K + 1 + 1 + 1 + 1))) := fun wx hx => ⟨hA wx hx 1 (by omega), hA wx hx 2 (by omega), hA wx hx 3 (by omega), hA wx hx 4 (by omega)⟩
        clear hA
        go_wp2_with fail
        have hq : (i : Int) < (n : Int) := by omega
        go_region_with (go_at_call 19; refine (markText_any _ _ (by omega) (by omega)).mono ?_; rintro e w1 ⟨rfl, hb1⟩; have hbw1 : Below w.heap.size w w1 := hbw.trans ⟨hb1.os, hb1.tape, hb1.output, hb1.size, fun j hj => hb1.block j (by have := hbw.size; simp; omega)⟩; obtain ⟨c1, c2, c3, c4⟩ := HA.out w1 hbw1)
        all_goals
          go_wp2
          go_roundw
          case rel =>
            refine ⟨i + 1, by omega, by go_num, ?_, hbw1⟩
            rw [show k + 5 * ((i + 1 : Nat) : Int) = K + 5 by omega]; go_num
          case measure => simp [intOf]; omega
      · have h0 : i = n := by omega
        subst h0
        go_wp2
        go_ret
        exact ⟨rfl, hbw⟩
  · have h0 : n = 0 := by omega
    subst h0
    obtain ⟨ga, ca, rfl⟩ := Mill.own_len hown
    go_enter Tryd.func10, Tryd.ntmps10
    go_wp2
    refine wp_loop_rounds 1 ?_
    rw [rounds_succ]
    go_wp2
    go_ret
    exact ⟨Mill.ret_int (by simp), Below.refl _ _⟩

end Go.Proofs.YthichbgddoadbacDoor
