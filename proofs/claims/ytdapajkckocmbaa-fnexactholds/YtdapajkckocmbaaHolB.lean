import Derived.Test.YtdapajkckocmbaaHolA
import Derived.Test.YtdapajkckocmbaaBoxQ
import Derived.Deep.RegionWith
namespace Go.Proofs.Ytdapajkckocmbaa
open Go.RowKit

def Bx.sCs (ss : List Bx.Sn) : List Value := ss.flatMap Bx.sC
theorem Bx.sCs_length (ss : List Bx.Sn) : (Bx.sCs ss).length = ss.length * 4 := by
  induction ss with
  | nil => rfl
  | cons a r ih => unfold Bx.sCs at ih ⊢; rw [List.flatMap_cons, List.length_append, ih]; simp only [Bx.sC, List.length_cons, List.length_nil]; omega
theorem Bx.sCs_at (ss : List Bx.Sn) (i : Nat) (hi : i < ss.length) (j : Nat) (hj : j < 4) : (Bx.sCs ss)[i * 4 + j]? = (Bx.sC ss[i])[j]? := by
  induction ss generalizing i with
  | nil => simp at hi
  | cons a r ih =>
    have e : Bx.sCs (a :: r) = Bx.sC a ++ Bx.sCs r := rfl
    have el : (Bx.sC a).length = 4 := rfl
    rw [e]
    cases i with
    | zero => rw [List.getElem?_append_left (by omega)]; simp
    | succ k =>
      rw [List.getElem?_append_right (by omega), el, (by omega : (k + 1) * 4 + j - 4 = k * 4 + j), ih k (by simpa using hi)]; simp
theorem Bx.own_soff {w : World} {B e : Nat} {v : Value} {ss : List Bx.Sn} (h : w.ownsRow B e 4 v ss.length (Bx.sCs ss)) : Bx.SOff w v ss := by
  rcases h.2 with ⟨rfl, h0⟩ | ⟨g, cap, cur, rfl, hg, hgg, _⟩
  · exact ⟨none, 0, by rw [h0], fun i hi => by omega⟩
  · refine ⟨_, cap, rfl, fun i hi => ⟨g, 0, rfl, (Array.getElem?_eq_some_iff.1 hgg).1, ?_, ?_, ?_, ?_⟩⟩
    · rw [Nat.zero_add, h.cellAt (i * 4) (by omega)]; exact Bx.sCs_at ss i hi 0 (by omega)
    · rw [Nat.zero_add, h.cellAt (i * 4 + 1) (by omega)]; exact Bx.sCs_at ss i hi 1 (by omega)
    · rw [Nat.zero_add, h.cellAt (i * 4 + 2) (by omega)]; exact Bx.sCs_at ss i hi 2 (by omega)
    · rw [Nat.zero_add, h.cellAt (i * 4 + 3) (by omega)]; exact Bx.sCs_at ss i hi 3 (by omega)
def Bx.set4 (c : Nat) (d : Bx.Sn) (xs : List Value) : List Value := (((xs.set c (.int .i64 d.kind)).set (c + 1) (.string d.name)).set (c + 2) (.int .i64 d.code)).set (c + 3) (.string d.text)
def Bx.sfill (ss : List Bx.Sn) : Nat → List Value → List Value
  | 0, xs => xs
  | i + 1, xs => match ss[i]? with
    | some d => Bx.set4 (i * 4) d (Bx.sfill ss i xs)
    | none => Bx.sfill ss i xs
theorem Bx.set4_len (c : Nat) (d : Bx.Sn) (xs : List Value) : (Bx.set4 c d xs).length = xs.length := by simp [Bx.set4]
theorem Bx.sfill_len (ss : List Bx.Sn) (i : Nat) (xs : List Value) : (Bx.sfill ss i xs).length = xs.length := by
  induction i with
  | zero => rfl
  | succ i ih =>
    rw [Bx.sfill]
    split
    · rw [Bx.set4_len, ih]
    · exact ih
theorem Bx.set4_at (c : Nat) (d : Bx.Sn) (xs : List Value) (hc : c + 4 ≤ xs.length) (j : Nat) (hj : j < 4) : (Bx.set4 c d xs)[c + j]? = (Bx.sC d)[j]? := by
  unfold Bx.set4
  match j, hj with
  | 0, _ => rw [List.getElem?_set_ne (by omega), List.getElem?_set_ne (by omega), List.getElem?_set_ne (by omega)]; rw [Nat.add_zero, List.getElem?_set_self (by omega)]; rfl
  | 1, _ => rw [List.getElem?_set_ne (by omega), List.getElem?_set_ne (by omega)]; rw [List.getElem?_set_self (by simp; omega)]; rfl
  | 2, _ => rw [List.getElem?_set_ne (by omega)]; rw [List.getElem?_set_self (by simp; omega)]; rfl
  | 3, _ => rw [List.getElem?_set_self (by simp; omega)]; rfl
theorem Bx.set4_other (c : Nat) (d : Bx.Sn) (xs : List Value) (j : Nat) (h : j < c ∨ c + 3 < j) : (Bx.set4 c d xs)[j]? = xs[j]? := by
  unfold Bx.set4
  rw [List.getElem?_set_ne (by omega), List.getElem?_set_ne (by omega), List.getElem?_set_ne (by omega), List.getElem?_set_ne (by omega)]
theorem Bx.sfill_at (ss : List Bx.Sn) (n : Nat) (xs : List Value) (hn : n * 4 ≤ xs.length) (hl : n ≤ ss.length) (i : Nat) (hi : i < n) (j : Nat) (hj : j < 4) : (Bx.sfill ss n xs)[i * 4 + j]? = (Bx.sC (ss[i]'(by omega)))[j]? := by
  induction n with
  | zero => omega
  | succ n ih =>
    rw [Bx.sfill]
    have hns : ss[n]? = some (ss[n]'(by omega)) := List.getElem?_eq_getElem (by omega)
    rw [hns]
    simp only
    by_cases h : i = n
    · subst h
      exact Bx.set4_at _ _ _ (by rw [Bx.sfill_len]; omega) j hj
    · rw [Bx.set4_other _ _ _ _ (by omega)]
      exact ih (by omega) (by omega) (by omega)
theorem Bx.sfill_all (ss : List Bx.Sn) (xs : List Value) (h : xs.length = ss.length * 4) : Bx.sfill ss ss.length xs = Bx.sCs ss := by
  apply List.ext_getElem?
  intro j
  by_cases hj : j < ss.length * 4
  · have e : j = j / 4 * 4 + j % 4 := by omega
    rw [e, Bx.sfill_at ss ss.length xs (by omega) (Nat.le_refl _) (j / 4) (by omega) (j % 4) (by omega), Bx.sCs_at ss (j / 4) (by omega) (j % 4) (by omega)]
  · rw [List.getElem?_eq_none (by rw [Bx.sfill_len]; omega), List.getElem?_eq_none (by rw [Bx.sCs_length]; omega)]
theorem Try.infoSeen : (Try.prog.info? 81).map (fun i => (i.zero, i.size, i.bytes)) = some (some (.agg #[.int .i64 0, .string ByteArray.empty, .int .i64 0, .string ByteArray.empty]), 4, 48) := by kernel_rfl
set_option maxRecDepth 100000 in
set_option maxHeartbeats 2000000 in
theorem Bx.toSeenS_any (ss : List Bx.Sn) (v : Value) (w : World) (hN : Bx.SOff w v ss) (hl : ss.length ≤ 1048576) :
    Calls Try.prog 25 #[v] w fun e w' => ∃ v', e = .returned v' ∧ w'.ownsRow w.heap.size 81 4 v' ss.length (Bx.sCs ss) ∧ Below w.heap.size w w' := by
  obtain ⟨i0, hi0, hz0, hz1, hz2⟩ := info_parts Try.infoSeen
  obtain ⟨a, cap, rfl, hc⟩ := hN
  obtain ⟨n, HN⟩ : ∃ n, Hid (ss.length = n) := ⟨_, (rfl : ss.length = _)⟩
  have HC : Hid (∀ i (hi : i < ss.length), ∃ g o, a = some ⟨g, o, none⟩ ∧ g < w.heap.size ∧ w.cell? ⟨g, o + i * 4, none⟩ = some (.int .i64 ss[i].kind) ∧ w.cell? ⟨g, o + i * 4 + 1, none⟩ = some (.string ss[i].name) ∧ w.cell? ⟨g, o + i * 4 + 2, none⟩ = some (.int .i64 ss[i].code) ∧ w.cell? ⟨g, o + i * 4 + 3, none⟩ = some (.string ss[i].text)) := hc
  clear hc
  rw [HN.out] at hl
  simp only [HN.out]
  go_enter Try.func25, Try.ntmps25
  go_wp2_with (at_make; (refine wpList_make_full _ rfl _ _ 49 rfl w.heap.size 81 i0 (.agg #[.int .i64 0, .string ByteArray.empty, .int .i64 0, .string ByteArray.empty]) 4 Try.underlying49 hi0 hz0 hz1 .i64 .i64 _ _ n rfl rfl rfl rfl (by rw [hz2]; omega) (by unfold maxLen; omega) (Nat.le_refl _) ?_; intro w0 hown0 hgrow0))
  have hb0 : Below w.heap.size w w0 := Below.grown (Below.refl _ w) hgrow0 (Nat.le_refl _) (fun k h => by cases h)
  obtain ⟨xs, HX⟩ : ∃ xs, Hid ((madeCells (Value.agg #[.int .i64 0, .string ByteArray.empty, .int .i64 0, .string ByteArray.empty]).cells (n * 4)).toList = xs) := ⟨_, (rfl : _ = _)⟩
  rw [HX.out] at hown0
  have hxl := hown0.1
  go_loopw [4] (fun t wr => ∃ i : Nat, i ≤ n ∧ t = .int .i64 (i : Int) ∧ wr.ownsRow w.heap.size 81 4 (.slice (some ⟨w.heap.size, 0, none⟩) n n) n (Bx.sfill ss i xs) ∧ Below w.heap.size w wr) (fun t _ => n - (intOf t).toNat)
  case atStart => exact ⟨0, by omega, rfl, hown0, hb0⟩
  case round =>
    obtain ⟨i, hi, rfl, ho, hbw⟩ := hrel
    have hz := hbw.size
    by_cases hlt : i < n
    · have hil : i < ss.length := by rw [HN.out]; exact hlt
      obtain ⟨g, o, rfl, hg, k0, k1, k2, k3⟩ := HC.out i hil
      have e0 : wr.cell? ⟨g, o + i * 4, none⟩ = some (.int .i64 ss[i].kind) := by rw [hbw.cell (p := ⟨g, o + i * 4, none⟩) hg, k0]
      have e1 : wr.cell? ⟨g, o + i * 4 + 1, none⟩ = some (.string ss[i].name) := by rw [hbw.cell (p := ⟨g, o + i * 4 + 1, none⟩) hg, k1]
      have e2 : wr.cell? ⟨g, o + i * 4 + 2, none⟩ = some (.int .i64 ss[i].code) := by rw [hbw.cell (p := ⟨g, o + i * 4 + 2, none⟩) hg, k2]
      have e3 : wr.cell? ⟨g, o + i * 4 + 3, none⟩ = some (.string ss[i].text) := by rw [hbw.cell (p := ⟨g, o + i * 4 + 3, none⟩) hg, k3]
      have HF : Hid (Bx.sfill ss (i + 1) xs = Bx.set4 (i * 4) ss[i] (Bx.sfill ss i xs)) := by rw [Hid, Bx.sfill, List.getElem?_eq_getElem hil]
      generalize ss[i] = d at *
      clear k0 k1 k2 k3 HC
      go_wp2_with (go_at_call 46; (refine (Bx.toSeen_any _ _ _ _ _).mono ?_; rintro e w1 ⟨rfl, hb1⟩; have own2 := Bx.own_below ho hb1; obtain ⟨y0, c0⟩ := Bx.row_some own2 (i * 4) (by omega); obtain ⟨y1, c1⟩ := Bx.row_some own2 (i * 4 + 1) (by omega); obtain ⟨y2, c2⟩ := Bx.row_some own2 (i * 4 + 2) (by omega); obtain ⟨y3, c3⟩ := Bx.row_some own2 (i * 4 + 3) (by omega); have f0 := own2.frozenAt (i * 4); have f1 := own2.frozenAt (i * 4 + 1); have f2 := own2.frozenAt (i * 4 + 2); have f3 := own2.frozenAt (i * 4 + 3)))
      have own6 := ((((own2.stored (i * 4) (.int .i64 d.kind)).1.stored (i * 4 + 1) (.string d.name)).1.stored (i * 4 + 2) (.int .i64 d.code)).1.stored (i * 4 + 3) (.string d.text)).1
      have hb6 := (((((hbw.trans (hb1.mono hz)).setCell (p := ⟨w.heap.size, i * 4, none⟩) (Nat.le_refl _) (.int .i64 d.kind)).setCell (p := ⟨w.heap.size, i * 4 + 1, none⟩) (Nat.le_refl _) (.string d.name)).setCell (p := ⟨w.heap.size, i * 4 + 2, none⟩) (Nat.le_refl _) (.int .i64 d.code)).setCell (p := ⟨w.heap.size, i * 4 + 3, none⟩) (Nat.le_refl _) (.string d.text))
      go_roundw
      case rel => exact ⟨i + 1, by omega, by go_num, by rw [HF.out]; exact own6, hb6⟩
      case measure => simp [intOf]; omega
    · have hie : i = n := by omega
      subst hie
      have HF : Hid (Bx.sfill ss i xs = Bx.sCs ss) := by
        have := Bx.sfill_all ss xs (by rw [HN.out]; exact hxl)
        rw [HN.out] at this; exact this
      rw [HF.out] at ho
      clear HC
      go_wp2
      go_ret
      exact ⟨_, rfl, ho, hbw⟩
set_option maxRecDepth 100000 in
set_option maxHeartbeats 1000000 in
theorem Bx.eqSeen_same (k : Int) (n : ByteArray) (c : Int) (t : ByteArray) (w : World) :
    Calls Try.prog 49 #[.agg #[.int .i64 k, .string n, .int .i64 c, .string t], .agg #[.int .i64 k, .string n, .int .i64 c, .string t]] w fun e w' => e = .returned (.bool true) ∧ Below w.heap.size w w' := by
  have h1 : (k != k) = false := by simp
  go_enter Try.func49, Try.ntmps49
  go_wp2_with (go_at_call 14; refine (Bx.eqReply_same c t _).mono ?_; rintro e w1 ⟨rfl, hb1⟩; simp only [World.size_alloc] at hb1)
  all_goals go_ret
  all_goals exact ⟨rfl, (((Below.refl _ w).alloc (Nat.le_refl _) _).alloc (by simp) _).trans (hb1.mono (by omega))⟩
set_option maxRecDepth 100000 in
set_option maxHeartbeats 1000000 in
theorem Bx.eqSeenS_same (ss : List Bx.Sn) (va vb : Value) (w : World) (ha : Bx.SOff w va ss) (hb : Bx.SOff w vb ss) (hl : ss.length ≤ 1048576) :
    Calls Try.prog 27 #[va, vb] w fun e w' => e = .returned (.bool true) ∧ Below w.heap.size w w' := by
  obtain ⟨a, cap, rfl, hc⟩ := ha
  obtain ⟨b, cbp, rfl, hd⟩ := hb
  obtain ⟨n, HN⟩ : ∃ n, Hid (ss.length = n) := ⟨_, (rfl : ss.length = _)⟩
  have HC : Hid (∀ i (hi : i < ss.length), ∃ g o, a = some ⟨g, o, none⟩ ∧ g < w.heap.size ∧ w.cell? ⟨g, o + i * 4, none⟩ = some (.int .i64 ss[i].kind) ∧ w.cell? ⟨g, o + i * 4 + 1, none⟩ = some (.string ss[i].name) ∧ w.cell? ⟨g, o + i * 4 + 2, none⟩ = some (.int .i64 ss[i].code) ∧ w.cell? ⟨g, o + i * 4 + 3, none⟩ = some (.string ss[i].text)) := hc
  have HD : Hid (∀ i (hi : i < ss.length), ∃ g o, b = some ⟨g, o, none⟩ ∧ g < w.heap.size ∧ w.cell? ⟨g, o + i * 4, none⟩ = some (.int .i64 ss[i].kind) ∧ w.cell? ⟨g, o + i * 4 + 1, none⟩ = some (.string ss[i].name) ∧ w.cell? ⟨g, o + i * 4 + 2, none⟩ = some (.int .i64 ss[i].code) ∧ w.cell? ⟨g, o + i * 4 + 3, none⟩ = some (.string ss[i].text)) := hd
  clear hc hd
  rw [HN.out] at hl
  simp only [HN.out]
  have hne : ((n : Int) != (n : Int)) = false := by simp
  go_enter Try.func27, Try.ntmps27
  go_wp2
  go_loopw [5] (fun t wr => ∃ i : Nat, i ≤ n ∧ t = .int .i64 (i : Int) ∧ Below w.heap.size w wr) (fun t _ => n - (intOf t).toNat)
  case atStart => exact ⟨0, by omega, rfl, Below.refl _ _⟩
  case round =>
    obtain ⟨i, hi, rfl, hbw⟩ := hrel
    have hz : w.heap.size ≤ wr.heap.size := hbw.size
    by_cases hlt : i < n
    · have hil : i < ss.length := by rw [HN.out]; exact hlt
      obtain ⟨ga, oa, rfl, hga, k0, k1, k2, k3⟩ := HC.out i hil
      obtain ⟨gb, ob, rfl, hgb, m0, m1, m2, m3⟩ := HD.out i hil
      have a0 : wr.cell? ⟨ga, oa + i * 4, none⟩ = some (.int .i64 ss[i].kind) := by rw [hbw.cell (p := ⟨ga, oa + i * 4, none⟩) hga, k0]
      have a1 : wr.cell? ⟨ga, oa + i * 4 + 1, none⟩ = some (.string ss[i].name) := by rw [hbw.cell (p := ⟨ga, oa + i * 4 + 1, none⟩) hga, k1]
      have a2 : wr.cell? ⟨ga, oa + i * 4 + 2, none⟩ = some (.int .i64 ss[i].code) := by rw [hbw.cell (p := ⟨ga, oa + i * 4 + 2, none⟩) hga, k2]
      have a3 : wr.cell? ⟨ga, oa + i * 4 + 3, none⟩ = some (.string ss[i].text) := by rw [hbw.cell (p := ⟨ga, oa + i * 4 + 3, none⟩) hga, k3]
      have b0 : wr.cell? ⟨gb, ob + i * 4, none⟩ = some (.int .i64 ss[i].kind) := by rw [hbw.cell (p := ⟨gb, ob + i * 4, none⟩) hgb, m0]
      have b1 : wr.cell? ⟨gb, ob + i * 4 + 1, none⟩ = some (.string ss[i].name) := by rw [hbw.cell (p := ⟨gb, ob + i * 4 + 1, none⟩) hgb, m1]
      have b2 : wr.cell? ⟨gb, ob + i * 4 + 2, none⟩ = some (.int .i64 ss[i].code) := by rw [hbw.cell (p := ⟨gb, ob + i * 4 + 2, none⟩) hgb, m2]
      have b3 : wr.cell? ⟨gb, ob + i * 4 + 3, none⟩ = some (.string ss[i].text) := by rw [hbw.cell (p := ⟨gb, ob + i * 4 + 3, none⟩) hgb, m3]
      generalize ss[i] = d at *
      clear k0 k1 k2 k3 m0 m1 m2 m3 HC HD
      go_wp2_with fail
      go_region_with (go_at_call 49; refine (Bx.eqSeen_same _ _ _ _ _).mono ?_; rintro e w1 ⟨rfl, hb1⟩)
      all_goals
        have hbw2 : Below w.heap.size w w1 := hbw.trans (by have := hb1.mono (B' := w.heap.size) (by simpa using hz); exact ⟨this.os, this.tape, this.output, this.size, this.block⟩)
        clear a0 a1 a2 a3 b0 b1 b2 b3
        go_wp2
        go_roundw
        case rel => exact ⟨i + 1, by omega, by go_num, hbw2⟩
        case measure => simp [intOf]; omega
    · clear HC HD
      go_wp2
      go_ret
      exact ⟨rfl, hbw⟩
end Go.Proofs.Ytdapajkckocmbaa
