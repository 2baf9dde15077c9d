import Derived.Test.YtfelngigfmdedaaGreatDoorBltA
namespace Go.Proofs.YtfelngigfmdedaaGreatDoor
open Go.RowKit

def Val.set3L (c : Nat) (d : Val.V) (xs : List Value) : List Value := ((xs.set c (.int .i64 d.type)).set (c + 1) (.int .i64 d.n)).set (c + 2) (.string d.text)
def Val.fillTo (ns : List Val.V) : Nat → List Value → List Value
  | 0, xs => xs
  | i + 1, xs => match ns[i]? with
    | some d => Val.set3L (i * 3) d (Val.fillTo ns i xs)
    | none => Val.fillTo ns i xs
theorem Val.set3L_len (c : Nat) (d : Val.V) (xs : List Value) : (Val.set3L c d xs).length = xs.length := by simp [Val.set3L]
theorem Val.fillTo_len (ns : List Val.V) (i : Nat) (xs : List Value) : (Val.fillTo ns i xs).length = xs.length := by
  induction i with
  | zero => rfl
  | succ i ih =>
    rw [Val.fillTo]
    split
    · rw [Val.set3L_len, ih]
    · exact ih
theorem Val.set3L_other (c : Nat) (d : Val.V) (xs : List Value) (j : Nat) (h : j < c ∨ c + 2 < j) : (Val.set3L c d xs)[j]? = xs[j]? := by
  unfold Val.set3L
  rw [List.getElem?_set_ne (by omega), List.getElem?_set_ne (by omega), List.getElem?_set_ne (by omega)]
theorem Val.set3L_at (c : Nat) (d : Val.V) (xs : List Value) (hc : c + 3 ≤ xs.length) (j : Nat) (hj : j < 3) : (Val.set3L c d xs)[c + j]? = (Val.vC d)[j]? := by
  unfold Val.set3L
  match j, hj with
  | 0, _ => rw [List.getElem?_set_ne (by omega), List.getElem?_set_ne (by omega)]; rw [Nat.add_zero, List.getElem?_set_self (by omega)]; rfl
  | 1, _ => rw [List.getElem?_set_ne (by omega)]; rw [List.getElem?_set_self (by simp; omega)]; rfl
  | 2, _ => rw [List.getElem?_set_self (by simp; omega)]; rfl
theorem Val.fillTo_at (ns : List Val.V) (n : Nat) (xs : List Value) (hn : n * 3 ≤ xs.length) (hl : n ≤ ns.length) (i : Nat) (hi : i < n) (j : Nat) (hj : j < 3) : (Val.fillTo ns n xs)[i * 3 + j]? = (Val.vC (ns[i]'(by omega)))[j]? := by
  induction n with
  | zero => omega
  | succ n ih =>
    rw [Val.fillTo]
    have hns : ns[n]? = some (ns[n]'(by omega)) := List.getElem?_eq_getElem (by omega)
    rw [hns]
    simp only
    by_cases h : i = n
    · subst h
      exact Val.set3L_at _ _ _ (by rw [Val.fillTo_len]; omega) j hj
    · rw [Val.set3L_other _ _ _ _ (by omega)]
      exact ih (by omega) (by omega) (by omega)
theorem Val.fillTo_all (ns : List Val.V) (xs : List Value) (h : xs.length = ns.length * 3) : Val.fillTo ns ns.length xs = Val.vCs ns := by
  apply List.ext_getElem?
  intro j
  by_cases hj : j < ns.length * 3
  · have e : j = j / 3 * 3 + j % 3 := by omega
    rw [e, Val.fillTo_at ns ns.length xs (by omega) (Nat.le_refl _) (j / 3) (by omega) (j % 3) (by omega), Val.vCs_at ns (j / 3) (by omega) (j % 3) (by omega)]
  · rw [List.getElem?_eq_none (by rw [Val.fillTo_len]; omega), List.getElem?_eq_none (by rw [Val.vCs_length]; omega)]
theorem Tryz.infoValue : (Tryz.prog.info? 25).map (fun i => (i.zero, i.size, i.bytes)) = some (some (.agg #[.int .i64 0, .int .i64 0, .string ByteArray.empty]), 3, 32) := by kernel_rfl
theorem Val.row_some {w : World} {B e size n g cap : Nat} {xs : List Value} (h : w.ownsRow B e size (.slice (some ⟨g, 0, none⟩) n cap) n xs) (j : Nat) (hj : j < n * size) : ∃ y, w.cell? ⟨g, j, none⟩ = some y := by
  rw [h.cellAt j hj]; exact ⟨_, List.getElem?_eq_getElem (by rw [h.1]; exact hj)⟩

set_option maxRecDepth 100000 in
set_option maxHeartbeats 2000000 in
theorem Val.toValueS_any (ns : List Val.V) (v : Value) (w : World) (hN : Val.VsOff w v ns) (hl : ns.length ≤ 1048576) :
    Calls Tryz.prog 6 #[v] w fun e w' => ∃ v', e = .returned v' ∧ w'.ownsRow w.heap.size 25 3 v' ns.length (Val.vCs ns) ∧ Below w.heap.size w w' := by
  obtain ⟨i0, hi0, hz0, hz1, hz2⟩ := info_parts Tryz.infoValue
  obtain ⟨a, cap, rfl, hc⟩ := hN
  obtain ⟨n, HN⟩ : ∃ n, Hid (ns.length = n) := ⟨_, (rfl : ns.length = _)⟩
  have HC : Hid (∀ i (hi : i < ns.length), ∃ g o, a = some ⟨g, o, none⟩ ∧ g < w.heap.size ∧ ∀ j, j < 3 → w.cell? ⟨g, o + i * 3 + j, none⟩ = (Val.vC ns[i])[j]?) := hc
  clear hc
  rw [HN.out] at hl
  simp only [HN.out]
  go_enter Tryz.func6, Tryz.ntmps6
  go_wp2_with (at_make; (refine wpList_make_full _ rfl _ _ 28 rfl w.heap.size 25 i0 (.agg #[.int .i64 0, .int .i64 0, .string ByteArray.empty]) 3 Tryz.underlying28 hi0 hz0 hz1 .i64 .i64 _ _ n rfl rfl rfl rfl (by rw [hz2]; omega) (by unfold maxLen; omega) (Nat.le_refl _) ?_; intro w0 hown0 hgrow0))
  have hb0 : Below w.heap.size w w0 := Below.grown (Below.refl _ w) hgrow0 (Nat.le_refl _) (fun k h => by cases h)
  obtain ⟨xs, HX⟩ : ∃ xs, Hid ((madeCells (Value.agg #[.int .i64 0, .int .i64 0, .string ByteArray.empty]).cells (n * 3)).toList = xs) := ⟨_, (rfl : _ = _)⟩
  rw [HX.out] at hown0
  have hxl := hown0.1
  go_loopw [4] (fun t wr => ∃ i : Nat, i ≤ n ∧ t = .int .i64 (i : Int) ∧ wr.ownsRow w.heap.size 25 3 (.slice (some ⟨w.heap.size, 0, none⟩) n n) n (Val.fillTo ns i xs) ∧ Below w.heap.size w wr) (fun t _ => n - (intOf t).toNat)
  case atStart => exact ⟨0, by omega, rfl, hown0, hb0⟩
  case round =>
    obtain ⟨i, hi, rfl, ho, hbw⟩ := hrel
    have hz := hbw.size
    by_cases hlt : i < n
    · have hil : i < ns.length := by rw [HN.out]; exact hlt
      obtain ⟨g, o, rfl, hg, hcell⟩ := HC.out i hil
      have hq : ∀ m, m < 3 → wr.cell? ⟨g, o + i * 3 + m, none⟩ = (Val.vC ns[i])[m]? := fun m hm => by rw [hbw.cell (p := ⟨g, o + i * 3 + m, none⟩) hg, hcell m hm]
      have HF : Hid (Val.fillTo ns (i + 1) xs = Val.set3L (i * 3) ns[i] (Val.fillTo ns i xs)) := by rw [Hid, Val.fillTo, List.getElem?_eq_getElem hil]
      generalize ns[i] = d at *
      have e0 := hq 0 (by omega); have e1 := hq 1 (by omega); have e2 := hq 2 (by omega)
      simp only [Val.vC, Nat.add_zero, List.getElem?_cons_zero, List.getElem?_cons_succ] at e0 e1 e2
      clear hq hcell HC
      go_wp2_with (go_at_call 18; (refine (Val.toValue_any _ _ _ _).mono ?_; rintro e w1 ⟨rfl, hb1⟩; have own2 := Val.own_next ho hb1; obtain ⟨y0, c0⟩ := Val.row_some own2 (i * 3) (by omega); obtain ⟨y1, c1⟩ := Val.row_some own2 (i * 3 + 1) (by omega); obtain ⟨y2, c2⟩ := Val.row_some own2 (i * 3 + 2) (by omega); have f0 := own2.frozenAt (i * 3); have f1 := own2.frozenAt (i * 3 + 1); have f2 := own2.frozenAt (i * 3 + 2)))
      have own6 := (((own2.stored (i * 3) (.int .i64 d.type)).1.stored (i * 3 + 1) (.int .i64 d.n)).1.stored (i * 3 + 2) (.string d.text)).1
      have hb6 := ((((hbw.trans (hb1.mono hz)).setCell (p := ⟨w.heap.size, i * 3, none⟩) (Nat.le_refl _) (.int .i64 d.type)).setCell (p := ⟨w.heap.size, i * 3 + 1, none⟩) (Nat.le_refl _) (.int .i64 d.n)).setCell (p := ⟨w.heap.size, i * 3 + 2, none⟩) (Nat.le_refl _) (.string d.text))
      go_roundw
      case rel => exact ⟨i + 1, by omega, by go_num, by rw [HF.out]; exact own6, hb6⟩
      case measure => simp [intOf]; omega
    · have hie : i = n := by omega
      subst hie
      have HF : Hid (Val.fillTo ns i xs = Val.vCs ns) := by
        have := Val.fillTo_all ns xs (by rw [HN.out]; exact hxl)
        rw [HN.out] at this; exact this
      rw [HF.out] at ho
      clear HC
      go_wp2
      go_ret
      exact ⟨_, rfl, ho, hbw⟩

end Go.Proofs.YtfelngigfmdedaaGreatDoor
