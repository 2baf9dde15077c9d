import Derived.Test.YtdapajkckocmbaaBoxA
import Derived.Deep.RegionWith
namespace Go.Proofs.Ytdapajkckocmbaa
open Go.RowKit

set_option maxRecDepth 100000 in
set_option maxHeartbeats 1000000 in
theorem Bx.eqFileS_same (fs : List Bx.Fl) (va vb : Value) (w : World) (ha : Bx.Off w va fs) (hb : Bx.Off w vb fs) (hl : fs.length ≤ 1048576) :
    Calls Try.prog 19 #[va, vb] w fun e w' => e = .returned (.bool true) ∧ Below w.heap.size w w' := by
  obtain ⟨a, cap, rfl, hc⟩ := ha
  obtain ⟨b, cbp, rfl, hd⟩ := hb
  obtain ⟨n, HN⟩ : ∃ n, Hid (fs.length = n) := ⟨_, (rfl : fs.length = _)⟩
  have HC : Hid (∀ i (hi : i < fs.length), ∃ g o, a = some ⟨g, o, none⟩ ∧ g < w.heap.size ∧ w.cell? ⟨g, o + i * 2, none⟩ = some (.string fs[i].name) ∧ w.cell? ⟨g, o + i * 2 + 1, none⟩ = some (.string fs[i].text)) := hc
  have HD : Hid (∀ i (hi : i < fs.length), ∃ g o, b = some ⟨g, o, none⟩ ∧ g < w.heap.size ∧ w.cell? ⟨g, o + i * 2, none⟩ = some (.string fs[i].name) ∧ w.cell? ⟨g, o + i * 2 + 1, none⟩ = some (.string fs[i].text)) := hd
  clear hc hd
  rw [HN.out] at hl
  simp only [HN.out]
  have hne : ((n : Int) != (n : Int)) = false := by simp
  go_enter Try.func19, Try.ntmps19
  go_wp2
  go_loopw [5] (fun t wr => ∃ i : Nat, i ≤ n ∧ t = .int .i64 (i : Int) ∧ Below w.heap.size w wr) (fun t _ => n - (intOf t).toNat)
  case atStart => exact ⟨0, by omega, rfl, Below.refl _ _⟩
  case round =>
    obtain ⟨i, hi, rfl, hbw⟩ := hrel
    have hz : w.heap.size ≤ wr.heap.size := hbw.size
    by_cases hlt : i < n
    · have hil : i < fs.length := by rw [HN.out]; exact hlt
      obtain ⟨ga, oa, rfl, hga, hca, hca2⟩ := HC.out i hil
      obtain ⟨gb, ob, rfl, hgb, hcb, hcb2⟩ := HD.out i hil
      have hA : wr.cell? ⟨ga, oa + i * 2, none⟩ = some (.string fs[i].name) := by rw [hbw.cell (p := ⟨ga, oa + i * 2, none⟩) hga, hca]
      have hA2 : wr.cell? ⟨ga, oa + i * 2 + 1, none⟩ = some (.string fs[i].text) := by rw [hbw.cell (p := ⟨ga, oa + i * 2 + 1, none⟩) hga, hca2]
      have hB : wr.cell? ⟨gb, ob + i * 2, none⟩ = some (.string fs[i].name) := by rw [hbw.cell (p := ⟨gb, ob + i * 2, none⟩) hgb, hcb]
      have hB2 : wr.cell? ⟨gb, ob + i * 2 + 1, none⟩ = some (.string fs[i].text) := by rw [hbw.cell (p := ⟨gb, ob + i * 2 + 1, none⟩) hgb, hcb2]
      generalize fs[i] = d at *
      obtain ⟨da, db⟩ := d
      simp only at hA hA2 hB hB2
      clear hca hcb hca2 hcb2 HC HD
      have hE : ∀ w, Calls Try.prog 42 #[.agg #[.string da, .string db], .agg #[.string da, .string db]] w fun e w' => e = .returned (.bool true) ∧ Below w.heap.size w w' := fun w => by
        have := Bx.eqFile_is da db da db w
        simpa using this
      have HE : Hid (∀ w, Calls Try.prog 42 #[.agg #[.string da, .string db], .agg #[.string da, .string db]] w fun e w' => e = .returned (.bool true) ∧ Below w.heap.size w w') := hE
      clear hE
      go_wp2_with fail
      go_region_with (go_at_call 42; refine (HE.out _).mono ?_; rintro e w1 ⟨rfl, hb1⟩)
      all_goals
        have hbw2 : Below w.heap.size w w1 := hbw.trans (by have := hb1.mono (B' := w.heap.size) (by simpa using hz); exact ⟨this.os, this.tape, this.output, this.size, this.block⟩)
        clear hA hA2 hB hB2
        go_wp2
        go_roundw
        case rel => exact ⟨i + 1, by omega, by go_num, hbw2⟩
        case measure => simp [intOf]; omega
    · clear HC HD
      go_wp2
      go_ret
      exact ⟨rfl, hbw⟩
set_option maxRecDepth 100000 in
set_option maxHeartbeats 1000000 in
theorem Bx.eqPlace_same (fs : List Bx.Fl) (va vb : Value) (w : World) (ha : Bx.Off w va fs) (hb : Bx.Off w vb fs) (hl : fs.length ≤ 1048576) :
    Calls Try.prog 11 #[.agg #[va], .agg #[vb]] w fun e w' => e = .returned (.bool true) ∧ Below w.heap.size w w' := by
  have hbl : ∀ o1 o2 : Obj, Below w.heap.size w ((w.alloc o1).alloc o2) := fun o1 o2 => ((Below.refl w.heap.size w).alloc (Nat.le_refl _) o1).alloc (by simp) o2
  have HA : Hid (∀ o1 o2 : Obj, Bx.Off ((w.alloc o1).alloc o2) va fs) := fun o1 o2 => ha.below (hbl o1 o2)
  have HB : Hid (∀ o1 o2 : Obj, Bx.Off ((w.alloc o1).alloc o2) vb fs) := fun o1 o2 => hb.below (hbl o1 o2)
  obtain ⟨a, c, rfl⟩ := ha.slice
  obtain ⟨a2, c2, rfl⟩ := hb.slice
  clear ha hb
  go_enter Try.func11, Try.ntmps11
  go_wp2_with (go_at_call 19; (refine (Bx.eqFileS_same fs _ _ _ (HA.out _ _) (HB.out _ _) hl).mono ?_; rintro e w1 ⟨rfl, hb⟩))
  go_ret
  exact ⟨rfl, (hbl _ _).trans (hb.mono (by simp only [World.size_alloc]; omega))⟩
set_option maxRecDepth 100000 in
set_option maxHeartbeats 1000000 in
theorem Bx.toFile_any (a b : ByteArray) (w : World) :
    Calls Try.prog 37 #[.agg #[.string a, .string b]] w fun e w' => e = .returned (.agg #[.string a, .string b]) ∧ Below w.heap.size w w' := by
  go_enter Try.func37, Try.ntmps37
  go_wp2
  exact bodyPost_ret (v := .agg #[.string a, .string b]) (by simp [results, Try.results37, go_sem]) rfl ⟨rfl, (((Below.refl _ w).alloc (Nat.le_refl _) _).alloc (by simp) _).alloc (by simp only [World.size_alloc]; omega) _⟩
def Bx.set2 (c : Nat) (d : Bx.Fl) (xs : List Value) : List Value := (xs.set c (.string d.name)).set (c + 1) (.string d.text)
def Bx.fillTo (fs : List Bx.Fl) : Nat → List Value → List Value
  | 0, xs => xs
  | i + 1, xs => match fs[i]? with
    | some d => Bx.set2 (i * 2) d (Bx.fillTo fs i xs)
    | none => Bx.fillTo fs i xs
theorem Bx.set2_len (c : Nat) (d : Bx.Fl) (xs : List Value) : (Bx.set2 c d xs).length = xs.length := by simp [Bx.set2]
theorem Bx.fillTo_len (fs : List Bx.Fl) (i : Nat) (xs : List Value) : (Bx.fillTo fs i xs).length = xs.length := by
  induction i with
  | zero => rfl
  | succ i ih =>
    rw [Bx.fillTo]
    split
    · rw [Bx.set2_len, ih]
    · exact ih
theorem Bx.fillTo_at (fs : List Bx.Fl) (n : Nat) (xs : List Value) (hn : n * 2 ≤ xs.length) (hl : n ≤ fs.length) (i : Nat) (hi : i < n) : (Bx.fillTo fs n xs)[i * 2]? = some (.string (fs[i]'(by omega)).name) ∧ (Bx.fillTo fs n xs)[i * 2 + 1]? = some (.string (fs[i]'(by omega)).text) := by
  induction n with
  | zero => omega
  | succ n ih =>
    rw [Bx.fillTo]
    have hns : fs[n]? = some (fs[n]'(by omega)) := List.getElem?_eq_getElem (by omega)
    rw [hns]
    simp only
    have hlen := Bx.fillTo_len fs n xs
    by_cases h : i = n
    · subst h
      unfold Bx.set2
      exact ⟨by rw [List.getElem?_set_ne (by omega), List.getElem?_set_self (by omega)], by rw [List.getElem?_set_self (by rw [List.length_set]; omega)]⟩
    · obtain ⟨h1, h2⟩ := ih (by omega) (by omega) (by omega)
      unfold Bx.set2
      exact ⟨by rw [List.getElem?_set_ne (by omega), List.getElem?_set_ne (by omega)]; exact h1, by rw [List.getElem?_set_ne (by omega), List.getElem?_set_ne (by omega)]; exact h2⟩
theorem Bx.fillTo_all (fs : List Bx.Fl) (xs : List Value) (h : xs.length = fs.length * 2) : Bx.fillTo fs fs.length xs = Bx.fCs fs := by
  apply List.ext_getElem?
  intro j
  by_cases hj : j < fs.length * 2
  · have h1 := Bx.fillTo_at fs fs.length xs (by omega) (Nat.le_refl _) (j / 2) (by omega)
    have h2 := Bx.fCs_at fs (j / 2) (by omega)
    rcases Nat.mod_two_eq_zero_or_one j with e | e
    · have ej : j / 2 * 2 = j := by omega
      rw [ej] at h1 h2; rw [h1.1, h2.1]
    · have ej : j / 2 * 2 + 1 = j := by omega
      rw [ej] at h1 h2; rw [h1.2, h2.2]
  · rw [List.getElem?_eq_none (by rw [Bx.fillTo_len]; omega), List.getElem?_eq_none (by rw [Bx.fCs_length]; omega)]
theorem Try.infoFile : (Try.prog.info? 55).map (fun i => (i.zero, i.size, i.bytes)) = some (some (.agg #[.string ByteArray.empty, .string ByteArray.empty]), 2, 32) := by kernel_rfl
theorem Bx.row_some {w : World} {B e size n g cap : Nat} {xs : List Value} (h : w.ownsRow B e size (.slice (some ⟨g, 0, none⟩) n cap) n xs) (j : Nat) (hj : j < n * size) : ∃ y, w.cell? ⟨g, j, none⟩ = some y := by
  rw [h.cellAt j hj]; exact ⟨_, List.getElem?_eq_getElem (by rw [h.1]; exact hj)⟩
theorem Bx.own_below {W W' : World} {B e size n : Nat} {v : Value} {xs : List Value} (h : W.ownsRow B e size v n xs) (hb : Below W.heap.size W W') : W'.ownsRow B e size v n xs := by
  refine ⟨h.1, ?_⟩
  rcases h.2 with hn | ⟨g, cap, cur, hv, hg, hgg, rest⟩
  · exact .inl hn
  · exact .inr ⟨g, cap, cur, hv, hg, by rw [hb.block g (Array.getElem?_eq_some_iff.1 hgg).1]; exact hgg, rest⟩
theorem Bx.own_mono {w : World} {B B' e size n : Nat} {v : Value} {xs : List Value} (h : w.ownsRow B e size v n xs) (hB : B' ≤ B) : w.ownsRow B' e size v n xs := by
  refine ⟨h.1, ?_⟩
  rcases h.2 with hn | ⟨g, cap, cur, hv, hg, rest⟩
  · exact .inl hn
  · exact .inr ⟨g, cap, cur, hv, Nat.le_trans hB hg, rest⟩
theorem Bx.rowLen {w : World} {B e size n : Nat} {v : Value} {xs : List Value} (h : w.ownsRow B e size v n xs) : ∃ a cap, v = .slice a n cap := by
  rcases h.2 with ⟨rfl, h0⟩ | ⟨g, cap, cur, rfl, _⟩
  · exact ⟨none, 0, by rw [h0]⟩
  · exact ⟨_, _, rfl⟩
theorem Bx.own_off {w : World} {B e : Nat} {v : Value} {fs : List Bx.Fl} (h : w.ownsRow B e 2 v fs.length (Bx.fCs fs)) : Bx.Off w v fs := by
  rcases h.2 with ⟨rfl, h0⟩ | ⟨g, cap, cur, rfl, hg, hgg, _⟩
  · exact ⟨none, 0, by rw [h0], fun i hi => by omega⟩
  · refine ⟨_, cap, rfl, fun i hi => ⟨g, 0, rfl, (Array.getElem?_eq_some_iff.1 hgg).1, ?_, ?_⟩⟩
    · rw [Nat.zero_add, h.cellAt (i * 2) (by omega)]; exact (Bx.fCs_at fs i hi).1
    · rw [Nat.zero_add, h.cellAt (i * 2 + 1) (by omega)]; exact (Bx.fCs_at fs i hi).2
set_option maxRecDepth 100000 in
set_option maxHeartbeats 2000000 in
theorem Bx.toFileS_any (fs : List Bx.Fl) (v : Value) (w : World) (hN : Bx.Off w v fs) (hl : fs.length ≤ 1048576) :
    Calls Try.prog 17 #[v] w fun e w' => ∃ v', e = .returned v' ∧ w'.ownsRow w.heap.size 55 2 v' fs.length (Bx.fCs fs) ∧ Below w.heap.size w w' := by
  obtain ⟨i0, hi0, hz0, hz1, hz2⟩ := info_parts Try.infoFile
  obtain ⟨a, cap, rfl, hc⟩ := hN
  obtain ⟨n, HN⟩ : ∃ n, Hid (fs.length = n) := ⟨_, (rfl : fs.length = _)⟩
  have HC : Hid (∀ i (hi : i < fs.length), ∃ g o, a = some ⟨g, o, none⟩ ∧ g < w.heap.size ∧ w.cell? ⟨g, o + i * 2, none⟩ = some (.string fs[i].name) ∧ w.cell? ⟨g, o + i * 2 + 1, none⟩ = some (.string fs[i].text)) := hc
  clear hc
  rw [HN.out] at hl
  simp only [HN.out]
  go_enter Try.func17, Try.ntmps17
  go_wp2_with (at_make; (refine wpList_make_full _ rfl _ _ 27 rfl w.heap.size 55 i0 (.agg #[.string ByteArray.empty, .string ByteArray.empty]) 2 Try.underlying27 hi0 hz0 hz1 .i64 .i64 _ _ n rfl rfl rfl rfl (by rw [hz2]; omega) (by unfold maxLen; omega) (Nat.le_refl _) ?_; intro w0 hown0 hgrow0))
  have hb0 : Below w.heap.size w w0 := Below.grown (Below.refl _ w) hgrow0 (Nat.le_refl _) (fun k h => by cases h)
  obtain ⟨xs, HX⟩ : ∃ xs, Hid ((madeCells (Value.agg #[.string ByteArray.empty, .string ByteArray.empty]).cells (n * 2)).toList = xs) := ⟨_, (rfl : _ = _)⟩
  rw [HX.out] at hown0
  have hxl := hown0.1
  go_loopw [4] (fun t wr => ∃ i : Nat, i ≤ n ∧ t = .int .i64 (i : Int) ∧ wr.ownsRow w.heap.size 55 2 (.slice (some ⟨w.heap.size, 0, none⟩) n n) n (Bx.fillTo fs i xs) ∧ Below w.heap.size w wr) (fun t _ => n - (intOf t).toNat)
  case atStart => exact ⟨0, by omega, rfl, hown0, hb0⟩
  case round =>
    obtain ⟨i, hi, rfl, ho, hbw⟩ := hrel
    have hz := hbw.size
    by_cases hlt : i < n
    · have hil : i < fs.length := by rw [HN.out]; exact hlt
      obtain ⟨g, o, rfl, hg, hcell, hcell2⟩ := HC.out i hil
      have e0 : wr.cell? ⟨g, o + i * 2, none⟩ = some (.string fs[i].name) := by rw [hbw.cell (p := ⟨g, o + i * 2, none⟩) hg, hcell]
      have e1 : wr.cell? ⟨g, o + i * 2 + 1, none⟩ = some (.string fs[i].text) := by rw [hbw.cell (p := ⟨g, o + i * 2 + 1, none⟩) hg, hcell2]
      have HF : Hid (Bx.fillTo fs (i + 1) xs = Bx.set2 (i * 2) fs[i] (Bx.fillTo fs i xs)) := by rw [Hid, Bx.fillTo, List.getElem?_eq_getElem hil]
      generalize fs[i] = d at *
      clear hcell hcell2 HC
      go_wp2_with (go_at_call 37; (refine (Bx.toFile_any _ _ _).mono ?_; rintro e w1 ⟨rfl, hb1⟩; have own2 := Bx.own_below ho hb1; obtain ⟨y0, c0⟩ := Bx.row_some own2 (i * 2) (by omega); obtain ⟨y1, c1⟩ := Bx.row_some own2 (i * 2 + 1) (by omega); have f0 := own2.frozenAt (i * 2); have f1 := own2.frozenAt (i * 2 + 1)))
      have own6 := ((own2.stored (i * 2) (.string d.name)).1.stored (i * 2 + 1) (.string d.text)).1
      have hb6 := (((hbw.trans (hb1.mono hz)).setCell (p := ⟨w.heap.size, i * 2, none⟩) (Nat.le_refl _) (.string d.name)).setCell (p := ⟨w.heap.size, i * 2 + 1, none⟩) (Nat.le_refl _) (.string d.text))
      go_roundw
      case rel => exact ⟨i + 1, by omega, by go_num, by rw [HF.out]; exact own6, hb6⟩
      case measure => simp [intOf]; omega
    · have hie : i = n := by omega
      subst hie
      have HF : Hid (Bx.fillTo fs i xs = Bx.fCs fs) := by
        have := Bx.fillTo_all fs xs (by rw [HN.out]; exact hxl)
        rw [HN.out] at this; exact this
      rw [HF.out] at ho
      clear HC
      go_wp2
      go_ret
      exact ⟨_, rfl, ho, hbw⟩
set_option maxRecDepth 100000 in
set_option maxHeartbeats 1000000 in
theorem Bx.toPlace_any (fs : List Bx.Fl) (v : Value) (w : World) (hN : Bx.Off w v fs) (hl : fs.length ≤ 1048576) :
    Calls Try.prog 9 #[.agg #[v]] w fun e w' => ∃ v', e = .returned (.agg #[v']) ∧ w'.ownsRow w.heap.size 55 2 v' fs.length (Bx.fCs fs) ∧ Below w.heap.size w w' := by
  have HN1 : Hid (∀ o1 o2 o3 : Obj, Bx.Off (((w.alloc o1).alloc o2).alloc o3) v fs) := fun o1 o2 o3 => hN.below ((((Below.refl w.heap.size w).alloc (Nat.le_refl _) o1).alloc (by simp) o2).alloc (by simp only [World.size_alloc]; omega) o3)
  obtain ⟨a, c, rfl⟩ := hN.slice
  clear hN
  go_enter Try.func9, Try.ntmps9
  go_wp2_with (go_at_call 17; (refine (Bx.toFileS_any fs _ _ (HN1.out _ _ _) hl).mono ?_; rintro e w1 ⟨v', rfl, own, hb⟩; obtain ⟨a', c', hv'⟩ := Bx.rowLen own; subst hv'; simp only [World.size_alloc] at own hb; have x1 : w1.cell? ⟨w.heap.size + 1, 0, none⟩ = some (.slice none 0 0) := (by rw [hb.cell (p := ⟨w.heap.size + 1, 0, none⟩) (by simp only; omega)]; simp [go_sem]); have x2 : w1.cell? ⟨w.heap.size + 1 + 1, 0, none⟩ = some (.slice none 0 0) := (by rw [hb.cell (p := ⟨w.heap.size + 1 + 1, 0, none⟩) (by simp only; omega)]; simp [go_sem]); have y1 : w1.frozen? ⟨w.heap.size + 1, 0, none⟩ = false := (by rw [hb.frozen (p := ⟨w.heap.size + 1, 0, none⟩) (by simp only; omega)]; simp [go_sem]); have y2 : w1.frozen? ⟨w.heap.size + 1 + 1, 0, none⟩ = false := (by rw [hb.frozen (p := ⟨w.heap.size + 1 + 1, 0, none⟩) (by simp only; omega)]; simp [go_sem])))
  have hz := hb.size
  simp only [World.size_alloc] at hz
  have hb1 : Below w.heap.size w w1 := ((((Below.refl w.heap.size w).alloc (Nat.le_refl _) _).alloc (by simp) _).alloc (by simp only [World.size_alloc]; omega) _).trans (hb.mono (by omega))
  refine bodyPost_ret (v := .agg #[.slice a' fs.length c']) (by simp [results, Try.results9, go_sem, x1]) rfl ⟨_, rfl, ?_, ?_⟩
  · exact Bx.own_mono (ownsRow_setCell_below (ownsRow_setCell_below own (a := ⟨w.heap.size + 1 + 1, 0, none⟩) (by simp only; omega) _) (a := ⟨w.heap.size + 1, 0, none⟩) (by simp only; omega) _) (by omega)
  · exact (hb1.setCell (p := ⟨w.heap.size + 1 + 1, 0, none⟩) (by simp only; omega) _).setCell (p := ⟨w.heap.size + 1, 0, none⟩) (by simp only; omega) _
end Go.Proofs.Ytdapajkckocmbaa
