import Derived.Test.YtchfddnfpfgfbaaJobA
import Derived.OwnWalk
namespace Go.Proofs.Ytchfddnfpfgfbaa
open Go.RowKit

def Jb.Off (w : World) (v : Value) (xs : List ByteArray) : Prop :=
  ∃ a cap, v = .slice a xs.length cap ∧ ∀ i (hi : i < xs.length), ∃ g o, a = some ⟨g, o, none⟩ ∧ g < w.heap.size ∧ w.cell? ⟨g, o + i, none⟩ = some (.string xs[i])
theorem Jb.Off.below {w w' : World} {v : Value} {xs : List ByteArray} (h : Jb.Off w v xs) (hb : Below w.heap.size w w') : Jb.Off w' v xs := by
  obtain ⟨a, cap, rfl, hc⟩ := h
  refine ⟨a, cap, rfl, fun i hi => ?_⟩
  obtain ⟨g, o, ha, hg, hcell⟩ := hc i hi
  exact ⟨g, o, ha, Nat.lt_of_lt_of_le hg hb.size, by rw [hb.cell (p := ⟨g, o + i, none⟩) hg]; exact hcell⟩
def Jb.szL : List ByteArray → Int → Int
  | [], l => l
  | d :: r, l => if l - (d.size : Int) < 0 then -1 else Jb.szL r (l - (d.size : Int))
theorem Jb.ret_int {a b : Int} (h : a = b) : (Ending.returned (.int .i64 a) : Ending) = .returned (.int .i64 b) := by rw [h]
set_option maxRecDepth 100000 in
set_option maxHeartbeats 1000000 in
theorem Jb.szStringS_any (xs : List ByteArray) (v : Value) (l : Int) (h0 : 0 ≤ l) (h1 : l ≤ 1048576) (hn : xs.length ≤ 9223372036854775807) (hx : ∀ d ∈ xs, d.size ≤ 9223372036854775807) (w : World) (hN : Jb.Off w v xs) :
    Calls Try.prog 14 #[v, .int .i64 l] w fun e w' => e = .returned (.int .i64 (if l - (xs.length : Int) < 0 then -1 else Jb.szL xs (l - (xs.length : Int)))) ∧ Below w.heap.size w w' := by
  obtain ⟨a, cap, rfl, hc⟩ := hN
  obtain ⟨n, HN⟩ : ∃ n, Hid (xs.length = n) := ⟨_, (rfl : xs.length = _)⟩
  have HC : Hid (∀ i (hi : i < xs.length), ∃ g o, a = some ⟨g, o, none⟩ ∧ g < w.heap.size ∧ w.cell? ⟨g, o + i, none⟩ = some (.string xs[i])) := hc
  clear hc
  rw [HN.out] at hn
  simp only [HN.out]
  by_cases hl : l - (n : Int) < 0
  · rw [if_pos hl]
    go_enter Try.func14, Try.ntmps14
    go_wp2
    go_ret
    exact ⟨rfl, Below.refl _ _⟩
  · rw [if_neg hl]
    go_enter Try.func14, Try.ntmps14
    go_wp2
    go_loopw [1, 5] (fun tl tv wr => ∃ (i : Nat) (q : Int), i ≤ n ∧ tv = .int .i64 (i : Int) ∧ tl = .int .i64 q ∧ 0 ≤ q ∧ q ≤ 1048576 ∧ Jb.szL (xs.drop i) q = Jb.szL xs (l - (n : Int)) ∧ Below w.heap.size w wr) (fun _ tv _ => n - (intOf tv).toNat)
    case atStart => exact ⟨0, l - (n : Int), by omega, rfl, rfl, by omega, by omega, rfl, Below.refl _ _⟩
    case round =>
      obtain ⟨i, q, hi, rfl, rfl, hq0, hq1, hu, hbw⟩ := hrel
      have hz := hbw.size
      by_cases hlt : i < n
      · have hil : i < xs.length := by rw [HN.out]; exact hlt
        obtain ⟨g, o, rfl, hg, hcell⟩ := HC.out i hil
        rw [List.drop_eq_getElem_cons hil, Jb.szL] at hu
        have hxd := hx xs[i] (List.getElem_mem hil)
        have hq : wr.cell? ⟨g, o + i, none⟩ = some (.string xs[i]) := by rw [hbw.cell (p := ⟨g, o + i, none⟩) hg, hcell]
        generalize xs[i] = d at *
        clear hcell HC
        by_cases hlq : q - (d.size : Int) < 0
        · have HU : Hid (Jb.szL xs (l - (n : Int)) = -1) := by rw [if_pos hlq] at hu; exact hu.symm
          clear hu
          go_wp2
          go_ret
          exact ⟨Jb.ret_int HU.out.symm, hbw⟩
        · have HU : Hid (Jb.szL (xs.drop (i + 1)) (q - (d.size : Int)) = Jb.szL xs (l - (n : Int))) := by rw [if_neg hlq] at hu; exact hu
          clear hu
          go_wp2
          go_roundw
          case rel => exact ⟨i + 1, q - (d.size : Int), by omega, by go_num, rfl, by omega, by omega, HU.out, hbw⟩
          case measure => simp [intOf]; omega
      · have HU : Hid (Jb.szL xs (l - (n : Int)) = q) := by rw [List.drop_of_length_le (by rw [HN.out]; omega)] at hu; exact hu.symm
        clear hu HC
        go_wp2
        go_ret
        exact ⟨Jb.ret_int HU.out.symm, hbw⟩
set_option maxRecDepth 100000 in
set_option maxHeartbeats 1000000 in
theorem Jb.eqStringS_same (xs : List ByteArray) (va vb : Value) (w : World) (ha : Jb.Off w va xs) (hb : Jb.Off w vb xs) (hl : xs.length ≤ 1048576) :
    Calls Try.prog 18 #[va, vb] w fun e w' => e = .returned (.bool true) ∧ Below w.heap.size w w' := by
  obtain ⟨a, cap, rfl, hc⟩ := ha
  obtain ⟨b, cbp, rfl, hd⟩ := hb
  obtain ⟨n, HN⟩ : ∃ n, Hid (xs.length = n) := ⟨_, (rfl : xs.length = _)⟩
  have HC : Hid (∀ i (hi : i < xs.length), ∃ g o, a = some ⟨g, o, none⟩ ∧ g < w.heap.size ∧ w.cell? ⟨g, o + i, none⟩ = some (.string xs[i])) := hc
  have HD : Hid (∀ i (hi : i < xs.length), ∃ g o, b = some ⟨g, o, none⟩ ∧ g < w.heap.size ∧ w.cell? ⟨g, o + i, none⟩ = some (.string xs[i])) := hd
  clear hc hd
  rw [HN.out] at hl
  simp only [HN.out]
  have hne : ((n : Int) != (n : Int)) = false := by simp
  go_enter Try.func18, Try.ntmps18
  go_wp2
  go_loopw [5] (fun t wr => ∃ i : Nat, i ≤ n ∧ t = .int .i64 (i : Int) ∧ Below w.heap.size w wr) (fun t _ => n - (intOf t).toNat)
  case atStart => exact ⟨0, by omega, rfl, Below.refl _ _⟩
  case round =>
    obtain ⟨i, hi, rfl, hbw⟩ := hrel
    have hz : w.heap.size ≤ wr.heap.size := hbw.size
    by_cases hlt : i < n
    · have hil : i < xs.length := by rw [HN.out]; exact hlt
      obtain ⟨ga, oa, rfl, hga, hca⟩ := HC.out i hil
      obtain ⟨gb, ob, rfl, hgb, hcb⟩ := HD.out i hil
      have hA : wr.cell? ⟨ga, oa + i, none⟩ = some (.string xs[i]) := by rw [hbw.cell (p := ⟨ga, oa + i, none⟩) hga, hca]
      have hB : wr.cell? ⟨gb, ob + i, none⟩ = some (.string xs[i]) := by rw [hbw.cell (p := ⟨gb, ob + i, none⟩) hgb, hcb]
      generalize xs[i] = d at *
      clear hca hcb HC HD
      go_wp2
      go_region
      all_goals
        have hbw2 : Below w.heap.size w wr := hbw
        go_wp2
        go_roundw
        case rel => exact ⟨i + 1, by omega, by go_num, by first | exact hbw | exact ⟨hbw.os, hbw.tape, hbw.output, hbw.size, hbw.block⟩⟩
        case measure => simp [intOf]; omega
    · clear HC HD
      go_wp2
      go_ret
      exact ⟨rfl, hbw⟩
def Jb.fillTo (ns : List ByteArray) : Nat → List Value → List Value
  | 0, xs => xs
  | i + 1, xs => match ns[i]? with
    | some d => (Jb.fillTo ns i xs).set i (.string d)
    | none => Jb.fillTo ns i xs
theorem Jb.fillTo_len (ns : List ByteArray) (i : Nat) (xs : List Value) : (Jb.fillTo ns i xs).length = xs.length := by
  induction i with
  | zero => rfl
  | succ i ih =>
    rw [Jb.fillTo]
    split
    · rw [List.length_set, ih]
    · exact ih
theorem Jb.fillTo_at (ns : List ByteArray) (n : Nat) (xs : List Value) (hn : n ≤ xs.length) (hl : n ≤ ns.length) (i : Nat) (hi : i < n) : (Jb.fillTo ns n xs)[i]? = some (.string (ns[i]'(by omega))) := by
  induction n with
  | zero => omega
  | succ n ih =>
    rw [Jb.fillTo]
    have hns : ns[n]? = some (ns[n]'(by omega)) := List.getElem?_eq_getElem (by omega)
    rw [hns]
    simp only
    by_cases h : i = n
    · subst h
      rw [List.getElem?_set_self (by rw [Jb.fillTo_len]; omega)]
    · rw [List.getElem?_set_ne (by omega)]
      exact ih (by omega) (by omega) (by omega)
theorem Jb.fillTo_all (ns : List ByteArray) (xs : List Value) (h : xs.length = ns.length) : Jb.fillTo ns ns.length xs = ns.map Value.string := by
  apply List.ext_getElem?
  intro j
  by_cases hj : j < ns.length
  · rw [Jb.fillTo_at ns ns.length xs (by omega) (Nat.le_refl _) j hj, List.getElem?_map, List.getElem?_eq_getElem hj]; rfl
  · rw [List.getElem?_eq_none (by rw [Jb.fillTo_len]; omega), List.getElem?_eq_none (by rw [List.length_map]; omega)]
theorem Try.infoStr : (Try.prog.info? 9).map (fun i => (i.zero, i.size, i.bytes)) = some (some (.string ByteArray.empty), 1, 16) := by kernel_rfl
set_option maxRecDepth 100000 in
set_option maxHeartbeats 2000000 in
theorem Jb.toStringS_any (ns : List ByteArray) (v : Value) (w : World) (hN : Jb.Off w v ns) (hl : ns.length ≤ 1048576) :
    Calls Try.prog 16 #[v] w fun e w' => ∃ v', e = .returned v' ∧ w'.ownsRow w.heap.size 9 1 v' ns.length (ns.map Value.string) ∧ Below w.heap.size w w' := by
  obtain ⟨i0, hi0, hz0, hz1, hz2⟩ := info_parts Try.infoStr
  obtain ⟨a, cap, rfl, hc⟩ := hN
  obtain ⟨n, HN⟩ : ∃ n, Hid (ns.length = n) := ⟨_, (rfl : ns.length = _)⟩
  have HC : Hid (∀ i (hi : i < ns.length), ∃ g o, a = some ⟨g, o, none⟩ ∧ g < w.heap.size ∧ w.cell? ⟨g, o + i, none⟩ = some (.string ns[i])) := hc
  clear hc
  rw [HN.out] at hl
  simp only [HN.out]
  go_enter Try.func16, Try.ntmps16
  go_wp2_with (at_make; (refine wpList_make_full _ rfl _ _ 22 rfl w.heap.size 9 i0 (.string ByteArray.empty) 1 Try.underlying22 hi0 hz0 hz1 .i64 .i64 _ _ n rfl rfl rfl rfl (by rw [hz2]; omega) (by unfold maxLen; omega) (Nat.le_refl _) ?_; intro w0 hown0 hgrow0))
  have hb0 : Below w.heap.size w w0 := Below.grown (Below.refl _ w) hgrow0 (Nat.le_refl _) (fun k h => by cases h)
  obtain ⟨xs, HX⟩ : ∃ xs, Hid ((madeCells (Value.string ByteArray.empty).cells (n * 1)).toList = xs) := ⟨_, (rfl : _ = _)⟩
  rw [HX.out] at hown0
  have hxl := hown0.1
  go_loopw [4] (fun t wr => ∃ i : Nat, i ≤ n ∧ t = .int .i64 (i : Int) ∧ wr.ownsRow w.heap.size 9 1 (.slice (some ⟨w.heap.size, 0, none⟩) n n) n (Jb.fillTo ns i xs) ∧ Below w.heap.size w wr) (fun t _ => n - (intOf t).toNat)
  case atStart => exact ⟨0, by omega, rfl, hown0, hb0⟩
  case round =>
    obtain ⟨i, hi, rfl, ho, hbw⟩ := hrel
    have hz := hbw.size
    by_cases hlt : i < n
    · have hil : i < ns.length := by rw [HN.out]; exact hlt
      obtain ⟨g, o, rfl, hg, hcell⟩ := HC.out i hil
      have hq : wr.cell? ⟨g, o + i, none⟩ = some (.string ns[i]) := by rw [hbw.cell (p := ⟨g, o + i, none⟩) hg, hcell]
      have HF : Hid (Jb.fillTo ns (i + 1) xs = (Jb.fillTo ns i xs).set i (.string ns[i])) := by rw [Hid, Jb.fillTo, List.getElem?_eq_getElem hil]
      generalize ns[i] = d at *
      clear hcell HC
      have hsx : i < (Jb.fillTo ns i xs).length := by rw [Jb.fillTo_len]; omega
      have c0 := ho.cellAt i (by omega)
      rw [List.getElem?_eq_getElem hsx] at c0
      generalize (Jb.fillTo ns i xs)[i] = y0 at c0
      have f0 := ho.frozenAt i
      go_wp2
      have own2 := (ho.stored i (.string d)).1
      have hb2 := hbw.setCell (p := ⟨w.heap.size, i, none⟩) (Nat.le_refl _) (.string d)
      go_roundw
      case rel => exact ⟨i + 1, by omega, by go_num, by rw [HF.out]; exact own2, hb2⟩
      case measure => simp [intOf]; omega
    · have hie : i = n := by omega
      subst hie
      have HF : Hid (Jb.fillTo ns i xs = ns.map Value.string) := by
        have := Jb.fillTo_all ns xs (by rw [HN.out]; omega)
        rw [HN.out] at this; exact this
      rw [HF.out] at ho
      clear HC
      go_wp2
      go_ret
      exact ⟨_, rfl, ho, hbw⟩
end Go.Proofs.Ytchfddnfpfgfbaa
