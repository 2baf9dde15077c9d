import Derived.Test.YtkaoeoeloihigaaGreatDoorVTreeI
import Derived.OwnWalk
import Derived.Deep.Slices
import Derived.ChangeArms
namespace Go.Proofs.YtkaoeoeloihigaaGreatDoor
open Go.RowKit

set_option maxRecDepth 100000 in
set_option maxHeartbeats 1000000 in
theorem eqNode_same (c o t y : Int) (x : ByteArray) (k : Int) (w : World) :
    Calls Tryz.prog 34 #[.agg #[.int .i64 c, .int .i64 o, .int .i64 t, .int .i64 y, .string x, .int .i64 k], .agg #[.int .i64 c, .int .i64 o, .int .i64 t, .int .i64 y, .string x, .int .i64 k]] w fun e w' => e = .returned (.bool true) ∧ Below w.heap.size w w' := by
  have h1 : (c != c) = false := by simp
  have h2 : (o != o) = false := by simp
  have h3 : (t != t) = false := by simp
  have h4 : (y != y) = false := by simp
  have h5 : (k != k) = false := by simp
  go_enter Tryz.func34, Tryz.ntmps34
  go_wp2
  all_goals go_ret
  all_goals exact ⟨rfl, ((Below.refl _ w).alloc (Nat.le_refl _) _).alloc (by simp) _⟩

set_option maxRecDepth 100000 in
set_option maxHeartbeats 1000000 in
theorem toNode_any (c o t y : Int) (x : ByteArray) (k : Int) (w : World) :
    Calls Tryz.prog 24 #[.agg #[.int .i64 c, .int .i64 o, .int .i64 t, .int .i64 y, .string x, .int .i64 k]] w fun e w' => e = .returned (.agg #[.int .i64 c, .int .i64 o, .int .i64 t, .int .i64 y, .string x, .int .i64 k]) ∧ Below w.heap.size w w' := by
  go_enter Tryz.func24, Tryz.ntmps24
  go_wp2
  exact bodyPost_ret (v := .agg #[.int .i64 c, .int .i64 o, .int .i64 t, .int .i64 y, .string x, .int .i64 k]) (by simp [results, Tryz.results24, go_sem]) rfl ⟨rfl, (((Below.refl _ w).alloc (Nat.le_refl _) _).alloc (by simp) _).alloc (by simp only [World.size_alloc]; omega) _⟩

set_option maxRecDepth 100000 in
set_option maxHeartbeats 1000000 in
theorem szNode_any (c o t y : Int) (x : ByteArray) (k l : Int) (hx : x.size ≤ 9223372036854775807) (h0 : 0 ≤ l) (h1 : l ≤ 1048576) (w : World) :
    Calls Tryz.prog 19 #[.agg #[.int .i64 c, .int .i64 o, .int .i64 t, .int .i64 y, .string x, .int .i64 k], .int .i64 l] w fun e w' => e = .returned (.int .i64 (if l - (x.size : Int) < 0 then -1 else l - (x.size : Int))) ∧ Below w.heap.size w w' := by
  by_cases h : l - (x.size : Int) < 0
  · rw [if_pos h]
    go_enter Tryz.func19, Tryz.ntmps19
    go_wp2
    go_ret
    exact ⟨rfl, (Below.refl _ w).alloc (Nat.le_refl _) _⟩
  · rw [if_neg h]
    go_enter Tryz.func19, Tryz.ntmps19
    go_wp2
    go_ret
    exact ⟨rfl, (Below.refl _ w).alloc (Nat.le_refl _) _⟩

def Mill.NodesOff (w : World) (v : Value) (ns : List Mill.Nd) : Prop :=
  ∃ a cap, v = .slice a ns.length cap ∧ ∀ i (hi : i < ns.length), ∃ g o, a = some ⟨g, o, none⟩ ∧ g < w.heap.size ∧ ∀ j, j < 6 → w.cell? ⟨g, o + i * 6 + j, none⟩ = (Mill.ndC ns[i])[j]?
theorem Mill.nodesOff_below {w w' : World} {v : Value} {ns : List Mill.Nd} (h : Mill.NodesOff w v ns) (hb : Below w.heap.size w w') : Mill.NodesOff w' v ns := by
  obtain ⟨a, cap, rfl, hc⟩ := h
  refine ⟨a, cap, rfl, fun i hi => ?_⟩
  obtain ⟨g, o, ha, hg, hcell⟩ := hc i hi
  refine ⟨g, o, ha, Nat.lt_of_lt_of_le hg hb.size, fun j hj => ?_⟩
  rw [hb.cell (p := ⟨g, o + i * 6 + j, none⟩) hg]; exact hcell j hj
def Mill.szL : List Mill.Nd → Int → Int
  | [], l => l
  | d :: r, l => if l - (d.text.size : Int) < 0 then -1 else Mill.szL r (l - (d.text.size : Int))

set_option maxRecDepth 100000 in
set_option maxHeartbeats 1000000 in
theorem szNodeS_any (ns : List Mill.Nd) (v : Value) (l : Int) (h0 : 0 ≤ l) (h1 : l ≤ 1048576) (hn : ns.length ≤ 9223372036854775807) (hx : ∀ d ∈ ns, d.text.size ≤ 9223372036854775807) (w : World) (hN : Mill.NodesOff w v ns) :
    Calls Tryz.prog 9 #[v, .int .i64 l] w fun e w' => e = .returned (.int .i64 (if l - (ns.length : Int) < 0 then -1 else Mill.szL ns (l - (ns.length : Int)))) ∧ Below w.heap.size w w' := by
  obtain ⟨a, cap, rfl, hc⟩ := hN
  obtain ⟨n, HN⟩ : ∃ n, Hid (ns.length = n) := ⟨_, (rfl : ns.length = _)⟩
  have HC : Hid (∀ i (hi : i < ns.length), ∃ g o, a = some ⟨g, o, none⟩ ∧ g < w.heap.size ∧ ∀ j, j < 6 → w.cell? ⟨g, o + i * 6 + j, none⟩ = (Mill.ndC ns[i])[j]?) := hc
  clear hc
  rw [HN.out] at hn
  simp only [HN.out]
  by_cases hl : l - (n : Int) < 0
  · rw [if_pos hl]
    go_enter Tryz.func9, Tryz.ntmps9
    go_wp2
    go_ret
    exact ⟨rfl, Below.refl _ _⟩
  · rw [if_neg hl]
    go_enter Tryz.func9, Tryz.ntmps9
    go_wp2
    go_loopw [1, 5] (fun tl tv wr => ∃ (i : Nat) (q : Int), i ≤ n ∧ tv = .int .i64 (i : Int) ∧ tl = .int .i64 q ∧ 0 ≤ q ∧ q ≤ 1048576 ∧ Mill.szL (ns.drop i) q = Mill.szL ns (l - (n : Int)) ∧ Below w.heap.size w wr) (fun _ tv _ => n - (intOf tv).toNat)
    case atStart => exact ⟨0, l - (n : Int), by omega, rfl, rfl, by omega, by omega, rfl, Below.refl _ _⟩
    case round =>
      obtain ⟨i, q, hi, rfl, rfl, hq0, hq1, hu, hbw⟩ := hrel
      have hz := hbw.size
      by_cases hlt : i < n
      · have hil : i < ns.length := by rw [HN.out]; exact hlt
        obtain ⟨g, o, rfl, hg, hcell⟩ := HC.out i hil
        rw [List.drop_eq_getElem_cons hil, Mill.szL] at hu
        have hxd := hx ns[i] (List.getElem_mem hil)
        have hq : ∀ m, m < 6 → wr.cell? ⟨g, o + i * 6 + m, none⟩ = (Mill.ndC ns[i])[m]? := fun m hm => by rw [hbw.cell (p := ⟨g, o + i * 6 + m, none⟩) hg, hcell m hm]
        generalize ns[i] = d at *
        have e0 := hq 0 (by omega); have e1 := hq 1 (by omega); have e2 := hq 2 (by omega); have e3 := hq 3 (by omega); have e4 := hq 4 (by omega); have e5 := hq 5 (by omega)
        simp only [Mill.ndC, Nat.add_zero, List.getElem?_cons_zero, List.getElem?_cons_succ] at e0 e1 e2 e3 e4 e5
        clear hq hcell HC
        obtain ⟨kd, ko, kt, ky, kx, kk⟩ := d
        simp only at *
        by_cases hlq : q - (kx.size : Int) < 0
        · have HU : Hid (Mill.szL ns (l - (n : Int)) = -1) := by rw [if_pos hlq] at hu; exact hu.symm
          clear hu
          go_wp2_with (go_at_call 19; (refine (szNode_any _ _ _ _ _ _ _ hxd hq0 hq1 _).mono ?_; rintro e w1 ⟨rfl, hb1⟩; rw [if_pos hlq]))
          go_ret
          exact ⟨Mill.ret_int HU.out.symm, hbw.trans (hb1.mono hz)⟩
        · have HU : Hid (Mill.szL (ns.drop (i + 1)) (q - (kx.size : Int)) = Mill.szL ns (l - (n : Int))) := by rw [if_neg hlq] at hu; exact hu
          clear hu
          go_wp2_with (go_at_call 19; (refine (szNode_any _ _ _ _ _ _ _ hxd hq0 hq1 _).mono ?_; rintro e w1 ⟨rfl, hb1⟩; rw [if_neg hlq]))
          go_roundw
          case rel => exact ⟨i + 1, q - (kx.size : Int), by omega, by go_num, rfl, by omega, by omega, HU.out, hbw.trans (hb1.mono hz)⟩
          case measure => simp [intOf]; omega
      · have HU : Hid (Mill.szL ns (l - (n : Int)) = q) := by rw [List.drop_of_length_le (by rw [HN.out]; omega)] at hu; exact hu.symm
        clear hu HC
        go_wp2
        go_ret
        exact ⟨Mill.ret_int HU.out.symm, hbw⟩

set_option maxRecDepth 100000 in
set_option maxHeartbeats 1000000 in
theorem eqNodeS_same (ns : List Mill.Nd) (va vb : Value) (w : World) (ha : Mill.NodesAt w va ns) (hb : Mill.NodesAt w vb ns) (hl : ns.length ≤ 1048576) :
    Calls Tryz.prog 18 #[va, vb] w fun e w' => e = .returned (.bool true) ∧ Below w.heap.size w w' := by
  obtain ⟨a, cap, rfl, hc⟩ := ha
  obtain ⟨b, cbp, rfl, hd⟩ := hb
  obtain ⟨n, HN⟩ : ∃ n, Hid (ns.length = n) := ⟨_, (rfl : ns.length = _)⟩
  have HC : Hid (∀ i (hi : i < ns.length), ∃ g, a = some ⟨g, 0, none⟩ ∧ g < w.heap.size ∧ ∀ j, j < 6 → w.cell? ⟨g, i * 6 + j, none⟩ = (Mill.ndC ns[i])[j]?) := hc
  have HD : Hid (∀ i (hi : i < ns.length), ∃ g, b = some ⟨g, 0, none⟩ ∧ g < w.heap.size ∧ ∀ j, j < 6 → w.cell? ⟨g, i * 6 + j, none⟩ = (Mill.ndC ns[i])[j]?) := hd
  clear hc hd
  rw [HN.out] at hl
  simp only [HN.out]
  have hne : ((n : Int) != (n : Int)) = false := by simp
  go_enter Tryz.func18, Tryz.ntmps18
  go_wp2
  go_loopw [5] (fun t wr => ∃ i : Nat, i ≤ n ∧ t = .int .i64 (i : Int) ∧ Below w.heap.size w wr) (fun t _ => n - (intOf t).toNat)
  case atStart => exact ⟨0, by omega, rfl, Below.refl _ _⟩
  case round =>
    obtain ⟨i, hi, rfl, hbw⟩ := hrel
    have hz : w.heap.size ≤ wr.heap.size := hbw.size
    by_cases hlt : i < n
    · have hil : i < ns.length := by rw [HN.out]; exact hlt
      obtain ⟨ga, rfl, hga, hca⟩ := HC.out i hil
      obtain ⟨gb, rfl, hgb, hcb⟩ := HD.out i hil
      have hA : ∀ m, m < 6 → wr.cell? ⟨ga, i * 6 + m, none⟩ = (Mill.ndC ns[i])[m]? := fun m hm => by rw [hbw.cell (p := ⟨ga, i * 6 + m, none⟩) hga, hca m hm]
      have hB : ∀ m, m < 6 → wr.cell? ⟨gb, i * 6 + m, none⟩ = (Mill.ndC ns[i])[m]? := fun m hm => by rw [hbw.cell (p := ⟨gb, i * 6 + m, none⟩) hgb, hcb m hm]
      generalize ns[i] = d at *
      have a0 := hA 0 (by omega); have a1 := hA 1 (by omega); have a2 := hA 2 (by omega); have a3 := hA 3 (by omega); have a4 := hA 4 (by omega); have a5 := hA 5 (by omega)
      have b0 := hB 0 (by omega); have b1 := hB 1 (by omega); have b2 := hB 2 (by omega); have b3 := hB 3 (by omega); have b4 := hB 4 (by omega); have b5 := hB 5 (by omega)
      simp only [Mill.ndC, List.getElem?_cons_zero, List.getElem?_cons_succ, Nat.add_zero] at a0 a1 a2 a3 a4 a5 b0 b1 b2 b3 b4 b5
      clear hA hB hca hcb HC HD
      go_wp2_with fail
      go_region_with (go_at_call 34; refine (eqNode_same _ _ _ _ _ _ _).mono ?_; rintro e w1 ⟨rfl, hb1⟩)
      all_goals
        have hbw2 : Below w.heap.size w w1 := hbw.trans (by have := hb1.mono (B' := w.heap.size) (by simpa using hz); exact ⟨this.os, this.tape, this.output, this.size, this.block⟩)
        clear a0 a1 a2 a3 a4 a5 b0 b1 b2 b3 b4 b5
        go_wp2
        go_roundw
        case rel => exact ⟨i + 1, by omega, by go_num, hbw2⟩
        case measure => simp [intOf]; omega
    · clear HC HD
      go_wp2
      go_ret
      exact ⟨rfl, hbw⟩

end Go.Proofs.YtkaoeoeloihigaaGreatDoor

namespace Go.Proofs.YtkaoeoeloihigaaGreatDoor
open Go.RowKit

def Mill.set6 (c : Nat) (d : Mill.Nd) (xs : List Value) : List Value := (((((xs.set c (.int .i64 d.kind)).set (c + 1) (.int .i64 d.op)).set (c + 2) (.int .i64 d.type)).set (c + 3) (.int .i64 d.n)).set (c + 4) (.string d.text)).set (c + 5) (.int .i64 d.kids)
def Mill.fillTo (ns : List Mill.Nd) : Nat → List Value → List Value
  | 0, xs => xs
  | i + 1, xs => match ns[i]? with
    | some d => Mill.set6 (i * 6) d (Mill.fillTo ns i xs)
    | none => Mill.fillTo ns i xs
theorem Mill.set6_len (c : Nat) (d : Mill.Nd) (xs : List Value) : (Mill.set6 c d xs).length = xs.length := by simp [Mill.set6]
theorem Mill.fillTo_len (ns : List Mill.Nd) (i : Nat) (xs : List Value) : (Mill.fillTo ns i xs).length = xs.length := by
  induction i with
  | zero => rfl
  | succ i ih =>
    rw [Mill.fillTo]
    split
    · rw [Mill.set6_len, ih]
    · exact ih
theorem Mill.set6_other (c : Nat) (d : Mill.Nd) (xs : List Value) (j : Nat) (h : j < c ∨ c + 5 < j) : (Mill.set6 c d xs)[j]? = xs[j]? := by
  unfold Mill.set6
  rw [List.getElem?_set_ne (by omega), List.getElem?_set_ne (by omega), List.getElem?_set_ne (by omega), List.getElem?_set_ne (by omega), List.getElem?_set_ne (by omega), List.getElem?_set_ne (by omega)]
theorem Mill.set6_at (c : Nat) (d : Mill.Nd) (xs : List Value) (hc : c + 6 ≤ xs.length) (j : Nat) (hj : j < 6) : (Mill.set6 c d xs)[c + j]? = (Mill.ndC d)[j]? := by
  unfold Mill.set6
  match j, hj with
  | 0, _ => rw [List.getElem?_set_ne (by omega), List.getElem?_set_ne (by omega), List.getElem?_set_ne (by omega), List.getElem?_set_ne (by omega), List.getElem?_set_ne (by omega)]; rw [Nat.add_zero, List.getElem?_set_self (by omega)]; rfl
  | 1, _ => rw [List.getElem?_set_ne (by omega), List.getElem?_set_ne (by omega), List.getElem?_set_ne (by omega), List.getElem?_set_ne (by omega)]; rw [List.getElem?_set_self (by simp; omega)]; rfl
  | 2, _ => rw [List.getElem?_set_ne (by omega), List.getElem?_set_ne (by omega), List.getElem?_set_ne (by omega)]; rw [List.getElem?_set_self (by simp; omega)]; rfl
  | 3, _ => rw [List.getElem?_set_ne (by omega), List.getElem?_set_ne (by omega)]; rw [List.getElem?_set_self (by simp; omega)]; rfl
  | 4, _ => rw [List.getElem?_set_ne (by omega)]; rw [List.getElem?_set_self (by simp; omega)]; rfl
  | 5, _ => rw [List.getElem?_set_self (by simp; omega)]; rfl
theorem Mill.fillTo_at (ns : List Mill.Nd) (n : Nat) (xs : List Value) (hn : n * 6 ≤ xs.length) (hl : n ≤ ns.length) (i : Nat) (hi : i < n) (j : Nat) (hj : j < 6) : (Mill.fillTo ns n xs)[i * 6 + j]? = (Mill.ndC (ns[i]'(by omega)))[j]? := by
  induction n with
  | zero => omega
  | succ n ih =>
    rw [Mill.fillTo]
    have hns : ns[n]? = some (ns[n]'(by omega)) := List.getElem?_eq_getElem (by omega)
    rw [hns]
    simp only
    by_cases h : i = n
    · subst h
      exact Mill.set6_at _ _ _ (by rw [Mill.fillTo_len]; omega) j hj
    · rw [Mill.set6_other _ _ _ _ (by omega)]
      exact ih (by omega) (by omega) (by omega)
theorem Mill.fillTo_all (ns : List Mill.Nd) (xs : List Value) (h : xs.length = ns.length * 6) : Mill.fillTo ns ns.length xs = Mill.ndCs ns := by
  apply List.ext_getElem?
  intro j
  by_cases hj : j < ns.length * 6
  · have e : j = j / 6 * 6 + j % 6 := by omega
    rw [e, Mill.fillTo_at ns ns.length xs (by omega) (Nat.le_refl _) (j / 6) (by omega) (j % 6) (by omega), Mill.ndCs_at ns (j / 6) (by omega) (j % 6) (by omega)]
  · rw [List.getElem?_eq_none (by rw [Mill.fillTo_len]; omega), List.getElem?_eq_none (by rw [Mill.ndCs_length]; omega)]
theorem Tryz.infoNode : (Tryz.prog.info? 68).map (fun i => (i.zero, i.size, i.bytes)) = some (some (.agg #[.int .i64 0, .int .i64 0, .int .i64 0, .int .i64 0, .string ByteArray.empty, .int .i64 0]), 6, 56) := by kernel_rfl
theorem Mill.row_some {w : World} {B e size n g cap : Nat} {xs : List Value} (h : w.ownsRow B e size (.slice (some ⟨g, 0, none⟩) n cap) n xs) (j : Nat) (hj : j < n * size) : ∃ y, w.cell? ⟨g, j, none⟩ = some y := by
  rw [h.cellAt j hj]; exact ⟨_, List.getElem?_eq_getElem (by rw [h.1]; exact hj)⟩

set_option maxRecDepth 100000 in
set_option maxHeartbeats 2000000 in
theorem toNodeS_any (ns : List Mill.Nd) (v : Value) (w : World) (hN : Mill.NodesOff w v ns) (hl : ns.length ≤ 1048576) :
    Calls Tryz.prog 13 #[v] w fun e w' => ∃ v', e = .returned v' ∧ w'.ownsRow w.heap.size 68 6 v' ns.length (Mill.ndCs ns) ∧ Below w.heap.size w w' := by
  obtain ⟨i0, hi0, hz0, hz1, hz2⟩ := info_parts Tryz.infoNode
  obtain ⟨a, cap, rfl, hc⟩ := hN
  obtain ⟨n, HN⟩ : ∃ n, Hid (ns.length = n) := ⟨_, (rfl : ns.length = _)⟩
  have HC : Hid (∀ i (hi : i < ns.length), ∃ g o, a = some ⟨g, o, none⟩ ∧ g < w.heap.size ∧ ∀ j, j < 6 → w.cell? ⟨g, o + i * 6 + j, none⟩ = (Mill.ndC ns[i])[j]?) := hc
  clear hc
  rw [HN.out] at hl
  simp only [HN.out]
  go_enter Tryz.func13, Tryz.ntmps13
  go_wp2_with (at_make; (refine wpList_make_full _ rfl _ _ 27 rfl w.heap.size 68 i0 (.agg #[.int .i64 0, .int .i64 0, .int .i64 0, .int .i64 0, .string ByteArray.empty, .int .i64 0]) 6 Tryz.underlying27 hi0 hz0 hz1 .i64 .i64 _ _ n rfl rfl rfl rfl (by rw [hz2]; omega) (by unfold maxLen; omega) (Nat.le_refl _) ?_; intro w0 hown0 hgrow0))
  have hb0 : Below w.heap.size w w0 := Below.grown (Below.refl _ w) hgrow0 (Nat.le_refl _) (fun k h => by cases h)
  obtain ⟨xs, HX⟩ : ∃ xs, Hid ((madeCells (Value.agg #[.int .i64 0, .int .i64 0, .int .i64 0, .int .i64 0, .string ByteArray.empty, .int .i64 0]).cells (n * 6)).toList = xs) := ⟨_, (rfl : _ = _)⟩
  rw [HX.out] at hown0
  have hxl := hown0.1
  go_loopw [4] (fun t wr => ∃ i : Nat, i ≤ n ∧ t = .int .i64 (i : Int) ∧ wr.ownsRow w.heap.size 68 6 (.slice (some ⟨w.heap.size, 0, none⟩) n n) n (Mill.fillTo ns i xs) ∧ Below w.heap.size w wr) (fun t _ => n - (intOf t).toNat)
  case atStart => exact ⟨0, by omega, rfl, hown0, hb0⟩
  case round =>
    obtain ⟨i, hi, rfl, ho, hbw⟩ := hrel
    have hz := hbw.size
    by_cases hlt : i < n
    · have hil : i < ns.length := by rw [HN.out]; exact hlt
      obtain ⟨g, o, rfl, hg, hcell⟩ := HC.out i hil
      have hq : ∀ m, m < 6 → wr.cell? ⟨g, o + i * 6 + m, none⟩ = (Mill.ndC ns[i])[m]? := fun m hm => by rw [hbw.cell (p := ⟨g, o + i * 6 + m, none⟩) hg, hcell m hm]
      have HF : Hid (Mill.fillTo ns (i + 1) xs = Mill.set6 (i * 6) ns[i] (Mill.fillTo ns i xs)) := by rw [Hid, Mill.fillTo, List.getElem?_eq_getElem hil]
      generalize ns[i] = d at *
      have e0 := hq 0 (by omega); have e1 := hq 1 (by omega); have e2 := hq 2 (by omega); have e3 := hq 3 (by omega); have e4 := hq 4 (by omega); have e5 := hq 5 (by omega)
      simp only [Mill.ndC, Nat.add_zero, List.getElem?_cons_zero, List.getElem?_cons_succ] at e0 e1 e2 e3 e4 e5
      clear hq hcell HC
      go_wp2_with (go_at_call 24; (refine (toNode_any _ _ _ _ _ _ _).mono ?_; rintro e w1 ⟨rfl, hb1⟩; have own2 := Mill.tree_own ho hb1; obtain ⟨y0, c0⟩ := Mill.row_some own2 (i * 6) (by omega); obtain ⟨y1, c1⟩ := Mill.row_some own2 (i * 6 + 1) (by omega); obtain ⟨y2, c2⟩ := Mill.row_some own2 (i * 6 + 2) (by omega); obtain ⟨y3, c3⟩ := Mill.row_some own2 (i * 6 + 3) (by omega); obtain ⟨y4, c4⟩ := Mill.row_some own2 (i * 6 + 4) (by omega); obtain ⟨y5, c5⟩ := Mill.row_some own2 (i * 6 + 5) (by omega); have f0 := own2.frozenAt (i * 6); have f1 := own2.frozenAt (i * 6 + 1); have f2 := own2.frozenAt (i * 6 + 2); have f3 := own2.frozenAt (i * 6 + 3); have f4 := own2.frozenAt (i * 6 + 4); have f5 := own2.frozenAt (i * 6 + 5)))
      have own6 := ((((((own2.stored (i * 6) (.int .i64 d.kind)).1.stored (i * 6 + 1) (.int .i64 d.op)).1.stored (i * 6 + 2) (.int .i64 d.type)).1.stored (i * 6 + 3) (.int .i64 d.n)).1.stored (i * 6 + 4) (.string d.text)).1.stored (i * 6 + 5) (.int .i64 d.kids)).1
      have hb6 := (((((((hbw.trans (hb1.mono hz)).setCell (p := ⟨w.heap.size, i * 6, none⟩) (Nat.le_refl _) (.int .i64 d.kind)).setCell (p := ⟨w.heap.size, i * 6 + 1, none⟩) (Nat.le_refl _) (.int .i64 d.op)).setCell (p := ⟨w.heap.size, i * 6 + 2, none⟩) (Nat.le_refl _) (.int .i64 d.type)).setCell (p := ⟨w.heap.size, i * 6 + 3, none⟩) (Nat.le_refl _) (.int .i64 d.n)).setCell (p := ⟨w.heap.size, i * 6 + 4, none⟩) (Nat.le_refl _) (.string d.text)).setCell (p := ⟨w.heap.size, i * 6 + 5, none⟩) (Nat.le_refl _) (.int .i64 d.kids))
      go_roundw
      case rel => exact ⟨i + 1, by omega, by go_num, by rw [HF.out]; exact own6, hb6⟩
      case measure => simp [intOf]; omega
    · have hie : i = n := by omega
      subst hie
      have HF : Hid (Mill.fillTo ns i xs = Mill.ndCs ns) := by
        have := Mill.fillTo_all ns xs (by rw [HN.out]; exact hxl)
        rw [HN.out] at this; exact this
      rw [HF.out] at ho
      clear HC
      go_wp2
      go_ret
      exact ⟨_, rfl, ho, hbw⟩

end Go.Proofs.YtkaoeoeloihigaaGreatDoor

namespace Go.Proofs.YtkaoeoeloihigaaGreatDoor
open Go.RowKit

def Mill.szT (ns : List Mill.Nd) (l : Int) : Int := if l - (ns.length : Int) < 0 then -1 else Mill.szL ns (l - (ns.length : Int))
theorem Mill.szL_bd : ∀ (ns : List Mill.Nd) (l : Int), 0 ≤ l → -1 ≤ Mill.szL ns l ∧ Mill.szL ns l ≤ l
  | [], l, h => by rw [Mill.szL]; omega
  | d :: r, l, h => by
    rw [Mill.szL]
    split
    · omega
    · have := Mill.szL_bd r (l - (d.text.size : Int)) (by omega); omega
theorem Mill.szT_bd (ns : List Mill.Nd) (l : Int) (h : 0 ≤ l) : -1 ≤ Mill.szT ns l ∧ Mill.szT ns l ≤ l := by
  unfold Mill.szT
  split
  · omega
  · have := Mill.szL_bd ns (l - (ns.length : Int)) (by omega); omega

set_option maxRecDepth 100000 in
set_option maxHeartbeats 1000000 in
theorem szTree_any (ns : List Mill.Nd) (v : Value) (l : Int) (h0 : 0 ≤ l) (h1 : l ≤ 1048576) (hn : ns.length ≤ 9223372036854775807) (hx : ∀ d ∈ ns, d.text.size ≤ 9223372036854775807) (w : World) (hN : Mill.NodesOff w v ns) :
    Calls Tryz.prog 4 #[.agg #[v], .int .i64 l] w fun e w' => e = .returned (.int .i64 (Mill.szT ns l)) ∧ Below w.heap.size w w' := by
  obtain ⟨hb1, hb2⟩ := Mill.szT_bd ns l h0
  obtain ⟨q, HQ⟩ : ∃ q, Hid (Mill.szT ns l = q) := ⟨_, (rfl : Mill.szT ns l = _)⟩
  have HQ2 : Hid ((if l - (ns.length : Int) < 0 then -1 else Mill.szL ns (l - (ns.length : Int))) = q) := HQ
  rw [HQ.out] at hb1 hb2 ⊢
  have hN1 := Mill.nodesOff_below hN ((Below.refl w.heap.size w).alloc (Nat.le_refl _) (.cells #[v] 24))
  have hvs : ∃ a c, v = .slice a ns.length c := by obtain ⟨a, c, h, _⟩ := hN; exact ⟨a, c, h⟩
  obtain ⟨a, c, rfl⟩ := hvs
  clear hN
  generalize hL : ns.length = L at *
  by_cases hq : q < 0
  · have hq1 : q = -1 := by omega
    go_enter Tryz.func4, Tryz.ntmps4
    go_wp2_with (go_at_call 9; (refine (szNodeS_any ns _ l h0 h1 (by omega) hx _ hN1).mono ?_; rintro e w1 ⟨rfl, hb⟩; rw [hL, HQ2.out]; rw [World.size_alloc] at hb))
    go_ret
    exact ⟨Mill.ret_int hq1.symm, Mill.nd_below hb⟩
  · go_enter Tryz.func4, Tryz.ntmps4
    go_wp2_with (go_at_call 9; (refine (szNodeS_any ns _ l h0 h1 (by omega) hx _ hN1).mono ?_; rintro e w1 ⟨rfl, hb⟩; rw [hL, HQ2.out]; rw [World.size_alloc] at hb))
    go_ret
    exact ⟨rfl, Mill.nd_below hb⟩

set_option maxRecDepth 100000 in
set_option maxHeartbeats 1000000 in
theorem toTree_any (ns : List Mill.Nd) (v : Value) (w : World) (hN : Mill.NodesOff w v ns) (hl : ns.length ≤ 1048576) :
    Calls Tryz.prog 6 #[.agg #[v]] w fun e w' => ∃ v', e = .returned (.agg #[v']) ∧ w'.ownsRow w.heap.size 68 6 v' ns.length (Mill.ndCs ns) ∧ Below w.heap.size w w' := by
  have hN1 : ∀ o1 o2 o3 : Obj, Mill.NodesOff (((w.alloc o1).alloc o2).alloc o3) v ns := fun o1 o2 o3 => Mill.nodesOff_below hN ((((Below.refl w.heap.size w).alloc (Nat.le_refl _) o1).alloc (by simp) o2).alloc (by simp only [World.size_alloc]; omega) o3)
  have hvs : ∃ a c, v = .slice a ns.length c := by obtain ⟨a, c, h, _⟩ := hN; exact ⟨a, c, h⟩
  obtain ⟨a, c, rfl⟩ := hvs
  clear hN
  have HN1 : Hid (∀ o1 o2 o3 : Obj, Mill.NodesOff (((w.alloc o1).alloc o2).alloc o3) (.slice a ns.length c) ns) := hN1
  clear hN1
  go_enter Tryz.func6, Tryz.ntmps6
  go_wp2_with (go_at_call 13; (refine (toNodeS_any ns _ _ (HN1.out _ _ _) hl).mono ?_; rintro e w1 ⟨v', rfl, own, hb⟩; obtain ⟨a', c', hv'⟩ := Mill.rowLen own; subst hv'; simp only [World.size_alloc] at own hb; have x1 : w1.cell? ⟨w.heap.size + 1, 0, none⟩ = some (.slice none 0 0) := (by rw [hb.cell (p := ⟨w.heap.size + 1, 0, none⟩) (by simp only; omega)]; simp [go_sem]); have x2 : w1.cell? ⟨w.heap.size + 1 + 1, 0, none⟩ = some (.slice none 0 0) := (by rw [hb.cell (p := ⟨w.heap.size + 1 + 1, 0, none⟩) (by simp only; omega)]; simp [go_sem]); have y1 : w1.frozen? ⟨w.heap.size + 1, 0, none⟩ = false := (by rw [hb.frozen (p := ⟨w.heap.size + 1, 0, none⟩) (by simp only; omega)]; simp [go_sem]); have y2 : w1.frozen? ⟨w.heap.size + 1 + 1, 0, none⟩ = false := (by rw [hb.frozen (p := ⟨w.heap.size + 1 + 1, 0, none⟩) (by simp only; omega)]; simp [go_sem])))
  have hz := hb.size
  simp only [World.size_alloc] at hz
  have hb1 : Below w.heap.size w w1 := ((((Below.refl w.heap.size w).alloc (Nat.le_refl _) _).alloc (by simp) _).alloc (by simp only [World.size_alloc]; omega) _).trans (hb.mono (by omega))
  refine bodyPost_ret (v := .agg #[.slice a' ns.length c']) (by simp [results, Tryz.results6, go_sem, x1]) rfl ⟨_, rfl, ?_, ?_⟩
  · exact (ownsRow_setCell_below (ownsRow_setCell_below own (a := ⟨w.heap.size + 1 + 1, 0, none⟩) (by simp only; omega) _) (a := ⟨w.heap.size + 1, 0, none⟩) (by simp only; omega) _).mono (by omega)
  · exact (hb1.setCell (p := ⟨w.heap.size + 1 + 1, 0, none⟩) (by simp only; omega) _).setCell (p := ⟨w.heap.size + 1, 0, none⟩) (by simp only; omega) _

set_option maxRecDepth 100000 in
set_option maxHeartbeats 1000000 in
theorem eqTree_same (ns : List Mill.Nd) (va vb : Value) (w : World) (ha : Mill.NodesAt w va ns) (hb : Mill.NodesAt w vb ns) (hl : ns.length ≤ 1048576) :
    Calls Tryz.prog 8 #[.agg #[va], .agg #[vb]] w fun e w' => e = .returned (.bool true) ∧ Below w.heap.size w w' := by
  have hbl : ∀ o1 o2 : Obj, Below w.heap.size w ((w.alloc o1).alloc o2) := fun o1 o2 => ((Below.refl w.heap.size w).alloc (Nat.le_refl _) o1).alloc (by simp) o2
  have ha1 : ∀ o1 o2 : Obj, Mill.NodesAt ((w.alloc o1).alloc o2) va ns := fun o1 o2 => Mill.nodesAt_below ha (hbl o1 o2)
  have hb1 : ∀ o1 o2 : Obj, Mill.NodesAt ((w.alloc o1).alloc o2) vb ns := fun o1 o2 => Mill.nodesAt_below hb (hbl o1 o2)
  have hva : ∃ a c, va = .slice a ns.length c := by obtain ⟨a, c, h, _⟩ := ha; exact ⟨a, c, h⟩
  have hvb : ∃ a c, vb = .slice a ns.length c := by obtain ⟨a, c, h, _⟩ := hb; exact ⟨a, c, h⟩
  obtain ⟨a, c, rfl⟩ := hva
  obtain ⟨a2, c2, rfl⟩ := hvb
  have HA : Hid (∀ o1 o2 : Obj, Mill.NodesAt ((w.alloc o1).alloc o2) (.slice a ns.length c) ns) := ha1
  have HB : Hid (∀ o1 o2 : Obj, Mill.NodesAt ((w.alloc o1).alloc o2) (.slice a2 ns.length c2) ns) := hb1
  clear ha hb ha1 hb1
  go_enter Tryz.func8, Tryz.ntmps8
  go_wp2_with (go_at_call 18; (refine (eqNodeS_same ns _ _ _ (HA.out _ _) (HB.out _ _) hl).mono ?_; rintro e w1 ⟨rfl, hb⟩))
  go_ret
  exact ⟨rfl, (hbl _ _).trans (hb.mono (by simp only [World.size_alloc]; omega))⟩

end Go.Proofs.YtkaoeoeloihigaaGreatDoor

namespace Go.Proofs.YtkaoeoeloihigaaGreatDoor
open Go.RowKit
namespace Mill
open Go.ChangeShapes Go.WideShapes Go.Deep

theorem cellsLNode : Tryz.prog.cellsOf 67 = 6 := by kernel_rfl
theorem cellsLTree : Tryz.prog.cellsOf 24 = 1 := by kernel_rfl
theorem cellsLNodes : Tryz.prog.cellsOf 22 = 1 := by kernel_rfl
theorem cellsInt : Tryz.prog.cellsOf 3 = 1 := by kernel_rfl
theorem cellsInt64 : Tryz.prog.cellsOf 2 = 1 := by kernel_rfl
theorem cellsString : Tryz.prog.cellsOf 9 = 1 := by kernel_rfl

instance : Inhabited Mill.Nd := ⟨⟨0, 0, 0, 0, ⟨#[]⟩, 0⟩⟩
theorem lt_cell {W : World} {b o : Nat} {v : Value} (h : W.cell? ⟨b, o, none⟩ = some v) : b < W.heap.size := by
  unfold World.cell? at h
  split at h
  · rename_i hb; exact (Array.getElem?_eq_some_iff.1 hb).1
  · cases h
set_option maxRecDepth 100000 in
theorem node_open {H : Type} {enc : TypeId × Value → H} {w : World} {base : Nat} {spare : Nat → Bool} {held : Bool} {fuel : Nat} {cs : List Value} {x : DataW H × List MemPlace}
    (h : DataW.trod enc Tryz.prog w base spare held fuel 67 cs = some x) : ∃ d : Mill.Nd, cs = Mill.ndC d ∧ d.text.size ≤ 9223372036854775807 := by
  obtain ⟨xs, n, _, _, hlen, hxl, hf⟩ := DataW.trod_struct Tryz.underlying67 h
  rw [cellsLNode] at hlen
  have hxl6 : xs.length = 6 := hxl
  clear hxl
  match xs, hxl6, cs, hlen with
  | [y0, y1, y2, y3, y4, y5], _, [v0, v1, v2, v3, v4, v5], _ =>
    have f0 : DataW.trod enc Tryz.prog w base spare held n 3 (([v0, v1, v2, v3, v4, v5].drop 0).take (Tryz.prog.cellsOf 3)) = some y0 := hf 0 _ rfl
    rw [cellsInt] at f0
    have e0 : DataW.trod enc Tryz.prog w base spare held n 3 [v0] = some y0 := f0
    have f1 : DataW.trod enc Tryz.prog w base spare held n 3 (([v0, v1, v2, v3, v4, v5].drop 1).take (Tryz.prog.cellsOf 3)) = some y1 := hf 1 _ rfl
    rw [cellsInt] at f1
    have e1 : DataW.trod enc Tryz.prog w base spare held n 3 [v1] = some y1 := f1
    have f2 : DataW.trod enc Tryz.prog w base spare held n 3 (([v0, v1, v2, v3, v4, v5].drop 2).take (Tryz.prog.cellsOf 3)) = some y2 := hf 2 _ rfl
    rw [cellsInt] at f2
    have e2 : DataW.trod enc Tryz.prog w base spare held n 3 [v2] = some y2 := f2
    have f3 : DataW.trod enc Tryz.prog w base spare held n 2 (([v0, v1, v2, v3, v4, v5].drop 3).take (Tryz.prog.cellsOf 2)) = some y3 := hf 3 _ rfl
    rw [cellsInt64] at f3
    have e3 : DataW.trod enc Tryz.prog w base spare held n 2 [v3] = some y3 := f3
    have f4 : DataW.trod enc Tryz.prog w base spare held n 9 (([v0, v1, v2, v3, v4, v5].drop 4).take (Tryz.prog.cellsOf 9)) = some y4 := hf 4 _ rfl
    rw [cellsString] at f4
    have e4 : DataW.trod enc Tryz.prog w base spare held n 9 [v4] = some y4 := f4
    have f5 : DataW.trod enc Tryz.prog w base spare held n 3 (([v0, v1, v2, v3, v4, v5].drop 5).take (Tryz.prog.cellsOf 3)) = some y5 := hf 5 _ rfl
    rw [cellsInt] at f5
    have e5 : DataW.trod enc Tryz.prog w base spare held n 3 [v5] = some y5 := f5
    obtain ⟨z0, h0, _, _⟩ := DataW.trod_int Tryz.underlying3 e0
    obtain ⟨z1, h1, _, _⟩ := DataW.trod_int Tryz.underlying3 e1
    obtain ⟨z2, h2, _, _⟩ := DataW.trod_int Tryz.underlying3 e2
    obtain ⟨z3, h3, _, _⟩ := DataW.trod_int Tryz.underlying2 e3
    obtain ⟨z4, h4, _, hs⟩ := DataW.trod_string Tryz.underlying9 e4
    obtain ⟨z5, h5, _, _⟩ := DataW.trod_int Tryz.underlying3 e5
    cases h0; cases h1; cases h2; cases h3; cases h4; cases h5
    exact ⟨⟨z0, z1, z2, z3, z4, z5⟩, rfl, by simpa [maxLen] using hs⟩

theorem nodes_open {H : Type} {enc : TypeId × Value → H} {w : World} {base : Nat} {spare : Nat → Bool} {held : Bool} {fuel : Nat} {v : Value} {x : DataW H × List MemPlace}
    (h : DataW.trod enc Tryz.prog w base spare held fuel 22 [v] = some x) : ∃ ns : List Mill.Nd, Mill.NodesOff w v ns ∧ ns.length ≤ 9223372036854775807 ∧ ∀ d ∈ ns, d.text.size ≤ 9223372036854775807 := by
  rcases open_slice Tryz.underlying22 h with ⟨hv, _⟩ | ⟨a, len, cap, m, n, D, Pl, hv, hb, hl, hm, hmm, _, hx⟩
  · cases hv
    exact ⟨[], ⟨none, 0, rfl, fun i hi => by simp at hi⟩, by simp, by simp⟩
  · cases hv
    have hlm : len ≤ m := by rw [hmm]; split <;> omega
    rw [cellsLNode] at hx
    obtain ⟨d, hd⟩ := choose_lt (α := Mill.Nd) (n := len) (p := fun i d => w.cells? base (a.add (i * 6)) 6 = some (Mill.ndC d) ∧ d.text.size ≤ 9223372036854775807) (fun i hi => by
      obtain ⟨cs', h1, h2⟩ := hx i (by omega)
      obtain ⟨d, rfl, hs⟩ := node_open h2
      exact ⟨d, h1, hs⟩)
    refine ⟨(List.range len).map d, ⟨some a, cap, by simp, fun i hi => ?_⟩, by simp [maxLen] at hm ⊢; omega, fun e he => ?_⟩
    · have hi' : i < len := by simpa using hi
      obtain ⟨h1, _⟩ := hd i hi'
      obtain ⟨_, _, hcell⟩ := World.cells?_some h1
      have hc0 : w.cell? ((a.add (i * 6)).add 0) = (Mill.ndC (d i))[0]? := hcell 0 (by omega)
      obtain ⟨b, o, sp⟩ := a
      have hsp : sp = none := by
        have e : w.cell? ((Addr.add ⟨b, o, sp⟩ (i * 6)).add 0) = some (.int .i64 (d i).kind) := hc0
        obtain ⟨_, _, hcell0⟩ := World.cells?_some (hd 0 (by omega)).1
        have e0 : w.cell? ((Addr.add ⟨b, o, sp⟩ (0 * 6)).add 0) = some (.int .i64 (d 0).kind) := hcell0 0 (by omega)
        simp [Addr.add] at e0
        exact World.cell?_spot e0
      subst hsp
      have hadd : ∀ o k, (Addr.add ⟨b, o, none⟩ k) = ⟨b, o + k, none⟩ := fun o k => by unfold Addr.add; split <;> simp_all
      refine ⟨b, o, rfl, ?_, fun j hj => ?_⟩
      · have e : w.cell? ((Addr.add ⟨b, o, none⟩ (i * 6)).add 0) = some (.int .i64 (d i).kind) := hc0
        rw [hadd, hadd] at e
        exact lt_cell e
      · have := hcell j (by omega)
        rw [hadd, hadd] at this
        rw [this]; simp
    · simp only [List.mem_map, List.mem_range] at he
      obtain ⟨i, hi, rfl⟩ := he
      exact (hd i hi).2

end Mill
end Go.Proofs.YtkaoeoeloihigaaGreatDoor
