import Derived.Test.YtdmfbhfiaodehaaGreatDoorKWcL
import Derived.Test.YtdmfbhfiaodehaaGreatDoorCards
import Derived.Test.YtdmfbhfiaodehaaGreatDoorTie
import Derived.Stop.LaidErr
import Derived.Lay
import Derived.SevenTiedAt
import Derived.WalkKit
import Derived.ProofKit
import Derived.OpenShut
import Derived.OpenVars
import Derived.Lib.LaidIn
import Derived.Lib.LaidTab
import Derived.Deep.DeepHandedRow
import Derived.Deep.DeepWitnessRowRef
import Derived.SizedLaws
import Derived.ChangeVars
import Derived.Carry
import Derived.Deep.Slices
import Derived.ChangeArms
namespace Go.Proofs.YtdmfbhfiaodehaaGreatDoor
namespace Cd
open Go.ChangeShapes Go.WideShapes Go.ChangeAt Go.RowKit Go.Lib Go.Deep

theorem lt_cell {W : World} {b o : Nat} {v : Value} (h : W.cell? ⟨b, o, none⟩ = some v) : b < W.heap.size := by
  unfold World.cell? at h
  split at h
  · rename_i hb; exact (Array.getElem?_eq_some_iff.1 hb).1
  · cases h
theorem cellsInt : Tryz.prog.cellsOf 3 = 1 := by kernel_rfl
theorem cellsBool : Tryz.prog.cellsOf 4 = 1 := by kernel_rfl
theorem cellsString : Tryz.prog.cellsOf 9 = 1 := by kernel_rfl
theorem cellsWord : Tryz.prog.cellsOf 174 = 2 := by kernel_rfl
theorem cellsTy : Tryz.prog.cellsOf 171 = 4 := by kernel_rfl
theorem cells3 : Tryz.prog.cellsOf 169 = 3 := by kernel_rfl
theorem cells2 : Tryz.prog.cellsOf 99 = 2 := by kernel_rfl
theorem cellsRow : Tryz.prog.cellsOf 101 = 5 := by kernel_rfl
theorem gWords : Tryz.prog.globalNamed "loop.example/kilnmill/impl.builtWords" = some 2 := by kernel_rfl
theorem gWordsT : (Tryz.prog.globals[2]?).map (·.type) = some 175 := by kernel_rfl
theorem gTys : Tryz.prog.globalNamed "loop.example/kilnmill/impl.builtTypes" = some 1 := by kernel_rfl
theorem gTysT : (Tryz.prog.globals[1]?).map (·.type) = some 172 := by kernel_rfl
theorem gRows : Tryz.prog.globalNamed "loop.example/kilnmill/impl.insRows" = some 0 := by kernel_rfl
theorem gRowsT : (Tryz.prog.globals[0]?).map (·.type) = some 102 := by kernel_rfl
set_option maxRecDepth 100000 in
theorem word_of {W : World} {cs : List Value} {fuel : Nat} {p : List MemPlace} {l : List (DataW Unit)} {enc : TypeId × Value → Unit} {base : Nat} {spare : Nat → Bool} {held : Bool} (h : DataW.trod enc Tryz.prog W base spare held fuel 175 cs = some (.agg l, p)) (i : Nat) (hi : i < 13) (a : DataW Unit) (z : Int) (hz : l[i]? = some (.agg [a, .lit (.int .i64 z)])) : cs[i * 2 + 1]? = some (.int .i64 z) := by
  obtain ⟨xs, m, _, hx, hlen, hxl, hel⟩ := DataW.trod_array Tryz.underlying175 h
  have hx1 : l = xs.map (·.1) := by have := (Prod.mk.inj hx).1; injection this
  have h1 := hel i hi
  rw [cellsWord] at h1
  have hxi : ∃ y, xs[i]? = some y := ⟨_, List.getElem?_eq_getElem (by omega)⟩
  obtain ⟨y, hy⟩ := hxi
  rw [hy] at h1
  obtain ⟨ys, k, _, hys, _, hyl, hf⟩ := DataW.trod_struct Tryz.underlying174 h1
  have hyd : y.1 = .agg [a, .lit (.int .i64 z)] := by
    rw [hx1, List.getElem?_map, hy] at hz
    simpa using hz
  rw [hys] at hyd
  have hyl2 : ys.length = 2 := hyl
  clear hyl
  match ys, hyl2 with
  | [y0, y1], _ =>
    have h2 : DataW.trod enc Tryz.prog W base spare held k 3 ((((cs.drop (i * 2)).take 2).drop 1).take (Tryz.prog.cellsOf 3)) = some y1 := hf 1 _ rfl
    rw [cellsInt] at h2
    simp only [List.map_cons, List.map_nil, DataW.agg.injEq, List.cons.injEq, and_true] at hyd
    obtain ⟨z', hc, hd, _⟩ := DataW.trod_int Tryz.underlying3 h2
    have hzz : z' = z := by
      have e := hyd.2
      rw [hd] at e
      simpa using e
    subst hzz
    have e := congrArg (fun l => l[0]?) hc
    simpa [List.getElem?_drop, List.getElem?_take] using e
set_option maxRecDepth 100000 in
theorem three_of {W : World} {cs : List Value} {fuel : Nat} {x : DataW Unit × List MemPlace} {enc : TypeId × Value → Unit} {base : Nat} {spare : Nat → Bool} {held : Bool} (h : DataW.trod enc Tryz.prog W base spare held fuel 169 cs = some x) (za zb zc : Int) (hz : x.1 = .agg [.lit (.int .i64 za), .lit (.int .i64 zb), .lit (.int .i64 zc)]) : cs[0]? = some (.int .i64 za) ∧ cs[1]? = some (.int .i64 zb) ∧ cs[2]? = some (.int .i64 zc) := by
  obtain ⟨xs, m, _, hx, hlen, hxl, hel⟩ := DataW.trod_array Tryz.underlying169 h
  have hxl3 : xs.length = 3 := hxl
  rw [hx] at hz
  clear hxl
  match xs, hxl3 with
  | [y0, y1, y2], _ =>
    simp only [List.map_cons, List.map_nil, DataW.agg.injEq, List.cons.injEq, and_true] at hz
    have f0 := hel 0 (by omega); have f1 := hel 1 (by omega); have f2 := hel 2 (by omega)
    rw [cellsInt] at f0 f1 f2
    have g0 : DataW.trod enc Tryz.prog W base spare held m 3 ((cs.drop (0 * 1)).take 1) = some y0 := f0
    have g1 : DataW.trod enc Tryz.prog W base spare held m 3 ((cs.drop (1 * 1)).take 1) = some y1 := f1
    have g2 : DataW.trod enc Tryz.prog W base spare held m 3 ((cs.drop (2 * 1)).take 1) = some y2 := f2
    obtain ⟨z0, hc0, hd0, _⟩ := DataW.trod_int Tryz.underlying3 g0
    obtain ⟨z1, hc1, hd1, _⟩ := DataW.trod_int Tryz.underlying3 g1
    obtain ⟨z2, hc2, hd2, _⟩ := DataW.trod_int Tryz.underlying3 g2
    rw [hd0, hd1, hd2] at hz
    have e0 : z0 = za := by simpa using hz.1
    have e1 : z1 = zb := by simpa using hz.2.1
    have e2 : z2 = zc := by simpa using hz.2.2
    subst e0; subst e1; subst e2
    have h0 := congrArg (fun l => l[0]?) hc0
    have h1 := congrArg (fun l => l[0]?) hc1
    have h2 := congrArg (fun l => l[0]?) hc2
    simp only [List.getElem?_take, List.getElem?_drop] at h0 h1 h2
    exact ⟨by simpa using h0, by simpa using h1, by simpa using h2⟩
set_option maxRecDepth 100000 in
theorem types_of {W : World} {cs : List Value} {fuel : Nat} {p : List MemPlace} {l : List (DataW Unit)} {enc : TypeId × Value → Unit} {base : Nat} {spare : Nat → Bool} {held : Bool} (h : DataW.trod enc Tryz.prog W base spare held fuel 172 cs = some (.agg l, p)) (i : Nat) (hi : i < 13) (za zb zc zd : Int) (hz : l[i]? = some (.agg [.agg [.lit (.int .i64 za), .lit (.int .i64 zb), .lit (.int .i64 zc)], .lit (.int .i64 zd)])) :
    cs[i * 4]? = some (.int .i64 za) ∧ cs[i * 4 + 1]? = some (.int .i64 zb) ∧ cs[i * 4 + 2]? = some (.int .i64 zc) ∧ cs[i * 4 + 3]? = some (.int .i64 zd) := by
  obtain ⟨xs, m, _, hx, hlen, hxl, hel⟩ := DataW.trod_array Tryz.underlying172 h
  have hx1 : l = xs.map (·.1) := by have := (Prod.mk.inj hx).1; injection this
  have h1 := hel i hi
  rw [cellsTy] at h1
  have hxi : ∃ y, xs[i]? = some y := ⟨_, List.getElem?_eq_getElem (by omega)⟩
  obtain ⟨y, hy⟩ := hxi
  rw [hy] at h1
  obtain ⟨ys, k, _, hys, _, hyl, hf⟩ := DataW.trod_struct Tryz.underlying171 h1
  have hyd : y.1 = .agg [.agg [.lit (.int .i64 za), .lit (.int .i64 zb), .lit (.int .i64 zc)], .lit (.int .i64 zd)] := by
    rw [hx1, List.getElem?_map, hy] at hz
    simpa using hz
  rw [hys] at hyd
  have hyl2 : ys.length = 2 := hyl
  clear hyl
  match ys, hyl2 with
  | [y0, y1], _ =>
    have h3 : DataW.trod enc Tryz.prog W base spare held k 169 ((((cs.drop (i * 4)).take 4).drop 0).take (Tryz.prog.cellsOf 169)) = some y0 := hf 0 _ rfl
    have h2 : DataW.trod enc Tryz.prog W base spare held k 3 ((((cs.drop (i * 4)).take 4).drop 3).take (Tryz.prog.cellsOf 3)) = some y1 := hf 1 _ rfl
    rw [cells3] at h3
    rw [cellsInt] at h2
    simp only [List.map_cons, List.map_nil, DataW.agg.injEq, List.cons.injEq, and_true] at hyd
    obtain ⟨a0, a1, a2⟩ := three_of h3 za zb zc hyd.1
    obtain ⟨z', hc, hd, _⟩ := DataW.trod_int Tryz.underlying3 h2
    have hzz : z' = zd := by
      have e := hyd.2
      rw [hd] at e
      simpa using e
    subst hzz
    have e := congrArg (fun l => l[0]?) hc
    refine ⟨?_, ?_, ?_, ?_⟩
    · simpa [List.getElem?_drop, List.getElem?_take] using a0
    · simpa [List.getElem?_drop, List.getElem?_take] using a1
    · simpa [List.getElem?_drop, List.getElem?_take] using a2
    · simpa [List.getElem?_drop, List.getElem?_take] using e
set_option maxRecDepth 100000 in
theorem two_of {W : World} {cs : List Value} {fuel : Nat} {x : DataW Unit × List MemPlace} {enc : TypeId × Value → Unit} {base : Nat} {spare : Nat → Bool} {held : Bool} (h : DataW.trod enc Tryz.prog W base spare held fuel 99 cs = some x) (za zb : Int) (hz : x.1 = .agg [.lit (.int .i64 za), .lit (.int .i64 zb)]) : cs[0]? = some (.int .i64 za) ∧ cs[1]? = some (.int .i64 zb) := by
  obtain ⟨xs, m, _, hx, hlen, hxl, hel⟩ := DataW.trod_array Tryz.underlying99 h
  have hxl3 : xs.length = 2 := hxl
  rw [hx] at hz
  clear hxl
  match xs, hxl3 with
  | [y0, y1], _ =>
    simp only [List.map_cons, List.map_nil, DataW.agg.injEq, List.cons.injEq, and_true] at hz
    have f0 := hel 0 (by omega); have f1 := hel 1 (by omega)
    rw [cellsInt] at f0 f1
    have g0 : DataW.trod enc Tryz.prog W base spare held m 3 ((cs.drop (0 * 1)).take 1) = some y0 := f0
    have g1 : DataW.trod enc Tryz.prog W base spare held m 3 ((cs.drop (1 * 1)).take 1) = some y1 := f1
    obtain ⟨z0, hc0, hd0, _⟩ := DataW.trod_int Tryz.underlying3 g0
    obtain ⟨z1, hc1, hd1, _⟩ := DataW.trod_int Tryz.underlying3 g1
    rw [hd0, hd1] at hz
    have e0 : z0 = za := by simpa using hz.1
    have e1 : z1 = zb := by simpa using hz.2
    subst e0; subst e1
    have h0 := congrArg (fun l => l[0]?) hc0
    have h1 := congrArg (fun l => l[0]?) hc1
    simp only [List.getElem?_take, List.getElem?_drop] at h0 h1
    exact ⟨by simpa using h0, by simpa using h1⟩
set_option maxRecDepth 100000 in
theorem rows_of {W : World} {cs : List Value} {fuel : Nat} {p : List MemPlace} {l : List (DataW Unit)} {enc : TypeId × Value → Unit} {base : Nat} {spare : Nat → Bool} {held : Bool} (h : DataW.trod enc Tryz.prog W base spare held fuel 102 cs = some (.agg l, p)) (i : Nat) (hi : i < 17) (b : Bool) (za zb zc zd : Int) (hz : l[i]? = some (.agg [.lit (.bool b), .agg [.lit (.int .i64 za), .lit (.int .i64 zb)], .lit (.int .i64 zc), .lit (.int .i64 zd)])) :
    cs[i * 5]? = some (.bool b) ∧ cs[i * 5 + 1]? = some (.int .i64 za) ∧ cs[i * 5 + 2]? = some (.int .i64 zb) ∧ cs[i * 5 + 3]? = some (.int .i64 zc) ∧ cs[i * 5 + 4]? = some (.int .i64 zd) := by
  obtain ⟨xs, m, _, hx, hlen, hxl, hel⟩ := DataW.trod_array Tryz.underlying102 h
  have hx1 : l = xs.map (·.1) := by have := (Prod.mk.inj hx).1; injection this
  have h1 := hel i hi
  rw [cellsRow] at h1
  have hxi : ∃ y, xs[i]? = some y := ⟨_, List.getElem?_eq_getElem (by omega)⟩
  obtain ⟨y, hy⟩ := hxi
  rw [hy] at h1
  obtain ⟨ys, k, _, hys, _, hyl, hf⟩ := DataW.trod_struct Tryz.underlying101 h1
  have hyd : y.1 = .agg [.lit (.bool b), .agg [.lit (.int .i64 za), .lit (.int .i64 zb)], .lit (.int .i64 zc), .lit (.int .i64 zd)] := by
    rw [hx1, List.getElem?_map, hy] at hz
    simpa using hz
  rw [hys] at hyd
  have hyl2 : ys.length = 4 := hyl
  clear hyl
  match ys, hyl2 with
  | [y0, y1, y2, y3], _ =>
    have h0 : DataW.trod enc Tryz.prog W base spare held k 4 ((((cs.drop (i * 5)).take 5).drop 0).take (Tryz.prog.cellsOf 4)) = some y0 := hf 0 _ rfl
    have h2 : DataW.trod enc Tryz.prog W base spare held k 99 ((((cs.drop (i * 5)).take 5).drop 1).take (Tryz.prog.cellsOf 99)) = some y1 := hf 1 _ rfl
    have h3 : DataW.trod enc Tryz.prog W base spare held k 3 ((((cs.drop (i * 5)).take 5).drop 3).take (Tryz.prog.cellsOf 3)) = some y2 := hf 2 _ rfl
    have h4 : DataW.trod enc Tryz.prog W base spare held k 3 ((((cs.drop (i * 5)).take 5).drop 4).take (Tryz.prog.cellsOf 3)) = some y3 := hf 3 _ rfl
    rw [cellsBool] at h0
    rw [cells2] at h2
    rw [cellsInt] at h3 h4
    simp only [List.map_cons, List.map_nil, DataW.agg.injEq, List.cons.injEq, and_true] at hyd
    obtain ⟨a0, a1⟩ := two_of h2 za zb hyd.2.1
    obtain ⟨b', hcb, hdb⟩ := DataW.trod_bool Tryz.underlying4 h0
    obtain ⟨z3, hc3, hd3, _⟩ := DataW.trod_int Tryz.underlying3 h3
    obtain ⟨z4, hc4, hd4, _⟩ := DataW.trod_int Tryz.underlying3 h4
    have e0 : b' = b := by
      have e := hyd.1
      rw [hdb] at e
      simpa using e
    have e3 : z3 = zc := by
      have e := hyd.2.2.1
      rw [hd3] at e
      simpa using e
    have e4 : z4 = zd := by
      have e := hyd.2.2.2
      rw [hd4] at e
      simpa using e
    subst e0 e3 e4
    have g0 := congrArg (fun l => l[0]?) hcb
    have g3 := congrArg (fun l => l[0]?) hc3
    have g4 := congrArg (fun l => l[0]?) hc4
    refine ⟨?_, ?_, ?_, ?_, ?_⟩
    · simpa [List.getElem?_drop, List.getElem?_take] using g0
    · simpa [List.getElem?_drop, List.getElem?_take] using a0
    · simpa [List.getElem?_drop, List.getElem?_take] using a1
    · simpa [List.getElem?_drop, List.getElem?_take] using g3
    · simpa [List.getElem?_drop, List.getElem?_take] using g4
set_option maxRecDepth 100000 in
theorem insTabOf {W : World} {r : List (String × DataW Unit)} (h : laidMet Tryz.prog (("loop.example/kilnmill/impl.insRows", Rows.laid_loop_example_kilnmill_impl_insRows) :: r) W) : Cd.InsTab W := by
  obtain ⟨ps, ⟨g', t', cs, fuel, p, q, hg', ht', hvar, hd, _, _⟩, _⟩ := h
  obtain rfl := Option.some.inj (gRows.symm.trans hg')
  obtain rfl := Option.some.inj (gRowsT.symm.trans ht')
  have hc : ∀ k z, cs.toList[k]? = some z → W.cell? ⟨0, k, none⟩ = some z := fun k z hz => by
    rw [World.var?_cell gRows hvar k]
    simpa using hz
  have t1 := rows_of hd 1 (by omega) true 0 0 16 0 rfl
  have t2 := rows_of hd 2 (by omega) true 0 0 17 0 rfl
  have t3 := rows_of hd 3 (by omega) true 12 0 0 0 rfl
  have t4 := rows_of hd 4 (by omega) false 12 0 0 0 rfl
  have t5 := rows_of hd 5 (by omega) true 12 0 18 0 rfl
  have t6 := rows_of hd 6 (by omega) true 12 12 19 0 rfl
  have t7 := rows_of hd 7 (by omega) true 11 0 16 0 rfl
  have t8 := rows_of hd 8 (by omega) true 13 0 20 0 rfl
  have t9 := rows_of hd 9 (by omega) true 14 0 21 0 rfl
  have t10 := rows_of hd 10 (by omega) true 0 0 0 1 rfl
  have t11 := rows_of hd 11 (by omega) true 1 0 0 2 rfl
  have t12 := rows_of hd 12 (by omega) true 15 0 0 3 rfl
  have t13 := rows_of hd 13 (by omega) false 2 0 0 3 rfl
  have t14 := rows_of hd 14 (by omega) false 2 2 0 0 rfl
  have t15 := rows_of hd 15 (by omega) false 2 0 0 0 rfl
  have t16 := rows_of hd 16 (by omega) false 0 0 0 0 rfl
  have hall : ∀ m : Nat, 1 ≤ m → m ≤ 16 → cs.toList[m * 5]? = some (.bool (Cd.rowOf m).1) ∧ cs.toList[m * 5 + 1]? = some (.int .i64 (Cd.rowOf m).2.1) ∧ cs.toList[m * 5 + 2]? = some (.int .i64 (Cd.rowOf m).2.2.1) ∧ cs.toList[m * 5 + 3]? = some (.int .i64 (Cd.rowOf m).2.2.2.1) ∧ cs.toList[m * 5 + 4]? = some (.int .i64 (Cd.rowOf m).2.2.2.2) := fun m h1 h2 => by
    have hm : m = 1 ∨ m = 2 ∨ m = 3 ∨ m = 4 ∨ m = 5 ∨ m = 6 ∨ m = 7 ∨ m = 8 ∨ m = 9 ∨ m = 10 ∨ m = 11 ∨ m = 12 ∨ m = 13 ∨ m = 14 ∨ m = 15 ∨ m = 16 := by omega
    rcases hm with rfl | rfl | rfl | rfl | rfl | rfl | rfl | rfl | rfl | rfl | rfl | rfl | rfl | rfl | rfl | rfl
    · exact t1
    · exact t2
    · exact t3
    · exact t4
    · exact t5
    · exact t6
    · exact t7
    · exact t8
    · exact t9
    · exact t10
    · exact t11
    · exact t12
    · exact t13
    · exact t14
    · exact t15
    · exact t16
  exact ⟨lt_cell (hc _ _ t1.1), fun m h1 h2 => hc _ _ (hall m h1 h2).1, fun m h1 h2 => hc _ _ (hall m h1 h2).2.1, fun m h1 h2 => hc _ _ (hall m h1 h2).2.2.1, fun m h1 h2 => hc _ _ (hall m h1 h2).2.2.2.1, fun m h1 h2 => hc _ _ (hall m h1 h2).2.2.2.2⟩
set_option maxRecDepth 100000 in
theorem wordsOf {W : World} {r : List (String × DataW Unit)} (h : laidMet Tryz.prog (("loop.example/kilnmill/impl.builtWords", Rows.laid_loop_example_kilnmill_impl_builtWords) :: r) W) : (∀ m : Nat, 1 ≤ m → m ≤ 12 → W.cell? ⟨2, m * 2 + 1, none⟩ = some (.int .i64 ((Cd.kidE m).length : Int))) ∧ 2 < W.heap.size := by
  obtain ⟨ps, ⟨g', t', cs, fuel, p, q, hg', ht', hvar, hd, _, _⟩, _⟩ := h
  obtain rfl := Option.some.inj (gWords.symm.trans hg')
  obtain rfl := Option.some.inj (gWordsT.symm.trans ht')
  have hcell : ∀ i (_ : i < 13) a z, _ → W.cell? ⟨2, i * 2 + 1, none⟩ = some (.int .i64 z) := fun i hi a z hz => by
    rw [World.var?_cell gWords hvar (i * 2 + 1)]
    have e := word_of hd i hi a z hz
    simpa using e
  refine ⟨fun m h1 h2 => ?_, lt_cell (hcell 0 (by omega) _ _ rfl)⟩
  have : m = 1 ∨ m = 2 ∨ m = 3 ∨ m = 4 ∨ m = 5 ∨ m = 6 ∨ m = 7 ∨ m = 8 ∨ m = 9 ∨ m = 10 ∨ m = 11 ∨ m = 12 := by omega
  rcases this with rfl | rfl | rfl | rfl | rfl | rfl | rfl | rfl | rfl | rfl | rfl | rfl
  · exact hcell 1 (by omega) _ _ rfl
  · exact hcell 2 (by omega) _ _ rfl
  · exact hcell 3 (by omega) _ _ rfl
  · exact hcell 4 (by omega) _ _ rfl
  · exact hcell 5 (by omega) _ _ rfl
  · exact hcell 6 (by omega) _ _ rfl
  · exact hcell 7 (by omega) _ _ rfl
  · exact hcell 8 (by omega) _ _ rfl
  · exact hcell 9 (by omega) _ _ rfl
  · exact hcell 10 (by omega) _ _ rfl
  · exact hcell 11 (by omega) _ _ rfl
  · exact hcell 12 (by omega) _ _ rfl
set_option maxRecDepth 100000 in
theorem typesOf {W : World} {r : List (String × DataW Unit)} (h : laidMet Tryz.prog (("loop.example/kilnmill/impl.builtTypes", Rows.laid_loop_example_kilnmill_impl_builtTypes) :: r) W) : (∀ m : Nat, 1 ≤ m → m ≤ 12 → (∀ j, j < 3 → W.cell? ⟨1, m * 4 + j, none⟩ = some (.int .i64 ((Cd.kidE m).getD j 0))) ∧ W.cell? ⟨1, m * 4 + 3, none⟩ = some (.int .i64 (Cd.makes (m : Int)))) ∧ 1 < W.heap.size := by
  obtain ⟨ps, ⟨g', t', cs, fuel, p, q, hg', ht', hvar, hd, _, _⟩, _⟩ := h
  obtain rfl := Option.some.inj (gTys.symm.trans hg')
  obtain rfl := Option.some.inj (gTysT.symm.trans ht')
  have hc : ∀ k z, cs.toList[k]? = some z → W.cell? ⟨1, k, none⟩ = some z := fun k z hz => by
    rw [World.var?_cell gTys hvar k]
    simpa using hz
  have t0 := types_of hd 0 (by omega) 0 0 0 0 rfl
  have t1 := types_of hd 1 (by omega) 2 0 0 2 rfl
  have t2 := types_of hd 2 (by omega) 2 0 0 1 rfl
  have t3 := types_of hd 3 (by omega) 2 0 0 2 rfl
  have t4 := types_of hd 4 (by omega) 2 2 0 2 rfl
  have t5 := types_of hd 5 (by omega) 0 0 0 2 rfl
  have t6 := types_of hd 6 (by omega) 2 0 0 10 rfl
  have t7 := types_of hd 7 (by omega) 2 10 0 3 rfl
  have t8 := types_of hd 8 (by omega) 2 10 10 2 rfl
  have t9 := types_of hd 9 (by omega) 2 2 0 10 rfl
  have t10 := types_of hd 10 (by omega) 3 0 0 2 rfl
  have t11 := types_of hd 11 (by omega) 11 0 0 2 rfl
  have t12 := types_of hd 12 (by omega) 2 0 0 10 rfl
  have hone : ∀ (m : Nat) (a b c d : Int), (cs.toList[m * 4]? = some (.int .i64 a) ∧ cs.toList[m * 4 + 1]? = some (.int .i64 b) ∧ cs.toList[m * 4 + 2]? = some (.int .i64 c) ∧ cs.toList[m * 4 + 3]? = some (.int .i64 d)) → (Cd.kidE m).getD 0 0 = a → (Cd.kidE m).getD 1 0 = b → (Cd.kidE m).getD 2 0 = c → Cd.makes (m : Int) = d → (∀ j, j < 3 → W.cell? ⟨1, m * 4 + j, none⟩ = some (.int .i64 ((Cd.kidE m).getD j 0))) ∧ W.cell? ⟨1, m * 4 + 3, none⟩ = some (.int .i64 (Cd.makes (m : Int))) := fun m a b c d ht ha hb hcc hdd => by
    refine ⟨fun j hj => ?_, by rw [hdd]; exact hc _ _ ht.2.2.2⟩
    have hj3 : j = 0 ∨ j = 1 ∨ j = 2 := by omega
    rcases hj3 with rfl | rfl | rfl
    · rw [ha]; exact hc _ _ ht.1
    · rw [hb]; exact hc _ _ ht.2.1
    · rw [hcc]; exact hc _ _ ht.2.2.1
  refine ⟨fun m h1 h2 => ?_, lt_cell (hc _ _ t0.1)⟩
  have : m = 1 ∨ m = 2 ∨ m = 3 ∨ m = 4 ∨ m = 5 ∨ m = 6 ∨ m = 7 ∨ m = 8 ∨ m = 9 ∨ m = 10 ∨ m = 11 ∨ m = 12 := by omega
  rcases this with rfl | rfl | rfl | rfl | rfl | rfl | rfl | rfl | rfl | rfl | rfl | rfl
  · exact hone 1 _ _ _ _ t1 (by decide) (by decide) (by decide) (by decide)
  · exact hone 2 _ _ _ _ t2 (by decide) (by decide) (by decide) (by decide)
  · exact hone 3 _ _ _ _ t3 (by decide) (by decide) (by decide) (by decide)
  · exact hone 4 _ _ _ _ t4 (by decide) (by decide) (by decide) (by decide)
  · exact hone 5 _ _ _ _ t5 (by decide) (by decide) (by decide) (by decide)
  · exact hone 6 _ _ _ _ t6 (by decide) (by decide) (by decide) (by decide)
  · exact hone 7 _ _ _ _ t7 (by decide) (by decide) (by decide) (by decide)
  · exact hone 8 _ _ _ _ t8 (by decide) (by decide) (by decide) (by decide)
  · exact hone 9 _ _ _ _ t9 (by decide) (by decide) (by decide) (by decide)
  · exact hone 10 _ _ _ _ t10 (by decide) (by decide) (by decide) (by decide)
  · exact hone 11 _ _ _ _ t11 (by decide) (by decide) (by decide) (by decide)
  · exact hone 12 _ _ _ _ t12 (by decide) (by decide) (by decide) (by decide)
theorem tabsOf {W : World} (h : laidMetH Tryz.prog Rows.fnExactWriteCodeRow.laid W) : Cd.InsTab W ∧ Cd.WordTab W := by
  have h0 : laidMet Tryz.prog Rows.fnExactWriteCodeRow.laid W := h
  have h1 := laidMet.tail h0
  have h2 := laidMet.tail h1
  obtain ⟨w1, w2⟩ := wordsOf h0
  obtain ⟨y1, y2⟩ := typesOf h1
  exact ⟨insTabOf h2, ⟨y2, w2, fun m a b j hj => (y1 m a b).1 j hj, fun m a b => (y1 m a b).2, w1⟩⟩
end Cd
end Go.Proofs.YtdmfbhfiaodehaaGreatDoor
namespace Go.Proofs.YtdmfbhfiaodehaaGreatDoor
namespace Cd
open Go.ChangeShapes Go.WideShapes Go.ChangeAt Go.RowKit Go.Lib Go.Deep

theorem cellsInt64 : Tryz.prog.cellsOf 2 = 1 := by kernel_rfl
theorem cellsLIns : Tryz.prog.cellsOf 106 = 4 := by kernel_rfl
theorem cellsLFn : Tryz.prog.cellsOf 61 = 5 := by kernel_rfl
theorem cellsLCode : Tryz.prog.cellsOf 24 = 1 := by kernel_rfl
theorem cellsInts : Tryz.prog.cellsOf 50 = 1 := by kernel_rfl
theorem cellsLInss : Tryz.prog.cellsOf 59 = 1 := by kernel_rfl
theorem cellsLFns : Tryz.prog.cellsOf 22 = 1 := by kernel_rfl
theorem wf64 {n : Int} (h : (Lit.int .i64 n).wf = true) : -9223372036854775808 ≤ n ∧ n ≤ 9223372036854775807 := by
  have e1 : IntKind.i64.min = -9223372036854775808 := by decide
  have e2 : IntKind.i64.max = 9223372036854775807 := by decide
  simp only [Lit.wf, e1, e2, Bool.and_eq_true, decide_eq_true_eq] at h
  exact h
instance : Inhabited Cd.Ins := ⟨Cd.noIns⟩
def insFar (d : Cd.Ins) : Prop := d.text.size ≤ 9223372036854775807 ∧ -9223372036854775808 ≤ d.n ∧ d.n ≤ 9223372036854775807
theorem add_at {b o k : Nat} : (Addr.add ⟨b, o, none⟩ k) = ⟨b, o + k, none⟩ := by unfold Addr.add; split <;> simp_all
set_option maxRecDepth 100000 in
theorem ins_open {H : Type} {enc : TypeId × Value → H} {w : World} {base : Nat} {spare : Nat → Bool} {held : Bool} {fuel : Nat} {cs : List Value} {x : DataW H × List MemPlace}
    (h : DataW.trod enc Tryz.prog w base spare held fuel 106 cs = some x) : ∃ d : Cd.Ins, cs = Cd.insC d ∧ insFar d := by
  obtain ⟨xs, n, _, _, hlen, hxl, hf⟩ := DataW.trod_struct Tryz.underlying106 h
  rw [cellsLIns] at hlen
  have hxl2 : xs.length = 4 := hxl
  clear hxl
  match xs, hxl2, cs, hlen with
  | [y0, y1, y2, y3], _, [v0, v1, v2, v3], _ =>
    have f0 : DataW.trod enc Tryz.prog w base spare held n 3 (([v0, v1, v2, v3].drop 0).take (Tryz.prog.cellsOf 3)) = some y0 := hf 0 _ rfl
    have f1 : DataW.trod enc Tryz.prog w base spare held n 3 (([v0, v1, v2, v3].drop 1).take (Tryz.prog.cellsOf 3)) = some y1 := hf 1 _ rfl
    have f2 : DataW.trod enc Tryz.prog w base spare held n 2 (([v0, v1, v2, v3].drop 2).take (Tryz.prog.cellsOf 2)) = some y2 := hf 2 _ rfl
    have f3 : DataW.trod enc Tryz.prog w base spare held n 9 (([v0, v1, v2, v3].drop 3).take (Tryz.prog.cellsOf 9)) = some y3 := hf 3 _ rfl
    rw [cellsInt] at f0 f1
    rw [cellsInt64] at f2
    rw [cellsString] at f3
    have e0 : DataW.trod enc Tryz.prog w base spare held n 3 [v0] = some y0 := f0
    have e1 : DataW.trod enc Tryz.prog w base spare held n 3 [v1] = some y1 := f1
    have e2 : DataW.trod enc Tryz.prog w base spare held n 2 [v2] = some y2 := f2
    have e3 : DataW.trod enc Tryz.prog w base spare held n 9 [v3] = some y3 := f3
    obtain ⟨z0, h0, _, _⟩ := DataW.trod_int Tryz.underlying3 e0
    obtain ⟨z1, h1, _, _⟩ := DataW.trod_int Tryz.underlying3 e1
    obtain ⟨z2, h2, _, hw⟩ := DataW.trod_int Tryz.underlying2 e2
    obtain ⟨z3, h3, _, hs⟩ := DataW.trod_string Tryz.underlying9 e3
    cases h0; cases h1; cases h2; cases h3
    exact ⟨⟨z0, z1, z2, z3⟩, rfl, by simpa [maxLen] using hs, wf64 hw⟩
theorem inss_open {H : Type} {enc : TypeId × Value → H} {w : World} {base : Nat} {spare : Nat → Bool} {held : Bool} {fuel : Nat} {v : Value} {x : DataW H × List MemPlace}
    (h : DataW.trod enc Tryz.prog w base spare held fuel 59 [v] = some x) : ∃ l : List Cd.Ins, Cd.InsOff w v l ∧ l.length ≤ 9223372036854775807 ∧ ∀ d ∈ l, insFar d := by
  rcases open_slice Tryz.underlying59 h with ⟨hv, _⟩ | ⟨a, len, cap, m, n, D, Pl, hv, hb, hl, hm, hmm, _, hx⟩
  · cases hv
    exact ⟨[], ⟨none, 0, rfl, fun i hi => by simp at hi⟩, by simp, by simp⟩
  · cases hv
    have hlm : len ≤ m := by rw [hmm]; split <;> omega
    rw [cellsLIns] at hx
    obtain ⟨d, hd⟩ := choose_lt (α := Cd.Ins) (n := len) (p := fun i d => w.cells? base (a.add (i * 4)) 4 = some (Cd.insC d) ∧ insFar d) (fun i hi => by
      obtain ⟨cs', h1, h2⟩ := hx i (by omega)
      obtain ⟨d, rfl, hs⟩ := ins_open h2
      exact ⟨d, h1, hs⟩)
    refine ⟨(List.range len).map d, ⟨some a, cap, by simp, fun i hi => ?_⟩, by simp [maxLen] at hm ⊢; omega, fun e he => ?_⟩
    · have hi' : i < len := by simpa using hi
      obtain ⟨h1, _⟩ := hd i hi'
      obtain ⟨_, _, hcell⟩ := World.cells?_some h1
      have hc0 : w.cell? ((a.add (i * 4)).add 0) = some (.int .i64 (d i).op) := hcell 0 (by omega)
      have hc1 : w.cell? ((a.add (i * 4)).add 1) = some (.int .i64 (d i).a) := hcell 1 (by omega)
      have hc2 : w.cell? ((a.add (i * 4)).add 2) = some (.int .i64 (d i).n) := hcell 2 (by omega)
      have hc3 : w.cell? ((a.add (i * 4)).add 3) = some (.string (d i).text) := hcell 3 (by omega)
      obtain ⟨b, o, sp⟩ := a
      have hsp : sp = none := by
        obtain ⟨_, _, hcell0⟩ := World.cells?_some (hd 0 (by omega)).1
        have e0 : w.cell? ((Addr.add ⟨b, o, sp⟩ (0 * 4)).add 0) = some (.int .i64 (d 0).op) := hcell0 0 (by omega)
        simp [Addr.add] at e0
        exact World.cell?_spot e0
      subst hsp
      rw [add_at, add_at] at hc0 hc1 hc2 hc3
      rw [Nat.add_zero] at hc0
      refine ⟨b, o, rfl, lt_cell hc0, ?_, ?_, ?_, ?_⟩
      · rw [hc0]; simp
      · rw [hc1]; simp
      · rw [hc2]; simp
      · rw [hc3]; simp
    · simp only [List.mem_map, List.mem_range] at he
      obtain ⟨i, hi, rfl⟩ := he
      exact (hd i hi).2
theorem ints_open {H : Type} {enc : TypeId × Value → H} {w : World} {base : Nat} {spare : Nat → Bool} {held : Bool} {fuel : Nat} {v : Value} {x : DataW H × List MemPlace}
    (h : DataW.trod enc Tryz.prog w base spare held fuel 50 [v] = some x) : ∃ l : List Int, Cd.IntsAt w.heap.size w v l ∧ l.length ≤ 9223372036854775807 := by
  rcases open_slice Tryz.underlying50 h with ⟨hv, _⟩ | ⟨a, len, cap, m, n, D, Pl, hv, hb, hl, hm, hmm, _, hx⟩
  · cases hv
    exact ⟨[], ⟨none, 0, rfl, fun i hi => by simp at hi⟩, by simp⟩
  · cases hv
    have hlm : len ≤ m := by rw [hmm]; split <;> omega
    rw [cellsInt] at hx
    obtain ⟨d, hd⟩ := choose_lt (α := Int) (n := len) (p := fun i d => w.cells? base (a.add (i * 1)) 1 = some [.int .i64 d]) (fun i hi => by
      obtain ⟨cs', h1, h2⟩ := hx i (by omega)
      obtain ⟨d, rfl, _⟩ := DataW.trod_int Tryz.underlying3 h2
      exact ⟨d, h1⟩)
    refine ⟨(List.range len).map d, ⟨some a, cap, by simp, fun i hi => ?_⟩, by simp [maxLen] at hm ⊢; omega⟩
    have hi' : i < len := by simpa using hi
    have h1 := hd i hi'
    obtain ⟨_, _, hcell⟩ := World.cells?_some h1
    have hc0 : w.cell? ((a.add (i * 1)).add 0) = some (.int .i64 (d i)) := hcell 0 (by omega)
    obtain ⟨b, o, sp⟩ := a
    have hsp : sp = none := by
      obtain ⟨_, _, hcell0⟩ := World.cells?_some (hd 0 (by omega))
      have e0 : w.cell? ((Addr.add ⟨b, o, sp⟩ (0 * 1)).add 0) = some (.int .i64 (d 0)) := hcell0 0 (by omega)
      simp [Addr.add] at e0
      exact World.cell?_spot e0
    subst hsp
    rw [add_at, add_at, Nat.add_zero, Nat.mul_one] at hc0
    refine ⟨b, o, rfl, lt_cell hc0, ?_⟩
    rw [hc0]; simp
structure FnArg (w : World) (cs : List Value) (f : Cd.Fn) : Prop where
  cells : ∃ pa pc ia ic, cs = Cd.fnC f (.slice pa f.params.length pc) (.slice ia f.ins.length ic) ∧ Cd.IntsAt w.heap.size w (.slice pa f.params.length pc) f.params ∧ Cd.InsOff w (.slice ia f.ins.length ic) f.ins
  far : Cd.far f
  nums : ∀ d ∈ f.ins, insFar d
set_option maxRecDepth 100000 in
theorem fn_open {H : Type} {enc : TypeId × Value → H} {w : World} {base : Nat} {spare : Nat → Bool} {held : Bool} {fuel : Nat} {cs : List Value} {x : DataW H × List MemPlace}
    (h : DataW.trod enc Tryz.prog w base spare held fuel 61 cs = some x) : ∃ f : Cd.Fn, FnArg w cs f := by
  obtain ⟨xs, n, _, _, hlen, hxl, hf⟩ := DataW.trod_struct Tryz.underlying61 h
  rw [cellsLFn] at hlen
  have hxl2 : xs.length = 5 := hxl
  clear hxl
  match xs, hxl2, cs, hlen with
  | [y0, y1, y2, y3, y4], _, [v0, v1, v2, v3, v4], _ =>
    have f0 : DataW.trod enc Tryz.prog w base spare held n 9 (([v0, v1, v2, v3, v4].drop 0).take (Tryz.prog.cellsOf 9)) = some y0 := hf 0 _ rfl
    have f1 : DataW.trod enc Tryz.prog w base spare held n 50 (([v0, v1, v2, v3, v4].drop 1).take (Tryz.prog.cellsOf 50)) = some y1 := hf 1 _ rfl
    have f2 : DataW.trod enc Tryz.prog w base spare held n 3 (([v0, v1, v2, v3, v4].drop 2).take (Tryz.prog.cellsOf 3)) = some y2 := hf 2 _ rfl
    have f3 : DataW.trod enc Tryz.prog w base spare held n 3 (([v0, v1, v2, v3, v4].drop 3).take (Tryz.prog.cellsOf 3)) = some y3 := hf 3 _ rfl
    have f4 : DataW.trod enc Tryz.prog w base spare held n 59 (([v0, v1, v2, v3, v4].drop 4).take (Tryz.prog.cellsOf 59)) = some y4 := hf 4 _ rfl
    rw [cellsString] at f0
    rw [cellsInts] at f1
    rw [cellsInt] at f2 f3
    rw [cellsLInss] at f4
    have e0 : DataW.trod enc Tryz.prog w base spare held n 9 [v0] = some y0 := f0
    have e1 : DataW.trod enc Tryz.prog w base spare held n 50 [v1] = some y1 := f1
    have e2 : DataW.trod enc Tryz.prog w base spare held n 3 [v2] = some y2 := f2
    have e3 : DataW.trod enc Tryz.prog w base spare held n 3 [v3] = some y3 := f3
    have e4 : DataW.trod enc Tryz.prog w base spare held n 59 [v4] = some y4 := f4
    obtain ⟨z0, h0, _, hs⟩ := DataW.trod_string Tryz.underlying9 e0
    obtain ⟨z2, h2, _, _⟩ := DataW.trod_int Tryz.underlying3 e2
    obtain ⟨z3, h3, _, _⟩ := DataW.trod_int Tryz.underlying3 e3
    obtain ⟨ps, hP, hpl⟩ := ints_open e1
    obtain ⟨is, hI, hil, hif⟩ := inss_open e4
    cases h0; cases h2; cases h3
    obtain ⟨pa, pc, rfl, _⟩ := id hP
    obtain ⟨ia, ic, rfl, _⟩ := id hI
    exact ⟨⟨z0, ps, z2, z3, is⟩, ⟨pa, pc, ia, ic, rfl, hP, hI⟩, ⟨by simpa [maxLen] using hs, hpl, hil, fun d hd => (hif d hd).1⟩, hif⟩
instance : Inhabited Cd.Fn := ⟨Cd.noFn⟩
theorem fns_open {H : Type} {enc : TypeId × Value → H} {w : World} {base : Nat} {spare : Nat → Bool} {held : Bool} {fuel : Nat} {v : Value} {x : DataW H × List MemPlace}
    (h : DataW.trod enc Tryz.prog w base spare held fuel 22 [v] = some x) : ∃ c : List Cd.Fn, Cd.FnsOff w v c ∧ c.length ≤ 9223372036854775807 ∧ ∀ f ∈ c, Cd.far f ∧ ∀ d ∈ f.ins, insFar d := by
  rcases open_slice Tryz.underlying22 h with ⟨hv, _⟩ | ⟨a, len, cap, m, n, D, Pl, hv, hb, hl, hm, hmm, _, hx⟩
  · cases hv
    exact ⟨[], ⟨none, 0, rfl, fun i hi => by simp at hi⟩, by simp, by simp⟩
  · cases hv
    have hlm : len ≤ m := by rw [hmm]; split <;> omega
    rw [cellsLFn] at hx
    obtain ⟨d, hd⟩ := choose_lt (α := Cd.Fn) (n := len) (p := fun i d => ∃ cs, w.cells? base (a.add (i * 5)) 5 = some cs ∧ FnArg w cs d) (fun i hi => by
      obtain ⟨cs', h1, h2⟩ := hx i (by omega)
      obtain ⟨d, hs⟩ := fn_open h2
      exact ⟨d, cs', h1, hs⟩)
    refine ⟨(List.range len).map d, ⟨some a, cap, by simp, fun i hi => ?_⟩, by simp [maxLen] at hm ⊢; omega, fun e he => ?_⟩
    · have hi' : i < len := by simpa using hi
      obtain ⟨cs, h1, h2⟩ := hd i hi'
      obtain ⟨pa, pc, ia, ic, rfl, hP, hI⟩ := h2.cells
      obtain ⟨_, _, hcell⟩ := World.cells?_some h1
      have hc0 : w.cell? ((a.add (i * 5)).add 0) = some (.string (d i).name) := hcell 0 (by omega)
      have hc1 : w.cell? ((a.add (i * 5)).add 1) = some (.slice pa (d i).params.length pc) := hcell 1 (by omega)
      have hc2 : w.cell? ((a.add (i * 5)).add 2) = some (.int .i64 (d i).result) := hcell 2 (by omega)
      have hc3 : w.cell? ((a.add (i * 5)).add 3) = some (.int .i64 (d i).slots) := hcell 3 (by omega)
      have hc4 : w.cell? ((a.add (i * 5)).add 4) = some (.slice ia (d i).ins.length ic) := hcell 4 (by omega)
      obtain ⟨b, o, sp⟩ := a
      have hsp : sp = none := by
        obtain ⟨cs0, k1, k2⟩ := hd 0 (by omega)
        obtain ⟨_, _, _, _, rfl, _, _⟩ := k2.cells
        obtain ⟨_, _, hcell0⟩ := World.cells?_some k1
        have e0 : w.cell? ((Addr.add ⟨b, o, sp⟩ (0 * 5)).add 0) = some (.string (d 0).name) := hcell0 0 (by omega)
        simp [Addr.add] at e0
        exact World.cell?_spot e0
      subst hsp
      rw [add_at, add_at] at hc0 hc1 hc2 hc3 hc4
      rw [Nat.add_zero] at hc0
      have eg : ((List.range len).map d)[i]'hi = d i := by simp
      rw [eg]
      exact ⟨b, o, pa, pc, ia, ic, rfl, lt_cell hc0, ⟨hc0, hc1, hc2, hc3, hc4⟩, hP, hI⟩
    · simp only [List.mem_map, List.mem_range] at he
      obtain ⟨i, hi, rfl⟩ := he
      obtain ⟨cs, _, h2⟩ := hd i hi
      exact ⟨h2.far, h2.nums⟩
set_option maxRecDepth 100000 in
theorem code_open {H : Type} {enc : TypeId × Value → H} {w : World} {base b0 : Nat} {r : Go.Reach} {spare : Nat → Bool} {held : Bool} {v : Value} {d : DataW H} {p : List MemPlace} (hv : Value.okWide Tryz.prog w r b0 24 v)
    (h : DataW.Trod enc Tryz.prog w base spare held 24 v d p) : ∃ (a : Option Addr) (cap : Nat) (c : List Cd.Fn), v = .agg #[.slice a c.length cap] ∧ Cd.FnsOff w (.slice a c.length cap) c ∧ c.length ≤ 9223372036854775807 ∧ ∀ f ∈ c, Cd.far f ∧ ∀ d ∈ f.ins, insFar d := by
  obtain ⟨cs, rfl, hsz⟩ := okWide_struct Tryz.underlying24 hv
  rw [cellsLCode] at hsz
  obtain ⟨fuel, hf⟩ := h
  obtain ⟨xs, m, _, _, _, hxl, hfld⟩ := DataW.trod_struct Tryz.underlying24 hf
  have hxl3 : xs.length = 1 := hxl
  obtain ⟨l⟩ := cs
  match l, hsz, xs, hxl3 with
  | [v0], _, [y0], _ =>
    have f0 : DataW.trod enc Tryz.prog w base spare held m 22 (((Value.agg #[v0]).cells.toList.drop 0).take (Tryz.prog.cellsOf 22)) = some y0 := hfld 0 _ rfl
    rw [cellsLFns] at f0
    have e0 : DataW.trod enc Tryz.prog w base spare held m 22 [v0] = some y0 := f0
    obtain ⟨c, hN, hn, hx⟩ := fns_open e0
    obtain ⟨a, cap, rfl⟩ := hN.slice
    exact ⟨a, cap, c, rfl, hN, hn, hx⟩
end Cd
end Go.Proofs.YtdmfbhfiaodehaaGreatDoor
