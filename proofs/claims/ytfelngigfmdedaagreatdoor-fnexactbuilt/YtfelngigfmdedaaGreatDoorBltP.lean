import Derived.Test.YtfelngigfmdedaaGreatDoorBltO
import Derived.Test.YtfelngigfmdedaaGreatDoorRows
import Derived.Test.YtfelngigfmdedaaGreatDoorCards
import Derived.Test.YtfelngigfmdedaaGreatDoorTie
import Derived.Stop.LaidErr
import Derived.Lay
import Derived.SevenTiedAt
import Derived.WalkKit
import Derived.ProofKit
import Derived.OpenShut
import Derived.OpenVars
import Derived.Lib.LaidIn
import Derived.Lib.LaidTab
import Derived.Deep.DeepHandedRow
import Derived.Deep.DeepWitnessRowRef
import Derived.SizedLaws
import Derived.ChangeVars
import Derived.Carry
import Derived.Deep.Slices
import Derived.ChangeArms
namespace Go.Proofs.YtfelngigfmdedaaGreatDoor
namespace Val
open Go.ChangeShapes Go.WideShapes Go.ChangeAt Go.RowKit Go.Lib Go.Deep

theorem lt_cell {W : World} {b o : Nat} {v : Value} (h : W.cell? ⟨b, o, none⟩ = some v) : b < W.heap.size := by
  unfold World.cell? at h
  split at h
  · rename_i hb; exact (Array.getElem?_eq_some_iff.1 hb).1
  · cases h
theorem cellsInt : Tryz.prog.cellsOf 3 = 1 := by kernel_rfl
theorem cellsInt64 : Tryz.prog.cellsOf 2 = 1 := by kernel_rfl
theorem cellsString : Tryz.prog.cellsOf 9 = 1 := by kernel_rfl
theorem cellsErr : Tryz.prog.cellsOf 123 = 1 := by kernel_rfl
theorem cellsU64 : Tryz.prog.cellsOf 53 = 1 := by kernel_rfl
theorem cellsPow : Tryz.prog.cellsOf 112 = 20 := by kernel_rfl
theorem cellsWord : Tryz.prog.cellsOf 73 = 2 := by kernel_rfl
theorem cellsWords : Tryz.prog.cellsOf 74 = 26 := by kernel_rfl
theorem cellsTy : Tryz.prog.cellsOf 77 = 4 := by kernel_rfl
theorem cellsTys : Tryz.prog.cellsOf 78 = 52 := by kernel_rfl
theorem cells3 : Tryz.prog.cellsOf 75 = 3 := by kernel_rfl
theorem gType : Tryz.prog.globalNamed "loop.example/kilnmill/impl.errType" = some 0 := by kernel_rfl
theorem gTypeT : (Tryz.prog.globals[0]?).map (·.type) = some 48 := by kernel_rfl
theorem gRange : Tryz.prog.globalNamed "loop.example/kilnmill/impl.errRange" = some 3 := by kernel_rfl
theorem gRangeT : (Tryz.prog.globals[3]?).map (·.type) = some 48 := by kernel_rfl
theorem gNumber : Tryz.prog.globalNamed "loop.example/kilnmill/impl.errNumber" = some 4 := by kernel_rfl
theorem gNumberT : (Tryz.prog.globals[4]?).map (·.type) = some 48 := by kernel_rfl
theorem gSynT : (Tryz.prog.globals[7]?).map (·.type) = some 48 := by kernel_rfl
theorem gRngT : (Tryz.prog.globals[8]?).map (·.type) = some 48 := by kernel_rfl
theorem gPowT : (Tryz.prog.globals[6]?).map (·.type) = some 112 := by kernel_rfl
theorem gWords : Tryz.prog.globalNamed "loop.example/kilnmill/impl.builtWords" = some 1 := by kernel_rfl
theorem gWordsT : (Tryz.prog.globals[1]?).map (·.type) = some 74 := by kernel_rfl
theorem gTys : Tryz.prog.globalNamed "loop.example/kilnmill/impl.builtTypes" = some 2 := by kernel_rfl
theorem gTysT : (Tryz.prog.globals[2]?).map (·.type) = some 78 := by kernel_rfl
theorem rowErr : ∀ u, Tryz.prog.typeName? 3 u = some "*errors.errorString" → u = 121 := typeName_ptr_named (nm := "errors.errorString") (by kernel_rfl) (by kernel_rfl) (by decide)
theorem errOf {W : World} {n : String} {g : Nat} {text : List UInt8} {r : List (String × DataW Unit)} (hg : Tryz.prog.globalNamed n = some g) (hgt : (Tryz.prog.globals[g]?).map (·.type) = some 48)
    (h : laidMet Tryz.prog ((n, .iface "*errors.errorString" (.ptr (.agg [.lit (.string text)]))) :: r) W) : Val.Err g ⟨text.toArray⟩ W ∧ ∃ tp p, W.var? Tryz.prog n = some #[.iface tp p] := by
  obtain ⟨a, s, hv, hc, hs, _⟩ := laid_sentinel h hg hgt Tryz.underlying48 rowErr Tryz.underlying121 Tryz.underlying123 rfl rfl Tryz.underlying9 cellsErr cellsString
  have hgc : W.cell? ⟨g, 0, none⟩ = some (.iface 121 (.pointer (some a))) := by simpa using World.var?_cell hg hv 0
  obtain ⟨b, o, sp⟩ := a
  have hsp : sp = none := World.cell?_spot hc
  subst hsp
  have e : s = ⟨text.toArray⟩ := by
    obtain ⟨⟨l⟩⟩ := s
    have : l = text := hs
    subst this; rfl
  subst e
  exact ⟨⟨b, o, hgc, hc, lt_cell hgc, lt_cell hc⟩, _, _, hv⟩
set_option maxRecDepth 100000 in
theorem word_of {W : World} {cs : List Value} {fuel : Nat} {p : List MemPlace} {l : List (DataW Unit)} {enc : TypeId × Value → Unit} {base : Nat} {spare : Nat → Bool} {held : Bool} (h : DataW.trod enc Tryz.prog W base spare held fuel 74 cs = some (.agg l, p)) (i : Nat) (hi : i < 13) (a : DataW Unit) (z : Int) (hz : l[i]? = some (.agg [a, .lit (.int .i64 z)])) : cs[i * 2 + 1]? = some (.int .i64 z) := by
  obtain ⟨xs, m, _, hx, hlen, hxl, hel⟩ := DataW.trod_array Tryz.underlying74 h
  have hx1 : l = xs.map (·.1) := by have := (Prod.mk.inj hx).1; injection this
  have h1 := hel i hi
  rw [cellsWord] at h1
  have hxi : ∃ y, xs[i]? = some y := ⟨_, List.getElem?_eq_getElem (by omega)⟩
  obtain ⟨y, hy⟩ := hxi
  rw [hy] at h1
  obtain ⟨ys, k, _, hys, _, hyl, hf⟩ := DataW.trod_struct Tryz.underlying73 h1
  have hyd : y.1 = .agg [a, .lit (.int .i64 z)] := by
    rw [hx1, List.getElem?_map, hy] at hz
    simpa using hz
  rw [hys] at hyd
  have hyl2 : ys.length = 2 := hyl
  clear hyl
  match ys, hyl2 with
  | [y0, y1], _ =>
    have h2 : DataW.trod enc Tryz.prog W base spare held k 3 ((((cs.drop (i * 2)).take 2).drop 1).take (Tryz.prog.cellsOf 3)) = some y1 := hf 1 _ rfl
    rw [cellsInt] at h2
    simp only [List.map_cons, List.map_nil, DataW.agg.injEq, List.cons.injEq, and_true] at hyd
    obtain ⟨z', hc, hd, _⟩ := DataW.trod_int Tryz.underlying3 h2
    have hzz : z' = z := by
      have e := hyd.2
      rw [hd] at e
      simpa using e
    subst hzz
    have e := congrArg (fun l => l[0]?) hc
    simpa [List.getElem?_drop, List.getElem?_take] using e
set_option maxRecDepth 100000 in
theorem three_of {W : World} {cs : List Value} {fuel : Nat} {x : DataW Unit × List MemPlace} {enc : TypeId × Value → Unit} {base : Nat} {spare : Nat → Bool} {held : Bool} (h : DataW.trod enc Tryz.prog W base spare held fuel 75 cs = some x) (za zb zc : Int) (hz : x.1 = .agg [.lit (.int .i64 za), .lit (.int .i64 zb), .lit (.int .i64 zc)]) : cs[0]? = some (.int .i64 za) ∧ cs[1]? = some (.int .i64 zb) ∧ cs[2]? = some (.int .i64 zc) := by
  obtain ⟨xs, m, _, hx, hlen, hxl, hel⟩ := DataW.trod_array Tryz.underlying75 h
  have hxl3 : xs.length = 3 := hxl
  rw [hx] at hz
  clear hxl
  match xs, hxl3 with
  | [y0, y1, y2], _ =>
    simp only [List.map_cons, List.map_nil, DataW.agg.injEq, List.cons.injEq, and_true] at hz
    have f0 := hel 0 (by omega); have f1 := hel 1 (by omega); have f2 := hel 2 (by omega)
    rw [cellsInt] at f0 f1 f2
    have g0 : DataW.trod enc Tryz.prog W base spare held m 3 ((cs.drop (0 * 1)).take 1) = some y0 := f0
    have g1 : DataW.trod enc Tryz.prog W base spare held m 3 ((cs.drop (1 * 1)).take 1) = some y1 := f1
    have g2 : DataW.trod enc Tryz.prog W base spare held m 3 ((cs.drop (2 * 1)).take 1) = some y2 := f2
    obtain ⟨z0, hc0, hd0, _⟩ := DataW.trod_int Tryz.underlying3 g0
    obtain ⟨z1, hc1, hd1, _⟩ := DataW.trod_int Tryz.underlying3 g1
    obtain ⟨z2, hc2, hd2, _⟩ := DataW.trod_int Tryz.underlying3 g2
    rw [hd0, hd1, hd2] at hz
    have e0 : z0 = za := by simpa using hz.1
    have e1 : z1 = zb := by simpa using hz.2.1
    have e2 : z2 = zc := by simpa using hz.2.2
    subst e0; subst e1; subst e2
    have h0 := congrArg (fun l => l[0]?) hc0
    have h1 := congrArg (fun l => l[0]?) hc1
    have h2 := congrArg (fun l => l[0]?) hc2
    simp only [List.getElem?_take, List.getElem?_drop] at h0 h1 h2
    exact ⟨by simpa using h0, by simpa using h1, by simpa using h2⟩
set_option maxRecDepth 100000 in
theorem types_of {W : World} {cs : List Value} {fuel : Nat} {p : List MemPlace} {l : List (DataW Unit)} {enc : TypeId × Value → Unit} {base : Nat} {spare : Nat → Bool} {held : Bool} (h : DataW.trod enc Tryz.prog W base spare held fuel 78 cs = some (.agg l, p)) (i : Nat) (hi : i < 13) (za zb zc zd : Int) (hz : l[i]? = some (.agg [.agg [.lit (.int .i64 za), .lit (.int .i64 zb), .lit (.int .i64 zc)], .lit (.int .i64 zd)])) :
    cs[i * 4]? = some (.int .i64 za) ∧ cs[i * 4 + 1]? = some (.int .i64 zb) ∧ cs[i * 4 + 2]? = some (.int .i64 zc) ∧ cs[i * 4 + 3]? = some (.int .i64 zd) := by
  obtain ⟨xs, m, _, hx, hlen, hxl, hel⟩ := DataW.trod_array Tryz.underlying78 h
  have hx1 : l = xs.map (·.1) := by have := (Prod.mk.inj hx).1; injection this
  have h1 := hel i hi
  rw [cellsTy] at h1
  have hxi : ∃ y, xs[i]? = some y := ⟨_, List.getElem?_eq_getElem (by omega)⟩
  obtain ⟨y, hy⟩ := hxi
  rw [hy] at h1
  obtain ⟨ys, k, _, hys, _, hyl, hf⟩ := DataW.trod_struct Tryz.underlying77 h1
  have hyd : y.1 = .agg [.agg [.lit (.int .i64 za), .lit (.int .i64 zb), .lit (.int .i64 zc)], .lit (.int .i64 zd)] := by
    rw [hx1, List.getElem?_map, hy] at hz
    simpa using hz
  rw [hys] at hyd
  have hyl2 : ys.length = 2 := hyl
  clear hyl
  match ys, hyl2 with
  | [y0, y1], _ =>
    have h3 : DataW.trod enc Tryz.prog W base spare held k 75 ((((cs.drop (i * 4)).take 4).drop 0).take (Tryz.prog.cellsOf 75)) = some y0 := hf 0 _ rfl
    have h2 : DataW.trod enc Tryz.prog W base spare held k 3 ((((cs.drop (i * 4)).take 4).drop 3).take (Tryz.prog.cellsOf 3)) = some y1 := hf 1 _ rfl
    rw [cells3] at h3
    rw [cellsInt] at h2
    simp only [List.map_cons, List.map_nil, DataW.agg.injEq, List.cons.injEq, and_true] at hyd
    obtain ⟨a0, a1, a2⟩ := three_of h3 za zb zc hyd.1
    obtain ⟨z', hc, hd, _⟩ := DataW.trod_int Tryz.underlying3 h2
    have hzz : z' = zd := by
      have e := hyd.2
      rw [hd] at e
      simpa using e
    subst hzz
    have e := congrArg (fun l => l[0]?) hc
    refine ⟨?_, ?_, ?_, ?_⟩
    · simpa [List.getElem?_drop, List.getElem?_take] using a0
    · simpa [List.getElem?_drop, List.getElem?_take] using a1
    · simpa [List.getElem?_drop, List.getElem?_take] using a2
    · simpa [List.getElem?_drop, List.getElem?_take] using e
end Val
end Go.Proofs.YtfelngigfmdedaaGreatDoor
