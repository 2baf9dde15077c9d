import Derived.Test.YtiomecoceandoaaDoorVTreeLA
import Derived.Test.YtiomecoceandoaaDoorVTreeV
import Derived.Test.YtiomecoceandoaaDoorVTreeL
import Derived.Test.YtiomecoceandoaaDoorCards
import Derived.Test.YtiomecoceandoaaDoorTie
import Derived.WalkKit
import Derived.ProofKit
import Derived.OpenShut
import Derived.OpenVars
import Derived.Lib.LaidIn
import Derived.Lib.LaidTab
import Derived.Stop.LaidErr
import Derived.Deep.DeepHandedRow
import Derived.Deep.DeepWitnessRowRef
import Derived.SizedLaws
import Derived.ChangeVars
namespace Go.Proofs.YtiomecoceandoaaDoor
namespace Mill
open Go.ChangeShapes Go.WideShapes Go.ChangeAt Go.RowKit Go.Lib

theorem vTab : Tryd.prog.globalNamed "loop.example/kilnmill/impl.greatest" = some 0 := by kernel_rfl
theorem vTabType : (Tryd.prog.globals[0]?).map (·.type) = some 88 := by kernel_rfl
theorem vCellsTab : Tryd.prog.cellsOf 88 = 11 := by kernel_rfl
theorem vCellsU : Tryd.prog.cellsOf 55 = 1 := by kernel_rfl
theorem vBw : Tryd.prog.globalNamed "loop.example/kilnmill/impl.builtWords" = some 1 := by kernel_rfl
theorem vBwType : (Tryd.prog.globals[1]?).map (·.type) = some 107 := by kernel_rfl
theorem vCellsWord : Tryd.prog.cellsOf 106 = 2 := by kernel_rfl
theorem vCellsInt : Tryd.prog.cellsOf 3 = 1 := by kernel_rfl
theorem vCellsBw : Tryd.prog.cellsOf 107 = 26 := by kernel_rfl

theorem vtabOf {W : World} (h : laidMetH Tryd.prog Rows.fnExactValidTreeRow.laid W) : Lib.TabIs Tryd.prog W "loop.example/kilnmill/impl.greatest" .u64 [0, 0, 0, 255, 65535, 4294967295, 18446744073709551615, 127, 32767, 2147483647, 9223372036854775807] := by
  have hL : laidMet Tryd.prog Rows.fnExactValidTreeRow.laid W := h
  exact Lib.tabIs_of_head (rest := [("loop.example/kilnmill/impl.builtWords", Rows.laid_loop_example_kilnmill_impl_builtWords)]) vTab vTabType Tryd.underlying88 Tryd.underlying55 vCellsU vCellsTab hL
theorem vlt_of_cell {W : World} {b o : Nat} {v : Value} (h : W.cell? ⟨b, o, none⟩ = some v) : b < W.heap.size := by
  unfold World.cell? at h
  split at h
  · rename_i hb; exact (Array.getElem?_eq_some_iff.1 hb).1
  · cases h
theorem vgreats {W : World} (h : laidMetH Tryd.prog Rows.fnExactValidTreeRow.laid W) : Mill.Greats W := by
  have ht := vtabOf h
  refine ⟨fun t h1 h2 => ?_, vlt_of_cell (ht.cell vTab 3 (by decide))⟩
  have hc := ht.cell vTab t (by simp; omega)
  rw [hc]
  have : t = 3 ∨ t = 4 ∨ t = 5 ∨ t = 6 ∨ t = 7 ∨ t = 8 ∨ t = 9 ∨ t = 10 := by omega
  rcases this with rfl | rfl | rfl | rfl | rfl | rfl | rfl | rfl <;> rfl
def wordRows : DataW Unit → List (DataW Unit)
  | .agg l => l
  | _ => []
theorem vword {W : World} {cs : List Value} {fuel : Nat} {p : List MemPlace} {l : List (DataW Unit)} {enc : TypeId × Value → Unit} {base : Nat} {spare : Nat → Bool} {held : Bool} (h : DataW.trod enc Tryd.prog W base spare held fuel 107 cs = some (.agg l, p)) (i : Nat) (hi : i < 13) (a : DataW Unit) (z : Int) (hz : l[i]? = some (.agg [a, .lit (.int .i64 z)])) : cs[i * 2 + 1]? = some (.int .i64 z) := by
  obtain ⟨xs, m, _, hx, hlen, hxl, hel⟩ := DataW.trod_array Tryd.underlying107 h
  rw [vCellsBw] at hlen
  have hx1 : l = xs.map (·.1) := by have := (Prod.mk.inj hx).1; injection this
  have h1 := hel i hi
  rw [vCellsWord] at h1
  have hxi : ∃ y, xs[i]? = some y := ⟨_, List.getElem?_eq_getElem (by omega)⟩
  obtain ⟨y, hy⟩ := hxi
  rw [hy] at h1
  obtain ⟨ys, k, _, hys, _, hyl, hf⟩ := DataW.trod_struct Tryd.underlying106 h1
  have hyd : y.1 = .agg [a, .lit (.int .i64 z)] := by
    rw [hx1, List.getElem?_map, hy] at hz
    simpa using hz
  rw [hys] at hyd
  have hyl2 : ys.length = 2 := hyl
  clear hyl
  match ys, hyl2 with
  | [y0, y1], _ =>
    have h2 : DataW.trod enc Tryd.prog W base spare held k 3 ((((cs.drop (i * 2)).take 2).drop 1).take (Tryd.prog.cellsOf 3)) = some y1 := hf 1 _ rfl
    rw [vCellsInt] at h2
    simp only [List.map_cons, List.map_nil, DataW.agg.injEq, List.cons.injEq, and_true] at hyd
    obtain ⟨z', hc, hd, _⟩ := DataW.trod_int Tryd.underlying3 h2
    have hzz : z' = z := by
      have e := hyd.2
      rw [hd] at e
      simpa using e
    subst hzz
    have e := congrArg (fun l => l[0]?) hc
    simpa [List.getElem?_drop, List.getElem?_take] using e
theorem vbuilts {W : World} (h : laidMetH Tryd.prog Rows.fnExactValidTreeRow.laid W) : Mill.Builts W := by
  have hL0 : laidMet Tryd.prog Rows.fnExactValidTreeRow.laid W := h
  have hL := laidMet.tail hL0
  obtain ⟨ps, ⟨g', t', cs, fuel, p, q, hg', ht', hvar, hd, _, _⟩, _⟩ := hL
  obtain rfl := Option.some.inj (vBw.symm.trans hg')
  obtain rfl := Option.some.inj (vBwType.symm.trans ht')
  have hw := fun i hi a z hz => vword hd i hi a z hz
  have hcell : ∀ i hi a z, _ → W.cell? ⟨1, i * 2 + 1, none⟩ = some (.int .i64 z) := fun i hi a z hz => by
    have := World.var?_cell vBw hvar (i * 2 + 1)
    rw [this]
    have e := hw i hi a z hz
    simpa using e
  have h1 := hcell 1 (by omega) _ 1 rfl
  refine ⟨fun m h1 h2 => ?_, vlt_of_cell h1⟩
  have : m = 1 ∨ m = 2 ∨ m = 3 ∨ m = 4 ∨ m = 5 ∨ m = 6 ∨ m = 7 ∨ m = 8 ∨ m = 9 ∨ m = 10 ∨ m = 11 ∨ m = 12 := by omega
  rcases this with rfl | rfl | rfl | rfl | rfl | rfl | rfl | rfl | rfl | rfl | rfl | rfl
  · exact hcell 1 (by omega) _ _ rfl
  · exact hcell 2 (by omega) _ _ rfl
  · exact hcell 3 (by omega) _ _ rfl
  · exact hcell 4 (by omega) _ _ rfl
  · exact hcell 5 (by omega) _ _ rfl
  · exact hcell 6 (by omega) _ _ rfl
  · exact hcell 7 (by omega) _ _ rfl
  · exact hcell 8 (by omega) _ _ rfl
  · exact hcell 9 (by omega) _ _ rfl
  · exact hcell 10 (by omega) _ _ rfl
  · exact hcell 11 (by omega) _ _ rfl
  · exact hcell 12 (by omega) _ _ rfl

end Mill
end Go.Proofs.YtiomecoceandoaaDoor
