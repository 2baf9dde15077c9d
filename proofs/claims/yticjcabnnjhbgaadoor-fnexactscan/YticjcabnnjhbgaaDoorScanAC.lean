import Derived.Test.YticjcabnnjhbgaaDoorScanAB
import Derived.Test.YticjcabnnjhbgaaDoorCards
import Derived.Test.YticjcabnnjhbgaaDoorTie
import Derived.WalkKit
import Derived.ProofKit
import Derived.OpenShut
import Derived.Lib.LaidIn
import Derived.Lib.LaidTab
import Derived.Stop.LaidErr
import Derived.Deep.DeepHandedRow
import Derived.Deep.DeepWitnessRowRef
import Derived.SizedLaws
import Derived.ChangeVars
namespace Go.Proofs.YticjcabnnjhbgaaDoor
open Go.Shelf
namespace Mill
open Go.ChangeShapes Go.WideShapes Go.ChangeAt Go.RowKit Go.Lib
open Go.ChangeMaps (open_string shut_string)

theorem own : ownKnob Tryd.prog.godebug = none := by kernel_rfl
theorem star : "*" ++ "errors.errorString" = "*errors.errorString" := by decide
theorem rowErr (u : TypeId) (h : Tryd.prog.typeName? 3 u = some "*errors.errorString") : u = 94 :=
  typeName_ptr_named (nm := "errors.errorString") (by rw [star]; kernel_rfl) (by kernel_rfl) (by decide) u (by rw [star]; exact h)
theorem gTab : Tryd.prog.globalNamed "loop.example/kilnmill/impl.greatest" = some 0 := by kernel_rfl
theorem gTabType : (Tryd.prog.globals[0]?).map (·.type) = some 70 := by kernel_rfl
theorem cellsTab : Tryd.prog.cellsOf 70 = 11 := by kernel_rfl
theorem cellsU : Tryd.prog.cellsOf 61 = 1 := by kernel_rfl
theorem cellsErr : Tryd.prog.cellsOf 96 = 1 := by kernel_rfl
theorem cellsStr : Tryd.prog.cellsOf 9 = 1 := by kernel_rfl
theorem gErr : Tryd.prog.globalNamed "strconv.ErrRange" = some 3 := by kernel_rfl
theorem gErrType : (Tryd.prog.globals[3]?).map (·.type) = some 67 := by kernel_rfl

theorem tabOf {W : World} (h : laidMetH Tryd.prog Rows.fnExactScanRow.laid W) : Lib.TabIs Tryd.prog W "loop.example/kilnmill/impl.greatest" .u64 [0, 0, 0, 255, 65535, 4294967295, 18446744073709551615, 127, 32767, 2147483647, 9223372036854775807] := by
  have hL : laidMet Tryd.prog Rows.fnExactScanRow.laid W := h
  exact Lib.tabIs_of_head (rest := []) gTab gTabType Tryd.underlying70 Tryd.underlying61 cellsU cellsTab (laidMet.tail (laidMet.tail (laidMet.tail (laidMet.tail (laidMet.tail hL)))))
theorem errOf {W : World} (h : laidMetH Tryd.prog Rows.fnExactScanRow.laid W) : ∃ te pe, W.cell? ⟨3, 0, none⟩ = some (.iface te pe) := by
  have hL : laidMet Tryd.prog Rows.fnExactScanRow.laid W := h
  obtain ⟨a, s, hv, _⟩ := laid_sentinel (g := 3) (laidMet.tail (laidMet.tail (laidMet.tail hL))) gErr gErrType Tryd.underlying67 rowErr Tryd.underlying94 Tryd.underlying96 rfl rfl Tryd.underlying9 cellsErr cellsStr
  exact ⟨_, _, by simpa using World.var?_cell gErr hv 0⟩
theorem lt_of_cell {W : World} {b o : Nat} {v : Value} (h : W.cell? ⟨b, o, none⟩ = some v) : b < W.heap.size := by
  unfold World.cell? at h
  split at h
  · rename_i hb; exact (Array.getElem?_eq_some_iff.1 hb).1
  · cases h
theorem globsOf {W : World} (h : laidMetH Tryd.prog Rows.fnExactScanRow.laid W) : Globs W := by
  have ht := tabOf h
  obtain ⟨te, pe, he⟩ := errOf h
  refine ⟨fun t h1 h2 => ?_, ⟨te, pe, he⟩, lt_of_cell (ht.cell gTab 3 (by decide)), lt_of_cell he⟩
  have hc := ht.cell gTab t (by simp; omega)
  rw [hc]
  have : t = 3 ∨ t = 4 ∨ t = 5 ∨ t = 6 ∨ t = 7 ∨ t = 8 ∨ t = 9 ∨ t = 10 := by omega
  rcases this with rfl | rfl | rfl | rfl | rfl | rfl | rfl | rfl <;> rfl

end Mill
end Go.Proofs.YticjcabnnjhbgaaDoor
