import Derived.Test.YtgoigbegahlfaaaDoorWalJ
import Derived.Test.YtgoigbegahlfaaaDoorRows
import Derived.Test.YtgoigbegahlfaaaDoorCards
import Derived.Test.YtgoigbegahlfaaaDoorTie
import Derived.Stop.LaidErr
import Derived.Lay
import Derived.SevenTiedAt
import Derived.WalkKit
import Derived.ProofKit
import Derived.OpenShut
import Derived.OpenVars
import Derived.Lib.LaidIn
import Derived.Lib.LaidTab
import Derived.Deep.DeepHandedRow
import Derived.Deep.DeepWitnessRowRef
import Derived.SizedLaws
import Derived.ChangeVars
import Derived.Carry
import Derived.Deep.Slices
import Derived.ChangeArms
namespace Go.Proofs.YtgoigbegahlfaaaDoor
namespace Val
open Go.ChangeShapes Go.WideShapes Go.ChangeAt Go.RowKit Go.Lib

theorem cellsLV : Tryd.prog.cellsOf 23 = 3 := by kernel_rfl
theorem cellsInt : Tryd.prog.cellsOf 3 = 1 := by kernel_rfl
theorem cellsInt64 : Tryd.prog.cellsOf 2 = 1 := by kernel_rfl
theorem cellsString : Tryd.prog.cellsOf 9 = 1 := by kernel_rfl
theorem wf64 {n : Int} (h : (Lit.int .i64 n).wf = true) : -9223372036854775808 ≤ n ∧ n ≤ 9223372036854775807 := by
  have e1 : IntKind.i64.min = -9223372036854775808 := by decide
  have e2 : IntKind.i64.max = 9223372036854775807 := by decide
  simp only [Lit.wf, e1, e2, Bool.and_eq_true, decide_eq_true_eq] at h
  exact h
set_option maxRecDepth 100000 in
theorem value_open {H : Type} {enc : TypeId × Value → H} {w : World} {base b0 : Nat} {r : Reach} {spare : Nat → Bool} {held : Bool} {v : Value} {d : DataW H} {p : List MemPlace} (hv : Value.okWide Tryd.prog w r b0 23 v)
    (h : DataW.Trod enc Tryd.prog w base spare held 23 v d p) : ∃ (t n : Int) (x : ByteArray), v = .agg #[.int .i64 t, .int .i64 n, .string x] ∧ (-9223372036854775808 ≤ n ∧ n ≤ 9223372036854775807) ∧ x.size ≤ 9223372036854775807 := by
  obtain ⟨cs, rfl, hsz⟩ := okWide_struct Tryd.underlying23 hv
  rw [cellsLV] at hsz
  obtain ⟨fuel, hf⟩ := h
  obtain ⟨xs, m, _, _, _, hxl, hfld⟩ := DataW.trod_struct Tryd.underlying23 hf
  have hxl3 : xs.length = 3 := hxl
  obtain ⟨l⟩ := cs
  match l, hsz, xs, hxl3 with
  | [v0, v1, v2], _, [y0, y1, y2], _ =>
    have f0 : DataW.trod enc Tryd.prog w base spare held m 3 (((Value.agg #[v0, v1, v2]).cells.toList.drop 0).take (Tryd.prog.cellsOf 3)) = some y0 := hfld 0 _ rfl
    rw [cellsInt] at f0
    have e0 : DataW.trod enc Tryd.prog w base spare held m 3 [v0] = some y0 := f0
    have f1 : DataW.trod enc Tryd.prog w base spare held m 2 (((Value.agg #[v0, v1, v2]).cells.toList.drop 1).take (Tryd.prog.cellsOf 2)) = some y1 := hfld 1 _ rfl
    rw [cellsInt64] at f1
    have e1 : DataW.trod enc Tryd.prog w base spare held m 2 [v1] = some y1 := f1
    have f2 : DataW.trod enc Tryd.prog w base spare held m 9 (((Value.agg #[v0, v1, v2]).cells.toList.drop 2).take (Tryd.prog.cellsOf 9)) = some y2 := hfld 2 _ rfl
    rw [cellsString] at f2
    have e2 : DataW.trod enc Tryd.prog w base spare held m 9 [v2] = some y2 := f2
    obtain ⟨z0, h0, _, _⟩ := DataW.trod_int Tryd.underlying3 e0
    obtain ⟨z1, h1, _, hw⟩ := DataW.trod_int Tryd.underlying2 e1
    obtain ⟨z2, h2, _, hs⟩ := DataW.trod_string Tryd.underlying9 e2
    cases h0; cases h1; cases h2
    exact ⟨z0, z1, z2, rfl, wf64 hw, by simpa [maxLen] using hs⟩
theorem own : ownKnob Tryd.prog.godebug = none := by kernel_rfl
theorem laidOut : laidOutB Tryd.prog = true := by kernel_rfl
theorem gType : Tryd.prog.globalNamed "loop.example/kilnmill/impl.errType" = some 0 := by kernel_rfl
theorem gTypeType : (Tryd.prog.globals[0]?).map (·.type) = some 40 := by kernel_rfl
theorem rowErr : ∀ u, Tryd.prog.typeName? 3 u = some "*errors.errorString" → u = 66 := typeName_ptr_named (nm := "errors.errorString") (by kernel_rfl) (by kernel_rfl) (by decide)
theorem cellsErr : Tryd.prog.cellsOf 94 = 1 := by kernel_rfl
theorem lt_cell {W : World} {b o : Nat} {v : Value} (h : W.cell? ⟨b, o, none⟩ = some v) : b < W.heap.size := by
  unfold World.cell? at h
  split at h
  · rename_i hb; exact (Array.getElem?_eq_some_iff.1 hb).1
  · cases h
theorem errOf {W : World} (h : laidMet Tryd.prog [("loop.example/kilnmill/impl.errType", Rows.laid_loop_example_kilnmill_impl_errType)] W) : Val.Err 0 Val.typeW W := by
  obtain ⟨a, s, hv, hc, hs, _⟩ := laid_sentinel h gType gTypeType Tryd.underlying40 rowErr Tryd.underlying66 Tryd.underlying94 rfl rfl Tryd.underlying9 cellsErr cellsString
  have hg : W.cell? ⟨0, 0, none⟩ = some (.iface 66 (.pointer (some a))) := by simpa using World.var?_cell gType hv 0
  obtain ⟨b, o, sp⟩ := a
  have hsp : sp = none := World.cell?_spot hc
  subst hsp
  have e : s = Val.typeW := by
    obtain ⟨⟨l⟩⟩ := s
    have : l = [116, 121, 112, 101] := hs
    subst this; rfl
  subst e
  exact ⟨b, o, hg, hc, lt_cell hg, lt_cell hc⟩
end Val
end Go.Proofs.YtgoigbegahlfaaaDoor
