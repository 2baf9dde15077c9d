import Derived.Test.YtgoigbegahlfaaaWalD
import Derived.Test.YtgoigbegahlfaaaRows
import Derived.WalkKit
import Derived.ProofKit
import Derived.OpenShut
import Derived.OpenVars
import Derived.Lib.LaidIn
import Derived.Lib.LaidTab
import Derived.Deep.DeepHandedRow
import Derived.Deep.DeepWitnessRowRef
import Derived.SizedLaws
import Derived.ChangeVars
import Derived.Carry
import Derived.Deep.Slices
import Derived.ChangeArms
namespace Go.Proofs.Ytgoigbegahlfaaa
namespace Val
open Go.ChangeShapes Go.WideShapes Go.ChangeAt Go.RowKit Go.Lib

theorem cellsLV : Try.prog.cellsOf 23 = 3 := by kernel_rfl
theorem cellsInt : Try.prog.cellsOf 3 = 1 := by kernel_rfl
theorem cellsInt64 : Try.prog.cellsOf 2 = 1 := by kernel_rfl
theorem cellsString : Try.prog.cellsOf 9 = 1 := by kernel_rfl
theorem wf64 {n : Int} (h : (Lit.int .i64 n).wf = true) : -9223372036854775808 ≤ n ∧ n ≤ 9223372036854775807 := by
  have e1 : IntKind.i64.min = -9223372036854775808 := by decide
  have e2 : IntKind.i64.max = 9223372036854775807 := by decide
  simp only [Lit.wf, e1, e2, Bool.and_eq_true, decide_eq_true_eq] at h
  exact h
set_option maxRecDepth 100000 in
theorem value_open {H : Type} {enc : TypeId × Value → H} {w : World} {base b0 : Nat} {r : Reach} {spare : Nat → Bool} {held : Bool} {v : Value} {d : DataW H} {p : List MemPlace} (hv : Value.okWide Try.prog w r b0 23 v)
    (h : DataW.Trod enc Try.prog w base spare held 23 v d p) : ∃ (t n : Int) (x : ByteArray), v = .agg #[.int .i64 t, .int .i64 n, .string x] ∧ (-9223372036854775808 ≤ n ∧ n ≤ 9223372036854775807) ∧ x.size ≤ 9223372036854775807 := by
  obtain ⟨cs, rfl, hsz⟩ := okWide_struct Try.underlying23 hv
  rw [cellsLV] at hsz
  obtain ⟨fuel, hf⟩ := h
  obtain ⟨xs, m, _, _, _, hxl, hfld⟩ := DataW.trod_struct Try.underlying23 hf
  have hxl3 : xs.length = 3 := hxl
  obtain ⟨l⟩ := cs
  match l, hsz, xs, hxl3 with
  | [v0, v1, v2], _, [y0, y1, y2], _ =>
    have f0 : DataW.trod enc Try.prog w base spare held m 3 (((Value.agg #[v0, v1, v2]).cells.toList.drop 0).take (Try.prog.cellsOf 3)) = some y0 := hfld 0 _ rfl
    rw [cellsInt] at f0
    have e0 : DataW.trod enc Try.prog w base spare held m 3 [v0] = some y0 := f0
    have f1 : DataW.trod enc Try.prog w base spare held m 2 (((Value.agg #[v0, v1, v2]).cells.toList.drop 1).take (Try.prog.cellsOf 2)) = some y1 := hfld 1 _ rfl
    rw [cellsInt64] at f1
    have e1 : DataW.trod enc Try.prog w base spare held m 2 [v1] = some y1 := f1
    have f2 : DataW.trod enc Try.prog w base spare held m 9 (((Value.agg #[v0, v1, v2]).cells.toList.drop 2).take (Try.prog.cellsOf 9)) = some y2 := hfld 2 _ rfl
    rw [cellsString] at f2
    have e2 : DataW.trod enc Try.prog w base spare held m 9 [v2] = some y2 := f2
    obtain ⟨z0, h0, _, _⟩ := DataW.trod_int Try.underlying3 e0
    obtain ⟨z1, h1, _, hw⟩ := DataW.trod_int Try.underlying2 e1
    obtain ⟨z2, h2, _, hs⟩ := DataW.trod_string Try.underlying9 e2
    cases h0; cases h1; cases h2
    exact ⟨z0, z1, z2, rfl, wf64 hw, by simpa [maxLen] using hs⟩
theorem own : ownKnob Try.prog.godebug = none := by kernel_rfl
theorem laidOut : laidOutB Try.prog = true := by kernel_rfl
noncomputable def zeroV : Value := .agg #[.int .i64 0, .int .i64 0, .string ⟨#[]⟩]
set_option maxRecDepth 1000000 in
theorem vvWitness (os : Os) {H : Type} (enc : TypeId × Value → H) :
    (OpenSpec.ofChange Rows.fnExactValidValueSpec).preRow enc Try.prog Try.f3 Rows.fnExactValidValueRow.domain false Rows.fnExactValidValueRow.laid (((World.holding Try.prog os ⟨#[], #[], []⟩).forCall (fun _ _ => 0) ⟨#[], #[.agg #[.int .i64 0, .int .i64 0, .string ⟨#[]⟩]], []⟩).memory) #[.agg #[.int .i64 0, .int .i64 0, .string ⟨#[]⟩]] := by
  have hw : (DataW.whole enc Try.prog (((World.holding Try.prog os ⟨#[], #[], []⟩).forCall (fun _ _ => 0) ⟨#[], #[.agg #[.int .i64 0, .int .i64 0, .string ⟨#[]⟩]], []⟩).memory) Try.f3.params.toList Rows.fnExactValidValueSpec.vars false #[Value.agg #[.int .i64 0, .int .i64 0, .string ⟨#[]⟩]].toList 8).map (fun x => (x.1, x.2.1)) =
      some ([.agg [.lit (.int .i64 0), .lit (.int .i64 0), .lit (.string [])]], []) := by kernel_rfl
  obtain ⟨⟨x1, x2, x3⟩, hx, hx1⟩ := Option.map_eq_some_iff.1 hw
  simp only [Prod.mk.injEq] at hx1
  obtain ⟨rfl, rfl⟩ := hx1
  exact OpenSpec.preRow_of_cond 8 hx (by kernel_rfl) (fun k hk => by cases hk) (by kernel_rfl) ⟨[], rfl, List.nodup_nil, fun _ _ h => (by cases h)⟩

set_option maxRecDepth 100000 in
set_option maxHeartbeats 2000000 in
theorem vvLifted (os : Os) (started : os.Started) (H : Type) (enc : TypeId × Value → H) (F : Stop.Interp) :
    ReturnsInHanded {} Try.checked os 3 .any ((OpenSpec.ofChange Rows.fnExactValidValueSpec).preRow enc Try.prog Try.f3 Rows.fnExactValidValueRow.domain false Rows.fnExactValidValueRow.laid) (((OpenSpec.ofChange Rows.fnExactValidValueSpec).at F).post enc Try.prog Try.f3 false true false false) := by
  refine returnsInHanded_of_row (C := Try.checked) (s := OpenSpec.ofChange Rows.fnExactValidValueSpec) own started (by kernel_rfl) Try.func3
    (witness_row_atRef (enc := enc) (C := Try.checked) false (World.holding Try.prog os ⟨#[], #[], []⟩) #[.agg #[.int .i64 0, .int .i64 0, .string ⟨#[]⟩]] rfl (by kernel_rfl) (by kernel_rfl) (by kernel_rfl) (vvWitness os enc)) ?_
  intro W base args ds gs before hval0 hW _ _ _ _ _ _
  have hval : ∀ (j : Nat) t v, Try.f3.params[j]? = some t → args[j]? = some v → Value.okWide Try.prog W .any base t v := hval0
  have hW' := hW
  obtain ⟨p, q, hA0, hV0, rfl, _, _⟩ := hW
  have hA : DataW.TrodAll enc Try.prog W 0 (fun _ => true) true Try.f3.params.toList args.toList ds p := hA0
  have hV : DataW.TrodVars enc Try.prog W (fun _ => true) [] gs q := hV0
  rw [Try.params3] at hA hval
  have hlt := hA.lt
  obtain ⟨v0, d0, rfl, rfl, h0⟩ := trodAll_one hA
  obtain ⟨t, n, x, rfl, hn, hx⟩ := value_open (hval 0 23 v0 rfl rfl) h0
  have hgs := trodVars_none hV
  clear hA0 hV0 hval0
  refine (Val.lawValid (fun _ => True) (fun _ _ _ _ => trivial) (fun t n x w hn _ _ => Val.implValid_any t n x hn w) t n x hn hx W trivial).mono ?_
  rintro e W' ⟨rfl, bel⟩
  have e1 : ((OpenSpec.ofChange Rows.fnExactValidValueSpec).at F).fn H ([d0] ++ gs) = { results := [.lit (.bool true)], args := [d0], vars := gs } := by rw [hgs.1]; rfl
  refine ⟨_, rfl, _, _, _, [], p, q, hW', ?_, ?_, ?_, bel.frame _, fun h => by cases h⟩
  · rw [e1]; exact trodAll_mk1 (shut_bool Try.underlying4 _)
  · rw [e1]; exact trodAll_mk1 (Below.trod laidOut (by kernel_rfl) (of_decide_eq_true (by kernel_rfl)) h0 bel hlt)
  · rw [e1]; exact Below.trodVars laidOut bel (by kernel_rfl) hV
end Val

theorem fnExactValidValue_holds : Rows.FnExactValidValueSaid :=
  OpenClaim.holds_of_cond 3 Try.f3 rfl rfl rfl rfl rfl rfl rfl ⟨rfl, rfl, rfl, rfl, rfl⟩ rfl rfl rfl rfl rfl (by kernel_rfl) Try.func3 (by kernel_rfl)
    (of_decide_eq_true (by kernel_rfl)) (by unfold Func.isWrapper; first | (rw [if_pos (by decide +kernel)]; kernel_rfl) | (rw [if_neg (by decide +kernel)]; exact ⟨rfl, rfl⟩))
    (fun os started H enc _ F0 => by rw [OpenClaim.pre_eq_preRow]; exact Val.vvLifted os started H enc F0)
end Go.Proofs.Ytgoigbegahlfaaa
