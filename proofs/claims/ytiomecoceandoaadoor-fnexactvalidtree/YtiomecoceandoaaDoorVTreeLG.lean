import Derived.Test.YtiomecoceandoaaDoorVTreeLD
import Derived.Test.YtiomecoceandoaaDoorVTreeLF
import Derived.Carry
import Derived.SevenTiedAt
namespace Go.Proofs.YtiomecoceandoaaDoor
namespace Mill
open Go.ChangeShapes Go.WideShapes Go.ChangeAt Go.RowKit Go.Lib

theorem vown : ownKnob Tryd.prog.godebug = none := by kernel_rfl
def vcell : DataW Unit → List Value
  | .lit (.int k z) => [.int k z]
  | .lit (.string b) => [.string ⟨b.toArray⟩]
  | _ => []
def vcells : DataW Unit → List Value
  | .agg l => l.flatMap fun
    | .agg m => m.flatMap vcell
    | d => vcell d
  | _ => []
noncomputable def vWorld (os : Os) : World :=
  let w0 := World.holding Tryd.prog os ⟨#[], #[], []⟩
  let put (h : Array Obj) (g : Nat) (cs : Array Value) : Array Obj := h.modify g fun
    | .cells _ t frozen => .cells cs t frozen
    | o => o
  let h1 := put w0.heap 0 (vcells Rows.laid_loop_example_kilnmill_impl_greatest).toArray
  let h2 := put h1 1 (vcells Rows.laid_loop_example_kilnmill_impl_builtWords).toArray
  { w0 with heap := h2 }
set_option maxRecDepth 1000000 in
theorem vlaid_met (os : Os) (args : Array Value) : laidMet Tryd.prog Rows.fnExactValidTreeRow.laid ((vWorld os).forCall (fun _ _ => 0) ⟨#[], args, []⟩).memory :=
  (LaidIn.of_run (l := Rows.fnExactValidTreeRow.laid) [0, 1] 8 (by kernel_rfl) (by kernel_rfl) (by kernel_rfl) (by kernel_rfl)).met

set_option maxRecDepth 1000000 in
theorem vwitness (os : Os) {H : Type} (enc : TypeId × Value → H) :
    (OpenSpec.ofChange Rows.fnExactValidTreeSpec).preRow enc Tryd.prog Tryd.f3 Rows.fnExactValidTreeRow.domain false Rows.fnExactValidTreeRow.laid ((vWorld os).forCall (fun _ _ => 0) ⟨#[], #[.agg #[.slice none 0 0]], []⟩).memory #[.agg #[.slice none 0 0]] := by
  have hw : (DataW.whole enc Tryd.prog ((vWorld os).forCall (fun _ _ => 0) ⟨#[], #[.agg #[.slice none 0 0]], []⟩).memory Tryd.f3.params.toList Rows.fnExactValidTreeSpec.vars false #[Value.agg #[.slice none 0 0]].toList 8).map (fun x => (x.1, x.2.1)) =
      some ([.agg [.nil]], [Rows.laid_loop_example_kilnmill_impl_greatest, Rows.laid_loop_example_kilnmill_impl_builtWords]) := by kernel_rfl
  obtain ⟨⟨x1, x2, x3⟩, hx, hx1⟩ := Option.map_eq_some_iff.1 hw
  simp only [Prod.mk.injEq] at hx1
  obtain ⟨rfl, rfl⟩ := hx1
  exact OpenSpec.preRow_of_cond 8 hx (by kernel_rfl) (fun k hk => by cases hk) (by kernel_rfl) (vlaid_met os _)

theorem vlaidOut : laidOutB Tryd.prog = true := by kernel_rfl
set_option maxRecDepth 1000000 in
theorem vtree_open {H : Type} {enc : TypeId × Value → H} {w : World} {base b0 : Nat} {r : Reach} {spare : Nat → Bool} {held : Bool} {v : Value} {d : DataW H} {p : List MemPlace} (hv : Value.okWide Tryd.prog w r b0 24 v)
    (h : DataW.Trod enc Tryd.prog w base spare held 24 v d p) : ∃ (ns : List Mill.Nd) (a : Option Addr) (cap : Nat), v = .agg #[.slice a ns.length cap] ∧ Mill.NodesOff w (.slice a ns.length cap) ns ∧ ns.length ≤ 9223372036854775807 ∧ ∀ d ∈ ns, d.text.size ≤ 9223372036854775807 := by
  obtain ⟨cs, rfl, hsz⟩ := okWide_struct Tryd.underlying24 hv
  rw [cellsLTree] at hsz
  obtain ⟨fuel, hf⟩ := h
  obtain ⟨xs, n, _, _, _, hxl, hfld⟩ := DataW.trod_struct Tryd.underlying24 hf
  have hxl1 : xs.length = 1 := hxl
  obtain ⟨l⟩ := cs
  match l, hsz, xs, hxl1 with
  | [c], _, [y], _ =>
    have f0 : DataW.trod enc Tryd.prog w base spare held n 22 (((Value.agg #[c]).cells.toList.drop 0).take (Tryd.prog.cellsOf 22)) = some y := hfld 0 _ rfl
    rw [cellsLNodes] at f0
    have e0 : DataW.trod enc Tryd.prog w base spare held n 22 [c] = some y := f0
    obtain ⟨ns, hN, h1, h2⟩ := nodes_open e0
    obtain ⟨a, cap, rfl, _⟩ := id hN
    exact ⟨ns, a, cap, rfl, hN, h1, h2⟩

set_option maxRecDepth 100000 in
set_option maxHeartbeats 2000000 in
theorem vlifted (os : Os) (started : os.Started) (H : Type) (enc : TypeId × Value → H) (F : Stop.Interp) :
    ReturnsInHanded {} Tryd.checked os 3 .any ((OpenSpec.ofChange Rows.fnExactValidTreeSpec).preRow enc Tryd.prog Tryd.f3 Rows.fnExactValidTreeRow.domain false Rows.fnExactValidTreeRow.laid) (((OpenSpec.ofChange Rows.fnExactValidTreeSpec).at F).post enc Tryd.prog Tryd.f3 false true false false) := by
  refine returnsInHanded_of_row (C := Tryd.checked) (s := OpenSpec.ofChange Rows.fnExactValidTreeSpec) vown started (by kernel_rfl) Tryd.func3
    (witness_row_atRef (enc := enc) (C := Tryd.checked) false (vWorld os) #[.agg #[.slice none 0 0]] rfl (by kernel_rfl) (by kernel_rfl) (by kernel_rfl) (vwitness os enc)) ?_
  intro W base args ds gs before hval0 hW _ _ _ hL _ _
  have hval : ∀ (j : Nat) t v, Tryd.f3.params[j]? = some t → args[j]? = some v → Value.okWide Tryd.prog W .any base t v := hval0
  have hW' := hW
  obtain ⟨p, q, hA0, hV0, rfl, _, _⟩ := hW
  have hA : DataW.TrodAll enc Tryd.prog W 0 (fun _ => true) true Tryd.f3.params.toList args.toList ds p := hA0
  have hV : DataW.TrodVars enc Tryd.prog W (fun _ => true) ["loop.example/kilnmill/impl.greatest", "loop.example/kilnmill/impl.builtWords"] gs q := hV0
  rw [Tryd.params3] at hA hval
  have hlt := hA.lt
  obtain ⟨v0, d0, rfl, rfl, h0⟩ := trodAll_one hA
  obtain ⟨ns, a, cap, rfl, hN, hn, hx⟩ := vtree_open (hval 0 24 v0 rfl rfl) h0
  have hG := vgreats hL
  have hB := vbuilts hL
  obtain ⟨_, _, _, _, g0, _, _, _, _, _, g1, _, hgs, _⟩ := trodVars_two hV
  clear hA0 hV0 hval0
  refine (vlaw_any ns a cap W hN hn hx hG hB).mono ?_
  rintro e W' ⟨rfl, bel⟩
  have e1 : ((OpenSpec.ofChange Rows.fnExactValidTreeSpec).at F).fn H ([d0] ++ gs) = { results := [.lit (.bool true)], args := [d0], vars := gs } := by rw [hgs]; rfl
  refine ⟨_, rfl, _, _, _, [], p, q, hW', ?_, ?_, ?_, bel.frame _, fun h => by cases h⟩
  · rw [e1]; exact trodAll_mk1 (shut_bool Tryd.underlying4 _)
  · rw [e1]; exact trodAll_mk1 (Below.trod vlaidOut (by kernel_rfl) (of_decide_eq_true (by kernel_rfl)) h0 bel hlt)
  · rw [e1]; exact Below.trodVars vlaidOut bel (by kernel_rfl) hV

theorem vsaid : Rows.FnExactValidTreeSaid :=
  OpenClaim.holds_of_cond 3 Tryd.f3 rfl rfl rfl rfl rfl rfl rfl ⟨rfl, rfl, rfl, rfl, rfl⟩ rfl rfl rfl rfl rfl (by kernel_rfl) Tryd.func3 (by kernel_rfl)
    (of_decide_eq_true (by kernel_rfl)) (by unfold Func.isWrapper; first | (rw [if_pos (by decide +kernel)]; kernel_rfl) | (rw [if_neg (by decide +kernel)]; exact ⟨rfl, rfl⟩))
    (fun os started H enc _ F0 => by rw [OpenClaim.pre_eq_preRow]; exact vlifted os started H enc F0)

theorem vplain (f : FuncId) (fn : Func) (hf : Tryd.pinned.checked.prog.funcNamed "loop.example/kilnmill/laws.FnExactValidTree" = some f) (hfn : Tryd.pinned.checked.prog.funcs[f]? = some fn) :
    true = Tryd.pinned.checked.prog.looks [] ∧ ∀ (j : Nat) t, fn.params[j]? = some t → Tryd.pinned.checked.prog.wantsStandIn t = false := by
  obtain rfl : f = 3 := Option.some.inj ((show Tryd.prog.funcNamed "loop.example/kilnmill/laws.FnExactValidTree" = some 3 by kernel_rfl).symm.trans hf) |>.symm
  obtain rfl : fn = Tryd.f3 := (Option.some.inj (Tryd.func3.symm.trans hfn)).symm
  refine ⟨by kernel_rfl, fun j t ht => ?_⟩
  rw [Tryd.params3] at ht
  obtain rfl : t = 24 := by simpa using Array.mem_of_getElem? ht
  exact (show Tryd.prog.wantsStandIn 24 = false by kernel_rfl)
end Mill

theorem fnExactValidTree_holds : Rows.FnExactValidTreeCardSaid :=
  Claim7.holds_tied_plain_at .later [] _ _ _ _ Mill.vsaid (fun _ h => by cases h) (by kernel_rfl) (fun _ h => by cases h) fnExactValidTree_row_tie rfl ⟨rfl, rfl⟩ (by kernel_rfl) rfl Mill.vplain (by kernel_rfl)

end Go.Proofs.YtiomecoceandoaaDoor
