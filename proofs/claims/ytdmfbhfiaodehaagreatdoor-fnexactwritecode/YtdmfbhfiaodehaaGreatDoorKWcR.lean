import Derived.Test.YtdmfbhfiaodehaaGreatDoorKWcK
namespace Go.Proofs.YtdmfbhfiaodehaaGreatDoor
namespace Cd
open Go.ChangeShapes Go.WideShapes Go.ChangeAt Go.RowKit Go.Lib

theorem own : ownKnob Tryz.prog.godebug = none := by kernel_rfl
theorem laidOut : laidOutB Tryz.prog = true := by kernel_rfl
theorem vars_len {H : Type} {enc : TypeId × Value → H} {w : World} {spare : Nat → Bool} : ∀ (ns : List String) (gs : List (DataW H)) (ps : List MemPlace), DataW.TrodVars enc Tryz.prog w spare ns gs ps → gs.length = ns.length
  | [], [], _, _ => rfl
  | [], _ :: _, _, h => by simp [DataW.TrodVars] at h
  | _ :: _, [], _, h => by simp [DataW.TrodVars] at h
  | n :: ns, d :: ds, _, h => by
    obtain ⟨g, t, cs, fuel, p, q, _, _, _, _, hs, _⟩ := h
    simp [vars_len ns ds q hs]
theorem three {α : Type} {l : List α} (h : l.length = 3) : ∃ a b c, l = [a, b, c] := by
  match l, h with
  | [a, b, c], _ => exact ⟨a, b, c, rfl⟩
set_option maxRecDepth 1000000 in
theorem bLaid (os : Os) (args : Array Value) : laidMet Tryz.prog Rows.fnExactWriteCodeRow.laid (((World.laidAll Tryz.prog os Rows.fnExactWriteCodeRow.laid)).forCall (fun _ _ => 0) ⟨#[], args, []⟩).memory :=
  laidMet_laidAll args (by kernel_rfl) (by kernel_rfl)
set_option maxRecDepth 1000000 in
theorem bWitness (os : Os) {H : Type} (enc : TypeId × Value → H) :
    (OpenSpec.ofChange Rows.fnExactWriteCodeSpec).preRow enc Tryz.prog Tryz.f3 Rows.fnExactWriteCodeRow.domain false Rows.fnExactWriteCodeRow.laid (((World.laidAll Tryz.prog os Rows.fnExactWriteCodeRow.laid).forCall (fun _ _ => 0) ⟨#[], #[.agg #[.slice none 0 0]], []⟩).memory) #[.agg #[.slice none 0 0]] := by
  have hw : (DataW.whole enc Tryz.prog (((World.laidAll Tryz.prog os Rows.fnExactWriteCodeRow.laid).forCall (fun _ _ => 0) ⟨#[], #[.agg #[.slice none 0 0]], []⟩).memory) Tryz.f3.params.toList Rows.fnExactWriteCodeSpec.vars false ((#[.agg #[.slice none 0 0]] : Array Value).toList) 8).map (fun x => (x.1, x.2.1)) =
      some ([.agg [.nil]], [Rows.laid_loop_example_kilnmill_impl_insRows, Rows.laid_loop_example_kilnmill_impl_builtTypes, Rows.laid_loop_example_kilnmill_impl_builtWords]) := by kernel_rfl
  obtain ⟨⟨x1, x2, x3⟩, hx, hx1⟩ := Option.map_eq_some_iff.1 hw
  simp only [Prod.mk.injEq] at hx1
  obtain ⟨rfl, rfl⟩ := hx1
  exact OpenSpec.preRow_of_cond 8 hx (by kernel_rfl) (fun k hk => by cases hk) (by kernel_rfl) (bLaid os _)

set_option maxRecDepth 100000 in
set_option maxHeartbeats 2000000 in
theorem bLifted (os : Os) (started : os.Started) (H : Type) (enc : TypeId × Value → H) (F : Stop.Interp) :
    ReturnsInHanded {} Tryz.checked os 3 .any ((OpenSpec.ofChange Rows.fnExactWriteCodeSpec).preRow enc Tryz.prog Tryz.f3 Rows.fnExactWriteCodeRow.domain false Rows.fnExactWriteCodeRow.laid) (((OpenSpec.ofChange Rows.fnExactWriteCodeSpec).at F).post enc Tryz.prog Tryz.f3 false true false false) := by
  refine returnsInHanded_of_row (C := Tryz.checked) (s := OpenSpec.ofChange Rows.fnExactWriteCodeSpec) own started (by kernel_rfl) Tryz.func3
    (witness_row_atRef (enc := enc) (C := Tryz.checked) false (World.laidAll Tryz.prog os Rows.fnExactWriteCodeRow.laid) #[.agg #[.slice none 0 0]] (World.laidAll_os _ _ _) (by kernel_rfl) (by kernel_rfl) (by kernel_rfl) (bWitness os enc)) ?_
  intro W base args ds gs before hval0 hW _ _ _ hL _ _
  have hval : ∀ (j : Nat) t v, Tryz.f3.params[j]? = some t → args[j]? = some v → Value.okWide Tryz.prog W .any base t v := hval0
  have hW' := hW
  obtain ⟨p, q, hA0, hV0, rfl, _, _⟩ := hW
  have hA : DataW.TrodAll enc Tryz.prog W 0 (fun _ => true) true Tryz.f3.params.toList args.toList ds p := hA0
  have hV : DataW.TrodVars enc Tryz.prog W (fun _ => true) ["loop.example/kilnmill/impl.insRows", "loop.example/kilnmill/impl.builtTypes", "loop.example/kilnmill/impl.builtWords"] gs q := hV0
  rw [Tryz.params3] at hA hval
  have hlt := hA.lt
  obtain ⟨v0, d0, rfl, rfl, h0⟩ := trodAll_one hA
  obtain ⟨a, cap, c, rfl, hN, hn, hx⟩ := code_open (hval 0 24 v0 rfl rfl) h0
  obtain ⟨hT, hWt⟩ := tabsOf hL
  obtain ⟨g1, g2, g3, hgs⟩ := three (vars_len _ _ _ hV)
  clear hA0 hV0 hval0
  refine (Wc.lawWrite_any c a cap hn (fun f hf => (hx f hf).1) (fun k hk i hi => ((hx c[k] (List.getElem_mem hk)).2 c[k].ins[i] (List.getElem_mem hi)).2) W hN hT hWt).mono ?_
  rintro e W' ⟨rfl, bel⟩
  have e1 : ((OpenSpec.ofChange Rows.fnExactWriteCodeSpec).at F).fn H ([d0] ++ gs) = { results := [.lit (.bool true)], args := [d0], vars := gs } := by rw [hgs]; rfl
  refine ⟨_, rfl, _, _, _, [], p, q, hW', ?_, ?_, ?_, bel.frame _, fun h => by cases h⟩
  · rw [e1]; exact trodAll_mk1 (shut_bool Tryz.underlying4 _)
  · rw [e1]; exact trodAll_mk1 (Below.trod laidOut (by kernel_rfl) (of_decide_eq_true (by kernel_rfl)) h0 bel (fun p hp => hlt p hp))
  · rw [e1]; exact Below.trodVars laidOut bel (by kernel_rfl) hV

theorem bSaid : Rows.FnExactWriteCodeSaid :=
  OpenClaim.holds_of_cond 3 Tryz.f3 rfl rfl rfl rfl rfl rfl rfl ⟨rfl, rfl, rfl, rfl, rfl⟩ rfl rfl rfl rfl rfl (by kernel_rfl) Tryz.func3 (by kernel_rfl)
    (of_decide_eq_true (by kernel_rfl)) (by unfold Func.isWrapper; first | (rw [if_pos (by decide +kernel)]; kernel_rfl) | (rw [if_neg (by decide +kernel)]; exact ⟨rfl, rfl⟩))
    (fun os started H enc _ F0 => by rw [OpenClaim.pre_eq_preRow]; exact bLifted os started H enc F0)

theorem bPlain (f : FuncId) (fn : Func) (hf : Tryz.pinned.checked.prog.funcNamed "loop.example/kilnmill/laws.FnExactWriteCode" = some f) (hfn : Tryz.pinned.checked.prog.funcs[f]? = some fn) :
    false = Tryz.pinned.checked.prog.looks [] ∧ ∀ (j : Nat) t, fn.params[j]? = some t → Tryz.pinned.checked.prog.wantsStandIn t = false := by
  obtain rfl : f = 3 := Option.some.inj ((show Tryz.prog.funcNamed "loop.example/kilnmill/laws.FnExactWriteCode" = some 3 by kernel_rfl).symm.trans hf) |>.symm
  obtain rfl : fn = Tryz.f3 := (Option.some.inj (Tryz.func3.symm.trans hfn)).symm
  refine ⟨by kernel_rfl, fun j t ht => ?_⟩
  rw [Tryz.params3] at ht
  have h2 : t = 24 := by simpa using Array.mem_of_getElem? ht
  subst h2
  exact (show Tryz.prog.wantsStandIn 24 = false by kernel_rfl)
end Cd

theorem fnExactWriteCode_holds : Rows.FnExactWriteCodeCardSaid :=
  Claim7.holds_tied_plain_at .later [] _ _ _ _ Cd.bSaid (fun _ h => by cases h) (by kernel_rfl) (fun _ h => by cases h) fnExactWriteCode_row_tie rfl ⟨rfl, rfl⟩ (by kernel_rfl) rfl Cd.bPlain (by kernel_rfl)
end Go.Proofs.YtdmfbhfiaodehaaGreatDoor
