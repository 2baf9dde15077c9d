import Derived.Test.YtgoigbegahlfaaaDoorVwR
namespace Go.Proofs.YtgoigbegahlfaaaDoor
namespace Val
open Go.ChangeShapes Go.WideShapes Go.ChangeAt Go.RowKit Go.Lib

set_option maxRecDepth 1000000 in
theorem fnExactConvertLaid (os : Os) (args : Array Value) : laidMet Tryd.prog Rows.fnExactConvertRow.laid ((World.laidAll Tryd.prog os Rows.fnExactConvertRow.laid).forCall (fun _ _ => 0) ⟨#[], args, []⟩).memory :=
  laidMet_laidAll args (by kernel_rfl) (by kernel_rfl)
set_option maxRecDepth 1000000 in
theorem fnExactConvertWitness (os : Os) {H : Type} (enc : TypeId × Value → H) :
    (OpenSpec.ofChange Rows.fnExactConvertSpec).preRow enc Tryd.prog Tryd.f4 Rows.fnExactConvertRow.domain false Rows.fnExactConvertRow.laid (((World.laidAll Tryd.prog os Rows.fnExactConvertRow.laid).forCall (fun _ _ => 0) ⟨#[], #[.agg #[.int .i64 0, .int .i64 0, .string ⟨#[]⟩], .int .i64 0], []⟩).memory) #[.agg #[.int .i64 0, .int .i64 0, .string ⟨#[]⟩], .int .i64 0] := by
  have hw : (DataW.whole enc Tryd.prog (((World.laidAll Tryd.prog os Rows.fnExactConvertRow.laid).forCall (fun _ _ => 0) ⟨#[], #[.agg #[.int .i64 0, .int .i64 0, .string ⟨#[]⟩], .int .i64 0], []⟩).memory) Tryd.f4.params.toList Rows.fnExactConvertSpec.vars false ((#[.agg #[.int .i64 0, .int .i64 0, .string ⟨#[]⟩], .int .i64 0] : Array Value).toList) 8).map (fun x => (x.1, x.2.1)) =
      some ([.agg [.lit (.int .i64 0), .lit (.int .i64 0), .lit (.string [])], .lit (.int .i64 0)], [.held (enc (66, .pointer (some ⟨(World.holding Tryd.prog os ⟨#[], #[], []⟩).heap.size, 0, none⟩)))]) := by kernel_rfl
  obtain ⟨⟨x1, x2, x3⟩, hx, hx1⟩ := Option.map_eq_some_iff.1 hw
  simp only [Prod.mk.injEq] at hx1
  obtain ⟨rfl, rfl⟩ := hx1
  exact OpenSpec.preRow_of_cond 8 hx (by kernel_rfl) (fun k hk => by cases hk) (by kernel_rfl) (fnExactConvertLaid os _)

set_option maxRecDepth 100000 in
set_option maxHeartbeats 2000000 in
theorem fnExactConvertLifted (os : Os) (started : os.Started) (H : Type) (enc : TypeId × Value → H) (F : Stop.Interp) :
    ReturnsInHanded {} Tryd.checked os 4 .any ((OpenSpec.ofChange Rows.fnExactConvertSpec).preRow enc Tryd.prog Tryd.f4 Rows.fnExactConvertRow.domain false Rows.fnExactConvertRow.laid) (((OpenSpec.ofChange Rows.fnExactConvertSpec).at F).post enc Tryd.prog Tryd.f4 false true false false) := by
  refine returnsInHanded_of_row (C := Tryd.checked) (s := OpenSpec.ofChange Rows.fnExactConvertSpec) own started (by kernel_rfl) Tryd.func4
    (witness_row_atRef (enc := enc) (C := Tryd.checked) false (World.laidAll Tryd.prog os Rows.fnExactConvertRow.laid) #[.agg #[.int .i64 0, .int .i64 0, .string ⟨#[]⟩], .int .i64 0] (World.laidAll_os _ _ _) (by kernel_rfl) (by kernel_rfl) (by kernel_rfl) (fnExactConvertWitness os enc)) ?_
  intro W base args ds gs before hval0 hW _ _ _ hL _ _
  have hval : ∀ (j : Nat) t v, Tryd.f4.params[j]? = some t → args[j]? = some v → Value.okWide Tryd.prog W .any base t v := hval0
  have hW' := hW
  obtain ⟨p, q, hA0, hV0, rfl, _, _⟩ := hW
  have hA : DataW.TrodAll enc Tryd.prog W 0 (fun _ => true) true Tryd.f4.params.toList args.toList ds p := hA0
  have hV : DataW.TrodVars enc Tryd.prog W (fun _ => true) ["loop.example/kilnmill/impl.errType"] gs q := hV0
  rw [Tryd.params4] at hA hval
  have hlt := hA.lt
  obtain ⟨v0, v1, d0, d1, p0, p1, rfl, rfl, rfl, h0, h1⟩ := trodAll_two hA
  obtain ⟨t, n, x, rfl, hn, hx⟩ := value_open (hval 0 23 v0 rfl rfl) h0
  obtain ⟨op, rfl, _, _, _⟩ := open_int Tryd.underlying3 (hval 1 3 v1 rfl rfl) h1
  have hG := errOf hL
  obtain ⟨_, _, _, _, g0, _, hgs, _⟩ := trodVars_one hV
  clear hA0 hV0 hval0
  refine (Val.lawConvert (Val.Err 0 Val.typeW) (fun _ _ h hb => h.next hb) (fun op t n x rt rn rx ry w hn _ hG he => by have := Val.implConvert_any op t n x hn w hG; rw [he] at this; exact this) op t n x hn hx W hG).mono ?_
  rintro e W' ⟨rfl, bel⟩
  have e1 : ((OpenSpec.ofChange Rows.fnExactConvertSpec).at F).fn H ([d0, d1] ++ gs) = { results := [.lit (.bool true)], args := [d0, d1], vars := gs } := by rw [hgs]; rfl
  refine ⟨_, rfl, _, _, _, [], p0 ++ p1, q, hW', ?_, ?_, ?_, bel.frame _, fun h => by cases h⟩
  · rw [e1]; exact trodAll_mk1 (shut_bool Tryd.underlying4 _)
  · rw [e1]; exact trodAll_mk2 (Below.trod laidOut (by kernel_rfl) (of_decide_eq_true (by kernel_rfl)) h0 bel (fun p hp => hlt p (List.mem_append_left _ hp))) (Below.trod laidOut (by kernel_rfl) (of_decide_eq_true (by kernel_rfl)) h1 bel (fun p hp => hlt p (List.mem_append_right _ hp)))
  · rw [e1]; exact Below.trodVars laidOut bel (by kernel_rfl) hV

theorem fnExactConvertSaid : Rows.FnExactConvertSaid :=
  OpenClaim.holds_of_cond 4 Tryd.f4 rfl rfl rfl rfl rfl rfl rfl ⟨rfl, rfl, rfl, rfl, rfl⟩ rfl rfl rfl rfl rfl (by kernel_rfl) Tryd.func4 (by kernel_rfl)
    (of_decide_eq_true (by kernel_rfl)) (by unfold Func.isWrapper; first | (rw [if_pos (by decide +kernel)]; kernel_rfl) | (rw [if_neg (by decide +kernel)]; exact ⟨rfl, rfl⟩))
    (fun os started H enc _ F0 => by rw [OpenClaim.pre_eq_preRow]; exact fnExactConvertLifted os started H enc F0)

theorem fnExactConvertPlain (f : FuncId) (fn : Func) (hf : Tryd.pinned.checked.prog.funcNamed "loop.example/kilnmill/laws.FnExactConvert" = some f) (hfn : Tryd.pinned.checked.prog.funcs[f]? = some fn) :
    false = Tryd.pinned.checked.prog.looks [] ∧ ∀ (j : Nat) t, fn.params[j]? = some t → Tryd.pinned.checked.prog.wantsStandIn t = false := by
  obtain rfl : f = 4 := Option.some.inj ((show Tryd.prog.funcNamed "loop.example/kilnmill/laws.FnExactConvert" = some 4 by kernel_rfl).symm.trans hf) |>.symm
  obtain rfl : fn = Tryd.f4 := (Option.some.inj (Tryd.func4.symm.trans hfn)).symm
  refine ⟨by kernel_rfl, fun j t ht => ?_⟩
  rw [Tryd.params4] at ht
  have h2 : t = 23 ∨ t = 3 := by simpa using Array.mem_of_getElem? ht
  rcases h2 with rfl | rfl
  · exact (show Tryd.prog.wantsStandIn 23 = false by kernel_rfl)
  · exact (show Tryd.prog.wantsStandIn 3 = false by kernel_rfl)
end Val

theorem fnExactConvert_holds : Rows.FnExactConvertCardSaid :=
  Claim7.holds_tied_plain_at .later [] _ _ _ _ Val.fnExactConvertSaid (fun _ h => by cases h) (by kernel_rfl) (fun _ h => by cases h) fnExactConvert_row_tie rfl ⟨rfl, rfl⟩ (by kernel_rfl) rfl Val.fnExactConvertPlain (by kernel_rfl)
end Go.Proofs.YtgoigbegahlfaaaDoor
