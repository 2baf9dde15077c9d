import Derived.Test.YtfelngigfmdedaaGreatDoorBltQ
namespace Go.Proofs.YtfelngigfmdedaaGreatDoor
namespace Val
open Go.ChangeShapes Go.WideShapes Go.ChangeAt Go.RowKit Go.Lib

theorem own : ownKnob Tryz.prog.godebug = none := by kernel_rfl
theorem laidOut : laidOutB Tryz.prog = true := by kernel_rfl
theorem vars_len {H : Type} {enc : TypeId × Value → H} {w : World} {spare : Nat → Bool} : ∀ (ns : List String) (gs : List (DataW H)) (ps : List MemPlace), DataW.TrodVars enc Tryz.prog w spare ns gs ps → gs.length = ns.length
  | [], [], _, _ => rfl
  | [], _ :: _, _, h => by simp [DataW.TrodVars] at h
  | _ :: _, [], _, h => by simp [DataW.TrodVars] at h
  | n :: ns, d :: ds, _, h => by
    obtain ⟨g, t, cs, fuel, p, q, _, _, _, _, hs, _⟩ := h
    simp [vars_len ns ds q hs]
theorem five {α : Type} {l : List α} (h : l.length = 5) : ∃ a b c d e, l = [a, b, c, d, e] := by
  match l, h with
  | [a, b, c, d, e], _ => exact ⟨a, b, c, d, e, rfl⟩
set_option maxRecDepth 1000000 in
theorem bLaid (os : Os) (args : Array Value) : laidMet Tryz.prog Rows.fnExactBuiltRow.laid (((World.laidAll Tryz.prog os Rows.fnExactBuiltRow.laid)).forCall (fun _ _ => 0) ⟨#[], args, []⟩).memory :=
  laidMet_laidAll args (by kernel_rfl) (by kernel_rfl)
set_option maxRecDepth 1000000 in
theorem bWitness (os : Os) {H : Type} (enc : TypeId × Value → H) :
    (OpenSpec.ofChange Rows.fnExactBuiltSpec).preRow enc Tryz.prog Tryz.f3 Rows.fnExactBuiltRow.domain false Rows.fnExactBuiltRow.laid (((World.laidAll Tryz.prog os Rows.fnExactBuiltRow.laid).forCall (fun _ _ => 0) ⟨#[], #[.int .i64 0, .slice none 0 0], []⟩).memory) #[.int .i64 0, .slice none 0 0] := by
  have hw : (DataW.whole enc Tryz.prog (((World.laidAll Tryz.prog os Rows.fnExactBuiltRow.laid).forCall (fun _ _ => 0) ⟨#[], #[.int .i64 0, .slice none 0 0], []⟩).memory) Tryz.f3.params.toList Rows.fnExactBuiltSpec.vars false ((#[.int .i64 0, .slice none 0 0] : Array Value).toList) 8).map (fun x => (x.1, x.2.1)) =
      some ([.lit (.int .i64 0), .nil], [.held (enc (121, .pointer (some ⟨(World.holding Tryz.prog os ⟨#[], #[], []⟩).heap.size + 2, 0, none⟩))), Rows.laid_loop_example_kilnmill_impl_builtWords, Rows.laid_loop_example_kilnmill_impl_builtTypes, .held (enc (121, .pointer (some ⟨(World.holding Tryz.prog os ⟨#[], #[], []⟩).heap.size + 3, 0, none⟩))), .held (enc (121, .pointer (some ⟨(World.holding Tryz.prog os ⟨#[], #[], []⟩).heap.size + 4, 0, none⟩)))]) := by kernel_rfl
  obtain ⟨⟨x1, x2, x3⟩, hx, hx1⟩ := Option.map_eq_some_iff.1 hw
  simp only [Prod.mk.injEq] at hx1
  obtain ⟨rfl, rfl⟩ := hx1
  exact OpenSpec.preRow_of_cond 8 hx (by kernel_rfl) (fun k hk => by cases hk) (by kernel_rfl) (bLaid os _)

set_option maxRecDepth 100000 in
set_option maxHeartbeats 2000000 in
theorem bLifted (os : Os) (started : os.Started) (H : Type) (enc : TypeId × Value → H) (F : Stop.Interp) :
    ReturnsInHanded {} Tryz.checked os 3 .any ((OpenSpec.ofChange Rows.fnExactBuiltSpec).preRow enc Tryz.prog Tryz.f3 Rows.fnExactBuiltRow.domain false Rows.fnExactBuiltRow.laid) (((OpenSpec.ofChange Rows.fnExactBuiltSpec).at F).post enc Tryz.prog Tryz.f3 false true false false) := by
  refine returnsInHanded_of_row (C := Tryz.checked) (s := OpenSpec.ofChange Rows.fnExactBuiltSpec) own started (by kernel_rfl) Tryz.func3
    (witness_row_atRef (enc := enc) (C := Tryz.checked) false (World.laidAll Tryz.prog os Rows.fnExactBuiltRow.laid) #[.int .i64 0, .slice none 0 0] (World.laidAll_os _ _ _) (by kernel_rfl) (by kernel_rfl) (by kernel_rfl) (bWitness os enc)) ?_
  intro W base args ds gs before hval0 hW _ _ _ hL hSh _
  have hval : ∀ (j : Nat) t v, Tryz.f3.params[j]? = some t → args[j]? = some v → Value.okWide Tryz.prog W .any base t v := hval0
  have hW' := hW
  obtain ⟨p, q, hA0, hV0, rfl, _, _⟩ := hW
  have hA : DataW.TrodAll enc Tryz.prog W 0 (fun _ => true) true Tryz.f3.params.toList args.toList ds p := hA0
  have hV : DataW.TrodVars enc Tryz.prog W (fun _ => true) ["loop.example/kilnmill/impl.errType", "loop.example/kilnmill/impl.builtWords", "loop.example/kilnmill/impl.builtTypes", "loop.example/kilnmill/impl.errRange", "loop.example/kilnmill/impl.errNumber"] gs q := hV0
  rw [Tryz.params3] at hA hval
  have hlt := hA.lt
  obtain ⟨v0, v1, d0, d1, p0, p1, rfl, rfl, rfl, h0, h1⟩ := trodAll_two hA
  obtain ⟨op, rfl, _, _, _⟩ := open_int Tryz.underlying3 (hval 0 3 v0 rfl rfl) h0
  obtain ⟨sa, sl, sc, rfl⟩ := okWide_slice Tryz.underlying22 (hval 1 22 v1 rfl rfl)
  have hVs : ∃ ns : List Val.V, Val.VsOff W (.slice sa sl sc) ns ∧ ns.length ≤ 9223372036854775807 ∧ (∀ d ∈ ns, d.text.size ≤ 9223372036854775807) ∧ ∀ d ∈ ns, -9223372036854775808 ≤ d.n ∧ d.n ≤ 9223372036854775807 := by
    obtain ⟨fuel, hf⟩ := h1
    exact values_open hf
  obtain ⟨vs, hN, hn, hx, hr⟩ := hVs
  have hsl : sl = vs.length := by
    obtain ⟨a, c, he, _⟩ := hN
    injection he
  subst hsl
  have hG := gbOf hL hSh
  obtain ⟨g1, g2, g3, g4, g5, hgs⟩ := five (vars_len _ _ _ hV)
  clear hA0 hV0 hval0
  refine (Val.lawBuilt op vs sa sc W hr hn hx hG hN).mono ?_
  rintro e W' ⟨rfl, bel⟩
  have e1 : ((OpenSpec.ofChange Rows.fnExactBuiltSpec).at F).fn H ([d0, d1] ++ gs) = { results := [.lit (.bool true)], args := [d0, d1], vars := gs } := by rw [hgs]; rfl
  refine ⟨_, rfl, _, _, _, [], p0 ++ p1, q, hW', ?_, ?_, ?_, bel.frame _, fun h => by cases h⟩
  · rw [e1]; exact trodAll_mk1 (shut_bool Tryz.underlying4 _)
  · rw [e1]; exact trodAll_mk2 (Below.trod laidOut (by kernel_rfl) (of_decide_eq_true (by kernel_rfl)) h0 bel (fun p hp => hlt p (List.mem_append_left _ hp))) (Below.trod laidOut (by kernel_rfl) (of_decide_eq_true (by kernel_rfl)) h1 bel (fun p hp => hlt p (List.mem_append_right _ hp)))
  · rw [e1]; exact Below.trodVars laidOut bel (by kernel_rfl) hV

theorem bSaid : Rows.FnExactBuiltSaid :=
  OpenClaim.holds_of_cond 3 Tryz.f3 rfl rfl rfl rfl rfl rfl rfl ⟨rfl, rfl, rfl, rfl, rfl⟩ rfl rfl rfl rfl rfl (by kernel_rfl) Tryz.func3 (by kernel_rfl)
    (of_decide_eq_true (by kernel_rfl)) (by unfold Func.isWrapper; first | (rw [if_pos (by decide +kernel)]; kernel_rfl) | (rw [if_neg (by decide +kernel)]; exact ⟨rfl, rfl⟩))
    (fun os started H enc _ F0 => by rw [OpenClaim.pre_eq_preRow]; exact bLifted os started H enc F0)

theorem bPlain (f : FuncId) (fn : Func) (hf : Tryz.pinned.checked.prog.funcNamed "loop.example/kilnmill/laws.FnExactBuilt" = some f) (hfn : Tryz.pinned.checked.prog.funcs[f]? = some fn) :
    true = Tryz.pinned.checked.prog.looks [] ∧ ∀ (j : Nat) t, fn.params[j]? = some t → Tryz.pinned.checked.prog.wantsStandIn t = false := by
  obtain rfl : f = 3 := Option.some.inj ((show Tryz.prog.funcNamed "loop.example/kilnmill/laws.FnExactBuilt" = some 3 by kernel_rfl).symm.trans hf) |>.symm
  obtain rfl : fn = Tryz.f3 := (Option.some.inj (Tryz.func3.symm.trans hfn)).symm
  refine ⟨by kernel_rfl, fun j t ht => ?_⟩
  rw [Tryz.params3] at ht
  have h2 : t = 3 ∨ t = 22 := by simpa using Array.mem_of_getElem? ht
  rcases h2 with rfl | rfl
  · exact (show Tryz.prog.wantsStandIn 3 = false by kernel_rfl)
  · exact (show Tryz.prog.wantsStandIn 22 = false by kernel_rfl)
end Val

theorem fnExactBuilt_holds : Rows.FnExactBuiltCardSaid :=
  Claim7.holds_tied_plain_at .later [] _ _ _ _ Val.bSaid (fun _ h => by cases h) (by kernel_rfl) (fun _ h => by cases h) fnExactBuilt_row_tie rfl ⟨rfl, rfl⟩ (by kernel_rfl) rfl Val.bPlain (by kernel_rfl)
end Go.Proofs.YtfelngigfmdedaaGreatDoor
