import Derived.Test.YtlcckaffhnjneaaGreatDoorKPeK
set_option maxRecDepth 100000
set_option maxHeartbeats 2000000
namespace Go.Proofs.YtlcckaffhnjneaaGreatDoor
open Go.RowKit in
theorem Pa.law_any (s:ByteArray) (w:World) (hs:s.size≤9223372036854775807) (hG:Mill.Globs w) (hT:Pa.Tg w) :
  Calls Tryz.prog 3 #[.string s] w fun e w'=>e = .returned (.bool true)∧Below w.heap.size w w':=by
 by_cases h:s.size≤1048576
 ·exact Pa.law_short s h w (fun W=>Pa.specParse_any s W fun W2=>specScan_any s W2) (fun W hW=>Pa.implParse_any s W hs (hT.below hW) fun W2 hW2=>implScan_any s W2 ((hG.below hW).below hW2))
 ·go_enter Tryz.func3,Tryz.ntmps3
  go_wp2
  go_ret
  exact ⟨rfl,Below.refl _ _⟩
namespace Pj
open Go.ChangeShapes Go.WideShapes Go.ChangeAt Go.RowKit Go.Lib
open Go.ChangeMaps (open_string shut_string)
theorem own : ownKnob Tryz.prog.godebug=none:=by kernel_rfl
theorem laidOut : laidOutB Tryz.prog=true:=by kernel_rfl
theorem vars_len {H:Type} {enc:TypeId × Value→H} {w:World} {spare:Nat→Bool}:∀ (ns:List String) (gs:List (DataW H)) (ps:List MemPlace),DataW.TrodVars enc Tryz.prog w spare ns gs ps→gs.length=ns.length
 | [],[],_,_=>rfl
 | [],_::_,_,h=>by simp [DataW.TrodVars] at h
 | _::_,[],_,h=>by simp [DataW.TrodVars] at h
 | n::ns,d::ds,_,h=>by
  obtain ⟨g,t,cs,fuel,p,q,_,_,_,_,hs,_⟩:=h
  simp [vars_len ns ds q hs]
theorem five {α:Type} {l:List α} (h:l.length=5):∃ a b c d e,l=[a,b,c,d,e]:=by
 match l,h with
 | [a,b,c,d,e],_=>exact ⟨a,b,c,d,e,rfl⟩
set_option maxRecDepth 1000000 in
theorem pLaid (os:Os) (args:Array Value):laidMet Tryz.prog Rows.fnExactParseRow.laid (((World.laidAll Tryz.prog os Rows.fnExactParseRow.laid)).forCall (fun _ _=>0) ⟨#[],args,[]⟩).memory :=
 laidMet_laidAll args (by kernel_rfl) (by kernel_rfl)
set_option maxRecDepth 1000000 in
theorem pWitness (os:Os) {H:Type} (enc:TypeId × Value→H) :
  (OpenSpec.ofChange Rows.fnExactParseSpec).preRow enc Tryz.prog Tryz.f3 Rows.fnExactParseRow.domain false Rows.fnExactParseRow.laid (((World.laidAll Tryz.prog os Rows.fnExactParseRow.laid).forCall (fun _ _=>0) ⟨#[],#[.string ⟨#[]⟩],[]⟩).memory) #[.string ⟨#[]⟩]:=by
 have hw:(DataW.whole enc Tryz.prog (((World.laidAll Tryz.prog os Rows.fnExactParseRow.laid).forCall (fun _ _=>0) ⟨#[],#[.string ⟨#[]⟩],[]⟩).memory) Tryz.f3.params.toList Rows.fnExactParseSpec.vars false ((#[.string ⟨#[]⟩]:Array Value).toList) 8).map (fun x=>(x.1,x.2.1)) =
   some ([.lit (.string [])],[Rows.laid_loop_example_kilnmill_impl_greatest,Rows.laid_loop_example_kilnmill_impl_typeWords,Rows.laid_loop_example_kilnmill_impl_binMarks,Rows.laid_loop_example_kilnmill_impl_unMarks,Rows.laid_loop_example_kilnmill_impl_builtWords]):=by kernel_rfl
 obtain ⟨⟨x1,x2,x3⟩,hx,hx1⟩:=Option.map_eq_some_iff.1 hw
 simp only [Prod.mk.injEq] at hx1
 obtain ⟨rfl,rfl⟩:=hx1
 exact OpenSpec.preRow_of_cond 8 hx (by kernel_rfl) (fun k hk=>by cases hk) (by kernel_rfl) (pLaid os _)
theorem pLifted (os:Os) (started:os.Started) (H:Type) (enc:TypeId × Value→H) (F:Stop.Interp) :
  ReturnsInHanded {} Tryz.checked os 3 .any ((OpenSpec.ofChange Rows.fnExactParseSpec).preRow enc Tryz.prog Tryz.f3 Rows.fnExactParseRow.domain false Rows.fnExactParseRow.laid) (((OpenSpec.ofChange Rows.fnExactParseSpec).at F).post enc Tryz.prog Tryz.f3 false true false false):=by
 refine returnsInHanded_of_row (C:=Tryz.checked) (s:=OpenSpec.ofChange Rows.fnExactParseSpec) own started (by kernel_rfl) Tryz.func3
  (witness_row_atRef (enc:=enc) (C:=Tryz.checked) false (World.laidAll Tryz.prog os Rows.fnExactParseRow.laid) #[.string ⟨#[]⟩] (World.laidAll_os _ _ _) (by kernel_rfl) (by kernel_rfl) (by kernel_rfl) (pWitness os enc)) ?_
 intro W base args ds gs before hval0 hW _ _ _ hL _ _
 have hval:∀ (j:Nat) t v,Tryz.f3.params[j]? = some t→args[j]? = some v→Value.okWide Tryz.prog W .any base t v:=hval0
 have hW':=hW
 obtain ⟨p,q,hA0,hV0,rfl,_,_⟩:=hW
 have hA:DataW.TrodAll enc Tryz.prog W 0 (fun _=>true) true Tryz.f3.params.toList args.toList ds p:=hA0
 have hV:DataW.TrodVars enc Tryz.prog W (fun _=>true) ["loop.example/kilnmill/impl.greatest", "loop.example/kilnmill/impl.typeWords", "loop.example/kilnmill/impl.binMarks", "loop.example/kilnmill/impl.unMarks", "loop.example/kilnmill/impl.builtWords"] gs q:=hV0
 rw [Tryz.params3] at hA hval
 obtain ⟨v0,d0,rfl,rfl,h0⟩:=trodAll_one hA
 obtain ⟨s,rfl,rfl,rfl,ws⟩:=open_string Tryz.underlying9 (hval 0 9 v0 rfl rfl) h0
 obtain ⟨hG,hT⟩:=allOf hL
 obtain ⟨g1,g2,g3,g4,g5,hgs⟩:=five (vars_len _ _ _ hV)
 clear hA0 hV0 hval0
 refine (Pa.law_any s W (by unfold maxLen at ws;omega) hG hT).mono ?_
 rintro e W' ⟨rfl,bel⟩
 have e1:((OpenSpec.ofChange Rows.fnExactParseSpec).at F).fn H ([.lit (.string s.data.toList)]++gs) = { results:=[.lit (.bool true)],args:=[.lit (.string s.data.toList)],vars:=gs }:=by rw [hgs];rfl
 refine ⟨_,rfl,_,_,_,[],[],q,hW', ?_, ?_, ?_,bel.frame _,fun h=>by cases h⟩
 ·rw [e1];exact trodAll_mk1 (shut_bool Tryz.underlying4 _)
 ·rw [e1];exact trodAll_mk1 (shut_string Tryz.underlying9 ws)
 ·rw [e1];exact Below.trodVars laidOut bel (by kernel_rfl) hV
theorem pSaid : Rows.FnExactParseSaid :=
 OpenClaim.holds_of_cond 3 Tryz.f3 rfl rfl rfl rfl rfl rfl rfl ⟨rfl,rfl,rfl,rfl,rfl⟩ rfl rfl rfl rfl rfl (by kernel_rfl) Tryz.func3 (by kernel_rfl)
  (of_decide_eq_true (by kernel_rfl)) (by unfold Func.isWrapper;first | (rw [if_pos (by decide +kernel)];kernel_rfl) | (rw [if_neg (by decide +kernel)];exact ⟨rfl,rfl⟩))
  (fun os started H enc _ F0=>by rw [OpenClaim.pre_eq_preRow];exact pLifted os started H enc F0)
theorem pPlain (f:FuncId) (fn:Func) (hf:Tryz.pinned.checked.prog.funcNamed "loop.example/kilnmill/laws.FnExactParse" = some f) (hfn:Tryz.pinned.checked.prog.funcs[f]? = some fn) :
  true=Tryz.pinned.checked.prog.looks []∧∀ (j:Nat) t,fn.params[j]? = some t→Tryz.pinned.checked.prog.wantsStandIn t=false:=by
 obtain rfl:f=3:=Option.some.inj ((show Tryz.prog.funcNamed "loop.example/kilnmill/laws.FnExactParse" = some 3 by kernel_rfl).symm.trans hf) |>.symm
 obtain rfl:fn=Tryz.f3:=(Option.some.inj (Tryz.func3.symm.trans hfn)).symm
 refine ⟨by kernel_rfl,fun j t ht => ?_⟩
 rw [Tryz.params3] at ht
 obtain rfl:t=9:=by simpa using Array.mem_of_getElem? ht
 exact (show Tryz.prog.wantsStandIn 9=false by kernel_rfl)
end Pj
theorem fnExactParse_holds : Rows.FnExactParseCardSaid :=
 Claim7.holds_tied_plain_at .later [] _ _ _ _ Pj.pSaid (fun _ h=>by cases h) (by kernel_rfl) (fun _ h=>by cases h) fnExactParse_row_tie rfl ⟨rfl,rfl⟩ (by kernel_rfl) rfl Pj.pPlain (by kernel_rfl)
end Go.Proofs.YtlcckaffhnjneaaGreatDoor
