import Derived.Test.YtbkhedpabfanoaaGreatDoorKRcY
namespace Go.Proofs.YtbkhedpabfanoaaGreatDoor
namespace Cd
open Go.ChangeShapes Go.WideShapes Go.ChangeAt Go.RowKit Go.Lib
open Go.ChangeMaps (open_string shut_string)

theorem own : ownKnob Tryz.prog.godebug=none:=by kernel_rfl
theorem laidOut : laidOutB Tryz.prog=true:=by kernel_rfl
theorem vars_len {H:Type} {enc:TypeId × Value→H} {w:World} {spare:Nat→Bool}:∀ (ns:List String) (gs:List (DataW H)) (ps:List MemPlace),DataW.TrodVars enc Tryz.prog w spare ns gs ps→gs.length=ns.length
  | [],[],_,_=>rfl
  | [],_::_,_,h=>by simp [DataW.TrodVars] at h
  | _::_,[],_,h=>by simp [DataW.TrodVars] at h
  | n::ns,d::ds,_,h=>by
    obtain ⟨g,t,cs,fuel,p,q,_,_,_,_,hs,_⟩:=h
    simp [vars_len ns ds q hs]
theorem ten {α:Type} {l:List α} (h:l.length=10):∃ a b c d e f g i j k,l=[a,b,c,d,e,f,g,i,j,k]:=by
  match l,h with
  | [a,b,c,d,e,f,g,i,j,k],_=>exact ⟨a,b,c,d,e,f,g,i,j,k,rfl⟩
noncomputable def rLaid : List (String × DataW Unit):=[("loop.example/kilnmill/impl.builtWords",Rows.laid_loop_example_kilnmill_impl_builtWords),("loop.example/kilnmill/impl.builtTypes",Rows.laid_loop_example_kilnmill_impl_builtTypes),("loop.example/kilnmill/impl.insRows",Rows.laid_loop_example_kilnmill_impl_insRows),("loop.example/kilnmill/impl.errHead",Rows.laid_loop_example_kilnmill_impl_errHead),("loop.example/kilnmill/impl.errForm",Rows.laid_loop_example_kilnmill_impl_errForm),("loop.example/kilnmill/impl.errShort",Rows.laid_loop_example_kilnmill_impl_errShort),("loop.example/kilnmill/impl.errRest",Rows.laid_loop_example_kilnmill_impl_errRest),("loop.example/kilnmill/impl.errGreat",Rows.laid_loop_example_kilnmill_impl_errGreat),("loop.example/kilnmill/impl.errZero",Rows.laid_loop_example_kilnmill_impl_errZero),("loop.example/kilnmill/impl.errCode",Rows.laid_loop_example_kilnmill_impl_errCode)]
noncomputable def rWorld (os:Os):World :=
  let w0:=World.laidAll Tryz.prog os rLaid
  { w0 with heap:=w0.heap.modify 0 fun
      | .cells _ t frozen => .cells #[.iface 91 (.agg #[.pointer (some ⟨11,41,none⟩)])] t frozen
      | o=>o }
set_option maxRecDepth 1000000 in
theorem bLaid (os:Os) (args:Array Value):laidMetH Tryz.prog Rows.fnExactReadCodeRow.laid ((rWorld os).forCall (fun _ _=>0) ⟨#[],args,[]⟩).memory :=
  laidMetH_of_parts (show laidMet Tryz.prog rLaid _ from (LaidIn.of_run (l:=rLaid) (List.range 100) 8 (by kernel_rfl) (by kernel_rfl) (by kernel_rfl) (by kernel_rfl)).met) (by kernel_rfl)
set_option maxRecDepth 1000000 in
theorem bWitness (os:Os) {H:Type} (enc:TypeId × Value→H) :
    (OpenSpec.ofChange Rows.fnExactReadCodeSpec).preRow enc Tryz.prog Tryz.f3 Rows.fnExactReadCodeRow.domain false Rows.fnExactReadCodeRow.laid (((rWorld os).forCall (fun _ _=>0) ⟨#[],#[.string ⟨#[]⟩],[]⟩).memory) #[.string ⟨#[]⟩]:=by
  have hw:(DataW.whole enc Tryz.prog (((rWorld os).forCall (fun _ _=>0) ⟨#[],#[.string ⟨#[]⟩],[]⟩).memory) Tryz.f3.params.toList Rows.fnExactReadCodeSpec.vars false ((#[.string ⟨#[]⟩]:Array Value).toList) 8).map (fun x=>(x.1,x.2.1)) =
      some ([.lit (.string [])],[.held (enc (214,.pointer (some ⟨(World.holding Tryz.prog os ⟨#[],#[],[]⟩).heap.size+1,0,none⟩))),.held (enc (214,.pointer (some ⟨(World.holding Tryz.prog os ⟨#[],#[],[]⟩).heap.size,0,none⟩))),.held (enc (214,.pointer (some ⟨(World.holding Tryz.prog os ⟨#[],#[],[]⟩).heap.size+3,0,none⟩))),.held (enc (214,.pointer (some ⟨(World.holding Tryz.prog os ⟨#[],#[],[]⟩).heap.size+6,0,none⟩))),.held (enc (214,.pointer (some ⟨(World.holding Tryz.prog os ⟨#[],#[],[]⟩).heap.size+2,0,none⟩))),.held (enc (214,.pointer (some ⟨(World.holding Tryz.prog os ⟨#[],#[],[]⟩).heap.size+4,0,none⟩))),.held (enc (214,.pointer (some ⟨(World.holding Tryz.prog os ⟨#[],#[],[]⟩).heap.size+5,0,none⟩))),Rows.laid_loop_example_kilnmill_impl_insRows,Rows.laid_loop_example_kilnmill_impl_builtTypes,Rows.laid_loop_example_kilnmill_impl_builtWords]):=by kernel_rfl
  obtain ⟨⟨x1,x2,x3⟩,hx,hx1⟩:=Option.map_eq_some_iff.1 hw
  simp only [Prod.mk.injEq] at hx1
  obtain ⟨rfl,rfl⟩:=hx1
  exact OpenSpec.preRow_of_cond 8 hx (by kernel_rfl) (fun k hk=>by cases hk) (by kernel_rfl) (bLaid os _)

set_option maxRecDepth 100000 in
set_option maxHeartbeats 2000000 in
theorem bLifted (os:Os) (started:os.Started) (H:Type) (enc:TypeId × Value→H) (F:Stop.Interp) :
    ReturnsInHanded {} Tryz.checked os 3 .any ((OpenSpec.ofChange Rows.fnExactReadCodeSpec).preRow enc Tryz.prog Tryz.f3 Rows.fnExactReadCodeRow.domain false Rows.fnExactReadCodeRow.laid) (((OpenSpec.ofChange Rows.fnExactReadCodeSpec).at F).post enc Tryz.prog Tryz.f3 false true false false):=by
  refine returnsInHanded_of_row (C:=Tryz.checked) (s:=OpenSpec.ofChange Rows.fnExactReadCodeSpec) own started (by kernel_rfl) Tryz.func3
    (witness_row_atRef (enc:=enc) (C:=Tryz.checked) false (rWorld os) #[.string ⟨#[]⟩] (World.laidAll_os _ _ _) (by kernel_rfl) (by kernel_rfl) (by kernel_rfl) (bWitness os enc)) ?_
  intro W base args ds gs before hval0 hW _ _ _ hL _ _
  have hval:∀ (j:Nat) t v,Tryz.f3.params[j]? = some t→args[j]? = some v→Value.okWide Tryz.prog W .any base t v:=hval0
  have hW':=hW
  obtain ⟨p,q,hA0,hV0,rfl,_,_⟩:=hW
  have hA:DataW.TrodAll enc Tryz.prog W 0 (fun _=>true) true Tryz.f3.params.toList args.toList ds p:=hA0
  have hV:DataW.TrodVars enc Tryz.prog W (fun _=>true) ["loop.example/kilnmill/impl.errForm", "loop.example/kilnmill/impl.errHead", "loop.example/kilnmill/impl.errRest", "loop.example/kilnmill/impl.errCode", "loop.example/kilnmill/impl.errShort", "loop.example/kilnmill/impl.errGreat", "loop.example/kilnmill/impl.errZero", "loop.example/kilnmill/impl.insRows", "loop.example/kilnmill/impl.builtTypes", "loop.example/kilnmill/impl.builtWords"] gs q:=hV0
  rw [Tryz.params3] at hA hval
  obtain ⟨v0,d0,rfl,rfl,h0⟩:=trodAll_one hA
  obtain ⟨s,rfl,rfl,rfl,ws⟩:=open_string Tryz.underlying9 (hval 0 9 v0 rfl rfl) h0
  have hT:=tabsOf hL
  obtain ⟨g1,g2,g3,g4,g5,g6,g7,g8,g9,g10,hgs⟩:=ten (vars_len _ _ _ hV)
  clear hA0 hV0 hval0
  refine (Rc.law_any s W hT).mono ?_
  rintro e W' ⟨rfl,bel⟩
  have e1:((OpenSpec.ofChange Rows.fnExactReadCodeSpec).at F).fn H ([.lit (.string s.data.toList)]++gs) = { results:=[.lit (.bool true)],args:=[.lit (.string s.data.toList)],vars:=gs }:=by rw [hgs];rfl
  refine ⟨_,rfl,_,_,_,[],[],q,hW', ?_, ?_, ?_,bel.frame _,fun h=>by cases h⟩
  · rw [e1];exact trodAll_mk1 (shut_bool Tryz.underlying4 _)
  · rw [e1];exact trodAll_mk1 (shut_string Tryz.underlying9 ws)
  · rw [e1];exact Below.trodVars laidOut bel (by kernel_rfl) hV

theorem bSaid : Rows.FnExactReadCodeSaid :=
  OpenClaim.holds_of_cond 3 Tryz.f3 rfl rfl rfl rfl rfl rfl rfl ⟨rfl,rfl,rfl,rfl,rfl⟩ rfl rfl rfl rfl rfl (by kernel_rfl) Tryz.func3 (by kernel_rfl)
    (of_decide_eq_true (by kernel_rfl)) (by unfold Func.isWrapper;first | (rw [if_pos (by decide +kernel)];kernel_rfl) | (rw [if_neg (by decide +kernel)];exact ⟨rfl,rfl⟩))
    (fun os started H enc _ F0=>by rw [OpenClaim.pre_eq_preRow];exact bLifted os started H enc F0)

theorem bPlain (f:FuncId) (fn:Func) (hf:Tryz.pinned.checked.prog.funcNamed "loop.example/kilnmill/laws.FnExactReadCode" = some f) (hfn:Tryz.pinned.checked.prog.funcs[f]? = some fn) :
    true=Tryz.pinned.checked.prog.looks []∧∀ (j:Nat) t,fn.params[j]? = some t→Tryz.pinned.checked.prog.wantsStandIn t=false:=by
  obtain rfl:f=3:=Option.some.inj ((show Tryz.prog.funcNamed "loop.example/kilnmill/laws.FnExactReadCode" = some 3 by kernel_rfl).symm.trans hf) |>.symm
  obtain rfl:fn=Tryz.f3:=(Option.some.inj (Tryz.func3.symm.trans hfn)).symm
  refine ⟨by kernel_rfl,fun j t ht => ?_⟩
  rw [Tryz.params3] at ht
  have h2:t=9:=by simpa using Array.mem_of_getElem? ht
  subst h2
  exact (show Tryz.prog.wantsStandIn 9=false by kernel_rfl)
end Cd

theorem fnExactReadCode_holds : Rows.FnExactReadCodeCardSaid :=
  Claim7.holds_tied_plain_at .later [] _ _ _ _ Cd.bSaid (fun _ h=>by cases h) (by kernel_rfl) (fun _ h=>by cases h) fnExactReadCode_row_tie rfl ⟨rfl,rfl⟩ (by kernel_rfl) rfl Cd.bPlain (by kernel_rfl)
end Go.Proofs.YtbkhedpabfanoaaGreatDoor
