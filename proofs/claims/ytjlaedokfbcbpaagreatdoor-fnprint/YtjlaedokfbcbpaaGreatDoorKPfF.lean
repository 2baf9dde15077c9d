import Derived.Test.YtjlaedokfbcbpaaGreatDoorKScanAA
import Derived.ChangeSlices
import Derived.Deep.Slices
import Derived.ChangeArms
set_option maxRecDepth 100000
set_option maxHeartbeats 2000000
namespace Go.Proofs.YtjlaedokfbcbpaaGreatDoor
open Proofs.Tryz
open Go.Shelf
namespace PfL
open Go.ChangeShapes Go.WideShapes Go.ChangeAt Go.RowKit Go.Lib Go.Deep
theorem own : ownKnob prog.godebug=none:=OE
theorem laidOut : laidOutB prog=true:=OE
theorem cellsU8 : prog.cellsOf 5=1:=OE
theorem wf8 {n:Int} (h:(Lit.int .u8 n).wf=true):0<=n/\n<=255:=by
 have a:IntKind.u8.min=0:=by decide
 have b:IntKind.u8.max=255:=by decide
 simp only[Lit.wf,a,b,Bool.and_eq_true,decide_eq_true_eq]at h;exact h
theorem vars_len {H:Type} {enc:TypeId × Value->H} {w:World} {spare:Nat->Bool}:∀ (ns:List String) (gs:List (DataW H)) (ps:List MemPlace),DataW.TrodVars enc prog w spare ns gs ps->gs.length=ns.length
 | [],[],_,_=>rfl
 | [],_::_,_,h=>by simp[DataW.TrodVars]at h
 | _::_,[],_,h=>by simp[DataW.TrodVars]at h
 | n::ns,d::ds,_,h=>by
  obtain⟨g,t,c,a,p,q,_,_,_,_,b,_⟩:=h
  simp[vars_len ns ds q b]
theorem bytes_open {H:Type} {enc:TypeId × Value->H} {w:World} {base:Nat} {held:Bool} {fuel:Nat} {v:Value} {x:DataW H × List MemPlace}
  (h:DataW.trod enc prog w base (fun _=>true) held fuel 22 [v]=some x):∃ (a:Option Addr) (n c:Nat),v = .slice a n c/\G3 w w.heap.size v n/\n<=c/\n<=9223372036854775807:=by
 rcases open_ints underlying22 underlying5 cellsU8 h with⟨q,_⟩|⟨a,j,d,zs,q,_,s,t,y,_,l,u⟩
 ·cases q
  exact⟨none,0,0,rfl,.inl ⟨none,0,rfl,rfl⟩,by omega,by omega⟩
 ·cases q
  have z:zs.length=d:=y;refine⟨some a,j,d,rfl, ?_,s,by simp[maxLen]at t;omega⟩;by_cases h0:j=0
  ·subst h0;exact .inl ⟨some a,d,rfl,rfl⟩
  ·obtain⟨b,o,A⟩:=a;have p:A=none:=by
    have g:=l 0 OC;simp[Addr.add]at g;exact World.cell?_spot g
   subst p;have f:∀ o k,(Addr.add (OK b o) k)=(OK b (o+k)):=fun o k=>by unfold Addr.add;split <;> simp_all
   have g:=l 0 OC;rw[f]at g;refine .inr ⟨b,o,d,rfl,Pf.tlt_cell g,fun i hi => ?_⟩;have r:=l i OC;rw[f]at r;have m:zs.getD i 0 ∈ zs:=by
    rw[List.getD_eq_getElem?_getD,List.getElem?_eq_getElem OC];exact List.getElem_mem _
   have:=wf8 (u _ m);exact⟨_,this.1,this.2,r⟩
theorem five {α:Type} {l:List α} (h:l.length=5):∃ a b c d e,l=[a,b,c,d,e]:=by
 match l,h with
 | [a,b,c,d,e],_=>exact⟨a,b,c,d,e,rfl⟩
theorem lawPrint (a:Option Addr) (n c:Nat) (w:World) (hB:G3 w w.heap.size (.slice a n c) n) (hnc:n<=c) (hn:n<=9223372036854775807) (hG:Sm w) :
  Calls prog 3 #[.slice a n c] w fun e w'=>e = .returned (.bool true)/\Below w.heap.size w w':=by
 by_cases h:n<=1048576
 ·exact Qnq w a n c hB hnc h hG
 ·go_enter func3,ntmps3;go_wp2;go_ret;exact⟨rfl,OO _⟩
set_option maxRecDepth 1000000 in
theorem tkLaid (os:Os) (args:Array Value):laidMet prog Rows.fnPrintRow.laid ((World.laidAll prog os Rows.fnPrintRow.laid).forCall (fun _ _=>0) ⟨#[],args,[]⟩).memory :=
 laidMet_laidAll args OE OE
set_option maxRecDepth 1000000 in
theorem tkWitness (os:Os) {H:Type} (enc:TypeId × Value->H) :
  (OpenSpec.ofChange Rows.fnPrintSpec).preRow enc prog Tryz.f3 Rows.fnPrintRow.domain false Rows.fnPrintRow.laid (((World.laidAll prog os Rows.fnPrintRow.laid).forCall (fun _ _=>0) ⟨#[],#[.slice none 0 0],[]⟩).memory) #[.slice none 0 0]:=by
 have hw:(DataW.whole enc prog (((World.laidAll prog os Rows.fnPrintRow.laid).forCall (fun _ _=>0) ⟨#[],#[.slice none 0 0],[]⟩).memory) Tryz.f3.params.toList Rows.fnPrintSpec.vars false ((#[.slice none 0 0]:Array Value).toList) 8).map (fun x=>(x.1,x.2.1)) =
   some ([.nil],[Rows.laid_loop_example_kilnmill_impl_greatest,Rows.laid_loop_example_kilnmill_impl_builtWords,Rows.laid_loop_example_kilnmill_impl_typeWords,Rows.laid_loop_example_kilnmill_impl_unMarks,Rows.laid_loop_example_kilnmill_impl_binMarks]):=OE
 obtain⟨⟨x1,x2,x3⟩,hx,hx1⟩:=Option.map_eq_some_iff.1 hw
 simp only[Prod.mk.injEq]at hx1
 obtain⟨rfl,rfl⟩:=hx1
 exact OpenSpec.preRow_of_cond 8 hx OE (fun k hk=>by cases hk) OE (tkLaid os _)
theorem tkLifted (os:Os) (started:os.Started) (H:Type) (enc:TypeId × Value->H) (F:Stop.Interp) :
  ReturnsInHanded {} Tryz.checked os 3 .any ((OpenSpec.ofChange Rows.fnPrintSpec).preRow enc prog Tryz.f3 Rows.fnPrintRow.domain false Rows.fnPrintRow.laid) (((OpenSpec.ofChange Rows.fnPrintSpec).at F).post enc prog Tryz.f3 false true false false):=by
 refine returnsInHanded_of_row (C:=Tryz.checked) (s:=OpenSpec.ofChange Rows.fnPrintSpec) own started OE func3
  (witness_row_atRef (enc:=enc) (C:=Tryz.checked) false (World.laidAll prog os Rows.fnPrintRow.laid) #[.slice none 0 0] (World.laidAll_os _ _ _) OE OE OE (tkWitness os enc)) ?_
 intro W base args K m k b J _ _ _ N _ _
 have d:∀ (j:Nat) t v,Tryz.f3.params[j]? = some t->args[j]? = some v->Value.okWide prog W .any base t v:=b
 have r:=J
 obtain⟨p,q,g,i,rfl,_,_⟩:=J
 have o:DataW.TrodAll enc prog W 0 (fun _=>true) true Tryz.f3.params.toList args.toList K p:=g
 have I:DataW.TrodVars enc prog W (fun _=>true) ["loop.example/kilnmill/impl.greatest", "loop.example/kilnmill/impl.builtWords", "loop.example/kilnmill/impl.typeWords", "loop.example/kilnmill/impl.unMarks", "loop.example/kilnmill/impl.binMarks"] m q:=i
 rw[Tryz.params3]at o d
 have x:=o.lt
 obtain⟨v0,D,rfl,rfl,G⟩:=trodAll_one o
 obtain⟨z,B,A,rfl⟩:=okWide_slice underlying22 (d 0 22 v0 rfl rfl)
 have O:∃ (a:Option Addr) (n c:Nat),Value.slice z B A = .slice a n c/\G3 W W.heap.size (.slice z B A) n/\n<=c/\n<=9223372036854775807:=by
  obtain⟨E,P⟩:=G
  exact bytes_open P
 obtain⟨a,n,c,R,L,y,Q⟩:=O
 injection R with hv1 hv2 hv3
 subst hv1;subst hv2;subst hv3
 obtain⟨T,U,V,X,Y,u⟩:=five (vars_len _ _ _ I)
 have M:=Pf.envOf N
 clear g i b
 refine(lawPrint z B A W L y Q M).mono ?_
 rintro e S ⟨rfl,f⟩
 have l:((OpenSpec.ofChange Rows.fnPrintSpec).at F).fn H ([D]++m) = { results:=[.lit (.bool true)],args:=[D],vars:=m }:=by rw[u];rfl
 refine⟨_,rfl,_,_,_,[],p,q,r, ?_, ?_, ?_,f.frame _,fun h=>by cases h⟩
 ·rw[l];exact trodAll_mk1 (shut_bool underlying4 _)
 ·rw[l];exact trodAll_mk1 (Below.trod laidOut OE (of_decide_eq_true OE) G f (fun p hp=>x p hp))
 ·rw[l];exact Below.trodVars laidOut f OE I
theorem tkSaid : Rows.FnPrintSaid :=
 OpenClaim.holds_of_cond 3 Tryz.f3 rfl rfl rfl rfl rfl rfl rfl ⟨rfl,rfl,rfl,rfl,rfl⟩ rfl rfl rfl rfl rfl OE func3 OE
  (of_decide_eq_true OE) (by unfold Func.isWrapper;first|(rw[if_pos (by decide +kernel)];kernel_rfl)|(rw[if_neg (by decide +kernel)];exact⟨rfl,rfl⟩))
  (fun os started H enc _ F0=>by rw[OpenClaim.pre_eq_preRow];exact tkLifted os started H enc F0)
theorem tkPlain (f:FuncId) (fn:Func) (hf:Tryz.pinned.checked.prog.funcNamed "loop.example/kilnmill/laws.FnPrint" = some f) (hfn:Tryz.pinned.checked.prog.funcs[f]? = some fn) :
  true=Tryz.pinned.checked.prog.looks []/\∀ (j:Nat) t,fn.params[j]? = some t->Tryz.pinned.checked.prog.wantsStandIn t=false:=by
 obtain rfl:f=3:=Option.some.inj ((show prog.funcNamed "loop.example/kilnmill/laws.FnPrint" = some 3 by kernel_rfl).symm.trans hf) |>.symm
 obtain rfl:fn=Tryz.f3:=(Option.some.inj (func3.symm.trans hfn)).symm
 refine⟨by kernel_rfl,fun j t ht => ?_⟩
 rw[Tryz.params3]at ht
 have a:t=22:=by simpa using Array.mem_of_getElem? ht
 subst a
 exact(show prog.wantsStandIn 22=false by kernel_rfl)
end PfL
theorem fnPrint_holds : Rows.FnPrintCardSaid :=
 Claim7.holds_tied_plain_at .later [] _ _ _ _ PfL.tkSaid (fun _ h=>by cases h) OE (fun _ h=>by cases h) fnPrint_row_tie rfl ⟨rfl,rfl⟩ OE rfl PfL.tkPlain OE
end Go.Proofs.YtjlaedokfbcbpaaGreatDoor
