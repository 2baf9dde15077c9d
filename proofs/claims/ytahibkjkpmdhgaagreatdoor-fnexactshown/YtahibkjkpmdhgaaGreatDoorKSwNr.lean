import Derived.Test.YtahibkjkpmdhgaaGreatDoorKSwNk
set_option maxRecDepth 100000
set_option maxHeartbeats 2000000
namespace Go.Proofs.YtahibkjkpmdhgaaGreatDoor
namespace Cd
open Go.ChangeShapes Go.WideShapes Go.ChangeAt Go.RowKit Go.Lib Go.Deep
theorem mach_open {H:Type} {enc:TypeId × Value->H} {w:World} {base b0:Nat} {r:Go.Reach} {spare:Nat->Bool} {held:Bool} {v:Value} {d:DataW H} {p:List MemPlace} (hv:Value.okWide Tryz.prog w r b0 27 v)
  (h:DataW.Trod enc Tryz.prog w base spare held 27 v d p):∃ (m:Ds) (y u E A C G:Option Addr) (z x F B D I:Nat),v = .agg #[.slice y m.codes.length z,.slice u m.args.length x,.slice E m.outs.length F,.slice A m.frames.length B,.int .i64 m.steps,.int .i64 m.looks,.int .i64 m.kind,.string m.name,.string m.hold,.bool m.over,.int .i64 m.fin,.string m.text,.slice C m.files.length D,.slice G m.said.length I]/\Kh w m y u E A C G z x F B D I/\Qag m/\Yh m:=by
 obtain⟨cs,rfl,o⟩:=okWide_struct Tryz.underlying27 hv;rw[cellsMach]at o;obtain⟨af,hf⟩:=h;obtain⟨xs,m,_,_,_,Z,a⟩:=DataW.trod_struct Tryz.underlying27 hf;have q:xs.length=14:=Z;obtain⟨l⟩:=cs;match l,o,xs,q with
 | [v0,v1,v2,v3,v4,v5,v6,v7,v8,v9,v10,v11,v12,v13],_,[y0,y1,y2,y3,y4,y5,y6,y7,y8,y9,y10,y11,y12,y13],_ =>
  have f0:DataW.trod enc Tryz.prog w base spare held m 22 (((Value.agg #[v0,v1,v2,v3,v4,v5,v6,v7,v8,v9,v10,v11,v12,v13]).cells.toList.drop 0).take (Tryz.prog.cellsOf 22))=some y0:=a 0 _ rfl;rw[cellsCodes]at f0;have e0:DataW.trod enc Tryz.prog w base spare held m 22 [v0]=some y0:=f0;have f1:DataW.trod enc Tryz.prog w base spare held m 23 (((Value.agg #[v0,v1,v2,v3,v4,v5,v6,v7,v8,v9,v10,v11,v12,v13]).cells.toList.drop 1).take (Tryz.prog.cellsOf 23))=some y1:=a 1 _ rfl;rw[cellsStrings]at f1;have e1:DataW.trod enc Tryz.prog w base spare held m 23 [v1]=some y1:=f1;have f2:DataW.trod enc Tryz.prog w base spare held m 23 (((Value.agg #[v0,v1,v2,v3,v4,v5,v6,v7,v8,v9,v10,v11,v12,v13]).cells.toList.drop 2).take (Tryz.prog.cellsOf 23))=some y2:=a 2 _ rfl;rw[cellsStrings]at f2;have e2:DataW.trod enc Tryz.prog w base spare held m 23 [v2]=some y2:=f2;have f3:DataW.trod enc Tryz.prog w base spare held m 24 (((Value.agg #[v0,v1,v2,v3,v4,v5,v6,v7,v8,v9,v10,v11,v12,v13]).cells.toList.drop 3).take (Tryz.prog.cellsOf 24))=some y3:=a 3 _ rfl;rw[cellsFrames]at f3;have e3:DataW.trod enc Tryz.prog w base spare held m 24 [v3]=some y3:=f3;have f4:DataW.trod enc Tryz.prog w base spare held m 3 (((Value.agg #[v0,v1,v2,v3,v4,v5,v6,v7,v8,v9,v10,v11,v12,v13]).cells.toList.drop 4).take (Tryz.prog.cellsOf 3))=some y4:=a 4 _ rfl;rw[cellsInt]at f4;have e4:DataW.trod enc Tryz.prog w base spare held m 3 [v4]=some y4:=f4;have f5:DataW.trod enc Tryz.prog w base spare held m 3 (((Value.agg #[v0,v1,v2,v3,v4,v5,v6,v7,v8,v9,v10,v11,v12,v13]).cells.toList.drop 5).take (Tryz.prog.cellsOf 3))=some y5:=a 5 _ rfl;rw[cellsInt]at f5;have e5:DataW.trod enc Tryz.prog w base spare held m 3 [v5]=some y5:=f5;have f6:DataW.trod enc Tryz.prog w base spare held m 3 (((Value.agg #[v0,v1,v2,v3,v4,v5,v6,v7,v8,v9,v10,v11,v12,v13]).cells.toList.drop 6).take (Tryz.prog.cellsOf 3))=some y6:=a 6 _ rfl;rw[cellsInt]at f6;have e6:DataW.trod enc Tryz.prog w base spare held m 3 [v6]=some y6:=f6;have f7:DataW.trod enc Tryz.prog w base spare held m 9 (((Value.agg #[v0,v1,v2,v3,v4,v5,v6,v7,v8,v9,v10,v11,v12,v13]).cells.toList.drop 7).take (Tryz.prog.cellsOf 9))=some y7:=a 7 _ rfl;rw[cellsString]at f7;have e7:DataW.trod enc Tryz.prog w base spare held m 9 [v7]=some y7:=f7;have f8:DataW.trod enc Tryz.prog w base spare held m 9 (((Value.agg #[v0,v1,v2,v3,v4,v5,v6,v7,v8,v9,v10,v11,v12,v13]).cells.toList.drop 8).take (Tryz.prog.cellsOf 9))=some y8:=a 8 _ rfl;rw[cellsString]at f8;have e8:DataW.trod enc Tryz.prog w base spare held m 9 [v8]=some y8:=f8;have f9:DataW.trod enc Tryz.prog w base spare held m 4 (((Value.agg #[v0,v1,v2,v3,v4,v5,v6,v7,v8,v9,v10,v11,v12,v13]).cells.toList.drop 9).take (Tryz.prog.cellsOf 4))=some y9:=a 9 _ rfl;rw[cellsBool]at f9;have e9:DataW.trod enc Tryz.prog w base spare held m 4 [v9]=some y9:=f9;have f:DataW.trod enc Tryz.prog w base spare held m 3 (((Value.agg #[v0,v1,v2,v3,v4,v5,v6,v7,v8,v9,v10,v11,v12,v13]).cells.toList.drop 10).take (Tryz.prog.cellsOf 3))=some y10:=a 10 _ rfl;rw[cellsInt]at f;have J:DataW.trod enc Tryz.prog w base spare held m 3 [v10]=some y10:=f;have g:DataW.trod enc Tryz.prog w base spare held m 9 (((Value.agg #[v0,v1,v2,v3,v4,v5,v6,v7,v8,v9,v10,v11,v12,v13]).cells.toList.drop 11).take (Tryz.prog.cellsOf 9))=some y11:=a 11 _ rfl;rw[cellsString]at g;have K:DataW.trod enc Tryz.prog w base spare held m 9 [v11]=some y11:=g;have j:DataW.trod enc Tryz.prog w base spare held m 25 (((Value.agg #[v0,v1,v2,v3,v4,v5,v6,v7,v8,v9,v10,v11,v12,v13]).cells.toList.drop 12).take (Tryz.prog.cellsOf 25))=some y12:=a 12 _ rfl;rw[cellsFiles]at j;have L:DataW.trod enc Tryz.prog w base spare held m 25 [v12]=some y12:=j;have n:DataW.trod enc Tryz.prog w base spare held m 23 (((Value.agg #[v0,v1,v2,v3,v4,v5,v6,v7,v8,v9,v10,v11,v12,v13]).cells.toList.drop 13).take (Tryz.prog.cellsOf 23))=some y13:=a 13 _ rfl;rw[cellsStrings]at n;have M:DataW.trod enc Tryz.prog w base spare held m 23 [v13]=some y13:=n;obtain⟨b,hC,R,S,T⟩:=codes_open e0;obtain⟨args,hA,ha⟩:=strings_open e1;obtain⟨s,hO,ho⟩:=strings_open e2;obtain⟨O,hF,U,V,W⟩:=frames_open e3;obtain⟨z4,h4,_,_⟩:=DataW.trod_int Tryz.underlying3 e4;obtain⟨z5,h5,_,_⟩:=DataW.trod_int Tryz.underlying3 e5;obtain⟨z6,h6,_,_⟩:=DataW.trod_int Tryz.underlying3 e6;obtain⟨z7,h7,_,s7⟩:=DataW.trod_string Tryz.underlying9 e7;obtain⟨z8,h8,_,s8⟩:=DataW.trod_string Tryz.underlying9 e8;obtain⟨z9,h9,_⟩:=DataW.trod_bool Tryz.underlying4 e9;obtain⟨ad,P,_,_⟩:=DataW.trod_int Tryz.underlying3 J;obtain⟨ae,Q,_,ab⟩:=DataW.trod_string Tryz.underlying9 K;obtain⟨N,hL,X,Y⟩:=files_open L;obtain⟨t,hS,hs⟩:=strings_open M;cases h4;cases h5;cases h6;cases h7;cases h8;cases h9;cases P;cases Q
  obtain⟨y,z,rfl,_⟩:=id hC;obtain⟨u,x,rfl,_⟩:=id hA;obtain⟨E,F,rfl,_⟩:=id hO;obtain⟨A,B,rfl,_⟩:=id hF;obtain⟨C,D,rfl,_⟩:=id hL;obtain⟨G,I,rfl,_⟩:=id hS;refine⟨⟨b,args,s,O,z4,z5,z6,z7,z8,z9,ad,ae,N,t⟩,y,u,E,A,C,G,z,x,F,B,D,I,rfl,⟨hC,hA,hO,hF,hL,hS⟩,⟨⟨R,S⟩,ha,ho,⟨U,V⟩,by simpa[maxLen,Cl]using s7,by simpa[maxLen,Cl]using s8,by simpa[maxLen,Cl]using ab,⟨X,Y⟩,hs⟩,⟨fun c hc k hk i hi => ?_,W⟩⟩;exact(T c hc c[k] (List.getElem_mem hk) c[k].ins[i] (List.getElem_mem hi)).2
theorem own : ownKnob Tryz.prog.godebug=none:=OA
theorem laidOut : laidOutB Tryz.prog=true:=OA
theorem vars_len {H:Type} {enc:TypeId × Value->H} {w:World} {spare:Nat->Bool}:∀ (ns:List String) (gs:List (DataW H)) (ps:List MemPlace),DataW.TrodVars enc Tryz.prog w spare ns gs ps->gs.length=ns.length
 | [],[],_,_=>rfl
 | [],_::_,_,h=>by simp[DataW.TrodVars]at h
 | _::_,[],_,h=>by simp[DataW.TrodVars]at h
 | n::ns,d::ds,_,h=>by
  obtain⟨g,t,b,a,p,q,_,_,_,_,hs,_⟩:=h
  simp[vars_len ns ds q hs]
theorem three {α:Type} {l:List α} (h:l.length=3):∃ a b c,l=[a,b,c]:=by
 match l,h with
 | [a,b,c],_=>exact⟨a,b,c,rfl⟩
set_option maxRecDepth 1000000 in
theorem bLaid (os:Os) (args:Array Value):laidMet Tryz.prog Rows.fnExactShownRow.laid (((World.laidAll Tryz.prog os Rows.fnExactShownRow.laid)).forCall (fun _ _=>0) ⟨#[],args,[]⟩).memory :=
 laidMet_laidAll args OA OA
set_option maxRecDepth 1000000 in
theorem bWitness (os:Os) {H:Type} (enc:TypeId × Value->H) :
  (OpenSpec.ofChange Rows.fnExactShownSpec).preRow enc Tryz.prog Tryz.f4 Rows.fnExactShownRow.domain false Rows.fnExactShownRow.laid (((World.laidAll Tryz.prog os Rows.fnExactShownRow.laid).forCall (fun _ _=>0) ⟨#[],#[.agg #[.slice none 0 0,.slice none 0 0,.slice none 0 0,.slice none 0 0,.int .i64 0,.int .i64 0,.int .i64 0,.string ⟨#[]⟩,.string ⟨#[]⟩,.bool false,.int .i64 0,.string ⟨#[]⟩,.slice none 0 0,.slice none 0 0]],[]⟩).memory) #[.agg #[.slice none 0 0,.slice none 0 0,.slice none 0 0,.slice none 0 0,.int .i64 0,.int .i64 0,.int .i64 0,.string ⟨#[]⟩,.string ⟨#[]⟩,.bool false,.int .i64 0,.string ⟨#[]⟩,.slice none 0 0,.slice none 0 0]]:=by
 have hw:(DataW.whole enc Tryz.prog (((World.laidAll Tryz.prog os Rows.fnExactShownRow.laid).forCall (fun _ _=>0) ⟨#[],#[.agg #[.slice none 0 0,.slice none 0 0,.slice none 0 0,.slice none 0 0,.int .i64 0,.int .i64 0,.int .i64 0,.string ⟨#[]⟩,.string ⟨#[]⟩,.bool false,.int .i64 0,.string ⟨#[]⟩,.slice none 0 0,.slice none 0 0]],[]⟩).memory) Tryz.f4.params.toList Rows.fnExactShownSpec.vars false ((#[.agg #[.slice none 0 0,.slice none 0 0,.slice none 0 0,.slice none 0 0,.int .i64 0,.int .i64 0,.int .i64 0,.string ⟨#[]⟩,.string ⟨#[]⟩,.bool false,.int .i64 0,.string ⟨#[]⟩,.slice none 0 0,.slice none 0 0]]:Array Value).toList) 8).map (fun x=>(x.1,x.2.1)) =
   some ([.agg [.nil,.nil,.nil,.nil,.lit (.int .i64 0),.lit (.int .i64 0),.lit (.int .i64 0),.lit (.string []),.lit (.string []),.lit (.bool false),.lit (.int .i64 0),.lit (.string []),.nil,.nil]],[Rows.laid_loop_example_kilnmill_impl_insRows,Rows.laid_loop_example_kilnmill_impl_builtTypes,Rows.laid_loop_example_kilnmill_impl_builtWords]):=OA
 obtain⟨⟨x1,x2,x3⟩,hx,hx1⟩:=Option.map_eq_some_iff.1 hw
 simp only[Prod.mk.injEq]at hx1
 obtain⟨rfl,rfl⟩:=hx1
 exact OpenSpec.preRow_of_cond 8 hx OA (fun k hk=>by cases hk) OA (bLaid os _)
theorem bLifted (os:Os) (started:os.Started) (H:Type) (enc:TypeId × Value->H) (F:Stop.Interp) :
  ReturnsInHanded {} Tryz.checked os 4 .any ((OpenSpec.ofChange Rows.fnExactShownSpec).preRow enc Tryz.prog Tryz.f4 Rows.fnExactShownRow.domain false Rows.fnExactShownRow.laid) (((OpenSpec.ofChange Rows.fnExactShownSpec).at F).post enc Tryz.prog Tryz.f4 false true false false):=by
 refine returnsInHanded_of_row (C:=Tryz.checked) (s:=OpenSpec.ofChange Rows.fnExactShownSpec) own started OA Tryz.func4
  (witness_row_atRef (enc:=enc) (C:=Tryz.checked) false (World.laidAll Tryz.prog os Rows.fnExactShownRow.laid) #[.agg #[.slice none 0 0,.slice none 0 0,.slice none 0 0,.slice none 0 0,.int .i64 0,.int .i64 0,.int .i64 0,.string ⟨#[]⟩,.string ⟨#[]⟩,.bool false,.int .i64 0,.string ⟨#[]⟩,.slice none 0 0,.slice none 0 0]] (World.laidAll_os _ _ _) OA OA OA (bWitness os enc)) ?_
 intro W d args L n k a E _ _ _ O _ _
 have b:∀ (j:Nat) t v,Tryz.f4.params[j]? = some t->args[j]? = some v->Value.okWide Tryz.prog W .any d t v:=a
 have u:=E
 obtain⟨p,q,f,i,rfl,_,_⟩:=E
 have o:DataW.TrodAll enc Tryz.prog W 0 (fun _=>true) true Tryz.f4.params.toList args.toList L p:=f
 have D:DataW.TrodVars enc Tryz.prog W (fun _=>true) ["loop.example/kilnmill/impl.insRows", "loop.example/kilnmill/impl.builtTypes", "loop.example/kilnmill/impl.builtWords"] n q:=i
 rw[Tryz.params4]at o b
 have z:=o.lt
 obtain⟨Y,A,rfl,rfl,B⟩:=trodAll_one o
 obtain⟨m,J,G,T,M,R,V,K,I,U,N,S,X,rfl,P,g,r⟩:=mach_open (b 0 27 Y rfl rfl) B
 obtain⟨Q,x⟩:=tabsOf O
 obtain⟨g1,g2,g3,y⟩:=three (vars_len _ _ _ D)
 clear f i a
 refine(Qcj m J G T M R V K I U N S X g r W P Q x).mono ?_
 rintro e Z ⟨rfl,c⟩
 have l:((OpenSpec.ofChange Rows.fnExactShownSpec).at F).fn H ([A]++n) = { results:=[.lit (.bool true)],args:=[A],vars:=n }:=by rw[y];rfl
 refine⟨_,rfl,_,_,_,[],p,q,u, ?_, ?_, ?_,c.frame _,fun h=>by cases h⟩
 ·rw[l];exact trodAll_mk1 (shut_bool Tryz.underlying4 _)
 ·rw[l];exact trodAll_mk1 (Below.trod laidOut OA (of_decide_eq_true OA) B c (fun p hp=>z p hp))
 ·rw[l];exact Below.trodVars laidOut c OA D
theorem bSaid : Rows.FnExactShownSaid :=
 OpenClaim.holds_of_cond 4 Tryz.f4 rfl rfl rfl rfl rfl rfl rfl ⟨rfl,rfl,rfl,rfl,rfl⟩ rfl rfl rfl rfl rfl OA Tryz.func4 OA
  (of_decide_eq_true OA) (by unfold Func.isWrapper;first|(rw[if_pos (by decide +kernel)];kernel_rfl)|(rw[if_neg (by decide +kernel)];exact⟨rfl,rfl⟩))
  (fun os started H enc _ F0=>by rw[OpenClaim.pre_eq_preRow];exact bLifted os started H enc F0)
theorem bPlain (f:FuncId) (fn:Func) (hf:Tryz.pinned.checked.prog.funcNamed "loop.example/kilnmill/laws.FnExactShown" = some f) (hfn:Tryz.pinned.checked.prog.funcs[f]? = some fn) :
  false=Tryz.pinned.checked.prog.looks []/\∀ (j:Nat) t,fn.params[j]? = some t->Tryz.pinned.checked.prog.wantsStandIn t=false:=by
 obtain rfl:f=4:=Option.some.inj ((show Tryz.prog.funcNamed "loop.example/kilnmill/laws.FnExactShown" = some 4 by kernel_rfl).symm.trans hf) |>.symm
 obtain rfl:fn=Tryz.f4:=(Option.some.inj (Tryz.func4.symm.trans hfn)).symm
 refine⟨by kernel_rfl,fun j t ht => ?_⟩
 rw[Tryz.params4]at ht
 have a:t=27:=by simpa using Array.mem_of_getElem? ht
 subst a
 exact(show Tryz.prog.wantsStandIn 27=false by kernel_rfl)
end Cd
theorem fnExactShown_holds : Rows.FnExactShownCardSaid :=
 Claim7.holds_tied_plain_at .later [] _ _ _ _ Cd.bSaid (fun _ h=>by cases h) OA (fun _ h=>by cases h) fnExactShown_row_tie rfl ⟨rfl,rfl⟩ OA rfl Cd.bPlain OA
end Go.Proofs.YtahibkjkpmdhgaaGreatDoor
