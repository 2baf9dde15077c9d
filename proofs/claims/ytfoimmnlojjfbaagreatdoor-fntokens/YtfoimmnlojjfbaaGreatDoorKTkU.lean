import Derived.Test.YtfoimmnlojjfbaaGreatDoorKTkT
import Derived.Test.YtfoimmnlojjfbaaGreatDoorKTkS
import Derived.Test.YtfoimmnlojjfbaaGreatDoorCards
import Derived.Test.YtfoimmnlojjfbaaGreatDoorTie
import Derived.Stop.LaidErr
import Derived.Lay
import Derived.SevenTiedAt
import Derived.WalkKit
import Derived.ProofKit
import Derived.OpenShut
import Derived.OpenVars
import Derived.Lib.LaidIn
import Derived.Lib.LaidTab
import Derived.Deep.DeepHandedRow
import Derived.Deep.DeepWitnessRowRef
import Derived.SizedLaws
import Derived.ChangeVars
import Derived.ChangeSlices
import Derived.Carry
import Derived.Deep.Slices
import Derived.ChangeArms
set_option maxRecDepth 100000
set_option maxHeartbeats 2000000
namespace Go.Proofs.YtfoimmnlojjfbaaGreatDoor
open Go.Shelf
namespace TkL
open Go.ChangeShapes Go.WideShapes Go.ChangeAt Go.RowKit Go.Lib Go.Deep
theorem own : ownKnob Tryz.prog.godebug=none:=by kernel_rfl
theorem star : "*" ++ "errors.errorString" = "*errors.errorString" := by decide
theorem rowErr (u:TypeId) (h:Tryz.prog.typeName? 3 u=some "*errors.errorString"):u=152 :=
 typeName_ptr_named (nm := "errors.errorString") (by rw [star];kernel_rfl) (by kernel_rfl) (by decide) u (by rw [star];exact h)
theorem gTab : Tryz.prog.globalNamed "loop.example/kilnmill/impl.greatest" = some 0:=by kernel_rfl
theorem gTabType : (Tryz.prog.globals[0]?).map (·.type)=some 83:=by kernel_rfl
theorem cellsTab : Tryz.prog.cellsOf 83=11:=by kernel_rfl
theorem cellsU : Tryz.prog.cellsOf 53=1:=by kernel_rfl
theorem cellsErr : Tryz.prog.cellsOf 154=1:=by kernel_rfl
theorem cellsStr : Tryz.prog.cellsOf 9=1:=by kernel_rfl
theorem gErr : Tryz.prog.globalNamed "strconv.ErrRange" = some 3:=by kernel_rfl
theorem gErrType : (Tryz.prog.globals[3]?).map (·.type)=some 80:=by kernel_rfl
theorem tabOf {W:World} (h:laidMetH Tryz.prog Rows.fnTokensRow.laid W):Lib.TabIs Tryz.prog W "loop.example/kilnmill/impl.greatest" .u64 [0,0,0,255,65535,4294967295,18446744073709551615,127,32767,2147483647,9223372036854775807]:=by
 have hL:laidMet Tryz.prog Rows.fnTokensRow.laid W:=h
 exact Lib.tabIs_of_head (rest:=[]) gTab gTabType Tryz.underlying83 Tryz.underlying53 cellsU cellsTab (laidMet.tail (laidMet.tail (laidMet.tail (laidMet.tail (laidMet.tail hL)))))
theorem errOf {W:World} (h:laidMetH Tryz.prog Rows.fnTokensRow.laid W):∃ te pe,W.cell? ⟨3,0,none⟩=some (.iface te pe):=by
 have hL:laidMet Tryz.prog Rows.fnTokensRow.laid W:=h
 obtain ⟨a,s,hv,_⟩:=laid_sentinel (g:=3) (laidMet.tail (laidMet.tail (laidMet.tail hL))) gErr gErrType Tryz.underlying80 rowErr Tryz.underlying152 Tryz.underlying154 rfl rfl Tryz.underlying9 cellsErr cellsStr
 exact ⟨_,_,by simpa using World.var?_cell gErr hv 0⟩
theorem lt_of_cell {W:World} {b o:Nat} {v:Value} (h:W.cell? ⟨b,o,none⟩=some v):b < W.heap.size:=by
 unfold World.cell? at h
 split at h
 ·rename_i hb;exact (Array.getElem?_eq_some_iff.1 hb).1
 ·cases h
theorem globsOf {W:World} (h:laidMetH Tryz.prog Rows.fnTokensRow.laid W):Mill.Globs W:=by
 have ht:=tabOf h
 obtain ⟨te,pe,he⟩:=errOf h
 refine ⟨fun t h1 h2 => ?_,⟨te,pe,he⟩,lt_of_cell (ht.cell gTab 3 (by decide)),lt_of_cell he⟩
 have hc:=ht.cell gTab t (by simp;omega)
 rw [hc]
 have:t=3∨t=4∨t=5∨t=6∨t=7∨t=8∨t=9∨t=10:=by omega
 rcases this with rfl | rfl | rfl | rfl | rfl | rfl | rfl | rfl <;> rfl
theorem laidOut : laidOutB Tryz.prog=true:=by kernel_rfl
theorem cellsU8 : Tryz.prog.cellsOf 5=1:=by kernel_rfl
theorem wf8 {n:Int} (h:(Lit.int .u8 n).wf=true):0≤n∧n≤255:=by
 have e1:IntKind.u8.min=0:=by decide
 have e2:IntKind.u8.max=255:=by decide
 simp only [Lit.wf,e1,e2,Bool.and_eq_true,decide_eq_true_eq] at h
 exact h
theorem vars_len {H:Type} {enc:TypeId × Value→H} {w:World} {spare:Nat→Bool}:∀ (ns:List String) (gs:List (DataW H)) (ps:List MemPlace),DataW.TrodVars enc Tryz.prog w spare ns gs ps→gs.length=ns.length
 | [],[],_,_=>rfl
 | [],_::_,_,h=>by simp [DataW.TrodVars] at h
 | _::_,[],_,h=>by simp [DataW.TrodVars] at h
 | n::ns,d::ds,_,h=>by
  obtain ⟨g,t,cs,fuel,p,q,_,_,_,_,hs,_⟩:=h
  simp [vars_len ns ds q hs]
theorem bytes_open {H:Type} {enc:TypeId × Value→H} {w:World} {base:Nat} {held:Bool} {fuel:Nat} {v:Value} {x:DataW H × List MemPlace}
  (h:DataW.trod enc Tryz.prog w base (fun _=>true) held fuel 22 [v]=some x):∃ (a:Option Addr) (n c:Nat),v = .slice a n c∧Mill.Bytes w w.heap.size v n∧n≤c∧n≤9223372036854775807:=by
 rcases open_ints Tryz.underlying22 Tryz.underlying5 cellsU8 h with ⟨hv,_⟩ | ⟨a,len,cap,zs,hv,_,hl,hm,hz,_,hc,hw⟩
 ·cases hv
  exact ⟨none,0,0,rfl,.inl ⟨none,0,rfl,rfl⟩,by omega,by omega⟩
 ·cases hv
  have hz':zs.length=cap:=hz
  refine ⟨some a,len,cap,rfl, ?_,hl,by simp [maxLen] at hm;omega⟩
  by_cases h0:len=0
  ·subst h0
   exact .inl ⟨some a,cap,rfl,rfl⟩
  ·obtain ⟨b,o,sp⟩:=a
   have hsp:sp=none:=by
    have e0:=hc 0 (by omega)
    simp [Addr.add] at e0
    exact World.cell?_spot e0
   subst hsp
   have hadd:∀ o k,(Addr.add ⟨b,o,none⟩ k)=⟨b,o+k,none⟩:=fun o k=>by unfold Addr.add;split <;> simp_all
   have e0:=hc 0 (by omega)
   rw [hadd] at e0
   refine .inr ⟨b,o,cap,rfl,lt_of_cell e0,fun i hi => ?_⟩
   have ei:=hc i (by omega)
   rw [hadd] at ei
   have hm2:zs.getD i 0 ∈ zs:=by
    rw [List.getD_eq_getElem?_getD,List.getElem?_eq_getElem (by omega)]
    exact List.getElem_mem _
   have:=wf8 (hw _ hm2)
   exact ⟨_,this.1,this.2,ei⟩
theorem one_l {α:Type} {l:List α} (h:l.length=1):∃ a,l=[a]:=by
 match l,h with
 | [a],_=>exact ⟨a,rfl⟩
theorem lawTokens (a:Option Addr) (n c:Nat) (w:World) (hB:Mill.Bytes w w.heap.size (.slice a n c) n) (hnc:n≤c) (hn:n≤9223372036854775807) (hG:Mill.Globs w) :
  Calls Tryz.prog 3 #[.slice a n c] w fun e w'=>e = .returned (.bool true)∧Below w.heap.size w w':=by
 by_cases h:n≤1048576
 ·exact Tk.law_in (fun w v n h1 h2 h3=>Tk.drawScan w v n h1 h2 h3) w a n c hB hnc h hG
 ·go_enter Tryz.func3,Tryz.ntmps3
  go_wp2
  go_ret
  exact ⟨rfl,Below.refl _ _⟩
set_option maxRecDepth 1000000 in
theorem tkLaid (os:Os) (args:Array Value):laidMet Tryz.prog Rows.fnTokensRow.laid ((World.laidAll Tryz.prog os Rows.fnTokensRow.laid).forCall (fun _ _=>0) ⟨#[],args,[]⟩).memory :=
 laidMet_laidAll args (by kernel_rfl) (by kernel_rfl)
set_option maxRecDepth 1000000 in
theorem tkWitness (os:Os) {H:Type} (enc:TypeId × Value→H) :
  (OpenSpec.ofChange Rows.fnTokensSpec).preRow enc Tryz.prog Tryz.f3 Rows.fnTokensRow.domain false Rows.fnTokensRow.laid (((World.laidAll Tryz.prog os Rows.fnTokensRow.laid).forCall (fun _ _=>0) ⟨#[],#[.slice none 0 0],[]⟩).memory) #[.slice none 0 0]:=by
 have hw:(DataW.whole enc Tryz.prog (((World.laidAll Tryz.prog os Rows.fnTokensRow.laid).forCall (fun _ _=>0) ⟨#[],#[.slice none 0 0],[]⟩).memory) Tryz.f3.params.toList Rows.fnTokensSpec.vars false ((#[.slice none 0 0]:Array Value).toList) 8).map (fun x=>(x.1,x.2.1)) =
   some ([.nil],[Rows.laid_loop_example_kilnmill_impl_greatest]):=by kernel_rfl
 obtain ⟨⟨x1,x2,x3⟩,hx,hx1⟩:=Option.map_eq_some_iff.1 hw
 simp only [Prod.mk.injEq] at hx1
 obtain ⟨rfl,rfl⟩:=hx1
 exact OpenSpec.preRow_of_cond 8 hx (by kernel_rfl) (fun k hk=>by cases hk) (by kernel_rfl) (tkLaid os _)
theorem tkLifted (os:Os) (started:os.Started) (H:Type) (enc:TypeId × Value→H) (F:Stop.Interp) :
  ReturnsInHanded {} Tryz.checked os 3 .any ((OpenSpec.ofChange Rows.fnTokensSpec).preRow enc Tryz.prog Tryz.f3 Rows.fnTokensRow.domain false Rows.fnTokensRow.laid) (((OpenSpec.ofChange Rows.fnTokensSpec).at F).post enc Tryz.prog Tryz.f3 false true false false):=by
 refine returnsInHanded_of_row (C:=Tryz.checked) (s:=OpenSpec.ofChange Rows.fnTokensSpec) own started (by kernel_rfl) Tryz.func3
  (witness_row_atRef (enc:=enc) (C:=Tryz.checked) false (World.laidAll Tryz.prog os Rows.fnTokensRow.laid) #[.slice none 0 0] (World.laidAll_os _ _ _) (by kernel_rfl) (by kernel_rfl) (by kernel_rfl) (tkWitness os enc)) ?_
 intro W base args ds gs before hval0 hW _ _ _ hL _ _
 have hval:∀ (j:Nat) t v,Tryz.f3.params[j]? = some t→args[j]? = some v→Value.okWide Tryz.prog W .any base t v:=hval0
 have hW':=hW
 obtain ⟨p,q,hA0,hV0,rfl,_,_⟩:=hW
 have hA:DataW.TrodAll enc Tryz.prog W 0 (fun _=>true) true Tryz.f3.params.toList args.toList ds p:=hA0
 have hV:DataW.TrodVars enc Tryz.prog W (fun _=>true) ["loop.example/kilnmill/impl.greatest"] gs q:=hV0
 rw [Tryz.params3] at hA hval
 have hlt:=hA.lt
 obtain ⟨v0,d0,rfl,rfl,h0⟩:=trodAll_one hA
 obtain ⟨sa,sl,sc,rfl⟩:=okWide_slice Tryz.underlying22 (hval 0 22 v0 rfl rfl)
 have hO:∃ (a:Option Addr) (n c:Nat),Value.slice sa sl sc = .slice a n c∧Mill.Bytes W W.heap.size (.slice sa sl sc) n∧n≤c∧n≤9223372036854775807:=by
  obtain ⟨fuel,hf⟩:=h0
  exact bytes_open hf
 obtain ⟨a,n,c,hv,hB,hnc,hn⟩:=hO
 injection hv with hv1 hv2 hv3
 subst hv1;subst hv2;subst hv3
 obtain ⟨g1,hgs⟩:=one_l (vars_len _ _ _ hV)
 have hG:=globsOf hL
 clear hA0 hV0 hval0
 refine (lawTokens sa sl sc W hB hnc hn hG).mono ?_
 rintro e W' ⟨rfl,bel⟩
 have e1:((OpenSpec.ofChange Rows.fnTokensSpec).at F).fn H ([d0]++gs) = { results:=[.lit (.bool true)],args:=[d0],vars:=gs }:=by rw [hgs];rfl
 refine ⟨_,rfl,_,_,_,[],p,q,hW', ?_, ?_, ?_,bel.frame _,fun h=>by cases h⟩
 ·rw [e1];exact trodAll_mk1 (shut_bool Tryz.underlying4 _)
 ·rw [e1];exact trodAll_mk1 (Below.trod laidOut (by kernel_rfl) (of_decide_eq_true (by kernel_rfl)) h0 bel (fun p hp=>hlt p hp))
 ·rw [e1];exact Below.trodVars laidOut bel (by kernel_rfl) hV
theorem tkSaid : Rows.FnTokensSaid :=
 OpenClaim.holds_of_cond 3 Tryz.f3 rfl rfl rfl rfl rfl rfl rfl ⟨rfl,rfl,rfl,rfl,rfl⟩ rfl rfl rfl rfl rfl (by kernel_rfl) Tryz.func3 (by kernel_rfl)
  (of_decide_eq_true (by kernel_rfl)) (by unfold Func.isWrapper;first | (rw [if_pos (by decide +kernel)];kernel_rfl) | (rw [if_neg (by decide +kernel)];exact ⟨rfl,rfl⟩))
  (fun os started H enc _ F0=>by rw [OpenClaim.pre_eq_preRow];exact tkLifted os started H enc F0)
theorem tkPlain (f:FuncId) (fn:Func) (hf:Tryz.pinned.checked.prog.funcNamed "loop.example/kilnmill/laws.FnTokens" = some f) (hfn:Tryz.pinned.checked.prog.funcs[f]? = some fn) :
  true=Tryz.pinned.checked.prog.looks []∧∀ (j:Nat) t,fn.params[j]? = some t→Tryz.pinned.checked.prog.wantsStandIn t=false:=by
 obtain rfl:f=3:=Option.some.inj ((show Tryz.prog.funcNamed "loop.example/kilnmill/laws.FnTokens" = some 3 by kernel_rfl).symm.trans hf) |>.symm
 obtain rfl:fn=Tryz.f3:=(Option.some.inj (Tryz.func3.symm.trans hfn)).symm
 refine ⟨by kernel_rfl,fun j t ht => ?_⟩
 rw [Tryz.params3] at ht
 have h2:t=22:=by simpa using Array.mem_of_getElem? ht
 subst h2
 exact (show Tryz.prog.wantsStandIn 22=false by kernel_rfl)
end TkL
theorem fnTokens_holds : Rows.FnTokensCardSaid :=
 Claim7.holds_tied_plain_at .later [] _ _ _ _ TkL.tkSaid (fun _ h=>by cases h) (by kernel_rfl) (fun _ h=>by cases h) fnTokens_row_tie rfl ⟨rfl,rfl⟩ (by kernel_rfl) rfl TkL.tkPlain (by kernel_rfl)
end Go.Proofs.YtfoimmnlojjfbaaGreatDoor
