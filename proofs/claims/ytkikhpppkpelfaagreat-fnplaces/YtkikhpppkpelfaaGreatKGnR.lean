import Derived.Test.YtkikhpppkpelfaaGreatKGnQ
import Derived.Test.YtkikhpppkpelfaaGreatRows
import Derived.WalkKit
import Derived.ProofKit
import Derived.OpenShut
import Derived.OpenVars
import Derived.Lib.LaidIn
import Derived.Lib.LaidTab
import Derived.Deep.DeepHandedRow
import Derived.Deep.DeepWitnessRowRef
import Derived.SizedLaws
import Derived.ChangeVars
import Derived.ChangeSlices
import Derived.Carry
import Derived.Deep.Slices
import Derived.ChangeArms
set_option maxRecDepth 100000
set_option maxHeartbeats 2000000
namespace Go.Proofs.YtkikhpppkpelfaaGreat
namespace GnL
open Go.ChangeShapes Go.WideShapes Go.ChangeAt Go.RowKit Go.Lib Go.Deep Go.ChangeMaps
theorem own : ownKnob Tryz.prog.godebug=none:=by kernel_rfl
theorem laidOut : laidOutB Tryz.prog=true:=by kernel_rfl
theorem cellsU8 : Tryz.prog.cellsOf 5=1:=by kernel_rfl
theorem lt_cell {W:World} {b o:Nat} {v:Value} (h:W.cell? ⟨b,o,none⟩=some v):b < W.heap.size:=by
  unfold World.cell? at h
  split at h
  · rename_i hb;exact (Array.getElem?_eq_some_iff.1 hb).1
  · cases h
theorem wf8 {n:Int} (h:(Lit.int .u8 n).wf=true):0≤n∧n≤255:=by
  have e1:IntKind.u8.min=0:=by decide
  have e2:IntKind.u8.max=255:=by decide
  simp only [Lit.wf,e1,e2,Bool.and_eq_true,decide_eq_true_eq] at h
  exact h
theorem bytes_open {H:Type} {enc:TypeId × Value→H} {w:World} {base:Nat} {held:Bool} {fuel:Nat} {v:Value} {x:DataW H × List MemPlace}
    (h:DataW.trod enc Tryz.prog w base (fun _=>true) held fuel 22 [v]=some x):∃ (a:Option Addr) (n c:Nat),v = .slice a n c∧Mill.Bytes w w.heap.size v n∧n≤c∧n≤9223372036854775807:=by
  rcases open_ints Tryz.underlying22 Tryz.underlying5 cellsU8 h with ⟨hv,_⟩ | ⟨a,len,cap,zs,hv,_,hl,hm,hz,_,hc,hw⟩
  · cases hv
    exact ⟨none,0,0,rfl,.inl ⟨none,0,rfl,rfl⟩,by omega,by omega⟩
  · cases hv
    have hz':zs.length=cap:=hz
    refine ⟨some a,len,cap,rfl, ?_,hl,by simp [maxLen] at hm;omega⟩
    by_cases h0:len=0
    · subst h0
      exact .inl ⟨some a,cap,rfl,rfl⟩
    · obtain ⟨b,o,sp⟩:=a
      have hsp:sp=none:=by
        have e0:=hc 0 (by omega)
        simp [Addr.add] at e0
        exact World.cell?_spot e0
      subst hsp
      have hadd:∀ o k,(Addr.add ⟨b,o,none⟩ k)=⟨b,o+k,none⟩:=fun o k=>by unfold Addr.add;split <;> simp_all
      have e0:=hc 0 (by omega)
      rw [hadd] at e0
      refine .inr ⟨b,o,cap,rfl,lt_cell e0,fun i hi => ?_⟩
      have ei:=hc i (by omega)
      rw [hadd] at ei
      have hm2:zs.getD i 0 ∈ zs:=by
        rw [List.getD_eq_getElem?_getD,List.getElem?_eq_getElem (by omega)]
        exact List.getElem_mem _
      have:=wf8 (hw _ hm2)
      exact ⟨_,this.1,this.2,ei⟩
set_option maxRecDepth 1000000 in
theorem vvWitness (os:Os) {H:Type} (enc:TypeId × Value→H) :
    (OpenSpec.ofChange Rows.fnPlacesSpec).preRow enc Tryz.prog Tryz.f3 Rows.fnPlacesRow.domain false Rows.fnPlacesRow.laid (((World.holding Tryz.prog os ⟨#[],#[],[]⟩).forCall (fun _ _=>0) ⟨#[],#[.slice none 0 0],[]⟩).memory) #[.slice none 0 0]:=by
  have hw:(DataW.whole enc Tryz.prog (((World.holding Tryz.prog os ⟨#[],#[],[]⟩).forCall (fun _ _=>0) ⟨#[],#[.slice none 0 0],[]⟩).memory) Tryz.f3.params.toList Rows.fnPlacesSpec.vars false #[Value.slice none 0 0].toList 8).map (fun x=>(x.1,x.2.1)) =
      some ([.nil],[]):=by kernel_rfl
  obtain ⟨⟨x1,x2,x3⟩,hx,hx1⟩:=Option.map_eq_some_iff.1 hw
  simp only [Prod.mk.injEq] at hx1
  obtain ⟨rfl,rfl⟩:=hx1
  exact OpenSpec.preRow_of_cond 8 hx (by kernel_rfl) (fun k hk=>by cases hk) (by kernel_rfl) ⟨[],rfl,List.nodup_nil,fun _ _ h=>(by cases h)⟩
theorem vvLifted (os:Os) (started:os.Started) (H:Type) (enc:TypeId × Value→H) (F:Stop.Interp) :
    ReturnsInHanded {} Tryz.checked os 3 .any ((OpenSpec.ofChange Rows.fnPlacesSpec).preRow enc Tryz.prog Tryz.f3 Rows.fnPlacesRow.domain false Rows.fnPlacesRow.laid) (((OpenSpec.ofChange Rows.fnPlacesSpec).at F).post enc Tryz.prog Tryz.f3 false true false false):=by
  refine returnsInHanded_of_row (C:=Tryz.checked) (s:=OpenSpec.ofChange Rows.fnPlacesSpec) own started (by kernel_rfl) Tryz.func3
    (witness_row_atRef (enc:=enc) (C:=Tryz.checked) false (World.holding Tryz.prog os ⟨#[],#[],[]⟩) #[.slice none 0 0] rfl (by kernel_rfl) (by kernel_rfl) (by kernel_rfl) (vvWitness os enc)) ?_
  intro W base args ds gs before hval0 hW _ _ _ _ _ _
  have hval:∀ (j:Nat) t v,Tryz.f3.params[j]? = some t→args[j]? = some v→Value.okWide Tryz.prog W .any base t v:=hval0
  have hW':=hW
  obtain ⟨p,q,hA0,hV0,rfl,_,_⟩:=hW
  have hA:DataW.TrodAll enc Tryz.prog W 0 (fun _=>true) true Tryz.f3.params.toList args.toList ds p:=hA0
  have hV:DataW.TrodVars enc Tryz.prog W (fun _=>true) [] gs q:=hV0
  rw [Tryz.params3] at hA hval
  have hlt:=hA.lt
  obtain ⟨v0,d0,rfl,rfl,h0⟩:=trodAll_one hA
  obtain ⟨sa,sl,sc,rfl⟩:=okWide_slice Tryz.underlying22 (hval 0 22 v0 rfl rfl)
  have hO:∃ (a:Option Addr) (n c:Nat),Value.slice sa sl sc = .slice a n c∧Mill.Bytes W W.heap.size (.slice sa sl sc) n∧n≤c∧n≤9223372036854775807:=by
    obtain ⟨fuel,hf⟩:=h0
    exact bytes_open hf
  obtain ⟨a,n,c,hv,hB,hnc,hn⟩:=hO
  injection hv with hv1 hv2 hv3
  subst hv1;subst hv2;subst hv3
  have hgs:=trodVars_none hV
  clear hA0 hV0 hval0
  refine (Gn.lawPlaces sa sl sc W hB hnc hn).mono ?_
  rintro e W' ⟨rfl,bel⟩
  have e1:((OpenSpec.ofChange Rows.fnPlacesSpec).at F).fn H ([d0]++gs) = { results:=[.lit (.bool true)],args:=[d0],vars:=gs }:=by rw [hgs.1];rfl
  refine ⟨_,rfl,_,_,_,[],p,q,hW', ?_, ?_, ?_,bel.frame _,fun h=>by cases h⟩
  · rw [e1];exact trodAll_mk1 (shut_bool Tryz.underlying4 _)
  · rw [e1];exact trodAll_mk1 (Below.trod laidOut (by kernel_rfl) (of_decide_eq_true (by kernel_rfl)) h0 bel (fun p hp=>hlt p hp))
  · rw [e1];exact Below.trodVars laidOut bel (by kernel_rfl) hV
end GnL
theorem fnPlaces_holds : Rows.FnPlacesSaid :=
  OpenClaim.holds_of_cond 3 Tryz.f3 rfl rfl rfl rfl rfl rfl rfl ⟨rfl,rfl,rfl,rfl,rfl⟩ rfl rfl rfl rfl rfl (by kernel_rfl) Tryz.func3 (by kernel_rfl)
    (of_decide_eq_true (by kernel_rfl)) (by unfold Func.isWrapper;first | (rw [if_pos (by decide +kernel)];kernel_rfl) | (rw [if_neg (by decide +kernel)];exact ⟨rfl,rfl⟩))
    (fun os started H enc _ F0=>by rw [OpenClaim.pre_eq_preRow];exact GnL.vvLifted os started H enc F0)
end Go.Proofs.YtkikhpppkpelfaaGreat
