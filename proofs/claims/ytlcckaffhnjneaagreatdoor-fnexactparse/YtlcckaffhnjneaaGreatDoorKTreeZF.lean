import Derived.Test.YtlcckaffhnjneaaGreatDoorKTreeU
import Derived.Test.YtlcckaffhnjneaaGreatDoorKTreeZ
namespace Go.Proofs.YtlcckaffhnjneaaGreatDoor
open Go.RowKit Go.Maps Go.WideMaps
def Mill.stepOk (d:Mill.Nd) (st:List Mill.Tr):Bool:=decide (0≤d.kids) && decide (d.kids≤st.length) && Mill.useR d && Mill.fits d.kind d.op ((st.drop (st.length - d.kids.toNat)).map (fun t=>t.nd.kind)) && Mill.ndEq d (Mill.takenN d d.kids.toNat)
def Mill.growT : List Mill.Nd→List Mill.Tr→Option (List Mill.Tr)
 | [],st=>some st
 | d::r,st=>if Mill.stepOk d st=true then Mill.growT r (st.take (st.length - d.kids.toNat)++[.node d (st.drop (st.length - d.kids.toNat))]) else none
def Mill.rootOk (ns:List Mill.Nd):Bool:=decide (ns.length≤12001) && (match Mill.growT ns [] with | some [t]=>(t.nd.kind == 24) && decide (t.high≤60) | _=>false)
theorem usesAll_any (d:Mill.Nd) (P:Nat→Prop) (us:List Value) (ks:List Int) (v:Value) (w:World) (hP:∀ g,P g→g < w.heap.size) (hk:Mill.Kinded us ks) (hl:23≤d.kind→us.length≤100000) (hS:Mill.Shape P w d us v) :
  Calls Tryz.prog 75 #[Mill.ndV d,v] w fun e w'=>e = .returned (.bool (Mill.ndEq d (Mill.takenN d us.length)))∧Below w.heap.size w w':=by
 obtain ⟨h1,h2,X,rfl,hI⟩:=hS
 obtain ⟨c,o,t,y,x,k⟩:=d
 simp only at h1 h2 hl ⊢
 rcases Mill.kind24 c h1 h2 with rfl | rfl | rfl | rfl | rfl | rfl | rfl | rfl | rfl | rfl | rfl | rfl | rfl | rfl | rfl | rfl | rfl | rfl | rfl | rfl | rfl | rfl | rfl | rfl
 ·exact usesAll_1 o t y x k P us ks X w hP hk hl hI
 ·exact usesAll_2 o t y x k P us ks X w hP hk hl hI
 ·exact usesAll_3 o t y x k P us ks X w hP hk hl hI
 ·exact usesAll_4 o t y x k P us ks X w hP hk hl hI
 ·exact usesAll_5 o t y x k P us ks X w hP hk hl hI
 ·exact usesAll_6 o t y x k P us ks X w hP hk hl hI
 ·exact usesAll_7 o t y x k P us ks X w hP hk hl hI
 ·exact usesAll_8 o t y x k P us ks X w hP hk hl hI
 ·exact usesAll_9 o t y x k P us ks X w hP hk hl hI
 ·exact usesAll_10 o t y x k P us ks X w hP hk hl hI
 ·exact usesAll_11 o t y x k P us ks X w hP hk hl hI
 ·exact usesAll_12 o t y x k P us ks X w hP hk hl hI
 ·exact usesAll_13 o t y x k P us ks X w hP hk hl hI
 ·exact usesAll_14 o t y x k P us ks X w hP hk hl hI
 ·exact usesAll_15 o t y x k P us ks X w hP hk hl hI
 ·exact usesAll_16 o t y x k P us ks X w hP hk hl hI
 ·exact usesAll_17 o t y x k P us ks X w hP hk hl hI
 ·exact usesAll_18 o t y x k P us ks X w hP hk hl hI
 ·exact usesAll_19 o t y x k P us ks X w hP hk hl hI
 ·exact usesAll_20 o t y x k P us ks X w hP hk hl hI
 ·exact usesAll_21 o t y x k P us ks X w hP hk hl hI
 ·exact usesAll_22 o t y x k P us ks X w hP hk hl hI
 ·exact usesAll_23 o t y x k P us ks X w hP hk hl hI
 ·exact usesAll_24 o t y x k P us ks X w hP hk hl hI
theorem usesAll_is (b:Bool) (d:Mill.Nd) (P:Nat→Prop) (us:List Value) (ks:List Int) (m:Nat) (hm:us.length=m) (hb:Hid (Mill.ndEq d (Mill.takenN d m)=b)) (v:Value) (w:World) (hP:∀ g,P g→g < w.heap.size) (hk:Mill.Kinded us ks) (hl:23≤d.kind→us.length≤100000) (hS:Mill.Shape P w d us v) :
  Calls Tryz.prog 75 #[Mill.ndV d,v] w fun e w'=>e = .returned (.bool b)∧Below w.heap.size w w':=by
 rw [← hb.out,← hm];exact usesAll_any d P us ks v w hP hk hl hS
theorem Mill.form_of {P:Nat→Prop} {w:World} {d:Mill.Nd} {us:List Value} {ks:List Int} {v:Value} (hk:Mill.Kinded us ks) (h:Mill.Shape P w d us v):1≤d.kind∧d.kind≤24∧∃ x,v = .iface (Mill.ty d.kind) x∧Mill.Form d.kind x:=by
 obtain ⟨h1,h2,X,hv,hI⟩:=h
 refine ⟨h1,h2,X,hv,fun h => ?_,fun h => ?_,fun h => ?_,fun h => ?_⟩
 ·unfold Mill.Inner at hI
  simp (decide:=true) only [h,if_false,if_true] at hI
  obtain ⟨S,⟨a,c,hS,_⟩,hx⟩:=hI
  exact ⟨a,_,c,by rw [hx,hS]⟩
 ·unfold Mill.Inner at hI
  simp (decide:=true) only [h,if_false,if_true] at hI
  obtain ⟨S,⟨a,c,hS,_⟩,hx⟩:=hI
  exact ⟨_,a,_,c,by rw [hx,hS]⟩
 ·unfold Mill.Inner at hI
  simp (decide:=true) only [h,if_false,if_true] at hI
  exact ⟨_,_,hI.2⟩
 ·unfold Mill.Inner at hI
  simp (decide:=true) only [h,if_false,if_true] at hI
  obtain ⟨ps,SP,SB,hu,⟨a,c,hS,_⟩,hx⟩:=hI
  obtain ⟨sa,sn,sc,hB⟩:=Mill.bl_slice hk ps.length SB (by rw [hu];simp)
  exact ⟨_,_,a,_,c,sa,sn,sc,by rw [hx,hS,hB]⟩
theorem Mill.Kinded.drop {us:List Value} {ks:List Int} (h:Mill.Kinded us ks) (m:Nat):Mill.Kinded (us.drop m) (ks.drop m):=by
 refine ⟨by rw [List.length_drop,List.length_drop,h.1],fun i hi => ?_⟩
 have hi2:m+i < ks.length:=by rw [List.length_drop] at hi;omega
 obtain ⟨h1,h2,x,h3,h4⟩:=h.2 (m+i) hi2
 rw [List.getElem_drop]
 exact ⟨h1,h2,x,by rw [List.getElem?_drop];exact h3,h4⟩
theorem Mill.Kinded.take {us:List Value} {ks:List Int} (h:Mill.Kinded us ks) (m:Nat):Mill.Kinded (us.take m) (ks.take m):=by
 refine ⟨by rw [List.length_take,List.length_take,h.1],fun i hi => ?_⟩
 have hi2:i < ks.length:=by rw [List.length_take] at hi;omega
 have hi3:i < m:=by rw [List.length_take] at hi;omega
 obtain ⟨h1,h2,x,h3,h4⟩:=h.2 i hi2
 rw [List.getElem_take]
 exact ⟨h1,h2,x,by rw [List.getElem?_take,if_pos hi3];exact h3,h4⟩
theorem Mill.Kinded.snoc {us:List Value} {ks:List Int} (h:Mill.Kinded us ks) {k:Int} {x:Value} (h1:1≤k) (h2:k≤24) (hf:Mill.Form k x):Mill.Kinded (us++[.iface (Mill.ty k) x]) (ks++[k]):=by
 refine ⟨by simp [h.1],fun i hi => ?_⟩
 by_cases hi2:i < ks.length
 ·obtain ⟨h3,h4,x',h5,h6⟩:=h.2 i hi2
  rw [List.getElem_append_left hi2]
  exact ⟨h3,h4,x',by rw [List.getElem?_append_left (by rw [h.1];exact hi2)];exact h5,h6⟩
 ·have hi3:i=ks.length:=by simp at hi;omega
  subst hi3
  rw [List.getElem_append_right (Nat.le_refl _)]
  simp only [Nat.sub_self,List.getElem_cons_zero]
  exact ⟨h1,h2,x,by rw [List.getElem?_append_right (by rw [h.1];exact Nat.le_refl _),h.1];simp,hf⟩
theorem Mill.Kinded.one {us:List Value} {ks:List Int} (h:Mill.Kinded us ks):∀ u ∈ us,u.oneCell'=true:=by
 intro u hu
 obtain ⟨i,hi⟩:=List.mem_iff_getElem?.1 hu
 obtain ⟨k,y,_,_,_,rfl,_⟩:=Mill.us_at h i u hi
 rfl
theorem Mill.Reps.app {P:Nat→Prop} {w:World}:∀ (a b:List Mill.Tr) (us vs:List Value),Mill.Reps P w a us→Mill.Reps P w b vs→Mill.Reps P w (a++b) (us++vs)
 | [],b,us,vs,h,h2=>by rw [Mill.Reps] at h;subst h;exact h2
 | t::r,b,us,vs,h,h2=>by
  rw [Mill.Reps] at h
  obtain ⟨u,us',rfl,h3,h4⟩:=h
  rw [List.cons_append,List.cons_append,Mill.Reps]
  exact ⟨u,us'++vs,rfl,h3,Mill.Reps.app r b us' vs h4 h2⟩
theorem Mill.Reps.cut {P:Nat→Prop} {w:World}:∀ (m:Nat) (a:List Mill.Tr) (us:List Value),Mill.Reps P w a us→Mill.Reps P w (a.take m) (us.take m)∧Mill.Reps P w (a.drop m) (us.drop m)
 | 0,a,us,h=>by
  refine ⟨?_,by simpa using h⟩
  simp only [List.take_zero];rw [Mill.Reps]
 | m+1,[],us,h=>by
  rw [Mill.Reps] at h;subst h
  simp only [List.take_nil,List.drop_nil]
  constructor <;> rw [Mill.Reps]
 | m+1,t::r,us,h=>by
  rw [Mill.Reps] at h
  obtain ⟨u,us',rfl,h3,h4⟩:=h
  obtain ⟨h5,h6⟩:=Mill.Reps.cut m r us' h4
  simp only [List.take_succ_cons,List.drop_succ_cons]
  exact ⟨by rw [Mill.Reps];exact ⟨u,us'.take m,rfl,h3,h5⟩,h6⟩
open Go.RowKit
theorem Mill.fits60 (kd ko:Int) (ks:List Int) (h:Mill.fits kd ko ks=true) (h23:23≤kd):ks.length≤60:=by
 by_cases h1:kd=23
 ·subst h1
  by_cases h9:9 < ks.length
  ·have:Mill.fits 23 ko ks=false:=by simp [Mill.fits,Mill.fnK_no ks (.inr h9)]
   rw [this] at h;cases h
  ·omega
 ·by_cases h2:kd=24
  ·subst h2
   simp [Mill.fits] at h
   omega
  ·have hn:∀ m:Int,1≤m→m≤24→kd≠m:=fun m h3 h4=>by omega
   have:Mill.fits kd ko ks=false:=by simp [Mill.fits,hn]
   rw [this] at h;cases h
def Mill.FreeB (B:Nat) (w:World) (vt:Value):Nat→Prop:=fun g=>B≤g∧g < w.heap.size∧vt.ownBlock≠some g
theorem Mill.reps_next {wr w4 w6:World} {vt v6 v:Value} {P4:Nat→Prop} {d:Mill.Nd} {st:List Mill.Tr} {vs:List Value} {p B:Nat}
  (hR:Mill.Reps (Mill.FreeB B wr vt) wr st vs) (hK:Mill.Kinded vs (st.map (fun t=>t.nd.kind)))
  (hkeep:∀ g,Mill.FreeB B wr vt g→w6.heap[g]? = wr.heap[g]?) (hfree:∀ g,Mill.FreeB B wr vt g→Mill.FreeB B w6 v6 g)
  (hsh:Mill.Shape P4 w4 d (vs.drop p) v) (hkeep4:∀ g,P4 g→w6.heap[g]? = w4.heap[g]?) (hfree4:∀ g,P4 g→Mill.FreeB B w6 v6 g)
  (h60:23≤d.kind→(vs.drop p).length≤100000) (hl:(vs.drop p).length≤100000) :
  Mill.Reps (Mill.FreeB B w6 v6) w6 (st.take p++[.node d (st.drop p)]) (vs.take p++[v])∧Mill.Kinded (vs.take p++[v]) ((st.take p++[Mill.Tr.node d (st.drop p)]).map (fun t=>t.nd.kind)):=by
 obtain ⟨hR1,hR2⟩:=Mill.Reps.cut p st vs hR
 have hKd:Mill.Kinded (vs.drop p) ((st.drop p).map (fun t=>t.nd.kind)):=by rw [List.map_drop];exact hK.drop p
 have hKt:Mill.Kinded (vs.take p) ((st.take p).map (fun t=>t.nd.kind)):=by rw [List.map_take];exact hK.take p
 obtain ⟨k1,k2,X,hv,hf⟩:=Mill.form_of hKd hsh
 constructor
 ·refine Mill.Reps.app _ _ _ _ (Mill.Reps.below hfree hkeep _ _ hR1) ?_
  rw [Mill.Reps]
  refine ⟨v,[],rfl, ?_,by rw [Mill.Reps]⟩
  rw [Mill.Rep]
  exact ⟨vs.drop p,hsh.below hfree4 hkeep4,hKd,h60,hl,Mill.Reps.below hfree hkeep _ _ hR2⟩
 ·rw [List.map_append]
  subst hv
  exact hKt.snoc k1 k2 hf
end Go.Proofs.YtlcckaffhnjneaaGreatDoor
