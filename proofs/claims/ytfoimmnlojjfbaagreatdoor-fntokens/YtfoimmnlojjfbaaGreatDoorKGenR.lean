import Derived.Test.YtfoimmnlojjfbaaGreatDoorKTk
import Derived.Test.YtfoimmnlojjfbaaGreatDoorKGenJ
import Derived.Deep.RegionHeld3
set_option maxRecDepth 100000
set_option maxHeartbeats 4000000
namespace Go.Proofs.YtfoimmnlojjfbaaGreatDoor
open Go.RowKit
theorem Gn.set_get (l:Array Bool) (i j:Nat) (hi:i < l.size):(l.setIfInBounds i true).getD j false=(j == i || l.getD j false):=by
 by_cases e:j=i
 ·subst e;simp [hi]
 ·have e2:¬ i=j:=fun h=>e h.symm
  simp [e,e2]
theorem Gn.count_set (l:List Bool) (i:Nat) (h:l[i]? = some false):(l.set i true).count false+1=l.count false:=by
 induction l generalizing i with
 | nil=>simp at h
 | cons x t ih =>
  cases i with
  | zero=>simp at h;subst h;simp
  | succ i=>simp at h;have:=ih i h;simp [List.count_cons];omega
theorem Gn.region_inv {P:Program} {ops:Array Oper} {Q:Exit→Act→World→Prop} {md:Region.Mode} {S:World→Prop} (I:(Nat→Bool)→Act→World→Prop)
  (htop:(List.range ops.size).all (fun i=>((ops[i]?).map (·.after.all fun e=>decide (e.on < i))).getD true)=true)
  (hS:∀ L a w,I L a w→S w)
  (hstep:∀ (L:Nat→Bool) (i:Nat) (o:Oper),ops[i]? = some o→L i=false→(∀ e ∈ o.after,Region.binds md e=true→L e.on=true)→∀ a w,I L a w→∀ K':Act→World→Prop,Shut (∀ a' w',I (fun j=>j == i || L j) a' w'→K' a' w')→if Region.wanted o (yielded ops a.tmps)=true then Oper.wp P o a w K' Q else K' (a.put o.dst undef) w)
  (hdone:∀ (L:Nat→Bool),(∀ i,i < ops.size→L i=true)→∀ a w,I L a w→Q .normal a w) :
  ∀ (fuel:Nat) (listed:Array Bool) (a:Act) (w:World),listed.size=ops.size→listed.toList.count false≤fuel→I (fun j=>listed.getD j false) a w→wpAnyH P md ops Q S fuel listed a w:=by
 have hall:∀ listed:Array Bool,listed.size=ops.size→Region.ready md ops listed=[]→∀ n i,i≤n→i < ops.size→listed.getD i false=true:=by
  intro listed hs hr n
  induction n using Nat.strongRecOn with
  | ind n ih =>
   intro i hin hi
   by_cases hc:listed.getD i false=true
   ·exact hc
   ·exfalso
    have hm:i ∈ Region.ready md ops listed:=by
     rw [mem_ready]
     refine ⟨?_,ops[i],by simp [hi],fun e he hb => ?_⟩
     ·have:i < listed.size:=by omega
      simp [this] at hc ⊢;exact hc
     ·have h1:=(List.all_eq_true.1 htop) i (List.mem_range.2 hi)
      simp only [Array.getElem?_eq_getElem hi,Option.map_some,Option.getD_some] at h1
      rw [Array.all_eq_true_iff_forall_mem] at h1
      have h2:=of_decide_eq_true (h1 e he)
      exact ih e.on (by omega) e.on (Nat.le_refl _) (by omega)
    rw [hr] at hm;cases hm
 intro fuel
 induction fuel with
 | zero =>
  intro listed a w hs hc hI
  have hno:Region.ready md ops listed=[]:=by
   apply List.eq_nil_iff_forall_not_mem.2
   intro i hm
   obtain ⟨h0,o,ho,-⟩:=mem_ready.1 hm
   have hi:i < listed.size:=by rw [hs];exact (Array.getElem?_eq_some_iff.1 ho).1
   simp [hi] at h0
   have:listed.toList[i]? = some false:=by simp [hi,h0]
   have:=Gn.count_set _ _ this
   omega
  exact ⟨hno,hdone _ (fun i hi=>hall listed hs hno i i (Nat.le_refl _) hi) a w hI⟩
 | succ fuel ih =>
  intro listed a w hs hc hI
  refine ⟨fun hno=>hdone _ (fun i hi=>hall listed hs hno i i (Nat.le_refl _) hi) a w hI,fun i hm => ?_⟩
  obtain ⟨h0,o,ho,hd⟩:=mem_ready.1 hm
  have hi:i < listed.size:=by rw [hs];exact (Array.getElem?_eq_some_iff.1 ho).1
  have h1:listed.getD i false=false:=by simp [hi] at h0 ⊢;exact h0
  refine wpOp_step ho (fun K' hK=>hstep _ i o ho h1 hd a w hI K' (fun a' w' hI'=>hK a' w' ⟨hS _ _ _ hI', ?_⟩))
  refine ih _ a' w' (by simp [hs]) ?_ ?_
  ·have h2:listed.toList[i]? = some false:=by simp [hi] at h1 ⊢;exact h1
   have:=Gn.count_set _ _ h2
   simp only [Array.toList_setIfInBounds];omega
  ·have e:(fun j=>(listed.setIfInBounds i true).getD j false)=(fun j=>j == i || listed.getD j false):=funext fun j=>Gn.set_get listed i j hi
   rw [e];exact hI'
theorem Gn.region_inv0 {P:Program} {ops:Array Oper} {Q:Exit→Act→World→Prop} {md:Region.Mode} {S:World→Prop} (J:Act→(Nat→Bool)→Act→World→Prop) {fuel:Nat} {listed:Array Bool} {a0:Act} {w:World}
  (htop:(List.range ops.size).all (fun i=>((ops[i]?).map (·.after.all fun e=>decide (e.on < i))).getD true)=true)
  (hS:∀ L a w,J a0 L a w→S w)
  (hstep:∀ (L:Nat→Bool) (i:Nat) (o:Oper),ops[i]? = some o→L i=false→(∀ e ∈ o.after,Region.binds md e=true→L e.on=true)→∀ a w,J a0 L a w→∀ K':Act→World→Prop,Shut (∀ a' w',J a0 (fun j=>j == i || L j) a' w'→K' a' w')→if Region.wanted o (yielded ops a.tmps)=true then Oper.wp P o a w K' Q else K' (a.put o.dst undef) w)
  (hdone:∀ (L:Nat→Bool),(∀ i,i < ops.size→L i=true)→∀ a w,J a0 L a w→Q .normal a w)
  (hs:listed.size=ops.size) (hc:listed.toList.count false≤fuel) (h0:J a0 (fun j=>listed.getD j false) a0 w):wpAnyH P md ops Q S fuel listed a0 w :=
 Gn.region_inv (J a0) htop hS hstep hdone fuel listed a0 w hs hc h0
theorem Gn.no {b:Bool} {P:Prop} (h:b=false) (k:b=true):P:=by rw [h] at k;cases k
structure Gn.F0 (B g R P e:Nat) (w1:World) (nv:Value) (nl:List (ByteArray × Int)) (fv:Value) (F:List Gn.Sg) (ret loops count:Int) (L:Nat→Bool) (U:World) (v16 v21 v22 v23 v24 v29 v30 v31 v6:Value):Prop where
 lo:L 1=true∧L 2=true∧L 3=true∧L 4=true∧L 9=true∧L 10=true∧L 11=true∧L 12=true
 d:(L 13=true→L 5=true)∧(L 15=true→L 13=true)∧(L 16=true→L 15=true)
 fr:Gn.Fr B w1 U
 st:∃ size,Gn.St B g R (cond (L 13) (P+1+e) (cond (L 5) (P+1) P)) U nv nl fv F ret loops count size
 f0:L 0=true→∃ b,v16 = .slice (some ⟨b,0,none⟩) 2 2∧U.heap[b]? = some (.cells #[.int .i64 1,.int .i64 3] 3)
 f5:L 5=true→∃ u:Nat,u < 2∧v21 = .int .i64 (u:Int)
 f6:L 6=true→∃ b u:Nat,u < 2∧v22 = .pointer (some ⟨b,u,none⟩)∧U.heap[b]? = some (.cells #[.int .i64 1,.int .i64 3] 3)
 f7:L 7=true→∃ z,v23 = .int .i64 z
 f8:L 8=true→∃ z,v24 = .agg #[.int .i64 5,.int .i64 z,.int .i64 0,.int .i64 0,.string ⟨#[]⟩,.int .i64 0]
 f13:L 13=true→∃ a n c,v29 = .slice a n c∧Gn.Row w1.heap.size U (.slice a n c) e
 f14:L 14=true→∃ b a n c,v30 = .slice (some ⟨b,0,none⟩) 1 1∧U.heap[b]? = some (.cells #[.slice a n c] 71)∧Gn.Row w1.heap.size U (.slice a n c) e
 f15:L 15=true→∃ a n c,v31 = .slice a n c∧Gn.Row w1.heap.size U (.slice a n c) (e+1)
 f16:L 16=true→v6=v31
theorem Gn.Fr.blk {B:Nat} {U U':World} (hf:Gn.Fr B U U') {b:Nat} {cur:Array Value} {t:TypeId} (h:U.heap[b]? = some (.cells cur t)) (ht:t≠44∧t≠121):U'.heap[b]? = some (.cells cur t) :=
 (hf.keep b (Array.getElem?_eq_some_iff.1 h).1 (.inr (fun c2 t2 fr hc=>by rw [h] at hc;injection hc with hc;injection hc with _ hc _;rw [← hc];exact ht))).trans h
theorem Gn.F0.keep {B g R P e:Nat} {w1:World} {nv:Value} {nl:List (ByteArray × Int)} {fv:Value} {F:List Gn.Sg} {ret loops count:Int} {L:Nat→Bool} {U U':World} {v16 v21 v22 v23 v24 v29 v30 v31 v6:Value} (h:Gn.F0 B g R P e w1 nv nl fv F ret loops count L U v16 v21 v22 v23 v24 v29 v30 v31 v6) (hf:Gn.Fr B U U') (hst:∃ size,Gn.St B g R (cond (L 13) (P+1+e) (cond (L 5) (P+1) P)) U' nv nl fv F ret loops count size):Gn.F0 B g R P e w1 nv nl fv F ret loops count L U' v16 v21 v22 v23 v24 v29 v30 v31 v6 :=
 ⟨h.lo,h.d,h.fr.trans hf,hst,fun q=>let ⟨b,a,r⟩:=h.f0 q;⟨b,a,hf.blk r (by decide)⟩,h.f5,fun q=>let ⟨b,u,a,c,r⟩:=h.f6 q;⟨b,u,a,c,hf.blk r (by decide)⟩,h.f7,h.f8,fun q=>let ⟨a,n,c,k,r⟩:=h.f13 q;⟨a,n,c,k,r.fr hf⟩,fun q=>let ⟨b,a,n,c,k,m,r⟩:=h.f14 q;⟨b,a,n,c,k,hf.blk m (by decide),r.fr hf⟩,fun q=>let ⟨a,n,c,k,r⟩:=h.f15 q;⟨a,n,c,k,r.fr hf⟩,h.f16⟩
def Gn.p0 (a0:Act) (v16 v21 v22 v23 v24 v29 v30 v31 v6:Value):Act:=((((((((a0.put (some 16) v16).put (some 21) v21).put (some 22) v22).put (some 23) v23).put (some 24) v24).put (some 29) v29).put (some 30) v30).put (some 31) v31).put (some 6) v6
def Gn.J0 (B g R P e:Nat) (w1:World) (nv:Value) (nl:List (ByteArray × Int)) (fv:Value) (F:List Gn.Sg) (ret loops count:Int) (a0:Act) (L:Nat→Bool) (a:Act) (U:World):Prop := ∃ v16 v21 v22 v23 v24 v29 v30 v31 v6,a=Gn.p0 a0 v16 v21 v22 v23 v24 v29 v30 v31 v6∧U.cell? ⟨g,0,none⟩=some (.pointer (some ⟨R,0,none⟩))∧Gn.F0 B g R P e w1 nv nl fv F ret loops count L U v16 v21 v22 v23 v24 v29 v30 v31 v6
theorem Gn.integer_any {B g R P d:Nat} {w:World} {nv:Value} {nl:List (ByteArray × Int)} {fv:Value} {F:List Gn.Sg} {ret loops count size:Int} (HE:Hid (Gn.ExprIs B g R d)) (h:Gn.St B g R P w nv nl fv F ret loops count size) (hP:P+4 * Gn.eb d+50≤700000000) (t:Int) :
    Calls Tryz.prog 113 #[.pointer (some ⟨g,0,none⟩),.int .i64 t,.int .i64 ((d:Int)+1)] w (Gn.XPost B g R (P+4 * Gn.eb d+50) (4 * Gn.eb d+50) w nv nl fv F ret loops count):=by
  have HS:Hid (Gn.St B g R P w nv nl fv F ret loops count size):=h
  have hep:=Gn.eb_pos d
  have g0:=h.cells.1
  have hdb:d≤700000000:=by
    have:d < 5 ^ d:=Nat.lt_pow_self (by omega)
    unfold Gn.eb at hP;omega
  clear h
  have hwd:wrap64 ((d:Int)+1 - 1)=(d:Int):=by rw [show (d:Int)+1 - 1=(d:Int) by omega];exact IntWalk.wrap64_in _ (by omega)
  have hwd2:(d:Int)+1 - 1=(d:Int):=by omega
  go_enter Tryz.func113,Tryz.ntmps113
  go_wp2_with fail
  refine (Gn.pick_any HS.out 10 (by omega) (by omega) (by omega)).mono ?_
  rintro e w1 ⟨v,rfl,hv,hs1,hf1⟩
  have g1:=hs1.cells.1
  have hz1:=hf1.size
  clear g0
  have hd:v=0∨v=1∨v=2∨v=3∨4≤v:=by omega
  rcases hd with rfl | rfl | rfl | rfl | hv4
  · have hwi:IntKind.i64.wrap (d:Int)=(d:Int):=(IntWalk.i64_left _).trans (IntWalk.wrap64_in _ (by omega))
    go_wp2_with fail
    refine wp_region_held_drew (S:=(fun W=>W.cell? ⟨g,0,none⟩=some (.pointer (some ⟨R,0,none⟩)))) (by kernel_rfl) (g1) (fun hHeld => ?_)
    refine Tk 1 (.pointer (some ⟨g,0,none⟩)) rfl ?_
    try simp [Act.put]
    refine Tk 2 (.pointer (some ⟨g,0,none⟩)) rfl ?_
    try simp [Act.put]
    refine Tk 3 (.pointer (some ⟨g,0,none⟩)) rfl ?_
    try simp [Act.put]
    refine Tk 4 (.pointer (some ⟨R,0,none⟩)) rfl ?_
    try simp [Act.put]
    refine Tk 9 (.pointer (some ⟨g,0,none⟩)) rfl ?_
    try simp [Act.put]
    refine Tk 10 (.int .i64 t) rfl ?_
    try simp [Act.put]
    refine Tk 11 (.int .i64 ((d:Int)+1)) rfl ?_
    try simp [Act.put]
    refine Tk 12 (.int .i64 (d:Int)) rfl ?_
    try simp [Act.put]
    refine Gn.region_inv0 (Gn.J0 B g R (P+1) (Gn.eb d) w1 nv nl fv F ret loops count) (by kernel_rfl) (fun L a U h=>by obtain ⟨_,_,_,_,_,_,_,_,_,_,hs,_⟩:=h;exact hs) ?step0 ?done0 (by rfl) (by decide) ⟨undef,undef,undef,undef,undef,undef,undef,undef,.slice none 0 0,by simp only [Gn.p0,Act.put,List.setIfInBounds_toArray,List.set_cons_zero,List.set_cons_succ],hHeld, ?start0⟩
    case start0=>exact ⟨⟨rfl,rfl,rfl,rfl,rfl,rfl,rfl,rfl⟩,⟨(fun q=>nomatch q),(fun q=>nomatch q),(fun q=>nomatch q)⟩,(Gn.Fr.refl _ _).drew,⟨size,hs1.below ((Below.refl _ w1).drew)⟩,(fun q=>nomatch q),(fun q=>nomatch q),(fun q=>nomatch q),(fun q=>nomatch q),(fun q=>nomatch q),(fun q=>nomatch q),(fun q=>nomatch q),(fun q=>nomatch q),(fun q=>nomatch q)⟩
    case step0 =>
      clear hHeld g1
      intro L i o hoi hLi hdep a' U hI K' hK
      obtain ⟨v16,v21,v22,v23,v24,v29,v30,v31,v6,rfl,hS,hF⟩:=hI
      have hi:i < 17:=(Array.getElem?_eq_some_iff.1 hoi).1
      simp only [Gn.p0,Act.put,List.setIfInBounds_toArray,List.set_cons_zero,List.set_cons_succ]
      obtain ⟨sz,hst⟩:=hF.st
      have hzU:=hF.fr.size
      obtain rfl | rfl | rfl | rfl | rfl | rfl | rfl | rfl | rfl | rfl | rfl | rfl | rfl | rfl | rfl | rfl | rfl:i=0∨i=1∨i=2∨i=3∨i=4∨i=5∨i=6∨i=7∨i=8∨i=9∨i=10∨i=11∨i=12∨i=13∨i=14∨i=15∨i=16:=by omega
      · obtain rfl:=Option.some.inj hoi
        have hb:=(Below.refl _ U).alloc (Nat.le_refl _) (.cells #[.int .i64 1,.int .i64 3] 3)
        have hk:=hF.keep (Gn.Fr.of_below hb) ⟨sz,hst.below hb⟩
        go_simp
        exact hK.out _ _ ⟨.slice (some ⟨U.heap.size,0,none⟩) 2 2,v21,v22,v23,v24,v29,v30,v31,v6,by simp only [Gn.p0,Act.put,List.setIfInBounds_toArray,List.set_cons_zero,List.set_cons_succ],Gn.ca hS,⟨hF.lo,hF.d,hk.fr,hk.st,fun _=>⟨_,rfl,World.alloc_heap_new U _⟩,hk.f5,hk.f6,hk.f7,hk.f8,hk.f13,hk.f14,hk.f15,hk.f16⟩⟩
      · exact Gn.no hLi hF.lo.1
      · exact Gn.no hLi hF.lo.2.1
      · exact Gn.no hLi hF.lo.2.2.1
      · exact Gn.no hLi hF.lo.2.2.2.1
      · obtain rfl:=Option.some.inj hoi
        have h13:L 13=false:=by cases e:L 13 with | false=>rfl | true=>exact Gn.no hLi (hF.d.1 e)
        rw [h13,hLi] at hst
        change Gn.St B g R (P+1) U nv nl fv F ret loops count sz at hst
        go_simp
        refine (Gn.pick_any hst 2 (by omega) (by omega) (by omega)).mono ?_
        rintro e U' ⟨u,rfl,hu,hs',hf'⟩
        try go_wp2
        have hk:Gn.F0 B g R (P+1) (Gn.eb d) w1 nv nl fv F ret loops count (fun j=>j == 5 || L j) U' v16 (.int .i64 (u:Int)) v22 v23 v24 v29 v30 v31 v6:=by
          refine ⟨hF.lo,⟨fun _=>rfl,hF.d.2⟩,hF.fr.trans hf',⟨sz, ?_⟩,fun q=>let ⟨b,a,r⟩:=hF.f0 q;⟨b,a,hf'.blk r (by decide)⟩,fun _=>⟨u,by omega,rfl⟩,fun q=>let ⟨b,u,a,c,r⟩:=hF.f6 q;⟨b,u,a,c,hf'.blk r (by decide)⟩,hF.f7,hF.f8,fun q=>let ⟨a,n,c,k,r⟩:=hF.f13 q;⟨a,n,c,k,r.fr hf'⟩,fun q=>let ⟨b,a,n,c,k,m,r⟩:=hF.f14 q;⟨b,a,n,c,k,hf'.blk m (by decide),r.fr hf'⟩,fun q=>let ⟨a,n,c,k,r⟩:=hF.f15 q;⟨a,n,c,k,r.fr hf'⟩,hF.f16⟩
          show Gn.St B g R (cond (L 13) _ (P+1+1)) U' nv nl fv F ret loops count sz
          rw [h13];exact hs'
        exact hK.out _ _ ⟨v16,.int .i64 (u:Int),v22,v23,v24,v29,v30,v31,v6,by simp only [Gn.p0,Act.put,List.setIfInBounds_toArray,List.set_cons_zero,List.set_cons_succ],hs'.cells.1,hk⟩
      · obtain rfl:=Option.some.inj hoi
        obtain ⟨b,rfl,hb⟩:=hF.f0 (hdep ⟨0,.data⟩ (by simp) rfl)
        obtain ⟨u,hu,rfl⟩:=hF.f5 (hdep ⟨5,.data⟩ (by simp) rfl)
        have huI:(u:Int) < 2:=by omega
        go_simp
        exact hK.out _ _ ⟨.slice (some ⟨b,0,none⟩) 2 2,.int .i64 (u:Int),.pointer (some ⟨b,u,none⟩),v23,v24,v29,v30,v31,v6,by simp only [Gn.p0,Act.put,List.setIfInBounds_toArray,List.set_cons_zero,List.set_cons_succ],hS,⟨hF.lo,hF.d,hF.fr,hF.st,hF.f0,hF.f5,fun _=>⟨b,u,hu,rfl,hb⟩,hF.f7,hF.f8,hF.f13,hF.f14,hF.f15,hF.f16⟩⟩
      · obtain rfl:=Option.some.inj hoi
        obtain ⟨b,u,hu,rfl,hb⟩:=hF.f6 (hdep ⟨6,.data⟩ (by simp) rfl)
        obtain ⟨z,hz⟩:∃ z:Int,U.cell? ⟨b,u,none⟩=some (.int .i64 z):=by
          have hu2:u=0∨u=1:=by omega
          rcases hu2 with rfl | rfl
          · exact ⟨1,by rw [Lib.cell_of_heap hb];rfl⟩
          · exact ⟨3,by rw [Lib.cell_of_heap hb];rfl⟩
        go_simp
        exact hK.out _ _ ⟨v16,v21,.pointer (some ⟨b,u,none⟩),.int .i64 z,v24,v29,v30,v31,v6,by simp only [Gn.p0,Act.put,List.setIfInBounds_toArray,List.set_cons_zero,List.set_cons_succ],hS,⟨hF.lo,hF.d,hF.fr,hF.st,hF.f0,hF.f5,hF.f6,fun _=>⟨z,rfl⟩,hF.f8,hF.f13,hF.f14,hF.f15,hF.f16⟩⟩
      · obtain rfl:=Option.some.inj hoi
        obtain ⟨z,rfl⟩:=hF.f7 (hdep ⟨7,.data⟩ (by simp) rfl)
        go_simp
        exact hK.out _ _ ⟨v16,v21,v22,.int .i64 z,.agg #[.int .i64 5,.int .i64 z,.int .i64 0,.int .i64 0,.string ⟨#[]⟩,.int .i64 0],v29,v30,v31,v6,by simp only [Gn.p0,Act.put,List.setIfInBounds_toArray,List.set_cons_zero,List.set_cons_succ],hS,⟨hF.lo,hF.d,hF.fr,hF.st,hF.f0,hF.f5,hF.f6,hF.f7,fun _=>⟨z,rfl⟩,hF.f13,hF.f14,hF.f15,hF.f16⟩⟩
      · exact Gn.no hLi hF.lo.2.2.2.2.1
      · exact Gn.no hLi hF.lo.2.2.2.2.2.1
      · exact Gn.no hLi hF.lo.2.2.2.2.2.2.1
      · exact Gn.no hLi hF.lo.2.2.2.2.2.2.2
      · obtain rfl:=Option.some.inj hoi
        have h5:=hdep ⟨5,.chain⟩ (by simp) rfl
        have h15:L 15=false:=by cases e:L 15 with | false=>rfl | true=>exact Gn.no hLi (hF.d.2.1 e)
        rw [hLi,h5] at hst
        change Gn.St B g R (P+1+1) U nv nl fv F ret loops count sz at hst
        go_simp
        refine (HE.out _ U nv nl _ F ret loops count sz t hst (by omega)).mono ?_
        rintro e U' ⟨a,n,c,s',rfl,hr',hs',hf'⟩
        try go_wp2
        have hk:Gn.F0 B g R (P+1) (Gn.eb d) w1 nv nl fv F ret loops count (fun j=>j == 13 || L j) U' v16 v21 v22 v23 v24 (.slice a n c) v30 v31 v6 :=
          ⟨hF.lo,⟨fun _=>h5,fun _=>rfl,hF.d.2.2⟩,hF.fr.trans hf',⟨s',hs'⟩,fun q=>let ⟨b,a,r⟩:=hF.f0 q;⟨b,a,hf'.blk r (by decide)⟩,hF.f5,fun q=>let ⟨b,u,a,c,r⟩:=hF.f6 q;⟨b,u,a,c,hf'.blk r (by decide)⟩,hF.f7,hF.f8,fun _=>⟨a,n,c,rfl,hr'.mono hzU (Nat.le_refl _)⟩,fun q=>let ⟨b,a,n,c,k,m,r⟩:=hF.f14 q;⟨b,a,n,c,k,hf'.blk m (by decide),r.fr hf'⟩,fun q=>let ⟨a,n,c,k,r⟩:=hF.f15 q;⟨a,n,c,k,r.fr hf'⟩,hF.f16⟩
        exact hK.out _ _ ⟨v16,v21,v22,v23,v24,.slice a n c,v30,v31,v6,by simp only [Gn.p0,Act.put,List.setIfInBounds_toArray,List.set_cons_zero,List.set_cons_succ],hs'.cells.1,hk⟩
      · obtain rfl:=Option.some.inj hoi
        obtain ⟨a,n,c,rfl,hr⟩:=hF.f13 (hdep ⟨13,.data⟩ (by simp) rfl)
        have hb:=(Below.refl _ U).alloc (Nat.le_refl _) (.cells #[.slice a n c] 71)
        have hk:=hF.keep (Gn.Fr.of_below hb) ⟨sz,hst.below hb⟩
        go_simp
        exact hK.out _ _ ⟨v16,v21,v22,v23,v24,.slice a n c,.slice (some ⟨U.heap.size,0,none⟩) 1 1,v31,v6,by simp only [Gn.p0,Act.put,List.setIfInBounds_toArray,List.set_cons_zero,List.set_cons_succ],Gn.ca hS,⟨hF.lo,hF.d,hk.fr,hk.st,hk.f0,hk.f5,hk.f6,hk.f7,hk.f8,hk.f13,fun _=>⟨_,a,n,c,rfl,World.alloc_heap_new U _,hr.fr (Gn.Fr.of_below (B:=B) hb)⟩,hk.f15,hk.f16⟩⟩
      · obtain rfl:=Option.some.inj hoi
        have h13:=hdep ⟨13,.chain⟩ (by simp) rfl
        obtain ⟨z,rfl⟩:=hF.f8 (hdep ⟨8,.data⟩ (by simp) rfl)
        obtain ⟨b,a,n,c,rfl,hb,hr⟩:=hF.f14 (hdep ⟨14,.data⟩ (by simp) rfl)
        skip
        go_simp
        refine (Gn.over_of ⟨5,z,0,0,⟨#[]⟩,0⟩ Gn.no_text [.slice a n c] (Gn.eb d) (some ⟨b,0,none⟩) 1 U (fun i v hi=>⟨b,rfl,by rw [Lib.cell_of_heap hb];simpa using hi⟩) (fun v hv=>by simp at hv;subst hv;exact ⟨_,hr⟩) (by simp) (by simp;omega)).mono ?_
        rintro e U' ⟨az,nz,cz,rfl,hrz,hbz⟩
        try go_wp2
        have hk:=hF.keep (Gn.Fr.of_below hbz) ⟨sz,hst.below hbz⟩
        exact hK.out _ _ ⟨v16,v21,v22,v23,.agg #[.int .i64 5,.int .i64 z,.int .i64 0,.int .i64 0,.string ⟨#[]⟩,.int .i64 0],v29,.slice (some ⟨b,0,none⟩) 1 1,.slice az nz cz,v6,by simp only [Gn.p0,Act.put,List.setIfInBounds_toArray,List.set_cons_zero,List.set_cons_succ],(hst.below hbz).cells.1,⟨hF.lo,⟨hF.d.1,fun _=>h13,fun _=>rfl⟩,hk.fr,hk.st,hk.f0,hk.f5,hk.f6,hk.f7,hk.f8,hk.f13,hk.f14,fun _=>⟨az,nz,cz,rfl,hrz.mono hzU (by simp)⟩,fun q=>Gn.no hLi (hF.d.2.2 q)⟩⟩
      · obtain rfl:=Option.some.inj hoi
        obtain ⟨a,n,c,rfl,hr⟩:=hF.f15 (hdep ⟨15,.data⟩ (by simp) rfl)
        go_simp
        exact hK.out _ _ ⟨v16,v21,v22,v23,v24,v29,v30,.slice a n c,.slice a n c,by simp only [Gn.p0,Act.put,List.setIfInBounds_toArray,List.set_cons_zero,List.set_cons_succ],hS,⟨hF.lo,⟨hF.d.1,hF.d.2.1,fun _=>hdep ⟨15,.data⟩ (by simp) rfl⟩,hF.fr,hF.st,hF.f0,hF.f5,hF.f6,hF.f7,hF.f8,hF.f13,hF.f14,hF.f15,fun _=>rfl⟩⟩
    case done0 =>
      clear hHeld g1
      intro L hL a' U hI
      obtain ⟨v16,v21,v22,v23,v24,v29,v30,v31,v6,rfl,hS,hF⟩:=hI
      obtain ⟨sz,hst⟩:=hF.st
      rw [hL 13 (by decide)] at hst
      change Gn.St B g R (P+1+1+Gn.eb d) U nv nl fv F ret loops count sz at hst
      obtain ⟨a,n,c,e31,hr⟩:=hF.f15 (hL 15 (by decide))
      obtain rfl:=hF.f16 (hL 16 (by decide))
      subst e31
      have hfU:=hF.fr
      simp only [Gn.p0,Act.put,List.setIfInBounds_toArray,List.set_cons_zero,List.set_cons_succ]
      clear hF hL hS
      go_wp2_with fail
      go_ret
      exact ⟨a,n,c,sz,rfl,hr.mono (by omega) (by omega),hst.mono (by omega),hf1.trans hfU⟩
  · go_wp2_with fail
    refine (Gn.pick_any hs1 8 (by omega) (by omega) (by omega)).mono ?_
    rintro e wx1 ⟨u,rfl,hu,hsx1,hfx1⟩
    have qx1:=hsx1.cells.1
    have hzx1:=hfx1.size
    go_wp2_with fail
    refine (HE.out _ wx1 nv nl _ F ret loops count size _ hsx1 (by omega)).mono ?_
    rintro e wx2 ⟨ax2,nx2,cx2,szx2,rfl,hrx2,hsx2,hfx2⟩
    have qx2:=hsx2.cells.1
    have hzx2:=hfx2.size
    go_wp2_with fail
    refine (Gn.over1 ⟨9,0,t,0,⟨#[]⟩,0⟩ Gn.no_text (hrx2.mono (Nat.le_refl _) (show _≤Gn.eb d by omega)) (by omega)).mono ?_
    rintro e wz ⟨az,nz,cz,rfl,hrz,hbz⟩
    go_wp2_with fail
    go_ret
    exact ⟨az,nz,cz,szx2,rfl,hrz.mono (by omega) (by omega),(hsx2.below hbz).mono (by omega),((hf1.trans hfx1).trans hfx2).trans (Gn.Fr.of_below hbz)⟩
  · by_cases ht:t=10
    · subst ht
      go_wp2_with fail
      refine (Gn.pick_any hs1 3 (by omega) (by omega) (by omega)).mono ?_
      rintro e w2 ⟨y,rfl,hy,hs2,hf2⟩
      have g2:=hs2.cells.1
      have hz2:=hf2.size
      have hd2:y=0∨y=1∨y=2:=by omega
      rcases hd2 with rfl | rfl | rfl
      · go_wp2_with fail
        refine (HE.out _ w2 nv nl _ F ret loops count size 2 hs2 (by omega)).mono ?_
        rintro e wx1 ⟨ax1,nx1,cx1,szx1,rfl,hrx1,hsx1,hfx1⟩
        have qx1:=hsx1.cells.1
        have hzx1:=hfx1.size
        go_wp2_with fail
        refine (Gn.built1 6 (hrx1.mono (Nat.le_refl _) (show _≤Gn.eb d by omega)) (by omega)).mono ?_
        rintro e wz ⟨az,nz,cz,rfl,hrz,hbz⟩
        go_wp2_with fail
        go_ret
        exact ⟨az,nz,cz,szx1,rfl,hrz.mono (by omega) (by omega),(hsx1.below hbz).mono (by omega),((hf1.trans hf2).trans hfx1).trans (Gn.Fr.of_below hbz)⟩
      · go_wp2_with fail
        refine (HE.out _ w2 nv nl _ F ret loops count size 2 hs2 (by omega)).mono ?_
        rintro e wx1 ⟨ax1,nx1,cx1,szx1,rfl,hrx1,hsx1,hfx1⟩
        have qx1:=hsx1.cells.1
        have hzx1:=hfx1.size
        go_wp2_with fail
        refine (HE.out _ wx1 nv nl _ F ret loops count szx1 2 hsx1 (by omega)).mono ?_
        rintro e wx2 ⟨ax2,nx2,cx2,szx2,rfl,hrx2,hsx2,hfx2⟩
        have qx2:=hsx2.cells.1
        have hzx2:=hfx2.size
        go_wp2_with fail
        refine (Gn.built2 9 ((hrx1.fr hfx2).mono (Nat.le_refl _) (show _≤Gn.eb d by omega)) (hrx2.mono (Nat.le_refl _) (show _≤Gn.eb d by omega)) (by omega)).mono ?_
        rintro e wz ⟨az,nz,cz,rfl,hrz,hbz⟩
        go_wp2_with fail
        go_ret
        exact ⟨az,nz,cz,szx2,rfl,hrz.mono (by omega) (by omega),(hsx2.below hbz).mono (by omega),(((hf1.trans hf2).trans hfx1).trans hfx2).trans (Gn.Fr.of_below hbz)⟩
      · go_wp2_with fail
        refine (HE.out _ w2 nv nl _ F ret loops count size 2 hs2 (by omega)).mono ?_
        rintro e wx1 ⟨ax1,nx1,cx1,szx1,rfl,hrx1,hsx1,hfx1⟩
        have qx1:=hsx1.cells.1
        have hzx1:=hfx1.size
        go_wp2_with fail
        refine (Gn.built1 12 (hrx1.mono (Nat.le_refl _) (show _≤Gn.eb d by omega)) (by omega)).mono ?_
        rintro e wz ⟨az,nz,cz,rfl,hrz,hbz⟩
        go_wp2_with fail
        go_ret
        exact ⟨az,nz,cz,szx1,rfl,hrz.mono (by omega) (by omega),(hsx1.below hbz).mono (by omega),((hf1.trans hf2).trans hfx1).trans (Gn.Fr.of_below hbz)⟩
    · have e1:(t == 10)=false:=by simpa using ht
      by_cases ht3:t=3
      · subst ht3
        have hwi:IntKind.i64.wrap (d:Int)=(d:Int):=(IntWalk.i64_left _).trans (IntWalk.wrap64_in _ (by omega))
        go_wp2_with fail
        refine wp_region_held_drew (S:=(fun W=>W.cell? ⟨g,0,none⟩=some (.pointer (some ⟨R,0,none⟩)))) (by kernel_rfl) (g1) (fun hHeld => ?_)
        refine Tk 0 (.pointer (some ⟨g,0,none⟩)) rfl ?_
        try simp [Act.put]
        refine Tk 1 (.int .i64 ((d:Int)+1)) rfl ?_
        try simp [Act.put]
        refine Tk 2 (.int .i64 (d:Int)) rfl ?_
        try simp [Act.put]
        refine Tk 4 (.pointer (some ⟨g,0,none⟩)) rfl ?_
        try simp [Act.put]
        refine Tk 5 (.pointer (some ⟨g,0,none⟩)) rfl ?_
        try simp [Act.put]
        refine Tk 6 (.pointer (some ⟨g,0,none⟩)) rfl ?_
        try simp [Act.put]
        refine Tk 7 (.pointer (some ⟨R,0,none⟩)) rfl ?_
        try simp [Act.put]
        have hsd:=hs1.below ((Below.refl _ w1).drew)
        have hzd:w1.drew.heap.size=w1.heap.size:=rfl
        refine wpAnyH_ready (rs:=[3]) (by kernel_rfl) (by simp) ?_
        refine AllReadyH.cons rfl (fun KK hK => ?_) AllReadyH.nil
        go_simp
        refine (HE.out _ w1.drew nv nl _ F ret loops count size 2 hsd (by omega)).mono ?_
        rintro e wx1 ⟨ax1,nx1,cx1,szx1,rfl,hrx1,hsx1,hfx1⟩
        have qx1:=hsx1.cells.1
        have hzx1:=hfx1.size
        go_wp2
        refine hK.out _ _ (qx1) (fun hHeld => ?_)
        clear hK
        try simp [Act.put]
        refine wpAnyH_ready (rs:=[8]) (by kernel_rfl) (by simp) ?_
        refine AllReadyH.cons rfl (fun KK hK => ?_) AllReadyH.nil
        go_simp
        refine (Gn.pick_any hsx1 3 (by omega) (by omega) (by omega)).mono ?_
        rintro e wx2 ⟨u,rfl,hu,hsx2,hfx2⟩
        have qx2:=hsx2.cells.1
        have hzx2:=hfx2.size
        go_wp2
        refine hK.out _ _ (qx2) (fun hHeld => ?_)
        clear hK
        try simp [Act.put]
        refine wpAnyH_ready (rs:=[9]) (by kernel_rfl) (by simp) ?_
        refine AllReadyH.cons rfl (fun KK hK => ?_) AllReadyH.nil
        go_simp
        refine (Gn.int_any 10 (u:Int) wx2).mono ?_
        rintro e wx3 ⟨ax3,nx3,cx3,rfl,hrx3,hbx3⟩
        have hfx3:Gn.Fr B wx2 wx3:=Gn.Fr.of_below hbx3
        have hsx3:=hsx2.below hbx3
        have qx3:=hsx3.cells.1
        have hzx3:=hfx3.size
        go_wp2
        refine hK.out _ _ (qx3) (fun hHeld => ?_)
        clear hK
        try simp [Act.put]
        refine wpAnyH_ready (rs:=[10]) (by kernel_rfl) (by simp) ?_
        refine AllReadyH.cons rfl (fun KK hK => ?_) AllReadyH.nil
        go_simp
        refine hK.out _ _ (Gn.ca qx3) (fun hHeld => ?_)
        clear hK
        try simp [Act.put]
        refine wpAnyH_ready (rs:=[11]) (by kernel_rfl) (by simp) ?_
        refine AllReadyH.cons rfl (fun KK hK => ?_) AllReadyH.nil
        go_simp
        refine (Gn.built2 7 (((hrx1.fr hfx2).fr hfx3).mono (Nat.le_refl _) (show _≤Gn.eb d by omega)) (hrx3.mono (Nat.le_refl _) (show _≤Gn.eb d by omega)) (by omega)).mono ?_
        rintro e wz ⟨az,nz,cz,rfl,hrz,hbz⟩
        have hsz:=(hsx3.below hbz)
        go_wp2
        refine hK.out _ _ (hsz.cells.1) (fun hHeld => ?_)
        clear hK
        try simp [Act.put]
        refine Tk 12 (.slice az nz cz) rfl ?_
        try simp [Act.put]
        refine wpAnyH_done (by kernel_rfl) ?_ _
        go_wp2_with fail
        go_ret
        exact ⟨az,nz,cz,szx1,rfl,hrz.mono (by omega) (by omega),(hsx3.below hbz).mono (by omega),(((hf1.drew.trans hfx1).trans hfx2).trans hfx3).trans (Gn.Fr.of_below hbz)⟩
      · have e2:(t == 3)=false:=by simpa using ht3
        go_wp2_with fail
        refine (Gn.pick_any hs1 10 (by omega) (by omega) (by omega)).mono ?_
        rintro e wy1 ⟨u,rfl,hu,hsy1,hfy1⟩
        have qy1:=hsy1.cells.1
        have hzy1:=hfy1.size
        go_wp2_with fail
        refine (HE.out _ wy1 nv nl _ F ret loops count size t hsy1 (by omega)).mono ?_
        rintro e wy2 ⟨ay2,ny2,cy2,szy2,rfl,hry2,hsy2,hfy2⟩
        have qy2:=hsy2.cells.1
        have hzy2:=hfy2.size
        go_wp2_with fail
        refine (HE.out _ wy2 nv nl _ F ret loops count szy2 t hsy2 (by omega)).mono ?_
        rintro e wy3 ⟨ay3,ny3,cy3,szy3,rfl,hry3,hsy3,hfy3⟩
        have qy3:=hsy3.cells.1
        have hzy3:=hfy3.size
        go_wp2_with fail
        refine (Gn.bin _ ((hry2.fr hfy3).mono (Nat.le_refl _) (show _≤Gn.eb d by omega)) (hry3.mono (Nat.le_refl _) (show _≤Gn.eb d by omega)) (by omega)).mono ?_
        rintro e wz ⟨az,nz,cz,rfl,hrz,hbz⟩
        go_wp2_with fail
        go_ret
        exact ⟨az,nz,cz,szy3,rfl,hrz.mono (by omega) (by omega),(hsy3.below hbz).mono (by omega),(((hf1.trans hfy1).trans hfy2).trans hfy3).trans (Gn.Fr.of_below hbz)⟩
  · go_wp2_with fail
    refine (Gn.call_any HE hs1 (by omega) t).mono ?_
    rintro e w2 ⟨a2,n2,c2,b2,s2,rfl,hr2,hs2,hf2⟩
    have hz2:=hf2.size
    cases b2 with
    | true =>
      change Gn.St B g R (P+1+1+3 * Gn.eb d) w2 nv nl fv F ret loops count s2 at hs2
      go_wp2_with fail
      go_ret
      exact ⟨a2,n2,c2,s2,rfl,hr2.mono (by omega) (by omega),hs2.mono (by omega),hf1.trans hf2⟩
    | false =>
      change Gn.St B g R (P+1+1) w2 nv nl fv F ret loops count s2 at hs2
      have g2:=hs2.cells.1
      go_wp2_with fail
      refine (Gn.pick_any hs2 10 (by omega) (by omega) (by omega)).mono ?_
      rintro e wy1 ⟨u,rfl,hu,hsy1,hfy1⟩
      have qy1:=hsy1.cells.1
      have hzy1:=hfy1.size
      go_wp2_with fail
      refine (HE.out _ wy1 nv nl _ F ret loops count s2 t hsy1 (by omega)).mono ?_
      rintro e wy2 ⟨ay2,ny2,cy2,szy2,rfl,hry2,hsy2,hfy2⟩
      have qy2:=hsy2.cells.1
      have hzy2:=hfy2.size
      go_wp2_with fail
      refine (HE.out _ wy2 nv nl _ F ret loops count szy2 t hsy2 (by omega)).mono ?_
      rintro e wy3 ⟨ay3,ny3,cy3,szy3,rfl,hry3,hsy3,hfy3⟩
      have qy3:=hsy3.cells.1
      have hzy3:=hfy3.size
      go_wp2_with fail
      refine (Gn.bin _ ((hry2.fr hfy3).mono (Nat.le_refl _) (show _≤Gn.eb d by omega)) (hry3.mono (Nat.le_refl _) (show _≤Gn.eb d by omega)) (by omega)).mono ?_
      rintro e wz ⟨az,nz,cz,rfl,hrz,hbz⟩
      go_wp2_with fail
      go_ret
      exact ⟨az,nz,cz,szy3,rfl,hrz.mono (by omega) (by omega),(hsy3.below hbz).mono (by omega),((((hf1.trans hf2).trans hfy1).trans hfy2).trans hfy3).trans (Gn.Fr.of_below hbz)⟩
  · have f0:((v:Int) == 0)=false:=by simp;omega
    have f1:((v:Int) == 1)=false:=by simp;omega
    have f2:((v:Int) == 2)=false:=by simp;omega
    have f3:((v:Int) == 3)=false:=by simp;omega
    go_wp2_with fail
    refine (Gn.pick_any hs1 10 (by omega) (by omega) (by omega)).mono ?_
    rintro e wy1 ⟨u,rfl,hu,hsy1,hfy1⟩
    have qy1:=hsy1.cells.1
    have hzy1:=hfy1.size
    go_wp2_with fail
    refine (HE.out _ wy1 nv nl _ F ret loops count size t hsy1 (by omega)).mono ?_
    rintro e wy2 ⟨ay2,ny2,cy2,szy2,rfl,hry2,hsy2,hfy2⟩
    have qy2:=hsy2.cells.1
    have hzy2:=hfy2.size
    go_wp2_with fail
    refine (HE.out _ wy2 nv nl _ F ret loops count szy2 t hsy2 (by omega)).mono ?_
    rintro e wy3 ⟨ay3,ny3,cy3,szy3,rfl,hry3,hsy3,hfy3⟩
    have qy3:=hsy3.cells.1
    have hzy3:=hfy3.size
    go_wp2_with fail
    refine (Gn.bin _ ((hry2.fr hfy3).mono (Nat.le_refl _) (show _≤Gn.eb d by omega)) (hry3.mono (Nat.le_refl _) (show _≤Gn.eb d by omega)) (by omega)).mono ?_
    rintro e wz ⟨az,nz,cz,rfl,hrz,hbz⟩
    go_wp2_with fail
    go_ret
    exact ⟨az,nz,cz,szy3,rfl,hrz.mono (by omega) (by omega),(hsy3.below hbz).mono (by omega),(((hf1.trans hfy1).trans hfy2).trans hfy3).trans (Gn.Fr.of_below hbz)⟩
theorem Gn.set_oth {w:World} {g i k:Nat} {v:Value} (h:k≠g):(w.setCell ⟨g,i,none⟩ v).heap[k]? = w.heap[k]?:=Below.heap_setCell _ _ _ _ h
theorem Gn.set_same {w:World} {g i:Nat} {arr:Array Value} {t:TypeId} {v:Value} (h:w.heap[g]? = some (.cells arr t)):(w.setCell ⟨g,i,none⟩ v).heap[g]? = some (.cells (arr.setIfInBounds i v) t):=by
 simp [World.setCell,Array.getElem?_modify,h]
theorem Gn.St.put {B g R P P':Nat} {w:World} {nv:Value} {nl:List (ByteArray × Int)} {fv:Value} {F:List Gn.Sg} {ret loops count size:Int} (h:Gn.St B g R P w nv nl fv F ret loops count size) (hP:P≤P') (k:Nat) (x:Value) {ret' loops' count' size':Int} (he:(#[.pointer (some ⟨R,0,none⟩),nv,fv,.int .i64 ret,.int .i64 loops,.int .i64 count,.int .i64 size]:Array Value).setIfInBounds k x = #[.pointer (some ⟨R,0,none⟩),nv,fv,.int .i64 ret',.int .i64 loops',.int .i64 count',.int .i64 size']) (hb:Gn.ty ret'∧(0≤loops'∧loops'≤P')∧(0≤count'∧count'≤P')∧(-(P':Int)≤size'∧size'≤P')) :
  Gn.St B g R P' (w.setCell ⟨g,k,none⟩ x) nv nl fv F ret' loops' count' size'∧Gn.Fr B w (w.setCell ⟨g,k,none⟩ x):=by
 have hlo:=h.lo
 have hf:Gn.Fr B w (w.setCell ⟨g,k,none⟩ x):=⟨rfl,rfl,rfl,by simp [World.setCell],fun j hj hp=>Gn.set_oth (fun e=>by
  subst e
  rcases hp with hp | hp
  ·omega
  ·exact (hp _ _ _ h.box).2 rfl)⟩
 obtain ⟨p,hp,hr⟩:=h.rd
 refine ⟨⟨h.lo,⟨p,by omega,Gn.Rd_keep hr (fun j hj=>Gn.set_oth (by omega))⟩,by rw [Gn.set_same h.box,he],Gn.own_keep h.names (fun j hj _ _=>Gn.set_oth (fun e=>by
  subst e
  obtain ⟨c2,hc⟩:=(Gn.row_type h.names hj).2
  rw [h.box] at hc;injection hc with hc;injection hc with _ hc _;exact absurd hc (by decide))),⟨by have:=h.nbd.1;omega,h.nbd.2⟩,h.fns.fr hf,hb⟩,hf⟩
theorem Gn.St.froz {B g R P:Nat} {w:World} {nv:Value} {nl:List (ByteArray × Int)} {fv:Value} {F:List Gn.Sg} {ret loops count size:Int} (h:Gn.St B g R P w nv nl fv F ret loops count size) (k:Nat):w.frozen? ⟨g,k,none⟩=false:=by simp [World.frozen?,h.box]
theorem Gn.expr_zero (B g R:Nat):Gn.ExprIs B g R 0:=by
 intro P w nv nl fv F ret loops count size t h hP
 have he0:Gn.eb 0=100:=rfl
 have g6:=h.cells.2.2.2.2.2.2
 have f6:=h.froz 6
 have hbd:=h.bd
 have hw:wrap64 (size - 1)=size - 1:=IntWalk.wrap64_in _ (by omega)
 obtain ⟨hs1,hf1⟩:=h.put (P':=P+1) (by omega) 6 (.int .i64 (size - 1)) (size':=size - 1) (ret':=ret) (loops':=loops) (count':=count) rfl ⟨hbd.1,by omega,by omega,by omega⟩
 have HS1:Hid (Gn.St B g R (P+1) (w.setCell ⟨g,6,none⟩ (.int .i64 (size - 1))) nv nl fv F ret loops count (size - 1)):=hs1
 have HF1:Hid (Gn.Fr B w (w.setCell ⟨g,6,none⟩ (.int .i64 (size - 1)))):=hf1
 obtain ⟨V,hV⟩:∃ V,w.setCell ⟨g,6,none⟩ (.int .i64 (size - 1))=V:=⟨_,rfl⟩
 rw [hV] at HS1 HF1
 have hz1:=HF1.out.size
 clear h hs1 hf1
 go_enter Tryz.func102,Tryz.ntmps102
 go_wp2_with fail
 refine (Gn.leafG_any HS1.out (by omega) t).mono ?_
 rintro e w9 ⟨a,n,c,rfl,hr9,hs9,hf9⟩
 go_wp2_with fail
 go_ret
 exact ⟨a,n,c,size - 1,rfl,hr9.mono (by omega) (by omega),hs9.mono (by omega),HF1.out.trans hf9⟩
theorem Gn.expr_next (B g R d:Nat) (HE0:Hid (Gn.ExprIs B g R 0)) (HE:Hid (Gn.ExprIs B g R d)):Gn.ExprIs B g R (d+1):=by
 intro P w nv nl fv F ret loops count size t h hP
 have hen:=Gn.eb_next d
 have hep:=Gn.eb_pos d
 rw [hen] at hP ⊢
 have hdb:d≤700000000:=by
  have:d < 5 ^ d:=Nat.lt_pow_self (by omega)
  unfold Gn.eb at hP;omega
 have hdc:((d+1:Nat):Int)=(d:Int)+1:=by omega
 rw [hdc]
 have hd0:¬ (d:Int)+1≤0:=by omega
 have g6:=h.cells.2.2.2.2.2.2
 have f6:=h.froz 6
 have hbd:=h.bd
 have hw:wrap64 (size - 1)=size - 1:=IntWalk.wrap64_in _ (by omega)
 obtain ⟨hs1,hf1⟩:=h.put (P':=P+1) (by omega) 6 (.int .i64 (size - 1)) (size':=size - 1) (ret':=ret) (loops':=loops) (count':=count) rfl ⟨hbd.1,by omega,by omega,by omega⟩
 have HS1:Hid (Gn.St B g R (P+1) (w.setCell ⟨g,6,none⟩ (.int .i64 (size - 1))) nv nl fv F ret loops count (size - 1)):=hs1
 have HF1:Hid (Gn.Fr B w (w.setCell ⟨g,6,none⟩ (.int .i64 (size - 1)))):=hf1
 obtain ⟨V,hV⟩:∃ V,w.setCell ⟨g,6,none⟩ (.int .i64 (size - 1))=V:=⟨_,rfl⟩
 rw [hV] at HS1 HF1
 have hz1:=HF1.out.size
 have k0:=HS1.out.cells.1
 have k6:=HS1.out.cells.2.2.2.2.2.2
 clear h hs1 hf1
 by_cases hsz:size - 1 < 0
 ·go_enter Tryz.func102,Tryz.ntmps102
  go_wp2_with fail
  refine (Gn.leafG_any HS1.out (by omega) t).mono ?_
  rintro e w9 ⟨a,n,c,rfl,hr9,hs9,hf9⟩
  go_wp2_with fail
  go_ret
  exact ⟨a,n,c,size - 1,rfl,hr9.mono (by omega) (by omega),hs9.mono (by omega),HF1.out.trans hf9⟩
 ·go_enter Tryz.func102,Tryz.ntmps102
  go_wp2_with fail
  refine (Gn.pick_any HS1.out 4 (by omega) (by omega) (by omega)).mono ?_
  rintro e w2 ⟨v,rfl,hv,hs2,hf2⟩
  have hz2:=hf2.size
  by_cases hv0:v=0
  ·subst hv0
   go_wp2_with fail
   refine (Gn.leafG_any hs2 (by omega) t).mono ?_
   rintro e w9 ⟨a,n,c,rfl,hr9,hs9,hf9⟩
   go_wp2_with fail
   go_ret
   exact ⟨a,n,c,size - 1,rfl,hr9.mono (by omega) (by omega),hs9.mono (by omega),(HF1.out.trans hf2).trans hf9⟩
  ·have hvI:((v:Int) == 0)=false:=by simp;omega
   have hd:t=1∨t=2∨(t≠1∧t≠2):=by omega
   rcases hd with rfl | rfl | ⟨h1,h2⟩
   ·go_wp2_with fail
    refine (Gn.boolean_any HE0 HE hs2 (by omega)).mono ?_
    rintro e w9 ⟨a,n,c,s9,rfl,hr9,hs9,hf9⟩
    go_wp2_with fail
    go_ret
    exact ⟨a,n,c,s9,rfl,hr9.mono (by omega) (by omega),hs9.mono (by omega),(HF1.out.trans hf2).trans hf9⟩
   ·go_wp2_with fail
    refine (Gn.textG_any HE0 HE hs2 (by omega)).mono ?_
    rintro e w9 ⟨a,n,c,s9,rfl,hr9,hs9,hf9⟩
    go_wp2_with fail
    go_ret
    exact ⟨a,n,c,s9,rfl,hr9.mono (by omega) (by omega),hs9.mono (by omega),(HF1.out.trans hf2).trans hf9⟩
   ·have e1:(t == 1)=false:=by simpa using h1
    have e2:(t == 2)=false:=by simpa using h2
    go_wp2_with fail
    refine (Gn.integer_any HE hs2 (by omega) t).mono ?_
    rintro e w9 ⟨a,n,c,s9,rfl,hr9,hs9,hf9⟩
    go_wp2_with fail
    go_ret
    exact ⟨a,n,c,s9,rfl,hr9.mono (by omega) (by omega),hs9.mono (by omega),(HF1.out.trans hf2).trans hf9⟩
theorem Gn.expr_any (B g R:Nat):∀ d,Gn.ExprIs B g R d
 | 0=>Gn.expr_zero B g R
 | d+1=>Gn.expr_next B g R d (Gn.expr_zero B g R) (Gn.expr_any B g R d)
end Go.Proofs.YtfoimmnlojjfbaaGreatDoor
