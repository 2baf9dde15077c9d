import Derived.Test.YtahibkjkpmdhgaaGreatDoorKVmHa
import Derived.Test.YtahibkjkpmdhgaaGreatDoorKCfY
set_option maxRecDepth 100000
set_option maxHeartbeats 4000000
namespace Go.Proofs.YtahibkjkpmdhgaaGreatDoor
open Go.RowKit
structure He (e:TypeId) (D:Nat) (w w':World):Prop where
 bl:Below D w w'
 kp:∀ (k:Nat) (cur:Array Value) (ty:TypeId) (fr:Nat × Nat),ty≠e->w.heap[k]? = some (Obj.cells cur ty fr)->w'.heap[k]? = some (Obj.cells cur ty fr)
theorem He.trans {e:TypeId} {D:Nat} {a b c:World} (h:He e D a b) (k:He e D b c):He e D a c:=⟨h.bl.trans k.bl,fun i cur ty fr hn hi=>k.kp i cur ty fr hn (h.kp i cur ty fr hn hi)⟩
theorem He.of {e:TypeId} {D:Nat} {w w':World} (h:OH w w') (hD:D<=w.heap.size):He e D w w' :=
 ⟨h.mono hD,fun i _ _ _ _ hi=>(h.block i (Array.getElem?_eq_some_iff.1 hi).1).trans hi⟩
theorem He.grown {e:TypeId} {D B size n:Nat} {w w':World} {v:Value} {xs:List Value} (hr:w.ownsRow B e size v n xs) (hg:w.grownBy w' v.ownBlock) (hD:D<=B) (hB:B<=w.heap.size):He e D w w':=by
 refine⟨C0 (Below.refl _ _) hg (Nat.le_trans hD hB) (fun k hk=>Bu hr (Nat.lt_of_lt_of_le hk hD)),fun i cur ty fr hn hi => ?_⟩;rw[hg.block i (Array.getElem?_eq_some_iff.1 hi).1 ?_]
 ·exact hi
 ·intro a;rcases hr.2 with⟨rfl,_⟩|⟨g,c,b,rfl,_,d,_⟩
  ·simp[Value.ownBlock]at a
  ·simp only[Value.ownBlock,Option.some.injEq]at a;subst a;rw[d]at hi;injection hi with hi;injection hi with _ h3;exact hn h3.symm
def Jf (D:Nat) (w:World) (c:List Af) (f:Af) (v:Value):Prop :=
 ∃ (g gl:Nat) (ca ia:Option Addr) (cc ic lc:Nat) (pv wv:Value) (X:List Am),v = .pointer (some (OI g 0))/\Gh g w (.slice ca c.length cc) f pv (.slice ia f.ins.length ic) (.slice (some (OI gl 0)) f.ins.length lc) wv/\Ce gl w X/\Ba D w (.slice ia f.ins.length ic) f.ins/\Al D w (.slice ca c.length cc) c/\Cr c f X/\(∀ u,Dn (Ai X u))/\X.length=f.ins.length
theorem Jf.keep {e:TypeId} {D:Nat} {w w':World} {c:List Af} {f:Af} {v:Value} (h:Jf D w c f v) (hk:He e D w w') (h1:148≠e) (h2:150≠e):Jf D w' c f v:=by
 obtain⟨g,i,a,t,b,u,x,y,z,X,s,q,o,n,l,j,m,p⟩:=h;obtain⟨d,k,hs,r⟩:=o.blk;exact⟨g,i,a,t,b,u,x,y,z,X,s,⟨hk.kp _ _ _ _ h1 q.blk⟩,⟨d,hk.kp _ _ _ _ h2 k,hs,r⟩,n.below hk.bl,l.below hk.bl,j,m,p⟩
def Od (D:Nat) (w:World) (c:List Af) (k:Nat) (v:Value):Prop :=
 ∃ vs,w.ownsRow D 105 1 v k vs/\∀ q (hq:q < c.length),q < k->∃ x,vs[q]? = some x/\Jf D w c c[q] x
theorem Od.keep {e:TypeId} {D k:Nat} {w w':World} {c:List Af} {v:Value} (h:Od D w c k v) (hk:He e D w w') (h1:148≠e) (h2:150≠e) (h3:105≠e):Od D w' c k v:=by
 obtain⟨n,d,j⟩:=h;refine⟨n,It d (fun i hi => ?_),fun q hq1 hq2 => ?_⟩
 ·rcases d.2 with⟨rfl,_⟩|⟨g,f,a,rfl,_,b,_⟩
  ·simp[Value.ownBlock]at hi
  ·simp only[Value.ownBlock,Option.some.injEq]at hi;subst hi;rw[b];exact hk.kp _ _ _ _ h3 b
 ·obtain⟨x,m,l⟩:=j q hq1 hq2;exact⟨x,m,l.keep hk h1 h2⟩
def Ob (D:Nat) (w:World) (c:List Af) (v:Value):Prop:=(Bd c/\Od D w c c.length v)\/(¬ Bd c/\v = .slice none 0 0)
theorem Ob.keep {e:TypeId} {D:Nat} {w w':World} {c:List Af} {v:Value} (h:Ob D w c v) (hk:He e D w w') (h1:148≠e) (h2:150≠e) (h3:105≠e):Ob D w' c v:=h.imp (fun h=>⟨h.1,h.2.keep hk h1 h2 h3⟩) id
def Ri (D:Nat) (c:List Af) (w:World) (e:Ending) (w':World):Prop := ∃ a n cap,e = .returned (.slice a n cap)/\Ob D w' c (.slice a n cap)/\OH w w'
theorem Yk {c:List Af} (h:(B8 c).1≠0):¬ Bd c:=fun hc=>by
 unfold Bd Dj at hc
 rw[if_pos h]at hc
 rw[<- hc]at h
 exact h rfl
theorem Qec {c:List Af} {XS:List (List Am)} (_hXL:XS.length=c.length) (hXS:∀ k (hk:k < c.length) (hk':k < XS.length),Cr c c[k] XS[k]) {k u:Nat} (hk:k < c.length) (hk':k < XS.length) (hu:u < c[k].ins.length) (h:B0 c c[k] XS[k] u=true):¬ Bd c:=fun hc=>by
 unfold Bd Dj at hc
 by_cases hp:(B8 c).1≠0
 ·rw[if_pos hp]at hc
  rw[<- hc]at hp
  exact hp rfl
 ·rw[if_neg hp]at hc
  obtain⟨g,i,d,f⟩:=hc
  rcases f with⟨_,_,_,_,_,_,_,_,a⟩|⟨a,_⟩
  ·simp at a
  ·have b:=a k hk Ou u hu
   rw[(d k hk Ou).one (hXS k hk hk')]at b
   rw[h]at b
   cases b
theorem Tryz.infoPtrT : (Tryz.prog.info? 105).map (fun i=>(i.zero,i.size,i.bytes))=some (some (.pointer none),1,8):=OA
theorem Qc4 : ∃ i,Tryz.prog.info? 105=some i/\i.zero=some (.pointer none)/\i.size=1/\i.bytes=8:=by
 have h:=Tryz.infoPtrT;cases hi:Tryz.prog.info? 105 with
 | none=>rw[hi]at h;simp at h
 | some i=>rw[hi]at h;simp at h;exact⟨i,rfl,h.1,h.2.1,h.2.2⟩
theorem Jf.of {D:Nat} {c:List Af} {f:Af} {w w':World} {g:Nat} (h:F4 c f D w (.returned (.pointer (some (OI g 0)))) w'):Jf D w' c f (.pointer (some (OI g 0))):=by
 obtain⟨B,s,k,d,o,i,p,q,r,X,W,u,v,a,b,m,j,n,l,t⟩:=h;injection a with a;injection a with a;injection a with a;injection a with a;subst a;exact⟨_,k,d,o,i,p,q,r,_,X,rfl,b.tr,b.lays,m.2,j,n,l,b.len⟩
theorem Qef (p:Option Addr):∀ u ∈ [Value.pointer p],u.oneCell'=true:=by
 intro u a;simp at a;subst a;rfl
theorem Oc {c:List Af} {f:Af} {D:Nat} {w w':World} {e:Ending} (h:F4 c f D w e w'):(∃ g,e = .returned (.pointer (some (OI g 0))))/\OH w w':=by
 obtain⟨_,g,_,_,_,_,_,_,_,_,_,_,_,b,_,_,_,_,_,a⟩:=h;exact⟨⟨g,b⟩,a⟩
def Qcs (D B:Nat) (w:World) (c:List Af) (k:Nat) (v:Value):Prop :=
 ∃ vs,w.ownsRow B 105 1 v k vs/\∀ q (hq:q < c.length),q < k->∃ x,vs[q]? = some x/\Jf D w c c[q] x
theorem Qcs.next {D B:Nat} {wr w3 w4 w5:World} {c:List Af} {k:Nat} {v v' p:Value} {vs:List Value} (hD:D<=B) (hB:B<=wr.heap.size) (hq:∀ q (hq:q < c.length),q < k->∃ x,vs[q]? = some x/\Jf D wr c c[q] x) (hl:vs.length=k) (h3:OH wr w3) (h4:OH w3 w4) {o:Obj} (hr:(w4.alloc o).ownsRow B 105 1 v k vs) (hg:(w4.alloc o).grownBy w5 v.ownBlock) (ho:w5.ownsRow B 105 1 v' (k+1) (vs++[p])) (hk:k < c.length) (hp:Jf D w3 c c[k] p):Qcs D B w5 c (k+1) v':=by
 have h:=h3.size;have i:=h4.size;have g:He 105 D w4 w5:=(He.of (Ao w4 o) Ou).trans (He.grown hr hg hD OD);have a:He 105 D w3 w5:=(He.of h4 Ou).trans g;have f:He 105 D wr w5:=(He.of h3 Ou).trans a;refine⟨_,ho,fun q hq1 hq2 => ?_⟩;by_cases e:q=k
 ·subst e;exact⟨p,by rw[List.getElem?_append_right Ou,hl];simp,hp.keep a Ov Ov⟩
 ·obtain⟨x,d,b⟩:=hq q hq1 Ou;exact⟨x,by rw[List.getElem?_append_left Ou];exact d,b.keep f Ov Ov⟩
theorem Wb (D:Nat) (c:List Af) (ca:Option Addr) (cc:Nat) (hcl:c.length<=1048576) (hcap:c.length<=cc) (hpl:∀ k (f:k < c.length),c[k].params.length<=1048576/\c[k].ins.length<=1048576/\c[k].name.size<=1048576) (hN:∀ k (f:k < c.length) i (hi:i < c[k].ins.length),-9223372036854775808<=c[k].ins[i].n/\c[k].ins[i].n<=9223372036854775807) (w:World) (hD:D<=w.heap.size) (hCD:Al D w (.slice ca c.length cc) c) (hT:B3 w) (hW:Cw w) :
  Calls Tryz.prog 68 #[.agg #[.slice ca c.length cc]] w (Ri D c w):=by
 have hC:=Al.mono hCD hD;obtain⟨d,T⟩:∃ Y,w.alloc (.cells #[.slice ca c.length cc] 59)=Y:=⟨_,rfl⟩;have n:OH w d:=by rw[<- T];exact Ao w _
 have bg:d.heap.size=w.heap.size+1:=by rw[<- T];exact World.size_alloc _ _
 have L:d.heap[w.heap.size]? = some (.cells #[.slice ca c.length cc] 59):=by rw[<- T];exact Ae w _
 have ai:d.cell? (OK w 0)=some (.slice ca c.length cc):=by rw[Lib.cell_of_heap L];rfl
 have O:Hid (∀ U,OH d U->U.cell? (OK w 0)=some (.slice ca c.length cc)/\OH w U):=fun U hU=>⟨(hU.cell (p:=(OK w 0)) (by show w.heap.size < _;omega)).trans ai,n.trans (hU.mono n.size)⟩
 have N:Hid (Calls Tryz.prog 95 #[.agg #[.slice ca c.length cc]] d (Rq (B8 c) d)):=Qaw w.heap.size c ca cc hcl hcap hpl hN d n.size (hC.below n);have C:Hid ((B8 c).1=0->B8 c=(0,0,0)):=Xf;have z:Hid ((B8 c).1≠0->¬ Bd c):=Yk;have A:Hid ((B8 c).1=0->F3 c):=fun h=>Kx h
 have aq:Hid ((B8 c).1=(B8 c).1):=rfl;have bf:=Wy;obtain⟨r,ag⟩:∃ r,Hid (B8 c=r):=⟨_,(rfl:B8 c=_)⟩;rw[ag.out]at N C z A;obtain⟨r0,r1,r2⟩:=r;clear hpl hN L aq;by_cases hz:r0=0
 ·have e:=C.out hz;simp only[Prod.mk.injEq]at e;obtain⟨-,rfl,rfl⟩:=e;subst hz;have S:F3 c:=A.out rfl;obtain⟨l,E,F⟩:=S.least ca cc w hC;have bd:=S.len;have ax:Hid (l.length=c.length):=E;have ac:Hid (Ty c l (0,0,0)->Bd c):=fun h=>Yr (by rw[ag.out]) E F h
  have ad:Hid (∀ (k u:Nat) (f:k < c.length) (hk':k < l.length),u < c[k].ins.length->B0 c c[k] l[k] u=true->¬ Bd c):=fun k u f hk' J h=>Qec E F f hk' J h
  have au:Hid (∀ (k:Nat) (f:k < c.length) U,OH w U->Calls Tryz.prog 96 #[.agg #[.slice ca c.length cc],.int .i64 (k:Int)] U (F4 c c[k] D U)):=fun k f U hU=>Qb2 c k f c[k] rfl ca cc (S.fns k f) (S.right k f) U D (Nat.le_trans hD hU.size) (hCD.below (hU.mono hD)) (hT.below hU) (hW.below hU)
  have af:Hid (∀ (k:Nat) (f:k < c.length) (h':k < l.length) (U:World) (g:Nat) (U':World),OH w U->F4 c c[k] D U (.returned (.pointer (some (OI g 0)))) U'->Calls Tryz.prog 97 #[.pointer (some (OI g 0))] U' (Pz c c[k] l[k] U')):=fun k f h' U g U' hU h=>by
   obtain⟨B,g',gl,ay,ia,az,ic,lc,pv,X,W,wa,wc,v,a1,hI,a0,hL,hF,hB⟩:=h;injection v with v;injection v with v;injection v with v;injection v with v;subst v;have a2:X=l[k]:=hL.one (F k f h');rw[<- a2];have aj:=hU.trans (hB.mono hU.size);obtain⟨-,-,-,-,-,b6,-,-,-⟩:=F5 (S.fns k f);refine Yx B g gl c c[k] (S.right k f) ay ia az ic lc pv X W wa wc U' a1 (Ba.mono hI.2 hI.1) (Al.mono a0 hI.1) (hT.below aj) (hW.below aj) hF (fun u => ?_);rw[<- D1 c[k] b6];exact hL.1.lens u
  have aa:=Uj 0 0 0 0 0 0;simp only[beq_self_eq_true,Bool.and_self]at aa;have ae:Hid (D<=w.heap.size):=hD;obtain⟨i0,a4,ba,bb,bc⟩:=Qc4;clear C z A S F E hC hCD hT hW hD;go_enter Tryz.func68,Tryz.ntmps68;go_wp2_with (first|(go_at_call 95;refine N.out.mono ?_;rintro e w2 ⟨rfl,G⟩;unfold I2;simp only;obtain⟨c2,I⟩:=O.out w2 G));go_loopw [3,13] (fun r t wr => ∃ (k:Nat) (a:Option Addr) (m:Nat),k<=c.length/\r = .slice a k m/\t = .int .i64 (k:Int)/\OH d wr/\Qcs D d.heap.size wr c k (.slice a k m)/\Hid (∀ q (hq:q < c.length) (hq':q < l.length),q < k->∀ j,j < c[q].ins.length->B0 c c[q] l[q] j=false)) (fun _ t _=>c.length - (intOf t).toNat);case atStart=>exact⟨0,none,0,by omega,rfl,rfl,G,⟨[],World.ownsRow_nil _ _ _ _,fun q hq h=>Ou⟩,fun q hq hq' h=>Ou⟩
  case round =>
   obtain⟨k,a,m,f,rfl,rfl,V,ao,HU⟩:=hrel;obtain⟨k0,s⟩:=O.out wr V;have an:=V.size;by_cases hlt:k < c.length
   ·have am:(k:Int) < (c.length:Int):=Ou;have ab:k < l.length:=(by rw[ax.out];exact hlt);obtain⟨vs,own,H⟩:=ao;have ap:Hid (wr.ownsRow d.heap.size 105 1 (.slice a k m) k vs):=own;have ar:Hid (∀ q (hq:q < c.length),q < k->∃ x,vs[q]? = some x/\Jf D wr c c[q] x):=H;have aw:Hid (vs.length=k):=(by have:=own.1;rw[Nat.mul_one]at this;exact this);clear own H;have ah:Hid (Calls Tryz.prog 96 #[.agg #[.slice ca c.length cc],.int .i64 (k:Int)] wr (F4 c c[k] D wr)):=au.out k hlt wr s;by_cases hz:∃ u,u < c[k].ins.length/\B0 c c[k] l[k] u=true
    ·have M:Hid (∀ (g:Nat) (U':World),F4 c c[k] D wr (.returned (.pointer (some (OI g 0)))) U'->Calls Tryz.prog 97 #[.pointer (some (OI g 0))] U' (fun e w' => ∃ u:Nat,e = .returned (.int .i64 (u:Int))/\Below U'.heap.size U' w')):=fun g U' h=>by
      refine(af.out k hlt ab wr g U' s h).mono ?_;rintro e w' ⟨Q|Q,hb⟩
      ·obtain⟨u,J,v,h5,h6⟩:=Q;exact⟨u,v,hb⟩
      ·obtain⟨u,J,h7⟩:=hz;have:=Q.2 u J;rw[h7]at this;simp at this
     have HA:Hid (¬ Bd c):=(by obtain⟨u,J,h7⟩:=hz;exact ad.out k u hlt ab J h7);clear hz;go_wp2_with (first
      | (go_at_call 96;refine ah.out.mono ?_;rintro e w3 R;obtain⟨⟨g3,Z⟩,b⟩:=Oc R;subst Z;have H3:Hid (F4 c c[k] D wr (.returned (.pointer (some (OI g3 0)))) w3):=R;clear R)
      | (go_at_call 97;refine(M.out g3 w3 H3.out).mono ?_;rintro e w4 ⟨u,rfl,o⟩;have bj:(0:Int)<=(u:Int):=Ou;have al:OH w w4:=s.trans ((b.trans (o.mono b.size)).mono s.size)))
     go_ret;exact⟨none,0,0,rfl,.inr ⟨HA.out,rfl⟩,al⟩
    ·have M:Hid (∀ (g:Nat) (U':World),F4 c c[k] D wr (.returned (.pointer (some (OI g 0)))) U'->Calls Tryz.prog 97 #[.pointer (some (OI g 0))] U' (fun e w'=>e = .returned (.int .i64 (-1))/\Below U'.heap.size U' w')):=fun g U' h=>by
      refine(af.out k hlt ab wr g U' s h).mono ?_;rintro e w' ⟨Q|Q,hb⟩
      ·obtain⟨u,J,v,h5,h6⟩:=Q;exact(hz ⟨u,J,h5⟩).elim
      ·exact⟨Q.1,hb⟩
     have av:Hid (∀ q (hq:q < c.length) (hq':q < l.length),q < k+1->∀ j,j < c[q].ins.length->B0 c c[q] l[q] j=false):=fun q hq hq' h j hj=>by
      by_cases e:q=k
      ·subst e;cases hx:B0 c c[q] l[q] j with
       | false=>rfl
       | true=>exact(hz ⟨j,hj,hx⟩).elim
      ·exact HU.out q hq hq' Ou j hj
     clear hz;go_wp2_with (first
      | (go_at_call 96;refine ah.out.mono ?_;rintro e w3 R;obtain⟨⟨g3,Z⟩,b⟩:=Oc R;subst Z;have H3:Hid (F4 c c[k] D wr (.returned (.pointer (some (OI g3 0)))) w3):=R;clear R)
      | (go_at_call 97;refine(M.out g3 w3 H3.out).mono ?_;rintro e w4 ⟨rfl,o⟩;have bh:=b.size;have bi:=o.size;have y:w4.ownsRow d.heap.size 105 1 (.slice a k m) k vs:=Kf ap.out (b.trans (o.mono b.size)))
      | (at_builtin;(refine wpList_append_own_at _ rfl _ _ 102 rfl d.heap.size 105 i0 (.pointer none) 1 8 Tryz.underlying102 a4 ba bb bc rfl Ov _ k vs rfl (y.alloc _) (OK w4 0) 1 1 [.pointer (some (OI g3 0))] rfl rfl (cell_one_new _ _ _) (Qef _) OF Ou OD ?_;intro v5 w5 K P _ be;have a8:=P.size;rw[World.size_alloc]at a8;have a7:Qcs D d.heap.size w5 c (k+1) v5:=Qcs.next (Nat.le_trans ae.out n.size) an ar.out aw.out b o (y.alloc _) P K hlt (Jf.of H3.out);have a3:OH d w5:=(C0 ((V.trans ((b.trans (o.mono b.size)).mono an)).alloc Ou _) P OD (fun q hq=>Bu y hq));obtain⟨a5,c5,a9⟩:=Cp K;subst a9)))
     go_roundw;case rel=>exact⟨k+1,a5,c5,by omega,rfl,by go_num,a3,a7,av⟩
     case measure=>simp[intOf];omega
   ·have am:¬ (k:Int) < (c.length:Int):=Ou;have a6:k=c.length:=Ou;subst a6;have HA:Hid (Bd c):=ac.out (.inr ⟨fun q hq hq' j hj=>HU.out q hq hq' hq j hj,rfl⟩);have HV:Hid (Od D wr c c.length (.slice a c.length m)):=by
     obtain⟨vs,own,H⟩:=ao;exact⟨vs,Ch own (Nat.le_trans ae.out n.size),H⟩
    go_wp2_with fail;go_ret;exact⟨_,_,_,rfl,.inl ⟨HA.out,HV.out⟩,s⟩
 ·have aa:=Uj r0 r1 r2 0 0 0;have ak:(r0 == 0 && r1 == 0 && r2 == 0)=false:=by simp[hz]
  rw[ak]at aa;have HA:Hid (¬ Bd c):=z.out hz;clear C z A ak hz hC hCD hT hW;go_enter Tryz.func68,Tryz.ntmps68;go_wp2_with (first|(go_at_call 95;refine N.out.mono ?_;rintro e w2 ⟨rfl,G⟩;unfold I2;simp only;obtain⟨-,I⟩:=O.out w2 G));go_ret;exact⟨none,0,0,rfl,.inr ⟨HA.out,rfl⟩,I⟩
theorem Qc3 (B:Nat) (c:List Af) (cv:Value) (hcl:c.length<=1048576) (w:World) (hB:B<=w.heap.size) (hC:Al B w cv c) :
  Calls Tryz.prog 56 #[.agg #[cv]] w fun e w'=>(∃ m:Int,e = .returned (.int .i64 m)/\((m < 0/\c.any A8=false)\/∃ (j:Nat) (k:j < c.length),m=(j:Int)/\A8 c[j]=true))/\OH w w':=by
 obtain⟨a,d,rfl,o⟩:=hC;have G:Hid (∀ i (F:i < c.length),∃ g A C,a=some (OI g 0)/\g < B/\w.cell? (OI g (i * 5))=some (.string c[i].name)/\w.cell? (OI g (i * 5+1))=some (.slice A c[i].params.length C)/\w.cell? (OI g (i * 5+2))=some (.int .i64 c[i].result)):=fun i F=>by
  obtain⟨g,H,A,C,R,S,q,I,r,s,u,_⟩:=Al.fn ⟨a,d,rfl,o⟩ i F;injection q with e1;exact⟨g,A,C,e1,I,r,s,u⟩
 clear o;obtain⟨Z,E⟩:∃ Z,w.alloc (.cells #[.slice a c.length d] 59)=Z:=⟨_,rfl⟩;have n:OH w Z:=by rw[<- E];exact(Below.refl _ w).alloc (Nat.le_refl _) _
 have N:Z.heap.size=w.heap.size+1:=by rw[<- E];exact World.size_alloc _ _
 have P:Z.cell? (OK w 0)=some (.slice a c.length d):=by rw[<- E];exact Bk w _ _ 0 _ rfl
 go_enter Tryz.func56,Tryz.ntmps56;go_wp2_with fail;go_loopw [3] (fun t w2 => ∃ i:Nat,i<=c.length/\t = .int .i64 (i:Int)/\OH Z w2/\∀ j (k:j < c.length),j < i->A8 c[j]=false) (fun t _=>c.length - (intOf t).toNat);case atStart=>exact⟨0,by omega,rfl,Below.refl _ _,fun j k h=>Ou⟩
 case round =>
  obtain⟨i,F,rfl,q,z⟩:=hrel;have b:OH w wr:=n.trans (q.mono n.size);have Q:wr.cell? (OK w 0)=some (.slice a c.length d):=(q.cell (p:=(OK w 0)) (by show w.heap.size < _;omega)).trans P;by_cases hlt:i < c.length
  ·obtain⟨g,A,C,rfl,I,r,s,u⟩:=G.out i hlt;have K:=(b.cell (p:=(OI g (i * 5))) (by show g < _;omega)).trans r;have L:=(b.cell (p:=(OI g (i * 5+1))) (by show g < _;omega)).trans s;have M:=(b.cell (p:=(OI g (i * 5+2))) (by show g < _;omega)).trans u;obtain⟨f,v⟩:∃ f,c[i]=f:=⟨_,rfl⟩;rw[v]at K L M;have D:Hid (A8 f=false->∀ j (k:j < c.length),j < i+1->A8 c[j]=false):=fun hm j k h=>by
    by_cases e:j=i
    ·subst e;rw[v];exact hm
    ·exact z j k Ou
   have l:Hid (A8 f=true->(((i:Int) < 0/\c.any A8=false)\/∃ (j:Nat) (k:j < c.length),(i:Int)=(j:Int)/\A8 c[j]=true)):=fun hm => .inr ⟨i,hlt,rfl,by rw[v];exact hm⟩
   clear r s u z v G;go_wp2_with fail;all_goals first
    | (refine⟨⟨i+1,by omega,by go_num,q,D.out (by first|(simp[A8, *];done)|(have y := ‹(f.result == 2)=false›;simp at y;simp[A8,y];done))⟩,by simp[intOf];omega⟩)
    | (go_ret;exact⟨⟨(i:Int),rfl,l.out (by have y := ‹(f.result == 2)=true›;simp at y;simp[A8, *])⟩,b⟩)
  ·have J:Hid (((-1:Int) < 0/\c.any A8=false)\/∃ (j:Nat) (k:j < c.length),(-1:Int)=(j:Int)/\A8 c[j]=true):=by
    refine .inl ⟨by omega, ?_⟩;rw[List.any_eq_false];intro x O;obtain⟨j,k,rfl⟩:=List.mem_iff_getElem.1 O;rw[z j k Ou];simp
   clear z;go_wp2_with fail;go_ret;exact⟨⟨-1,rfl,J.out⟩,b⟩
theorem Bd.plain {c:List Af} (h:Bd c):(B8 c).1=0:=by
 by_cases hp:(B8 c).1=0
 ·exact hp
 ·exact absurd h (Yk hp)
theorem Bd.sound {c:List Af} (h:Bd c):F3 c:=Kx h.plain
theorem V4 {c:List Af} (h:Bd c):∃ M:Nat,∃ (hM:M < c.length),D4 c D3=(M:Int)/\A8 c[M]=true/\∀ j (b:j < c.length),A8 c[j]=true->j=M:=by
 have p:=h.sound;have d:=h.plain;have m:c.any A8=true:=by
  unfold B8 at d;split at d
  ·simp at d
  ·split at d
   ·simp at d
   ·split at d
    ·simp at d
    ·split at d
     ·assumption
     ·simp at d
 have l:T4 c:=O0 p.fns;obtain⟨f,q,g⟩:=List.any_eq_true.1 m;obtain⟨j,b,rfl⟩:=List.getElem_of_mem q;have a:∀ j (b:j < c.length),A8 c[j]=true->(c[j].name.toList == D3.toList)=true:=fun j b g=>by
  unfold A8 at g;simp only[Bool.and_eq_true]at g;rw[Ny];exact g.1.1
 refine⟨j,b, ?_,g,fun i hi hmi => ?_⟩
 ·have:=Pq D3 c 0 j b (fun i hi hij=>by
   have k:=l i j hi b hij
   have o:=a j b g
   rw[<- eq_of_beq o];exact k) (a j b g)
  rw[Nat.zero_add]at this;exact this
 ·have n:c[i].name.toList=c[j].name.toList:=by rw[eq_of_beq (a i hi hmi),eq_of_beq (a j b g)]
  rcases Nat.lt_trichotomy i j with k|k|k
  ·have:=l i j hi b k;rw[n]at this;simp at this
  ·exact k
  ·have:=l j i b hi k;rw[n]at this;simp at this
theorem Px {c:List Af} (h:Bd c) (k:Int):Mi c k ↔ k=D4 c D3:=by
 obtain⟨M,l,g,i,j⟩:=V4 h;rw[g];constructor
 ·rintro⟨a,b,d⟩;have f:k.toNat < c.length:=Ou
  rw[List.getD_eq_getElem?_getD,List.getElem?_eq_getElem f]at d;have:=j k.toNat f d;omega
 ·intro e;subst e;refine⟨by omega,by omega, ?_⟩;rw[Int.toNat_natCast,List.getD_eq_getElem?_getD,List.getElem?_eq_getElem l];exact i
def Hj (m:Ds) (k:Nat) (hk:k < m.frames.length):Prop :=
 (m.frames[k].code=Dt m k+1/\m.frames[k].code < (m.codes.length:Int)/\m.frames[k].fn=D4 (m.codes.getD m.frames[k].code.toNat []) D3)\/(m.frames[k].code=Dt m k/\0<=Dt m k)
def Hc (m:Ds):Prop:=(∀ k (hk:k < m.frames.length),Hj m k hk)/\0<=Dt m m.frames.length/\Dt m m.frames.length=(m.codes.length:Int) - 1
theorem Gn (m:Ds) (k:Nat) (hk:k < m.frames.length):Dt m (k+1)=m.frames[k].code:=by
 unfold Dt;rw[if_neg Ou,Nat.add_sub_cancel,List.getD_eq_getElem?_getD,List.getElem?_eq_getElem hk];rfl
theorem J2 (m:Ds):Dt m 0 = -1:=by unfold Dt;rw[if_pos rfl]
theorem Mj {m:Ds} {n:Nat} (hn:n<=m.frames.length) (h:∀ k (a:k < m.frames.length),k < n->Hj m k a) : -1<=Dt m n/\Dt m n < (m.codes.length:Int)/\∀ j:Nat,(j:Int)<=Dt m n->∃ i,∃ (hi:i < m.frames.length),m.frames[i].code=(j:Int):=by
 induction n with
 | zero=>rw[J2];exact⟨by omega,by omega,fun j hj=>Ou⟩
 | succ k ih =>
  obtain⟨f,g,c⟩:=ih Ou (fun q hq hqk=>h q hq Ou);have a:k < m.frames.length:=Ou
  rw[Gn m k a];rcases h k a Ou with⟨d,b,-⟩|⟨d,b⟩
  ·refine⟨by omega,b,fun j hj => ?_⟩;by_cases e:(j:Int)<=Dt m k
   ·exact c j e
   ·exact⟨k,a,by omega⟩
  ·refine⟨by omega,by omega,fun j hj=>c j Ou⟩
def Rj (m:Ds) (k:Nat) (hk:k < m.frames.length):Prop :=
 Bd (m.codes.getD m.frames[k].code.toNat [])/\0<=m.frames[k].fn/\m.frames[k].fn < ((m.codes.getD m.frames[k].code.toNat []).length:Int)/\∃ X,Cr (m.codes.getD m.frames[k].code.toNat []) ((m.codes.getD m.frames[k].code.toNat []).getD m.frames[k].fn.toNat A6) X/\Fu (Bw m k) m.frames[k] (m.codes.getD m.frames[k].code.toNat []) ((m.codes.getD m.frames[k].code.toNat []).getD m.frames[k].fn.toNat A6) X
def Kg (m:Ds):Prop:=m.frames.length<=40/\Hc m/\∀ k (hk:k < m.frames.length),Rj m k hk
theorem M0 (m:Ds) (j:Nat) (hj:j < m.codes.length):m.codes.getD j []=m.codes[j]:=by rw[List.getD_eq_getElem?_getD,List.getElem?_eq_getElem hj];rfl
theorem Qai (m:Ds) (k:Nat) (hk:k < m.frames.length):m.frames.getD k Gu=m.frames[k]:=by rw[List.getD_eq_getElem?_getD,List.getElem?_eq_getElem hk];rfl
theorem Vy (m:Ds):Kg m ↔ ((∀ c ∈ m.codes,Bd c)/\If m/\Fy m):=by
 constructor
 ·rintro⟨l,⟨o,x,p⟩,d⟩;have f:1<=m.frames.length:=by
   rcases Nat.eq_zero_or_pos m.frames.length with v|v
   ·rw[v,J2]at x;omega
   ·exact v
  have a:Dt m m.frames.length=(m.frames[m.frames.length - 1]'Ou).code:=by
   have:=Gn m (m.frames.length - 1) Ou;rw[Nat.sub_add_cancel f]at this;exact this
  have b:∀ c ∈ m.codes,Bd c:=fun c hc=>by
   obtain⟨j,t,rfl⟩:=List.getElem_of_mem hc;obtain⟨-,-,s⟩:=Mj (Nat.le_refl _) (fun k hk _=>o k hk);obtain⟨i,D,C⟩:=s j Ou;have:=(d i D).1;rw[C,Int.toNat_natCast,M0 m j t]at this;exact this
  refine⟨b,⟨f,l,by rw[Qai m _ Ou,<- a];exact p,fun k hk => ?_⟩,fun k hk=>(d k hk).2.2.2⟩;obtain⟨B,y,s,-⟩:=d k hk;obtain⟨K,L,-⟩:=Mj (n:=k) Ou (fun q hq _=>o q hq);rcases o k hk with⟨u,A,J⟩|⟨u,A⟩
  ·exact⟨.inr u,by omega,A,y,s,fun _=>(Px B _).2 J⟩
  ·exact⟨.inl u,by omega,by omega,y,s,fun e=>absurd u e⟩
 ·rintro⟨b,⟨f,l,a,h⟩,d⟩;have r:∀ k (hk:k < m.frames.length),Bd (m.codes.getD m.frames[k].code.toNat []):=fun k hk=>by
   obtain⟨-,F,z,-⟩:=h k hk;have t:m.frames[k].code.toNat < m.codes.length:=Ou;rw[M0 m _ t];exact b _ (List.getElem_mem t)
  have p:Dt m m.frames.length=(m.codes.length:Int) - 1:=by
   have:=Gn m (m.frames.length - 1) Ou;rw[Nat.sub_add_cancel f]at this;rw[this,<- Qai m _ Ou];exact a
  have g:0<=Dt m m.frames.length:=by
   have:=Gn m (m.frames.length - 1) Ou;rw[Nat.sub_add_cancel f]at this;rw[this];exact(h (m.frames.length - 1) Ou).2.1
  refine⟨l,⟨fun k hk => ?_,g,p⟩,fun k hk => ?_⟩
  ·obtain⟨E,F,z,-,-,I⟩:=h k hk;by_cases e:m.frames[k].code=Dt m k
   ·exact .inr ⟨e,by omega⟩
   ·exact .inl ⟨E.resolve_left e,z,(Px (r k hk) _).1 (I e)⟩
  ·obtain⟨-,-,-,G,H,-⟩:=h k hk;exact⟨r k hk,G,H,d k hk⟩
end Go.Proofs.YtahibkjkpmdhgaaGreatDoor
