import Derived.Test.YtahibkjkpmdhgaaGreatDoorKVmHa
import Derived.Test.YtahibkjkpmdhgaaGreatDoorKCfY
set_option maxRecDepth 100000
set_option maxHeartbeats 4000000
namespace Go.Proofs.YtahibkjkpmdhgaaGreatDoor
open Go.RowKit
structure Gr (e:TypeId) (D:Nat) (w w':World):Prop where
 bl:Below D w w'
 kp:∀ (k:Nat) (cur:Array Value) (ty:TypeId) (fr:Nat × Nat),ty≠e->w.heap[k]? = some (Obj.cells cur ty fr)->w'.heap[k]? = some (Obj.cells cur ty fr)
theorem Gr.trans {e:TypeId} {D:Nat} {a b c:World} (h:Gr e D a b) (k:Gr e D b c):Gr e D a c:=⟨h.bl.trans k.bl,fun i cur ty fr hn hi=>k.kp i cur ty fr hn (h.kp i cur ty fr hn hi)⟩
theorem Gr.of {e:TypeId} {D:Nat} {w w':World} (h:Below w.heap.size w w') (hD:D<=w.heap.size):Gr e D w w' :=
 ⟨h.mono hD,fun i _ _ _ _ hi=>(h.block i (Array.getElem?_eq_some_iff.1 hi).1).trans hi⟩
theorem Gr.grown {e:TypeId} {D B size n:Nat} {w w':World} {v:Value} {xs:List Value} (hr:w.ownsRow B e size v n xs) (hg:w.grownBy w' v.ownBlock) (hD:D<=B) (hB:B<=w.heap.size):Gr e D w w':=by
 refine⟨Cr (Below.refl _ _) hg (Nat.le_trans hD hB) (fun k hk=>Bt hr (Nat.lt_of_lt_of_le hk hD)),fun i cur ty fr hn hi => ?_⟩;rw[hg.block i (Array.getElem?_eq_some_iff.1 hi).1 ?_]
 ·exact hi
 ·intro a;rcases hr.2 with⟨rfl,_⟩|⟨g,c,b,rfl,_,d,_⟩
  ·simp[Value.ownBlock]at a
  ·simp only[Value.ownBlock,Option.some.injEq]at a;subst a;rw[d]at hi;injection hi with hi;injection hi with _ h3;exact hn h3.symm
def Ik (D:Nat) (w:World) (c:List Ae) (f:Ae) (v:Value):Prop :=
 ∃ (g gl:Nat) (ca ia:Option Addr) (cc ic lc:Nat) (pv wv:Value) (X:List Ao),v = .pointer (some ⟨g,0,none⟩)/\Fx g w (.slice ca c.length cc) f pv (.slice ia f.ins.length ic) (.slice (some ⟨gl,0,none⟩) f.ins.length lc) wv/\B9 gl w X/\Bb D w (.slice ia f.ins.length ic) f.ins/\An D w (.slice ca c.length cc) c/\Cl c f X/\(∀ u,Db (Aj X u))/\X.length=f.ins.length
theorem Ik.keep {e:TypeId} {D:Nat} {w w':World} {c:List Ae} {f:Ae} {v:Value} (h:Ik D w c f v) (hk:Gr e D w w') (h1:148≠e) (h2:150≠e):Ik D w' c f v:=by
 obtain⟨g,i,a,t,b,u,x,y,z,X,s,q,o,n,l,j,m,p⟩:=h;obtain⟨d,k,hs,r⟩:=o.blk;exact⟨g,i,a,t,b,u,x,y,z,X,s,⟨hk.kp _ _ _ _ h1 q.blk⟩,⟨d,hk.kp _ _ _ _ h2 k,hs,r⟩,n.below hk.bl,l.below hk.bl,j,m,p⟩
def Mr (D:Nat) (w:World) (c:List Ae) (k:Nat) (v:Value):Prop :=
 ∃ vs,w.ownsRow D 105 1 v k vs/\∀ q (hq:q < c.length),q < k->∃ x,vs[q]? = some x/\Ik D w c c[q] x
theorem Mr.keep {e:TypeId} {D k:Nat} {w w':World} {c:List Ae} {v:Value} (h:Mr D w c k v) (hk:Gr e D w w') (h1:148≠e) (h2:150≠e) (h3:105≠e):Mr D w' c k v:=by
 obtain⟨n,d,j⟩:=h;refine⟨n,H0 d (fun i hi => ?_),fun q hq1 hq2 => ?_⟩
 ·rcases d.2 with⟨rfl,_⟩|⟨g,f,a,rfl,_,b,_⟩
  ·simp[Value.ownBlock]at hi
  ·simp only[Value.ownBlock,Option.some.injEq]at hi;subst hi;rw[b];exact hk.kp _ _ _ _ h3 b
 ·obtain⟨x,m,l⟩:=j q hq1 hq2;exact⟨x,m,l.keep hk h1 h2⟩
def Mp (D:Nat) (w:World) (c:List Ae) (v:Value):Prop:=(Bf c/\Mr D w c c.length v)\/(¬ Bf c/\v = .slice none 0 0)
theorem Mp.keep {e:TypeId} {D:Nat} {w w':World} {c:List Ae} {v:Value} (h:Mp D w c v) (hk:Gr e D w w') (h1:148≠e) (h2:150≠e) (h3:105≠e):Mp D w' c v:=h.imp (fun h=>⟨h.1,h.2.keep hk h1 h2 h3⟩) id
def Pc (D:Nat) (c:List Ae) (w:World) (e:Ending) (w':World):Prop := ∃ a n cap,e = .returned (.slice a n cap)/\Mp D w' c (.slice a n cap)/\Below w.heap.size w w'
theorem Vf {c:List Ae} (h:(B4 c).1≠0):¬ Bf c:=fun hc=>by
 unfold Bf C5 at hc
 rw[if_pos h]at hc
 rw[<- hc]at h
 exact h rfl
theorem Qa1 {c:List Ae} {XS:List (List Ao)} (_hXL:XS.length=c.length) (hXS:∀ k (hk:k < c.length) (hk':k < XS.length),Cl c c[k] XS[k]) {k u:Nat} (hk:k < c.length) (hk':k < XS.length) (hu:u < c[k].ins.length) (h:By c c[k] XS[k] u=true):¬ Bf c:=fun hc=>by
 unfold Bf C5 at hc
 by_cases hp:(B4 c).1≠0
 ·rw[if_pos hp]at hc
  rw[<- hc]at hp
  exact hp rfl
 ·rw[if_neg hp]at hc
  obtain⟨g,i,d,f⟩:=hc
  rcases f with⟨_,_,_,_,_,_,_,_,a⟩|⟨a,_⟩
  ·simp at a
  ·have b:=a k hk (by omega) u hu
   rw[(d k hk (by omega)).one (hXS k hk hk')]at b
   rw[h]at b
   cases b
theorem Tryz.infoPtrT : (Tryz.prog.info? 105).map (fun i=>(i.zero,i.size,i.bytes))=some (some (.pointer none),1,8):=by kernel_rfl
theorem Zz : ∃ i,Tryz.prog.info? 105=some i/\i.zero=some (.pointer none)/\i.size=1/\i.bytes=8:=by
 have h:=Tryz.infoPtrT;cases hi:Tryz.prog.info? 105 with
 | none=>rw[hi]at h;simp at h
 | some i=>rw[hi]at h;simp at h;exact⟨i,rfl,h.1,h.2.1,h.2.2⟩
theorem Ik.of {D:Nat} {c:List Ae} {f:Ae} {w w':World} {g:Nat} (h:Fk c f D w (.returned (.pointer (some ⟨g,0,none⟩))) w'):Ik D w' c f (.pointer (some ⟨g,0,none⟩)):=by
 obtain⟨B,s,k,d,o,i,p,q,r,X,W,u,v,a,b,m,j,n,l,t⟩:=h;injection a with a;injection a with a;injection a with a;injection a with a;subst a;exact⟨_,k,d,o,i,p,q,r,_,X,rfl,b.tr,b.lays,m.2,j,n,l,b.len⟩
theorem Qa4 (p:Option Addr):∀ u ∈ [Value.pointer p],u.oneCell'=true:=by
 intro u a;simp at a;subst a;rfl
theorem Mq {c:List Ae} {f:Ae} {D:Nat} {w w':World} {e:Ending} (h:Fk c f D w e w'):(∃ g,e = .returned (.pointer (some ⟨g,0,none⟩)))/\Below w.heap.size w w':=by
 obtain⟨_,g,_,_,_,_,_,_,_,_,_,_,_,b,_,_,_,_,_,a⟩:=h;exact⟨⟨g,b⟩,a⟩
def Zm (D B:Nat) (w:World) (c:List Ae) (k:Nat) (v:Value):Prop :=
 ∃ vs,w.ownsRow B 105 1 v k vs/\∀ q (hq:q < c.length),q < k->∃ x,vs[q]? = some x/\Ik D w c c[q] x
theorem Zm.next {D B:Nat} {wr w3 w4 w5:World} {c:List Ae} {k:Nat} {v v' p:Value} {vs:List Value} (hD:D<=B) (hB:B<=wr.heap.size) (hq:∀ q (hq:q < c.length),q < k->∃ x,vs[q]? = some x/\Ik D wr c c[q] x) (hl:vs.length=k) (h3:Below wr.heap.size wr w3) (h4:Below w3.heap.size w3 w4) {o:Obj} (hr:(w4.alloc o).ownsRow B 105 1 v k vs) (hg:(w4.alloc o).grownBy w5 v.ownBlock) (ho:w5.ownsRow B 105 1 v' (k+1) (vs++[p])) (hk:k < c.length) (hp:Ik D w3 c c[k] p):Zm D B w5 c (k+1) v':=by
 have h:=h3.size;have i:=h4.size;have g:Gr 105 D w4 w5:=(Gr.of (Au w4 o) (by omega)).trans (Gr.grown hr hg hD (by simp;omega));have a:Gr 105 D w3 w5:=(Gr.of h4 (by omega)).trans g;have f:Gr 105 D wr w5:=(Gr.of h3 (by omega)).trans a;refine⟨_,ho,fun q hq1 hq2 => ?_⟩;by_cases e:q=k
 ·subst e;exact⟨p,by rw[List.getElem?_append_right (by omega),hl];simp,hp.keep a (by decide) (by decide)⟩
 ·obtain⟨x,d,b⟩:=hq q hq1 (by omega);exact⟨x,by rw[List.getElem?_append_left (by omega)];exact d,b.keep f (by decide) (by decide)⟩
theorem S7 (D:Nat) (c:List Ae) (ca:Option Addr) (cc:Nat) (hcl:c.length<=1048576) (hcap:c.length<=cc) (hpl:∀ k (f:k < c.length),c[k].params.length<=1048576/\c[k].ins.length<=1048576/\c[k].name.size<=1048576) (hN:∀ k (f:k < c.length) i (hi:i < c[k].ins.length),-9223372036854775808<=c[k].ins[i].n/\c[k].ins[i].n<=9223372036854775807) (w:World) (hD:D<=w.heap.size) (hCD:An D w (.slice ca c.length cc) c) (hT:B2 w) (hW:Cs w) :
  Calls Tryz.prog 68 #[.agg #[.slice ca c.length cc]] w (Pc D c w):=by
 have hC:=An.mono hCD hD;obtain⟨d,T⟩:∃ Y,w.alloc (.cells #[.slice ca c.length cc] 59)=Y:=⟨_,rfl⟩;have n:Below w.heap.size w d:=by rw[<- T];exact Au w _
 have bg:d.heap.size=w.heap.size+1:=by rw[<- T];exact World.size_alloc _ _
 have L:d.heap[w.heap.size]? = some (.cells #[.slice ca c.length cc] 59):=by rw[<- T];exact Af w _
 have ai:d.cell? ⟨w.heap.size,0,none⟩=some (.slice ca c.length cc):=by rw[Lib.cell_of_heap L];rfl
 have O:Hid (∀ U,Below d.heap.size d U->U.cell? ⟨w.heap.size,0,none⟩=some (.slice ca c.length cc)/\Below w.heap.size w U):=fun U hU=>⟨(hU.cell (p:=⟨w.heap.size,0,none⟩) (by show w.heap.size < _;omega)).trans ai,n.trans (hU.mono n.size)⟩
 have N:Hid (Calls Tryz.prog 95 #[.agg #[.slice ca c.length cc]] d (Ph (B4 c) d)):=Xw w.heap.size c ca cc hcl hcap hpl hN d n.size (hC.below n);have C:Hid ((B4 c).1=0->B4 c=(0,0,0)):=Uc;have z:Hid ((B4 c).1≠0->¬ Bf c):=Vf;have A:Hid ((B4 c).1=0->Fj c):=fun h=>Jv h
 have aq:Hid ((B4 c).1=(B4 c).1):=rfl;have bf:=Ty;obtain⟨r,ag⟩:∃ r,Hid (B4 c=r):=⟨_,(rfl:B4 c=_)⟩;rw[ag.out]at N C z A;obtain⟨r0,r1,r2⟩:=r;clear hpl hN L aq;by_cases hz:r0=0
 ·have e:=C.out hz;simp only[Prod.mk.injEq]at e;obtain⟨-,rfl,rfl⟩:=e;subst hz;have S:Fj c:=A.out rfl;obtain⟨l,E,F⟩:=S.least ca cc w hC;have bd:=S.len;have ax:Hid (l.length=c.length):=E;have ac:Hid (Q5 c l (0,0,0)->Bf c):=fun h=>Vn (by rw[ag.out]) E F h
  have ad:Hid (∀ (k u:Nat) (f:k < c.length) (hk':k < l.length),u < c[k].ins.length->By c c[k] l[k] u=true->¬ Bf c):=fun k u f hk' J h=>Qa1 E F f hk' J h
  have au:Hid (∀ (k:Nat) (f:k < c.length) U,Below w.heap.size w U->Calls Tryz.prog 96 #[.agg #[.slice ca c.length cc],.int .i64 (k:Int)] U (Fk c c[k] D U)):=fun k f U hU=>Za c k f c[k] rfl ca cc (S.fns k f) (S.right k f) U D (Nat.le_trans hD hU.size) (hCD.below (hU.mono hD)) (hT.below hU) (hW.below hU)
  have af:Hid (∀ (k:Nat) (f:k < c.length) (h':k < l.length) (U:World) (g:Nat) (U':World),Below w.heap.size w U->Fk c c[k] D U (.returned (.pointer (some ⟨g,0,none⟩))) U'->Calls Tryz.prog 97 #[.pointer (some ⟨g,0,none⟩)] U' (Nz c c[k] l[k] U')):=fun k f h' U g U' hU h=>by
   obtain⟨B,g',gl,ay,ia,az,ic,lc,pv,X,W,wa,wc,v,a1,hI,a0,hL,hF,hB⟩:=h;injection v with v;injection v with v;injection v with v;injection v with v;subst v;have a2:X=l[k]:=hL.one (F k f h');rw[<- a2];have aj:=hU.trans (hB.mono hU.size);obtain⟨-,-,-,-,-,b6,-,-,-⟩:=Fm (S.fns k f);refine Vv B g gl c c[k] (S.right k f) ay ia az ic lc pv X W wa wc U' a1 (Bb.mono hI.2 hI.1) (An.mono a0 hI.1) (hT.below aj) (hW.below aj) hF (fun u => ?_);rw[<- Dm c[k] b6];exact hL.1.lens u
  have aa:=Rm 0 0 0 0 0 0;simp only[beq_self_eq_true,Bool.and_self]at aa;have ae:Hid (D<=w.heap.size):=hD;obtain⟨i0,a4,ba,bb,bc⟩:=Zz;clear C z A S F E hC hCD hT hW hD;go_enter Tryz.func68,Tryz.ntmps68;go_wp2_with (first|(go_at_call 95;refine N.out.mono ?_;rintro e w2 ⟨rfl,G⟩;unfold H7;simp only;obtain⟨c2,I⟩:=O.out w2 G));go_loopw [3,13] (fun r t wr => ∃ (k:Nat) (a:Option Addr) (m:Nat),k<=c.length/\r = .slice a k m/\t = .int .i64 (k:Int)/\Below d.heap.size d wr/\Zm D d.heap.size wr c k (.slice a k m)/\Hid (∀ q (hq:q < c.length) (hq':q < l.length),q < k->∀ j,j < c[q].ins.length->By c c[q] l[q] j=false)) (fun _ t _=>c.length - (intOf t).toNat);case atStart=>exact⟨0,none,0,by omega,rfl,rfl,G,⟨[],World.ownsRow_nil _ _ _ _,fun q hq h=>by omega⟩,fun q hq hq' h=>by omega⟩
  case round =>
   obtain⟨k,a,m,f,rfl,rfl,V,ao,HU⟩:=hrel;obtain⟨k0,s⟩:=O.out wr V;have an:=V.size;by_cases hlt:k < c.length
   ·have am:(k:Int) < (c.length:Int):=(by omega);have ab:k < l.length:=(by rw[ax.out];exact hlt);obtain⟨vs,own,H⟩:=ao;have ap:Hid (wr.ownsRow d.heap.size 105 1 (.slice a k m) k vs):=own;have ar:Hid (∀ q (hq:q < c.length),q < k->∃ x,vs[q]? = some x/\Ik D wr c c[q] x):=H;have aw:Hid (vs.length=k):=(by have:=own.1;rw[Nat.mul_one]at this;exact this);clear own H;have ah:Hid (Calls Tryz.prog 96 #[.agg #[.slice ca c.length cc],.int .i64 (k:Int)] wr (Fk c c[k] D wr)):=au.out k hlt wr s;by_cases hz:∃ u,u < c[k].ins.length/\By c c[k] l[k] u=true
    ·have M:Hid (∀ (g:Nat) (U':World),Fk c c[k] D wr (.returned (.pointer (some ⟨g,0,none⟩))) U'->Calls Tryz.prog 97 #[.pointer (some ⟨g,0,none⟩)] U' (fun e w' => ∃ u:Nat,e = .returned (.int .i64 (u:Int))/\Below U'.heap.size U' w')):=fun g U' h=>by
      refine(af.out k hlt ab wr g U' s h).mono ?_;rintro e w' ⟨Q|Q,hb⟩
      ·obtain⟨u,J,v,h5,h6⟩:=Q;exact⟨u,v,hb⟩
      ·obtain⟨u,J,h7⟩:=hz;have:=Q.2 u J;rw[h7]at this;simp at this
     have HA:Hid (¬ Bf c):=(by obtain⟨u,J,h7⟩:=hz;exact ad.out k u hlt ab J h7);clear hz;go_wp2_with (first
      | (go_at_call 96;refine ah.out.mono ?_;rintro e w3 R;obtain⟨⟨g3,Z⟩,b⟩:=Mq R;subst Z;have H3:Hid (Fk c c[k] D wr (.returned (.pointer (some ⟨g3,0,none⟩))) w3):=R;clear R)
      | (go_at_call 97;refine(M.out g3 w3 H3.out).mono ?_;rintro e w4 ⟨u,rfl,o⟩;have bj:(0:Int)<=(u:Int):=(by omega);have al:Below w.heap.size w w4:=s.trans ((b.trans (o.mono b.size)).mono s.size)))
     go_ret;exact⟨none,0,0,rfl,.inr ⟨HA.out,rfl⟩,al⟩
    ·have M:Hid (∀ (g:Nat) (U':World),Fk c c[k] D wr (.returned (.pointer (some ⟨g,0,none⟩))) U'->Calls Tryz.prog 97 #[.pointer (some ⟨g,0,none⟩)] U' (fun e w'=>e = .returned (.int .i64 (-1))/\Below U'.heap.size U' w')):=fun g U' h=>by
      refine(af.out k hlt ab wr g U' s h).mono ?_;rintro e w' ⟨Q|Q,hb⟩
      ·obtain⟨u,J,v,h5,h6⟩:=Q;exact(hz ⟨u,J,h5⟩).elim
      ·exact⟨Q.1,hb⟩
     have av:Hid (∀ q (hq:q < c.length) (hq':q < l.length),q < k+1->∀ j,j < c[q].ins.length->By c c[q] l[q] j=false):=fun q hq hq' h j hj=>by
      by_cases e:q=k
      ·subst e;cases hx:By c c[q] l[q] j with
       | false=>rfl
       | true=>exact(hz ⟨j,hj,hx⟩).elim
      ·exact HU.out q hq hq' (by omega) j hj
     clear hz;go_wp2_with (first
      | (go_at_call 96;refine ah.out.mono ?_;rintro e w3 R;obtain⟨⟨g3,Z⟩,b⟩:=Mq R;subst Z;have H3:Hid (Fk c c[k] D wr (.returned (.pointer (some ⟨g3,0,none⟩))) w3):=R;clear R)
      | (go_at_call 97;refine(M.out g3 w3 H3.out).mono ?_;rintro e w4 ⟨rfl,o⟩;have bh:=b.size;have bi:=o.size;have y:w4.ownsRow d.heap.size 105 1 (.slice a k m) k vs:=Jg ap.out (b.trans (o.mono b.size)))
      | (at_builtin;(refine wpList_append_own_at _ rfl _ _ 102 rfl d.heap.size 105 i0 (.pointer none) 1 8 Tryz.underlying102 a4 ba bb bc rfl (by decide) _ k vs rfl (y.alloc _) ⟨w4.heap.size,0,none⟩ 1 1 [.pointer (some ⟨g3,0,none⟩)] rfl rfl (cell_one_new _ _ _) (Qa4 _) (by unfold maxLen;omega) (by omega) (by simp;omega) ?_;intro v5 w5 K P _ be;have a8:=P.size;rw[World.size_alloc]at a8;have a7:Zm D d.heap.size w5 c (k+1) v5:=Zm.next (Nat.le_trans ae.out n.size) an ar.out aw.out b o (y.alloc _) P K hlt (Ik.of H3.out);have a3:Below d.heap.size d w5:=(Cr ((V.trans ((b.trans (o.mono b.size)).mono an)).alloc (by omega) _) P (by simp;omega) (fun q hq=>Bt y hq));obtain⟨a5,c5,a9⟩:=C9 K;subst a9)))
     go_roundw;case rel=>exact⟨k+1,a5,c5,by omega,rfl,by go_num,a3,a7,av⟩
     case measure=>simp[intOf];omega
   ·have am:¬ (k:Int) < (c.length:Int):=(by omega);have a6:k=c.length:=(by omega);subst a6;have HA:Hid (Bf c):=ac.out (.inr ⟨fun q hq hq' j hj=>HU.out q hq hq' hq j hj,rfl⟩);have HV:Hid (Mr D wr c c.length (.slice a c.length m)):=by
     obtain⟨vs,own,H⟩:=ao;exact⟨vs,D1 own (Nat.le_trans ae.out n.size),H⟩
    go_wp2_with fail;go_ret;exact⟨_,_,_,rfl,.inl ⟨HA.out,HV.out⟩,s⟩
 ·have aa:=Rm r0 r1 r2 0 0 0;have ak:(r0 == 0 && r1 == 0 && r2 == 0)=false:=by simp[hz]
  rw[ak]at aa;have HA:Hid (¬ Bf c):=z.out hz;clear C z A ak hz hC hCD hT hW;go_enter Tryz.func68,Tryz.ntmps68;go_wp2_with (first|(go_at_call 95;refine N.out.mono ?_;rintro e w2 ⟨rfl,G⟩;unfold H7;simp only;obtain⟨-,I⟩:=O.out w2 G));go_ret;exact⟨none,0,0,rfl,.inr ⟨HA.out,rfl⟩,I⟩
theorem Zy (B:Nat) (c:List Ae) (cv:Value) (hcl:c.length<=1048576) (w:World) (hB:B<=w.heap.size) (hC:An B w cv c) :
  Calls Tryz.prog 56 #[.agg #[cv]] w fun e w'=>(∃ m:Int,e = .returned (.int .i64 m)/\((m < 0/\c.any A9=false)\/∃ (j:Nat) (k:j < c.length),m=(j:Int)/\A9 c[j]=true))/\Below w.heap.size w w':=by
 obtain⟨a,d,rfl,o⟩:=hC;have G:Hid (∀ i (F:i < c.length),∃ g A C,a=some ⟨g,0,none⟩/\g < B/\w.cell? ⟨g,i * 5,none⟩=some (.string c[i].name)/\w.cell? ⟨g,i * 5+1,none⟩=some (.slice A c[i].params.length C)/\w.cell? ⟨g,i * 5+2,none⟩=some (.int .i64 c[i].result)):=fun i F=>by
  obtain⟨g,H,A,C,R,S,q,I,r,s,u,_⟩:=An.fn ⟨a,d,rfl,o⟩ i F;injection q with e1;exact⟨g,A,C,e1,I,r,s,u⟩
 clear o;obtain⟨Z,E⟩:∃ Z,w.alloc (.cells #[.slice a c.length d] 59)=Z:=⟨_,rfl⟩;have n:Below w.heap.size w Z:=by rw[<- E];exact(Below.refl _ w).alloc (Nat.le_refl _) _
 have N:Z.heap.size=w.heap.size+1:=by rw[<- E];exact World.size_alloc _ _
 have P:Z.cell? ⟨w.heap.size,0,none⟩=some (.slice a c.length d):=by rw[<- E];exact Bm w _ _ 0 _ rfl
 go_enter Tryz.func56,Tryz.ntmps56;go_wp2_with fail;go_loopw [3] (fun t w2 => ∃ i:Nat,i<=c.length/\t = .int .i64 (i:Int)/\Below Z.heap.size Z w2/\∀ j (k:j < c.length),j < i->A9 c[j]=false) (fun t _=>c.length - (intOf t).toNat);case atStart=>exact⟨0,by omega,rfl,Below.refl _ _,fun j k h=>by omega⟩
 case round =>
  obtain⟨i,F,rfl,q,z⟩:=hrel;have b:Below w.heap.size w wr:=n.trans (q.mono n.size);have Q:wr.cell? ⟨w.heap.size,0,none⟩=some (.slice a c.length d):=(q.cell (p:=⟨w.heap.size,0,none⟩) (by show w.heap.size < _;omega)).trans P;by_cases hlt:i < c.length
  ·obtain⟨g,A,C,rfl,I,r,s,u⟩:=G.out i hlt;have K:=(b.cell (p:=⟨g,i * 5,none⟩) (by show g < _;omega)).trans r;have L:=(b.cell (p:=⟨g,i * 5+1,none⟩) (by show g < _;omega)).trans s;have M:=(b.cell (p:=⟨g,i * 5+2,none⟩) (by show g < _;omega)).trans u;obtain⟨f,v⟩:∃ f,c[i]=f:=⟨_,rfl⟩;rw[v]at K L M;have D:Hid (A9 f=false->∀ j (k:j < c.length),j < i+1->A9 c[j]=false):=fun hm j k h=>by
    by_cases e:j=i
    ·subst e;rw[v];exact hm
    ·exact z j k (by omega)
   have l:Hid (A9 f=true->(((i:Int) < 0/\c.any A9=false)\/∃ (j:Nat) (k:j < c.length),(i:Int)=(j:Int)/\A9 c[j]=true)):=fun hm => .inr ⟨i,hlt,rfl,by rw[v];exact hm⟩
   clear r s u z v G;go_wp2_with fail;all_goals first
    | (refine⟨⟨i+1,by omega,by go_num,q,D.out (by first|(simp[A9, *];done)|(have y := ‹(f.result == 2)=false›;simp at y;simp[A9,y];done))⟩,by simp[intOf];omega⟩)
    | (go_ret;exact⟨⟨(i:Int),rfl,l.out (by have y := ‹(f.result == 2)=true›;simp at y;simp[A9, *])⟩,b⟩)
  ·have J:Hid (((-1:Int) < 0/\c.any A9=false)\/∃ (j:Nat) (k:j < c.length),(-1:Int)=(j:Int)/\A9 c[j]=true):=by
    refine .inl ⟨by omega, ?_⟩;rw[List.any_eq_false];intro x O;obtain⟨j,k,rfl⟩:=List.mem_iff_getElem.1 O;rw[z j k (by omega)];simp
   clear z;go_wp2_with fail;go_ret;exact⟨⟨-1,rfl,J.out⟩,b⟩
theorem Bf.plain {c:List Ae} (h:Bf c):(B4 c).1=0:=by
 by_cases hp:(B4 c).1=0
 ·exact hp
 ·exact absurd h (Vf hp)
theorem Bf.sound {c:List Ae} (h:Bf c):Fj c:=Jv h.plain
theorem Su {c:List Ae} (h:Bf c):∃ M:Nat,∃ (hM:M < c.length),Do c Dn=(M:Int)/\A9 c[M]=true/\∀ j (b:j < c.length),A9 c[j]=true->j=M:=by
 have p:=h.sound;have d:=h.plain;have m:c.any A9=true:=by
  unfold B4 at d;split at d
  ·simp at d
  ·split at d
   ·simp at d
   ·split at d
    ·simp at d
    ·split at d
     ·assumption
     ·simp at d
 have l:Q8 c:=M8 p.fns;obtain⟨f,q,g⟩:=List.any_eq_true.1 m;obtain⟨j,b,rfl⟩:=List.getElem_of_mem q;have a:∀ j (b:j < c.length),A9 c[j]=true->(c[j].name.toList == Dn.toList)=true:=fun j b g=>by
  unfold A9 at g;simp only[Bool.and_eq_true]at g;rw[Mf];exact g.1.1
 refine⟨j,b, ?_,g,fun i hi hmi => ?_⟩
 ·have:=Ns Dn c 0 j b (fun i hi hij=>by
   have k:=l i j hi b hij
   have o:=a j b g
   rw[<- eq_of_beq o];exact k) (a j b g)
  rw[Nat.zero_add]at this;exact this
 ·have n:c[i].name.toList=c[j].name.toList:=by rw[eq_of_beq (a i hi hmi),eq_of_beq (a j b g)]
  rcases Nat.lt_trichotomy i j with k|k|k
  ·have:=l i j hi b k;rw[n]at this;simp at this
  ·exact k
  ·have:=l j i b hi k;rw[n]at this;simp at this
theorem Nw {c:List Ae} (h:Bf c) (k:Int):Lc c k ↔ k=Do c Dn:=by
 obtain⟨M,l,g,i,j⟩:=Su h;rw[g];constructor
 ·rintro⟨a,b,d⟩;have f:k.toNat < c.length:=by omega
  rw[List.getD_eq_getElem?_getD,List.getElem?_eq_getElem f]at d;have:=j k.toNat f d;omega
 ·intro e;subst e;refine⟨by omega,by omega, ?_⟩;rw[Int.toNat_natCast,List.getD_eq_getElem?_getD,List.getElem?_eq_getElem l];exact i
def Gw (m:Ea) (k:Nat) (hk:k < m.frames.length):Prop :=
 (m.frames[k].code=Dg m k+1/\m.frames[k].code < (m.codes.length:Int)/\m.frames[k].fn=Do (m.codes.getD m.frames[k].code.toNat []) Dn)\/(m.frames[k].code=Dg m k/\0<=Dg m k)
def Gp (m:Ea):Prop:=(∀ k (hk:k < m.frames.length),Gw m k hk)/\0<=Dg m m.frames.length/\Dg m m.frames.length=(m.codes.length:Int) - 1
theorem F2 (m:Ea) (k:Nat) (hk:k < m.frames.length):Dg m (k+1)=m.frames[k].code:=by
 unfold Dg;rw[if_neg (by omega),Nat.add_sub_cancel,List.getD_eq_getElem?_getD,List.getElem?_eq_getElem hk];rfl
theorem I3 (m:Ea):Dg m 0 = -1:=by unfold Dg;rw[if_pos rfl]
theorem Ld {m:Ea} {n:Nat} (hn:n<=m.frames.length) (h:∀ k (a:k < m.frames.length),k < n->Gw m k a) : -1<=Dg m n/\Dg m n < (m.codes.length:Int)/\∀ j:Nat,(j:Int)<=Dg m n->∃ i,∃ (hi:i < m.frames.length),m.frames[i].code=(j:Int):=by
 induction n with
 | zero=>rw[I3];exact⟨by omega,by omega,fun j hj=>by omega⟩
 | succ k ih =>
  obtain⟨f,g,c⟩:=ih (by omega) (fun q hq hqk=>h q hq (by omega));have a:k < m.frames.length:=by omega
  rw[F2 m k a];rcases h k a (by omega) with⟨d,b,-⟩|⟨d,b⟩
  ·refine⟨by omega,b,fun j hj => ?_⟩;by_cases e:(j:Int)<=Dg m k
   ·exact c j e
   ·exact⟨k,a,by omega⟩
  ·refine⟨by omega,by omega,fun j hj=>c j (by omega)⟩
def Pd (m:Ea) (k:Nat) (hk:k < m.frames.length):Prop :=
 Bf (m.codes.getD m.frames[k].code.toNat [])/\0<=m.frames[k].fn/\m.frames[k].fn < ((m.codes.getD m.frames[k].code.toNat []).length:Int)/\∃ X,Cl (m.codes.getD m.frames[k].code.toNat []) ((m.codes.getD m.frames[k].code.toNat []).getD m.frames[k].fn.toNat A6) X/\Fb (Bv m k) m.frames[k] (m.codes.getD m.frames[k].code.toNat []) ((m.codes.getD m.frames[k].code.toNat []).getD m.frames[k].fn.toNat A6) X
def Jh (m:Ea):Prop:=m.frames.length<=40/\Gp m/\∀ k (hk:k < m.frames.length),Pd m k hk
theorem Ln (m:Ea) (j:Nat) (hj:j < m.codes.length):m.codes.getD j []=m.codes[j]:=by rw[List.getD_eq_getElem?_getD,List.getElem?_eq_getElem hj];rfl
theorem Xi (m:Ea) (k:Nat) (hk:k < m.frames.length):m.frames.getD k F8=m.frames[k]:=by rw[List.getD_eq_getElem?_getD,List.getElem?_eq_getElem hk];rfl
theorem Ss (m:Ea):Jh m ↔ ((∀ c ∈ m.codes,Bf c)/\Hp m/\Ff m):=by
 constructor
 ·rintro⟨l,⟨o,x,p⟩,d⟩;have f:1<=m.frames.length:=by
   rcases Nat.eq_zero_or_pos m.frames.length with v|v
   ·rw[v,I3]at x;omega
   ·exact v
  have a:Dg m m.frames.length=(m.frames[m.frames.length - 1]'(by omega)).code:=by
   have:=F2 m (m.frames.length - 1) (by omega);rw[Nat.sub_add_cancel f]at this;exact this
  have b:∀ c ∈ m.codes,Bf c:=fun c hc=>by
   obtain⟨j,t,rfl⟩:=List.getElem_of_mem hc;obtain⟨-,-,s⟩:=Ld (Nat.le_refl _) (fun k hk _=>o k hk);obtain⟨i,D,C⟩:=s j (by omega);have:=(d i D).1;rw[C,Int.toNat_natCast,Ln m j t]at this;exact this
  refine⟨b,⟨f,l,by rw[Xi m _ (by omega),<- a];exact p,fun k hk => ?_⟩,fun k hk=>(d k hk).2.2.2⟩;obtain⟨B,y,s,-⟩:=d k hk;obtain⟨K,L,-⟩:=Ld (n:=k) (by omega) (fun q hq _=>o q hq);rcases o k hk with⟨u,A,J⟩|⟨u,A⟩
  ·exact⟨.inr u,by omega,A,y,s,fun _=>(Nw B _).2 J⟩
  ·exact⟨.inl u,by omega,by omega,y,s,fun e=>absurd u e⟩
 ·rintro⟨b,⟨f,l,a,h⟩,d⟩;have r:∀ k (hk:k < m.frames.length),Bf (m.codes.getD m.frames[k].code.toNat []):=fun k hk=>by
   obtain⟨-,F,z,-⟩:=h k hk;have t:m.frames[k].code.toNat < m.codes.length:=(by omega);rw[Ln m _ t];exact b _ (List.getElem_mem t)
  have p:Dg m m.frames.length=(m.codes.length:Int) - 1:=by
   have:=F2 m (m.frames.length - 1) (by omega);rw[Nat.sub_add_cancel f]at this;rw[this,<- Xi m _ (by omega)];exact a
  have g:0<=Dg m m.frames.length:=by
   have:=F2 m (m.frames.length - 1) (by omega);rw[Nat.sub_add_cancel f]at this;rw[this];exact(h (m.frames.length - 1) (by omega)).2.1
  refine⟨l,⟨fun k hk => ?_,g,p⟩,fun k hk => ?_⟩
  ·obtain⟨E,F,z,-,-,I⟩:=h k hk;by_cases e:m.frames[k].code=Dg m k
   ·exact .inr ⟨e,by omega⟩
   ·exact .inl ⟨E.resolve_left e,z,(Nw (r k hk) _).1 (I e)⟩
  ·obtain⟨-,-,-,G,H,-⟩:=h k hk;exact⟨r k hk,G,H,d k hk⟩
end Go.Proofs.YtahibkjkpmdhgaaGreatDoor
