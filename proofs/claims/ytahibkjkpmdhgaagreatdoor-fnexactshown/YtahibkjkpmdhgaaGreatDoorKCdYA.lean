import Derived.Test.YtahibkjkpmdhgaaGreatDoorKTk
import Derived.Test.YtahibkjkpmdhgaaGreatDoorKCdY
set_option maxRecDepth 100000
set_option maxHeartbeats 4000000
namespace Go.Proofs.YtahibkjkpmdhgaaGreatDoor
open Go.RowKit
theorem P5 (c:List Af):∀ (l:List Af) (k:Nat),Gz c l k=none->∀ j (hj:j < l.length),Bz c (k+j) l[j]=true
 | [],_,_,j,hj=>by simp at hj
 | f::r,k,h,j,hj=>by
  rw[Gz]at h
  by_cases hf:Bz c k f=true
  ·rw[if_pos hf]at h
   cases j with
   | zero=>exact hf
   | succ j =>
    have:=P5 c r (k+1) h j (by simpa using hj)
    have e:k+1+j=k+(j+1):=Ou
    rw[e]at this
    simpa using this
  ·rw[if_neg hf]at h;simp at h
theorem Ow (c:List Af) (f:Af):∀ (l:List Az) (k:Nat),Dk c f l k=none->∀ j (hj:j < l.length),Aq c f l[j]=true
 | [],_,_,j,hj=>by simp at hj
 | i::r,k,h,j,hj=>by
  rw[Dk]at h
  by_cases hf:Aq c f i=true
  ·rw[if_pos hf]at h
   cases j with
   | zero=>exact hf
   | succ j=>simpa using Ow c f r (k+1) h j (by simpa using hj)
  ·rw[if_neg hf]at h;simp at h
theorem No (c:List Af):∀ (l:List Af) (k:Nat),Du c l k=none->∀ j (hj:j < l.length),Dk c l[j] l[j].ins 0=none
 | [],_,_,j,hj=>by simp at hj
 | f::r,k,h,j,hj=>by
  rw[Du]at h
  cases hb:Dk c f f.ins 0 with
  | some i=>rw[hb]at h;simp at h
  | none =>
   rw[hb]at h
   cases j with
   | zero=>exact hb
   | succ j=>simpa using No c r (k+1) h j (by simpa using hj)
structure F3 (c:List Af):Prop where
 len:c.length<=60
 fns:∀ k (hk:k < c.length),Bz c k c[k]=true
 ins:∀ k (hk:k < c.length) i (hi:i < c[k].ins.length),Aq c c[k] c[k].ins[i]=true
theorem Kx {c:List Af} (h:(B8 c).1=0):F3 c:=by
 unfold B8 at h;by_cases h1:c.length=0\/60 < c.length
 ·rw[if_pos h1]at h;simp at h
 ·rw[if_neg h1]at h;cases h2:Gz c c 0 with
  | some k=>rw[h2]at h;simp at h
  | none =>
   rw[h2]at h;cases h3:Du c c 0 with
   | some p=>rw[h3]at h;simp at h
   | none =>
    refine⟨by omega,fun k hk => ?_,fun k hk i hi=>Ow c c[k] _ 0 (No c c 0 h3 k hk) i hi⟩;have:=P5 c c 0 h2 k hk;rw[Nat.zero_add]at this;exact this
theorem F3.pl {c:List Af} (h:F3 c):∀ g ∈ c,g.params.length<=8:=fun g hg=>by
 obtain⟨k,a,rfl⟩:=List.getElem_of_mem hg
 exact(F5 (h.fns k a)).2.2.2.2.1
theorem F3.shapes {c:List Af} (h:F3 c) (k:Nat) (hk:k < c.length) (ca:Option Addr) (cc:Nat) (w:World) (hC:Al w.heap.size w (.slice ca c.length cc) c):Calls Tryz.prog 84 #[.agg #[.slice ca c.length cc],.int .i64 (k:Int)] w (Ib c c[k] w) :=
 Xj c k hk c[k] rfl ca cc h.len (h.fns k hk) h.pl (h.ins k hk) w hC
theorem F3.least {c:List Af} (h:F3 c) (ca:Option Addr) (cc:Nat) (w:World) (hC:Al w.heap.size w (.slice ca c.length cc) c):∃ XS:List (List Am),XS.length=c.length/\∀ k (hk:k < c.length) (hk':k < XS.length),Cr c c[k] XS[k]:=by
 have a:∀ k (hk:k < c.length),∃ X,Cr c c[k] X:=fun k hk=>by
  obtain⟨e,w',j,⟨g,X,_,_,i,_⟩,_⟩:=h.shapes k hk ca cc w hC [];exact⟨X,i⟩
 refine⟨(List.range c.length).map (fun k=>Classical.epsilon (fun X => ∃ hk:k < c.length,Cr c c[k] X)),by simp,fun k hk hk' => ?_⟩;obtain⟨X,f⟩:=a k hk;have b:=Classical.epsilon_spec (p:=fun X => ∃ hk:k < c.length,Cr c c[k] X) ⟨X,hk,f⟩;obtain⟨_,d⟩:=b;simpa using d
theorem Zp (W:World) (st:Int) (a b:Value):Sem.run Tryz.prog (Instr.field 126 (.agg #[.int .i64 st,a,b]) 0) W = .ok (.int .i64 st) W:=by
 simp[Instr.field,run_underlying Tryz.underlying126,go_sem,asAgg]
def Py (c:List Af) (w:World) (e:Ending) (w':World):Prop:=(∃ r,e = .returned (Zw r)/\Dj c r)/\OH w w'
theorem Qx (c:List Af) (ca:Option Addr) (cc:Nat) (hcl:c.length<=1048576) (hpl:∀ k (hk:k < c.length),c[k].params.length<=1048576/\c[k].ins.length<=1048576) (w:World) (hC:Al w.heap.size w (.slice ca c.length cc) c) :
  Calls Tryz.prog 55 #[.agg #[.slice ca c.length cc]] w (Py c w):=by
 have HC:Hid (Al w.heap.size w (.slice ca c.length cc) c):=hC;clear hC;obtain⟨L,N⟩:∃ Y,w.alloc (.cells #[.slice ca c.length cc] 59)=Y:=⟨_,rfl⟩;have B:OH w L:=by rw[<- N];exact Ao w _
 have be:L.heap.size=w.heap.size+1:=by rw[<- N];exact World.size_alloc _ _
 have G:L.heap[w.heap.size]? = some (.cells #[.slice ca c.length cc] 59):=by rw[<- N];exact Ae w _
 have aw:L.cell? (OK w 0)=some (.slice ca c.length cc):=by rw[Lib.cell_of_heap G];rfl
 have ao:Hid (L.heap[w.heap.size]? = some (.cells #[.slice ca c.length cc] 59)):=G;obtain⟨⟨p1,p2,p3⟩,J⟩:∃ p,Hid (B8 c=p):=⟨_,(rfl:B8 c=_)⟩;have ab:Hid (Calls Tryz.prog 83 #[.agg #[.slice ca c.length cc]] L fun e w'=>e = .returned (.tuple #[.int .i64 p1,.int .i64 p2,.int .i64 p3])/\OH L w'):=by
  have h:=Zm w.heap.size c (.slice ca c.length cc) hcl hpl L Ou (HC.out.below B);rw[J.out]at h;exact h
 clear G;have bg:∀ (W:World) (C:Int) (a b:Value),Sem.run Tryz.prog (Instr.field 126 (.agg #[.int .i64 C,a,b]) 0) W = .ok (.int .i64 C) W:=Zp;go_enter Tryz.func55,Tryz.ntmps55;by_cases hp:p1=0
 ·subst hp;have A:Hid (F3 c):=Kx (by rw[J.out]);obtain⟨l,au,av⟩:∃ l:List (List Am),Hid (l.length=c.length)/\Hid (∀ k (hk:k < c.length) (hk':k < l.length),Cr c c[k] l[k]):=A.out.least ca cc w HC.out;have Q:Hid (∀ r,((∃ k u,∃ (h:k < c.length) (h':k < l.length),u < c[k].ins.length/\B0 c c[k] l[k] u=true/\(∀ j,j < u->B0 c c[k] l[k] j=false)/\(∀ q (hq:q < k) j,j < (c[q]'Ou).ins.length->B0 c (c[q]'Ou) (l[q]'Ou) j=false)/\r=(5,(k:Int),(u:Int)))\/((∀ q (hq:q < c.length) (hq':q < l.length) j,j < c[q].ins.length->B0 c c[q] l[q] j=false)/\r=(0,0,0)))->Dj c r):=fun r hr=>by
   unfold Dj;rw[if_neg (by rw[J.out];simp)];exact⟨l,au.out,av.out,hr⟩
  go_wp2_with (first|(go_at_call 83;refine ab.out.mono ?_;rintro e w1 ⟨rfl,s⟩));have aj:Hid (OH w w1):=B.trans (s.mono B.size);have ap:Hid (w1.heap[w.heap.size]? = some (.cells #[.slice ca c.length cc] 59)):=(s.block _ Ou).trans ao.out;clear s ab ao aw N be B;go_loopw [8] (fun t wr => ∃ q:Nat,q<=c.length/\t = .int .i64 (q:Int)/\OH w wr/\wr.heap[w.heap.size]? = some (.cells #[.slice ca c.length cc] 59)/\∀ z (hz:z < c.length) (hz':z < l.length),z < q->∀ j,j < c[z].ins.length->B0 c c[z] l[z] j=false) (fun t _=>c.length - (intOf t).toNat);case atStart=>exact⟨0,by omega,rfl,aj.out,ap.out,fun z hz hz' h=>Ou⟩
  case round =>
   obtain⟨q,hq,rfl,ay,ah,S⟩:=hrel;have n:Hid (OH w wr):=ay;have ac:Hid (wr.heap[w.heap.size]? = some (.cells #[.slice ca c.length cc] 59)):=ah;have D:Hid (∀ z (hz:z < c.length) (hz':z < l.length),z < q->∀ j,j < c[z].ins.length->B0 c c[z] l[z] j=false):=S;have bc:wr.cell? (OK w 0)=some (.slice ca c.length cc):=(by rw[Lib.cell_of_heap ah];rfl);clear ay ah S aj ap;by_cases hql:q < c.length
   ·have a1:(q:Int) < (c.length:Int):=Ou;have a2:q < l.length:=(by rw[au.out];exact hql);obtain⟨d,bi,pa,pc,ia,ic,ev,F,d0,d1,d2,d3,d4,hP,hI⟩:=HC.out.fn q hql;injection ev with ev1 ev2 ev3;subst ev1 ev3;have ba:=(show Hid _ from A.out.shapes q hql (some (OI d 0)) cc wr (Al.mono (HC.out.below n.out) n.out.size));obtain⟨f,hf⟩:∃ f,c[q]=f:=⟨_,rfl⟩;have am:Hid (∀ i (hi:i < f.ins.length),Aq c f f.ins[i]=true):=(by rw[Hid,<- hf];exact A.out.ins q hql);have an:Hid (Cr c f l[q]):=(by rw[Hid,<- hf];exact av.out q hql a2);obtain⟨b1,b2,b3,b4,b5,b6,-,-,-⟩:=F5 (by rw[<- hf];exact A.out.fns q hql:Bz c q f=true);have ax:Calls Tryz.prog 84 #[.agg #[.slice (some (OI d 0)) c.length cc],.int .i64 (q:Int)] wr (Ib c f wr):=(by rw[<- hf];exact A.out.shapes q hql (some (OI d 0)) cc wr (Al.mono (HC.out.below n.out) n.out.size));have aq:Hid (Calls Tryz.prog 84 #[.agg #[.slice (some (OI d 0)) c.length cc],.int .i64 (q:Int)] wr (Ib c f wr)):=ax;rw[hf]at d0 d1 d2 d3 d4 hP hI;have HI:Hid (Ba w.heap.size w (.slice ia f.ins.length ic) f.ins):=hI;have HD:Hid (w.cell? (OI d (q * 5))=some (.string f.name)/\w.cell? (OI d (q * 5+1))=some (.slice pa f.params.length pc)/\w.cell? (OI d (q * 5+2))=some (.int .i64 f.result)/\w.cell? (OI d (q * 5+3))=some (.int .i64 f.slots)/\w.cell? (OI d (q * 5+4))=some (.slice ia f.ins.length ic)):=⟨d0,d1,d2,d3,d4⟩;have HF:Hid (c[q]=f):=hf;clear d0 d1 d2 d3 d4 hP hI hf ax ba ev2;go_wp2_with (first|(go_at_call 84;refine aq.out.mono ?_;rintro e H ⟨o,X,rfl,a3,O,T,af⟩));have hX:X=l[q]:=O.one an.out;have R:Hid (Cs o H X):=a3;have a8:Hid (Cr c f X):=O;have ar:Hid (∀ u,H7 (Ai X u)):=T;have ae:Hid (X=l[q]):=hX;have m:Hid (OH w H):=n.out.trans (af.mono n.out.size);have I:Hid (H.heap[w.heap.size]? = some (.cells #[.slice (some (OI d 0)) c.length cc] 59)):=(af.block _ (Array.getElem?_eq_some_iff.1 ac.out).1).trans ac.out;have bb:Hid (X.length=f.ins.length):=O.1.size;clear a3 O T af hX bc ac n aq;go_loopw [10] (fun t wr => ∃ u:Nat,u<=f.ins.length/\t = .int .i64 (u:Int)/\OH H wr/\∀ j,j < u->B0 c f X j=false) (fun t _=>f.ins.length - (intOf t).toNat);case atStart=>exact⟨0,by omega,rfl,Below.refl _ _,fun j h=>Ou⟩
    case round =>
     obtain⟨u,hu,rfl,az,a5⟩:=hrel;have g:Hid (OH H wr):=az;have K:Hid (∀ j,j < u->B0 c f X j=false):=a5;clear az a5;by_cases hul:u < f.ins.length
     ·have a4:(u:Int) < (f.ins.length:Int):=Ou;obtain⟨C,sa,sl,sc,U,Z,V,g0,g1,g2,ad⟩:∃ C sa sl sc U Z V,wr.cell? (OI o (u * 3))=some (.int .i64 C)/\wr.cell? (OI o (u * 3+1))=some (.slice sa sl sc)/\wr.cell? (OI o (u * 3+2))=some (.slice U Z V)/\Hid (A9 wr.heap.size wr (Ah C (.slice sa sl sc) (.slice U Z V)) (Ai X u)):=by
       have a0:u < X.length:=(by rw[bb.out];exact hul);have h:=(R.out.below g.out).each u a0;rw[<- Ir a0]at h;exact h
      have y:Hid (∀ W,OH wr W->W.cell? (OK w 0)=some (.slice (some (OI d 0)) c.length cc)/\(W.cell? (OI d (q * 5))=some (.string f.name)/\W.cell? (OI d (q * 5+1))=some (.slice pa f.params.length pc)/\W.cell? (OI d (q * 5+2))=some (.int .i64 f.result)/\W.cell? (OI d (q * 5+3))=some (.int .i64 f.slots)/\W.cell? (OI d (q * 5+4))=some (.slice ia f.ins.length ic))/\W.cell? (OI o (u * 3))=some (.int .i64 C)/\W.cell? (OI o (u * 3+1))=some (.slice sa sl sc)/\W.cell? (OI o (u * 3+2))=some (.slice U Z V)):=fun W hW=>by
       have M:=(show OH H W from g.out.trans (hW.mono g.out.size));have E:=(show OH w W from m.out.trans (M.mono m.out.size));have hl:o < wr.heap.size:=(R.out.below g.out).lt;have hp:=(M.block _ (Array.getElem?_eq_some_iff.1 I.out).1).trans I.out;obtain⟨d0,d1,d2,d3,d4⟩:=HD.out;exact⟨by rw[Lib.cell_of_heap hp];rfl,⟨(E.cell (p:=(OI d (q * 5))) F).trans d0,(E.cell (p:=(OI d (q * 5+1))) F).trans d1,(E.cell (p:=(OI d (q * 5+2))) F).trans d2,(E.cell (p:=(OI d (q * 5+3))) F).trans d3,(E.cell (p:=(OI d (q * 5+4))) F).trans d4⟩,(hW.cell (p:=(OI o (u * 3))) hl).trans g0,(hW.cell (p:=(OI o (u * 3+1))) hl).trans g1,(hW.cell (p:=(OI o (u * 3+2))) hl).trans g2⟩
      obtain⟨l0,⟨l1,l2,l3,l4,l5⟩,l6,l7,l8⟩:=y.out wr (Below.refl _ _);by_cases hst:C=0
      ·subst hst;have HU:Hid (∀ j,j < u+1->B0 c f X j=false):=fun j hj=>by
        by_cases e:j=u
        ·subst e;unfold B0;rw[ad.out.state.1.1 rfl];rfl
        ·exact K.out j Ou
       go_wp2_with fail;go_quiet (fail);all_goals
        go_wp2_with fail;go_roundw;case rel=>exact⟨u+1,by omega,by go_num,B9 _ g.out,HU.out⟩
        case measure=>simp[intOf];omega
      ·have bh:(C != 0)=true:=(by simp[hst]);have a9:Hid (Ai X u ≠ .none):=fun e=>hst (ad.out.state.1.2 e)
       obtain⟨b,aa⟩:∃ b,Hid (Cq c f u (Ai X u)=b):=⟨_,(rfl:Cq c f u (Ai X u)=_)⟩;have ak:Hid (∀ W,OH wr W->Calls Tryz.prog 85 #[.agg #[.slice (some (OI d 0)) c.length cc],.agg #[.string f.name,.slice pa f.params.length pc,.int .i64 f.result,.int .i64 f.slots,.slice ia f.ins.length ic],.int .i64 (u:Int),.agg #[.int .i64 C,.slice sa sl sc,.slice U Z V]] W fun e w'=>(∃ v,e = .returned v/\A9 w'.heap.size w' v b)/\OH W w'):=fun W hW=>by
        have M:=(show OH H W from g.out.trans (hW.mono g.out.size));have P:=(show OH w W from m.out.trans (M.mono m.out.size));have hb:=Ox c f u hul (some (OI d 0)) ia cc ic (.slice pa f.params.length pc) (Ah C (.slice sa sl sc) (.slice U Z V)) (Ai X u) A.out.len Ou b1 b2 A.out.pl (am.out u hul) (by rw[<- D1 f b6];exact a8.out.1.lens u) (ar.out u) W (Al.mono (HC.out.below P) P.size) (Ba.mono (HI.out.below P) P.size) ((ad.out.below hW).mono hW.size);rw[aa.out]at hb;exact hb
       clear hst;by_cases hbc:b = .clash
       ·subst hbc;have HA:Hid (Dj c (5,(q:Int),(u:Int))):=by
         refine Q.out _ (.inl ⟨q,u,hql,a2,by rw[HF.out];exact hul, ?_, ?_,fun z hz j hj=>D.out z Ou Ou hz j hj,rfl⟩)
         ·rw[HF.out,<- ae.out];unfold B0;rw[aa.out];simp[a9.out]
         ·rw[HF.out,<- ae.out];exact K.out
        go_wp2_with fail;go_region_held3 (fun W=>W.cell? (OK w 0)=some (.slice (some (OI d 0)) c.length cc)/\(W.cell? (OI d (q * 5))=some (.string f.name)/\W.cell? (OI d (q * 5+1))=some (.slice pa f.params.length pc)/\W.cell? (OI d (q * 5+2))=some (.int .i64 f.result)/\W.cell? (OI d (q * 5+3))=some (.int .i64 f.slots)/\W.cell? (OI d (q * 5+4))=some (.slice ia f.ins.length ic))/\W.cell? (OI o (u * 3))=some (.int .i64 C)/\W.cell? (OI o (u * 3+1))=some (.slice sa sl sc)/\W.cell? (OI o (u * 3+2))=some (.slice U Z V)) (first|exact y.out _ (Below.refl _ _)|exact y.out _ x|exact y.out _ (by repeat (first|exact Below.refl _ _|apply Below.drew|(refine Below.alloc ?_ OB _)))) (first|(go_at_call 85;refine(ak.out _ (by repeat (first|exact Below.refl _ _|apply Below.drew|(refine Below.alloc ?_ OB _)))).mono ?_;rintro e w7 ⟨⟨v,rfl,hv⟩,ag⟩;have ai:=(show v = .agg #[.int .i64 2,.slice none 0 0,.slice none 0 0] from hv);subst ai;have x:=(show OH wr w7 from Below.trans (by repeat (first|exact Below.refl _ _|apply Below.drew|(refine Below.alloc ?_ OB _))) (ag.mono OB))));all_goals
         go_wp2_with fail;go_ret3;exact⟨⟨(5,(q:Int),(u:Int)),rfl,HA.out⟩,(m.out.trans (g.out.mono m.out.size)).trans (x.mono (Nat.le_trans m.out.size g.out.size))⟩
       ·have HU:Hid (∀ j,j < u+1->B0 c f X j=false):=fun j hj=>by
         by_cases e:j=u
         ·subst e;unfold B0;rw[aa.out];simp[hbc]
         ·exact K.out j Ou
        go_wp2_with fail;go_region_held3 (fun W=>W.cell? (OK w 0)=some (.slice (some (OI d 0)) c.length cc)/\(W.cell? (OI d (q * 5))=some (.string f.name)/\W.cell? (OI d (q * 5+1))=some (.slice pa f.params.length pc)/\W.cell? (OI d (q * 5+2))=some (.int .i64 f.result)/\W.cell? (OI d (q * 5+3))=some (.int .i64 f.slots)/\W.cell? (OI d (q * 5+4))=some (.slice ia f.ins.length ic))/\W.cell? (OI o (u * 3))=some (.int .i64 C)/\W.cell? (OI o (u * 3+1))=some (.slice sa sl sc)/\W.cell? (OI o (u * 3+2))=some (.slice U Z V)) (first|exact y.out _ (Below.refl _ _)|exact y.out _ x|exact y.out _ (by repeat (first|exact Below.refl _ _|apply Below.drew|(refine Below.alloc ?_ OB _)))) (first|(go_at_call 85;refine(ak.out _ (by repeat (first|exact Below.refl _ _|apply Below.drew|(refine Below.alloc ?_ OB _)))).mono ?_;rintro e w7 ⟨⟨v,rfl,hv⟩,ag⟩;obtain⟨a6,xa,xn,xc,ya,yn,yc,ai⟩:=hv.form;subst ai;have bk:=(show (a6 == 2)=false from(by have:=(show A9 _ _ (Ah a6 (.slice xa xn xc) (.slice ya yn yc)) _ from hv).state.2;simp;exact fun e=>hbc (this.1 e)));have x:=(show OH wr w7 from Below.trans (by repeat (first|exact Below.refl _ _|apply Below.drew|(refine Below.alloc ?_ OB _))) (ag.mono OB))));all_goals
         go_wp2_with fail;go_roundw;case rel=>exact⟨u+1,by omega,by go_num,(g.out.trans (x.mono g.out.size)),HU.out⟩
         case measure=>simp[intOf];omega
     ·have a4:¬ (u:Int) < (f.ins.length:Int):=Ou;have bf:u=f.ins.length:=Ou;have al:Hid (∀ z (hz:z < c.length) (hz':z < l.length),z < q+1->∀ j,j < c[z].ins.length->B0 c c[z] l[z] j=false):=fun z hz hz' h j hj=>by
       by_cases e:z=q
       ·subst e;rw[HF.out,<- ae.out];rw[HF.out]at hj;exact K.out j Ou
       ·exact D.out z hz hz' Ou j hj
      have a7:=(show OH w wr from m.out.trans (g.out.mono m.out.size));have bd:=(g.out.block _ (Array.getElem?_eq_some_iff.1 I.out).1).trans I.out;clear bf;go_wp2_with fail;go_roundw;case rel=>exact⟨q+1,by omega,by go_num,a7,bd,al.out⟩
      case measure=>simp[intOf];omega
   ·have a1:¬ (q:Int) < (c.length:Int):=Ou;have HA:Hid (Dj c (0,0,0)):=Q.out _ (.inr ⟨fun z hz hz' j hj=>D.out z hz hz' Ou j hj,rfl⟩);go_wp2_with fail;go_ret3;exact⟨⟨(0,0,0),rfl,HA.out⟩,n.out⟩
 ·have bj:(p1 != 0)=true:=by simp[hp]
  have HA:Hid (Dj c (p1,p2,p3)):=by
   rw[Hid];unfold Dj;rw[J.out,if_pos hp]
  clear hp;go_wp2_with (first|(go_at_call 83;refine ab.out.mono ?_;rintro e w1 ⟨rfl,s⟩));go_ret3;exact⟨⟨(p1,p2,p3),rfl,HA.out⟩,B.trans (s.mono B.size)⟩
end Go.Proofs.YtahibkjkpmdhgaaGreatDoor
