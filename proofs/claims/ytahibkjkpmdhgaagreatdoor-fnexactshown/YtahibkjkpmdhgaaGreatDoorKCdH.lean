import Derived.Test.YtahibkjkpmdhgaaGreatDoorKTk
import Derived.Test.YtahibkjkpmdhgaaGreatDoorKCdE
import Derived.Deep.RegionHeld3
set_option maxRecDepth 100000
set_option maxHeartbeats 1000000
namespace Go.Proofs.YtahibkjkpmdhgaaGreatDoor
open Go.RowKit
theorem Lt (c:List Af):∀ (l:List Af) (k:Nat),(∀ j (hj:j < l.length),Bz c (k+j) l[j]=true)->Gz c l k=none
 | [],_,_=>rfl
 | f::r,k,h=>by
  have a:=h 0 OB
  simp only[Nat.add_zero,List.getElem_cons_zero]at a
  rw[Gz,if_pos a]
  refine Lt c r (k+1) (fun j hj => ?_)
  have b:=h (j+1) (by simpa using hj)
  simp only[List.getElem_cons_succ]at b
  rw[show k+1+j=k+(j+1) by omega];exact b
theorem Lu (c:List Af):∀ (l:List Af) (k j:Nat) (hj:j < l.length),(∀ i (hi:i < l.length),i < j->Bz c (k+i) l[i]=true)->Bz c (k+j) l[j]=false->Gz c l k=some (k+j)
 | [],_,_,hj,_,_=>by simp at hj
 | f::r,k,0,_,_,h=>by
  simp only[Nat.add_zero,List.getElem_cons_zero]at h
  rw[Gz,if_neg (by simp[h])];rfl
 | f::r,k,j+1,hj,h,h2=>by
  have a:=h 0 OB Ou
  simp only[Nat.add_zero,List.getElem_cons_zero]at a
  rw[Gz,if_pos a]
  have:=Lu c r (k+1) j (by simpa using hj) (fun i hi hij=>by
   have b:=h (i+1) (by simpa using hi) Ou
   simp only[List.getElem_cons_succ]at b
   rw[show k+1+i=k+(i+1) by omega];exact b) (by
   simp only[List.getElem_cons_succ]at h2
   rw[show k+1+j=k+(j+1) by omega];exact h2)
  rw[this];congr 1;omega
theorem Kq (c:List Af) (f:Af):∀ (l:List Az) (k:Nat),(∀ j (hj:j < l.length),Aq c f l[j]=true)->Dk c f l k=none
 | [],_,_=>rfl
 | i::r,k,h=>by
  have a:=h 0 OB
  simp only[List.getElem_cons_zero]at a
  rw[Dk,if_pos a]
  refine Kq c f r (k+1) (fun j hj => ?_)
  have b:=h (j+1) (by simpa using hj)
  simpa using b
theorem Kr (c:List Af) (f:Af):∀ (l:List Az) (k j:Nat) (hj:j < l.length),(∀ i (hi:i < l.length),i < j->Aq c f l[i]=true)->Aq c f l[j]=false->Dk c f l k=some (k+j)
 | [],_,_,hj,_,_=>by simp at hj
 | i::r,k,0,_,_,h=>by
  simp only[List.getElem_cons_zero]at h
  rw[Dk,if_neg (by simp[h])];rfl
 | i::r,k,j+1,hj,h,h2=>by
  have a:=h 0 OB Ou
  simp only[List.getElem_cons_zero]at a
  rw[Dk,if_pos a]
  have:=Kr c f r (k+1) j (by simpa using hj) (fun i hi hij=>by
   have b:=h (i+1) (by simpa using hi) Ou
   simpa using b) (by simpa using h2)
  rw[this];congr 1;omega
theorem J5 (c:List Af):∀ (l:List Af) (k:Nat),(∀ j (hj:j < l.length),Dk c l[j] l[j].ins 0=none)->Du c l k=none
 | [],_,_=>rfl
 | f::r,k,h=>by
  have a:=h 0 OB
  simp only[List.getElem_cons_zero]at a
  rw[Du,a]
  refine J5 c r (k+1) (fun j hj => ?_)
  have b:=h (j+1) (by simpa using hj)
  simpa using b
theorem J6 (c:List Af):∀ (l:List Af) (k j:Nat) (hj:j < l.length) (u:Nat),(∀ i (hi:i < l.length),i < j->Dk c l[i] l[i].ins 0=none)->Dk c l[j] l[j].ins 0=some u->Du c l k=some (k+j,u)
 | [],_,_,hj,_,_,_=>by simp at hj
 | i::r,k,0,_,u,_,h=>by
  simp only[List.getElem_cons_zero]at h
  rw[Du,h];rfl
 | i::r,k,j+1,hj,u,h,h2=>by
  have a:=h 0 OB Ou
  simp only[List.getElem_cons_zero]at a
  rw[Du,a]
  have:=J6 c r (k+1) j (by simpa using hj) u (fun i hi hij=>by
   have b:=h (i+1) (by simpa using hi) Ou
   simpa using b) (by simpa using h2)
  simp only[this];congr 2;omega
theorem Gf {n low high:Int} (h:As n low high=true):low<=n/\n<=high:=by unfold As at h;simpa using h
theorem F5 {c:List Af} {k:Nat} {f:Af} (h:Bz c k f=true):0<=f.slots/\f.slots<=200/\f.ins.length<=50000/\1<=f.ins.length/\f.params.length<=8/\(f.params.length:Int)<=f.slots/\0<=f.result/\f.result<=10/\∀ t ∈ f.params,1<=t/\t<=10:=by
 unfold Bz at h;simp only[Bool.and_eq_true]at h;obtain⟨⟨⟨⟨⟨⟨_,d⟩,g⟩,j⟩,m⟩,b⟩,_⟩:=h;have a:f.params.length<=8:=by simpa using d
 have i:=Gf g;have l:=Gf j;have n:=Gf m;refine⟨by omega,by omega,by omega,by omega,a,by omega,by omega,by omega,fun t ht => ?_⟩;rw[List.all_eq_true]at b;exact Gf (b t ht)
def Zw (p:Int × Int × Int):Value:=.tuple #[.int .i64 p.1,.int .i64 p.2.1,.int .i64 p.2.2]
theorem Zm (B:Nat) (c:List Af) (cv:Value) (hcl:c.length<=1048576) (hpl:∀ k (hk:k < c.length),c[k].params.length<=1048576/\c[k].ins.length<=1048576) (w:World) (hB:B<=w.heap.size) (hC:Al B w cv c) :
  Calls Tryz.prog 83 #[.agg #[cv]] w fun e w'=>e = .returned (Zw (B8 c))/\OH w w':=by
 have HC:Hid (∀ w',Below B w w'->Al B w' cv c):=fun w' h=>hC.below h
 obtain⟨a,o,rfl,ae⟩:=hC;clear ae;obtain⟨Z,hZ⟩:∃ Z,w.alloc (.cells #[.slice a c.length o] 59)=Z:=⟨_,rfl⟩;have Q:OH w Z:=by rw[<- hZ];exact(Below.refl _ w).alloc (Nat.le_refl _) _
 have aj:Z.heap.size=w.heap.size+1:=by rw[<- hZ];exact World.size_alloc _ _
 have zc:Z.cell? (OI w.heap.size 0)=some (.slice a c.length o):=by rw[<- hZ];exact Bk w _ _ 0 _ rfl
 obtain⟨r,X⟩:∃ r,Hid (B8 c=r):=⟨_,(rfl:B8 c=_)⟩;rw[X.out];cases h1:As (c.length:Int) 1 60 with
 | false =>
  have T:Hid ((1,0,0)=r):=by
   rw[Hid,<- X.out,B8,if_pos];unfold As at h1;simp at h1;omega
  clear X;go_enter Tryz.func83,Tryz.ntmps83;go_wp2_with fail;go_at_call 22;refine(Cf _ _ _ _).mono ?_;rintro e w' ⟨rfl,rfl⟩;rw[h1];go_wp2_with fail;go_ret3;exact⟨by rw[<- T.out];rfl,Q⟩
 | true =>
  have hl:=Gf h1;have P:Hid (r=match Gz c c 0 with
   | some k=>(2,(k:Int),0)
   | none=>match Du c c 0 with
    | some p=>(3,(p.1:Int),(p.2:Int))
    | none=>if c.any A8=true then (0,0,0) else (4,0,0)):=by
   rw[Hid,<- X.out,B8,if_neg Ou];rfl
  clear X;obtain⟨g,rfl⟩:∃ g,a=some (OI g 0):=by
   obtain⟨g,_,_,_,_,_,hv,_⟩:=(HC.out w (Below.refl _ _)).fn 0 Ou;injection hv with e1;exact⟨g,e1⟩
  go_enter Tryz.func83,Tryz.ntmps83;go_wp2_with fail;go_at_call 22;refine(Cf _ _ _ _).mono ?_;rintro e w' ⟨rfl,rfl⟩;rw[h1];go_wp2_with fail;go_loopw [5] (fun t w2 => ∃ i:Nat,i<=c.length/\t = .int .i64 (i:Int)/\OH Z w2/\∀ j (hj:j < c.length),j < i->Bz c j c[j]=true) (fun t _=>c.length - (intOf t).toNat);case atStart=>exact⟨0,by omega,rfl,Below.refl _ _,fun j hj h=>Ou⟩
  case round =>
   obtain⟨i,hi,rfl,he,S⟩:=hrel;have A:OH w wr:=Q.trans (he.mono Q.size);have bc:wr.cell? (OI w.heap.size 0)=some (.slice (some (OI g 0)) c.length o):=(he.cell (p:=(OI w.heap.size 0)) (by show w.heap.size < _;omega)).trans zc;have an:=A.size;by_cases hlt:i < c.length
   ·have l:=Qax B c _ i hlt hcl (hpl i hlt).1 (hpl i hlt).2 wr Ou (HC.out wr (A.mono hB));cases hF:Bz c i c[i] with
    | true =>
     have HU:Hid (∀ j (hj:j < c.length),j < i+1->Bz c j c[j]=true):=fun j hj h=>by
      by_cases e:j=i
      ·subst e;exact hF
      ·exact S j hj Ou
     rw[hF]at l;clear S hF;go_wp2_with fail;go_at_call 110;refine l.mono ?_;rintro e N ⟨rfl,n⟩;go_wp2_with fail;go_roundw;case rel=>exact⟨i+1,by omega,by go_num,he.trans (n.mono he.size),HU.out⟩
     case measure=>simp[intOf];omega
    | false =>
     have T:Hid ((2,(i:Int),0)=r):=by
      rw[Hid,P.out,Lu c c 0 i hlt (fun j hj h=>by rw[Nat.zero_add];exact S j hj h) (by rw[Nat.zero_add];exact hF),Nat.zero_add]
     rw[hF]at l;clear S hF;go_wp2_with fail;go_at_call 110;refine l.mono ?_;rintro e N ⟨rfl,n⟩;go_wp2_with fail;go_ret3;exact⟨by rw[<- T.out];rfl,A.trans (n.mono A.size)⟩
   ·have M:Hid (∀ j (hj:j < c.length),Bz c j c[j]=true):=fun j hj=>S j hj Ou
    have Y:Hid (r=match Du c c 0 with
     | some p=>(3,(p.1:Int),(p.2:Int))
     | none=>if c.any A8=true then (0,0,0) else (4,0,0)):=by
     rw[Hid,P.out,Lt c c 0 (fun j hj=>by rw[Nat.zero_add];exact M.out j hj)]
    clear S P;generalize wr=V at *;go_wp2_with fail;go_loopw [6] (fun t w2 => ∃ i:Nat,i<=c.length/\t = .int .i64 (i:Int)/\OH V w2/\∀ j (hj:j < c.length),j < i->Dk c c[j] c[j].ins 0=none) (fun t _=>c.length - (intOf t).toNat);case atStart=>exact⟨0,by omega,rfl,Below.refl _ _,fun j hj h=>Ou⟩
    case round =>
     obtain⟨k,hk,rfl,F,J⟩:=hrel;have y:OH w wr:=A.trans (F.mono A.size);have am:Z.heap.size<=V.heap.size:=he.size;have bk:wr.cell? (OI w.heap.size 0)=some (.slice (some (OI g 0)) c.length o):=(F.cell (p:=(OI w.heap.size 0)) (by show w.heap.size < _;omega)).trans bc;by_cases hltk:k < c.length
     ·generalize wr=U at *;obtain⟨f,H⟩:∃ f,Hid (c[k]'hltk=f):=⟨_,(rfl:c[k]'hltk=_)⟩;have I:=F5 (M.out k hltk);rw[H.out]at I;go_wp2_with fail;go_loopw [7] (fun t w2 => ∃ i:Nat,i<=f.ins.length/\t = .int .i64 (i:Int)/\OH U w2/\∀ j (hj:j < f.ins.length),j < i->Aq c f f.ins[j]=true) (fun t _=>f.ins.length - (intOf t).toNat);case atStart=>exact⟨0,by omega,rfl,Below.refl _ _,fun j hj h=>Ou⟩
      case round =>
       obtain⟨q,hq,rfl,z,C⟩:=hrel;have E:OH w wr:=y.trans (z.mono y.size);have al:V.heap.size<=U.heap.size:=F.size;have bq:wr.cell? (OI w.heap.size 0)=some (.slice (some (OI g 0)) c.length o):=(z.cell (p:=(OI w.heap.size 0)) (by show w.heap.size < _;omega)).trans bk;obtain⟨g',ai,K,L,ia,G,hv,hg,c0,c1,c2,c3,c4,hP,hI⟩:=(HC.out wr (E.mono hB)).fn k hltk;obtain rfl:g=g':=by injection hv with e1;injection e1 with e1;injection e1
       rw[H.out]at c0 c1 c2 c3 c4 hI;by_cases hltq:q < f.ins.length
       ·obtain⟨d,af,ak,s⟩:∃ d,ia=some (OI d 0)/\d < B/\∀ j,j < 4->wr.cell? (OI d (q * 4+j))=(G9 f.ins[q])[j]?:=by
         obtain⟨a',cp,ah,hc⟩:=hI;injection ah with e1;subst e1;exact hc q hltq
        subst af;have i0:=s 0 Ou;have i1:=s 1 Ou;have i2:=s 2 Ou;have i3:=s 3 Ou;simp only[G9,Nat.add_zero,List.getElem?_cons_zero,List.getElem?_cons_succ]at i0 i1 i2 i3;clear s hI hP hv;have l:Hid (∀ w9,Calls Tryz.prog 111 #[.agg #[.slice (some (OI g 0)) c.length o],Bp f (.slice K f.params.length L) (.slice (some (OI d 0)) f.ins.length G),Aw f.ins[q]] w9 fun e w'=>e = .returned (.bool (Aq c f f.ins[q]))/\OH w9 w'):=fun w9=>Ze c f f.ins[q] _ _ o G _ I.1 I.2.1 Ou Ou I.2.2.1 w9
        unfold Bp Aw at l;cases hF:Aq c f f.ins[q] with
        | true =>
         have HU:Hid (∀ j (hj:j < f.ins.length),j < q+1->Aq c f f.ins[j]=true):=fun j hj h=>by
          by_cases e:j=q
          ·subst e;exact hF
          ·exact C j hj Ou
         rw[hF]at l;generalize f.ins[q]=x at *;clear C hF;have P0:(fun w'=>w'.cell? (OI w.heap.size 0)=some (.slice (some (OI g 0)) c.length o)/\w'.cell? (OI g (k * 5))=some (.string f.name)/\w'.cell? (OI g (k * 5+1))=some (.slice K f.params.length L)/\w'.cell? (OI g (k * 5+2))=some (.int .i64 f.result)/\w'.cell? (OI g (k * 5+3))=some (.int .i64 f.slots)/\w'.cell? (OI g (k * 5+4))=some (.slice (some (OI d 0)) f.ins.length G)/\w'.cell? (OI d (q * 4))=some (.int .i64 x.op)/\w'.cell? (OI d (q * 4+1))=some (.int .i64 x.a)/\w'.cell? (OI d (q * 4+2))=some (.int .i64 x.n)/\w'.cell? (OI d (q * 4+3))=some (.string x.text)) wr:=⟨bq,c0,c1,c2,c3,c4,i0,i1,i2,i3⟩;have P1:(fun w'=>w'.cell? (OI w.heap.size 0)=some (.slice (some (OI g 0)) c.length o)/\w'.cell? (OI g (k * 5))=some (.string f.name)/\w'.cell? (OI g (k * 5+1))=some (.slice K f.params.length L)/\w'.cell? (OI g (k * 5+2))=some (.int .i64 f.result)/\w'.cell? (OI g (k * 5+3))=some (.int .i64 f.slots)/\w'.cell? (OI g (k * 5+4))=some (.slice (some (OI d 0)) f.ins.length G)/\w'.cell? (OI d (q * 4))=some (.int .i64 x.op)/\w'.cell? (OI d (q * 4+1))=some (.int .i64 x.a)/\w'.cell? (OI d (q * 4+2))=some (.int .i64 x.n)/\w'.cell? (OI d (q * 4+3))=some (.string x.text)) wr.drew:=P0;have ad:Hid (wr.drew.heap.size=wr.heap.size):=rfl;have O:Hid (∀ w',OH wr w'->(fun w'=>w'.cell? (OI w.heap.size 0)=some (.slice (some (OI g 0)) c.length o)/\w'.cell? (OI g (k * 5))=some (.string f.name)/\w'.cell? (OI g (k * 5+1))=some (.slice K f.params.length L)/\w'.cell? (OI g (k * 5+2))=some (.int .i64 f.result)/\w'.cell? (OI g (k * 5+3))=some (.int .i64 f.slots)/\w'.cell? (OI g (k * 5+4))=some (.slice (some (OI d 0)) f.ins.length G)/\w'.cell? (OI d (q * 4))=some (.int .i64 x.op)/\w'.cell? (OI d (q * 4+1))=some (.int .i64 x.a)/\w'.cell? (OI d (q * 4+2))=some (.int .i64 x.n)/\w'.cell? (OI d (q * 4+3))=some (.string x.text)) w'):=fun w' h=>by
          have e:∀ (b j:Nat),b < wr.heap.size->w'.cell? (OI b j)=wr.cell? (OI b j):=fun b j hb=>h.cell (p:=(OI b j)) hb
          have ag:=E.size;have u:g < wr.heap.size:=Ou;have v:d < wr.heap.size:=Ou;have R:w.heap.size < wr.heap.size:=(by have:=z.size;omega);exact⟨(e _ _ R).trans bq,(e _ _ u).trans c0,(e _ _ u).trans c1,(e _ _ u).trans c2,(e _ _ u).trans c3,(e _ _ u).trans c4,(e _ _ v).trans i0,(e _ _ v).trans i1,(e _ _ v).trans i2,(e _ _ v).trans i3⟩
         go_wp2_with fail;go_region_held3 (fun w'=>w'.cell? (OI w.heap.size 0)=some (.slice (some (OI g 0)) c.length o)/\w'.cell? (OI g (k * 5))=some (.string f.name)/\w'.cell? (OI g (k * 5+1))=some (.slice K f.params.length L)/\w'.cell? (OI g (k * 5+2))=some (.int .i64 f.result)/\w'.cell? (OI g (k * 5+3))=some (.int .i64 f.slots)/\w'.cell? (OI g (k * 5+4))=some (.slice (some (OI d 0)) f.ins.length G)/\w'.cell? (OI d (q * 4))=some (.int .i64 x.op)/\w'.cell? (OI d (q * 4+1))=some (.int .i64 x.a)/\w'.cell? (OI d (q * 4+2))=some (.int .i64 x.n)/\w'.cell? (OI d (q * 4+3))=some (.string x.text)) (with_reducible first|exact P0|exact P1|exact P3) (first|(go_at_call 111;refine(l.out _).mono ?_;rintro e N ⟨rfl,n⟩;have D:OH wr N:=⟨n.os,n.tape,n.output,n.size,n.block⟩;have P3:=O.out N D));all_goals go_wp2_with fail
         all_goals go_roundw
         all_goals first
          | exact⟨q+1,by omega,by go_num,z.trans (D.mono z.size),HU.out⟩
          | (simp[intOf];omega)
        | false =>
         have T:Hid ((3,(k:Int),(q:Int))=r):=by
          rw[Hid,Y.out,J6 c c 0 k hltk q J (by rw[H.out,Kr c f f.ins 0 q hltq C hF,Nat.zero_add]),Nat.zero_add]
         rw[hF]at l;generalize f.ins[q]=x at *;clear C hF;have P0:(fun w'=>w'.cell? (OI w.heap.size 0)=some (.slice (some (OI g 0)) c.length o)/\w'.cell? (OI g (k * 5))=some (.string f.name)/\w'.cell? (OI g (k * 5+1))=some (.slice K f.params.length L)/\w'.cell? (OI g (k * 5+2))=some (.int .i64 f.result)/\w'.cell? (OI g (k * 5+3))=some (.int .i64 f.slots)/\w'.cell? (OI g (k * 5+4))=some (.slice (some (OI d 0)) f.ins.length G)/\w'.cell? (OI d (q * 4))=some (.int .i64 x.op)/\w'.cell? (OI d (q * 4+1))=some (.int .i64 x.a)/\w'.cell? (OI d (q * 4+2))=some (.int .i64 x.n)/\w'.cell? (OI d (q * 4+3))=some (.string x.text)) wr:=⟨bq,c0,c1,c2,c3,c4,i0,i1,i2,i3⟩;have P1:(fun w'=>w'.cell? (OI w.heap.size 0)=some (.slice (some (OI g 0)) c.length o)/\w'.cell? (OI g (k * 5))=some (.string f.name)/\w'.cell? (OI g (k * 5+1))=some (.slice K f.params.length L)/\w'.cell? (OI g (k * 5+2))=some (.int .i64 f.result)/\w'.cell? (OI g (k * 5+3))=some (.int .i64 f.slots)/\w'.cell? (OI g (k * 5+4))=some (.slice (some (OI d 0)) f.ins.length G)/\w'.cell? (OI d (q * 4))=some (.int .i64 x.op)/\w'.cell? (OI d (q * 4+1))=some (.int .i64 x.a)/\w'.cell? (OI d (q * 4+2))=some (.int .i64 x.n)/\w'.cell? (OI d (q * 4+3))=some (.string x.text)) wr.drew:=P0;have ad:Hid (wr.drew.heap.size=wr.heap.size):=rfl;have O:Hid (∀ w',OH wr w'->(fun w'=>w'.cell? (OI w.heap.size 0)=some (.slice (some (OI g 0)) c.length o)/\w'.cell? (OI g (k * 5))=some (.string f.name)/\w'.cell? (OI g (k * 5+1))=some (.slice K f.params.length L)/\w'.cell? (OI g (k * 5+2))=some (.int .i64 f.result)/\w'.cell? (OI g (k * 5+3))=some (.int .i64 f.slots)/\w'.cell? (OI g (k * 5+4))=some (.slice (some (OI d 0)) f.ins.length G)/\w'.cell? (OI d (q * 4))=some (.int .i64 x.op)/\w'.cell? (OI d (q * 4+1))=some (.int .i64 x.a)/\w'.cell? (OI d (q * 4+2))=some (.int .i64 x.n)/\w'.cell? (OI d (q * 4+3))=some (.string x.text)) w'):=fun w' h=>by
          have e:∀ (b j:Nat),b < wr.heap.size->w'.cell? (OI b j)=wr.cell? (OI b j):=fun b j hb=>h.cell (p:=(OI b j)) hb
          have ag:=E.size;have u:g < wr.heap.size:=Ou;have v:d < wr.heap.size:=Ou;have R:w.heap.size < wr.heap.size:=(by have:=z.size;omega);exact⟨(e _ _ R).trans bq,(e _ _ u).trans c0,(e _ _ u).trans c1,(e _ _ u).trans c2,(e _ _ u).trans c3,(e _ _ u).trans c4,(e _ _ v).trans i0,(e _ _ v).trans i1,(e _ _ v).trans i2,(e _ _ v).trans i3⟩
         go_wp2_with fail;go_region_held3 (fun w'=>w'.cell? (OI w.heap.size 0)=some (.slice (some (OI g 0)) c.length o)/\w'.cell? (OI g (k * 5))=some (.string f.name)/\w'.cell? (OI g (k * 5+1))=some (.slice K f.params.length L)/\w'.cell? (OI g (k * 5+2))=some (.int .i64 f.result)/\w'.cell? (OI g (k * 5+3))=some (.int .i64 f.slots)/\w'.cell? (OI g (k * 5+4))=some (.slice (some (OI d 0)) f.ins.length G)/\w'.cell? (OI d (q * 4))=some (.int .i64 x.op)/\w'.cell? (OI d (q * 4+1))=some (.int .i64 x.a)/\w'.cell? (OI d (q * 4+2))=some (.int .i64 x.n)/\w'.cell? (OI d (q * 4+3))=some (.string x.text)) (with_reducible first|exact P0|exact P1|exact P3) (first|(go_at_call 111;refine(l.out _).mono ?_;rintro e N ⟨rfl,n⟩;have D:OH wr N:=⟨n.os,n.tape,n.output,n.size,n.block⟩;have P3:=O.out N D));all_goals go_wp2_with fail
         all_goals go_ret3
         all_goals exact⟨by rw[<- T.out];rfl,E.trans (D.mono E.size)⟩
       ·have W:Hid (Dk c c[k] c[k].ins 0=none):=by
         rw[Hid,H.out];exact Kq c f f.ins 0 (fun j hj=>C j hj Ou)
        have HU:Hid (∀ j (hj:j < c.length),j < k+1->Dk c c[j] c[j].ins 0=none):=fun j hj h=>by
         by_cases e:j=k
         ·subst e;exact W.out
         ·exact J j hj Ou
        clear C W;go_wp2_with fail;go_roundw;case rel=>exact⟨k+1,by omega,by go_num,F.trans (z.mono F.size),HU.out⟩
        case measure=>simp[intOf];omega
     ·have aa:Hid (r=if c.any A8=true then (0,0,0) else (4,0,0)):=by
       rw[Hid,Y.out,J5 c c 0 (fun j hj=>J j hj Ou)]
      have HM:=Qbt B c _ hcl wr (by have:=y.size;omega) (HC.out wr (y.mono hB));clear J;go_wp2_with fail;go_at_call 56;refine HM.mono ?_;rintro e N ⟨⟨m,rfl,hm⟩,n⟩;have ac:Hid (m < 0->(4,0,0)=r):=fun hm0=>by rw[aa.out,hm.1 hm0];rfl
      have ab:Hid (¬ m < 0->(0,0,0)=r):=fun hm0=>by
       rw[aa.out,if_pos];cases hx:c.any A8 with
       | true=>rfl
       | false=>exact absurd (hm.2 hx) hm0
      clear hm;go_wp2_with fail
      ·go_ret3;have hr:=ac.out Ou;exact⟨by rw[<- hr];rfl,y.trans (n.mono y.size)⟩
      ·go_ret3;have hr:=ab.out Ou;exact⟨by rw[<- hr];rfl,y.trans (n.mono y.size)⟩
def Ct (l:List Nat):List Int:=l.map (fun (n:Nat)=>(n:Int))
theorem Ao (w:World) (a:Obj):OH w (w.alloc a):=(Below.refl _ w).alloc (Nat.le_refl _) _
theorem Ka (w:World) (a b:Obj):OH w ((w.alloc a).alloc b):=(Ao w a).trans ((Ao (w.alloc a) b).mono OB)
theorem Ac.two (w:World) (a:Obj) (hs:List Int) (t:TypeId) (cap:Nat):Ac ((w.alloc a).alloc (.cells (Ar hs).toArray t)).heap.size ((w.alloc a).alloc (.cells (Ar hs).toArray t)) (.slice (some (OI (w.heap.size+1) 0)) hs.length cap) hs:=by
 have h:=Ac.new (w.alloc a) hs t cap;unfold OK at h;rw[World.size_alloc]at h;rw[World.size_alloc,World.size_alloc];exact h
theorem Sb (i:Az) (at':Nat) (hat:at'<=1048576) (ha:i.op=10\/i.op=11->0<=i.a) (w:World) :
  Calls Tryz.prog 112 #[Aw i,.int .i64 (at':Int)] w fun e w' => ∃ v,e = .returned v/\Ac w'.heap.size w' v (Ct (A5 i at'))/\OH w w':=by
 obtain⟨b,a,n,c⟩:=i;simp only at ha;unfold Aw;have f:wrap64 ((at':Int)+1)=(at':Int)+1:=IntWalk.wrap64_in _ Ou;by_cases h12:b=12
 ·subst h12;go_enter Tryz.func112,Tryz.ntmps112;go_wp2_with fail;go_ret;exact⟨.slice (some (OI (w.heap.size+1) 0)) 0 0,rfl,Ac.two w _ [] _ _,Ka w _ _⟩
 ·by_cases h13:b=13
  ·subst h13;go_enter Tryz.func112,Tryz.ntmps112;go_wp2_with fail;go_ret;exact⟨.slice (some (OI (w.heap.size+1) 0)) 0 0,rfl,Ac.two w _ [] _ _,Ka w _ _⟩
  ·by_cases h10:b=10
   ·subst h10;obtain⟨k,rfl⟩:∃ k:Nat,a=(k:Int):=⟨a.toNat,by have:=ha (.inl rfl);omega⟩;go_enter Tryz.func112,Tryz.ntmps112;go_wp2_with fail;go_ret;exact⟨.slice (some (OI (w.heap.size+1) 0)) 1 1,rfl,Ac.two w _ [(k:Int)] _ _,Ka w _ _⟩
   ·by_cases h11:b=11
    ·subst h11;obtain⟨k,rfl⟩:∃ k:Nat,a=(k:Int):=⟨a.toNat,by have:=ha (.inr rfl);omega⟩;go_enter Tryz.func112,Tryz.ntmps112;go_wp2_with fail;go_ret;exact⟨.slice (some (OI (w.heap.size+1) 0)) 2 2,rfl,Ac.two w _ [(k:Int),(at':Int)+1] _ _,Ka w _ _⟩
    ·have g:(b == 12)=false:=(by simp[h12]);have h:(b == 13)=false:=(by simp[h13]);have j:(b == 10)=false:=(by simp[h10]);have l:(b == 11)=false:=(by simp[h11]);have d:Hid (A5 ⟨b,a,n,c⟩ at'=[at'+1]):=(by rw[Hid,A5];simp[h12,h13,h10,h11]);rw[d.out];clear h12 h13 h10 h11 d ha;go_enter Tryz.func112,Tryz.ntmps112;go_wp2_with fail;go_ret;exact⟨.slice (some (OI (w.heap.size+1) 0)) 1 1,rfl,Ac.two w _ [(at':Int)+1] _ _,Ka w _ _⟩
theorem Sj (B:Nat) (va vb:Value) (a b:List Int) (hla:a.length<=1048576) (_hlb:b.length<=1048576) (w:World) (hA:Ac B w va a) (hB:Ac B w vb b) :
  Calls Tryz.prog 139 #[va,vb] w fun e w'=>e = .returned (.bool (decide (a=b)))/\∃ q,w'=w.drewN q:=by
 obtain⟨H,N,rfl,l⟩:=hA;obtain⟨I,O,rfl,m⟩:=hB;have E:Hid (∀ i (C:i < a.length),∃ g o,H=some (OI g o)/\g < B/\w.cell? (OI g (o+i))=some (.int .i64 a[i])):=l;have F:Hid (∀ i (C:i < b.length),∃ g o,I=some (OI g o)/\g < B/\w.cell? (OI g (o+i))=some (.int .i64 b[i])):=m;clear l m;by_cases hl:a.length=b.length
 ·obtain⟨n,c,d⟩:∃ n,Hid (a.length=n)/\Hid (b.length=n):=⟨a.length,rfl,hl.symm⟩;rw[c.out,d.out];rw[c.out]at hla;clear hl _hlb;obtain⟨r,v⟩:∃ r,Hid (decide (a=b)=r):=⟨_,(rfl:decide (a=b)=_)⟩;rw[v.out];have A:((n:Int) != (n:Int))=false:=by simp
  go_enter Tryz.func139,Tryz.ntmps139;go_wp2_with fail;go_loopw [5] (fun t wr => ∃ i q:Nat,i<=n/\t = .int .i64 (i:Int)/\wr=w.drewN q/\∀ j (hj:j < a.length) (hj':j < b.length),j < i->a[j]=b[j]) (fun t _=>n - (intOf t).toNat);case atStart=>exact⟨0,0,by omega,rfl,rfl,fun j hj hj' h=>Ou⟩
  case round =>
   obtain⟨i,q,C,rfl,D,u⟩:=hrel;have k:Hid (wr=w.drewN q):=D;clear D;by_cases hlt:i < n
   ·have p:i < a.length:=(by rw[c.out];exact hlt);have s:i < b.length:=(by rw[d.out];exact hlt);obtain⟨J,L,rfl,_,x⟩:=E.out i p;obtain⟨K,M,rfl,_,y⟩:=F.out i s;have P:wr.cell? (OI J (L+i))=some (.int .i64 a[i]):=(by rw[k.out];exact x);have Q:wr.cell? (OI K (M+i))=some (.int .i64 b[i]):=(by rw[k.out];exact y);by_cases he:a[i]=b[i]
    ·have G:Hid (∀ j (hj:j < a.length) (hj':j < b.length),j < i+1->a[j]=b[j]):=fun j hj hj' h=>by
      by_cases e:j=i
      ·subst e;exact he
      ·exact u j hj hj' Ou
     have z:(a[i] != b[i])=false:=(by simp[he]);clear u x y;generalize a[i]=xa at *;generalize b[i]=xb at *;go_wp2_with fail;go_quiet (fail);go_wp2_with fail;go_roundw;case rel=>exact⟨i+1,_,by omega,by go_num,by rw[k.out,World.drewN_drewN],G.out⟩
     case measure=>simp[intOf];omega
    ·have f:Hid (false=r):=by
      rw[Hid,<- v.out];have:¬ a=b:=fun e=>he (by simp only[e])
      simp[this]
     have z:(a[i] != b[i])=true:=(by simp[he]);clear u x y;generalize a[i]=xa at *;generalize b[i]=xb at *;go_wp2_with fail;go_quiet (fail);go_wp2_with fail;go_ret;exact⟨Ap f.out,_,by rw[k.out,World.drewN_drewN]⟩
   ·have f:Hid (true=r):=by
     rw[Hid,<- v.out];have:a=b:=List.ext_getElem (by rw[c.out,d.out]) (fun j h1 h2=>u j h1 h2 (by rw[c.out]at h1;omega));simp[this]
    clear u;go_wp2_with fail;go_ret;exact⟨Ap f.out,q,k.out⟩
 ·have f:Hid (false=decide (a=b)):=by
   rw[Hid];have:¬ a=b:=fun e=>hl (by rw[e])
   simp[this]
  rw[<- f.out];have A:((a.length:Int) != (b.length:Int))=true:=by simp;omega
  go_enter Tryz.func139,Tryz.ntmps139;go_wp2_with fail;go_ret;exact⟨rfl,0,rfl⟩
theorem Fd (op:Int) (h1:1<=op) (h12:op<=12) (w:World) :
  Calls Tryz.prog 142 #[.int .i64 op] w fun e w'=>(∃ s,e = .returned (.tuple #[.string s,.int .i64 ((Bj op).length:Int)]))/\w=w':=by
 have h:op=1\/op=2\/op=3\/op=4\/op=5\/op=6\/op=7\/op=8\/op=9\/op=10\/op=11\/op=12:=Ou
 rcases h with rfl|rfl|rfl|rfl|rfl|rfl|rfl|rfl|rfl|rfl|rfl|rfl
 all_goals
  go_enter Tryz.func142,Tryz.ntmps142;go_wp2;go_ret2;exact⟨⟨_,rfl⟩,rfl⟩
end Go.Proofs.YtahibkjkpmdhgaaGreatDoor
