import Derived.Test.YtfjkahdghhbpnaaGreatDoorKCfY
import Derived.Test.YtfjkahdghhbpnaaGreatDoorKCfL
import Derived.Test.YtfjkahdghhbpnaaGreatDoorKCdYA
import Derived.Test.YtfjkahdghhbpnaaGreatDoorKCfT
set_option maxRecDepth 100000
set_option maxHeartbeats 4000000
namespace Go.Proofs.YtfjkahdghhbpnaaGreatDoor
open Go.RowKit
theorem Gj.right {c:List Ae} (h:Gj c) (k:Nat) (hk:k < c.length):Jn c c[k]:=by
 obtain⟨a,b,d,p,q,r,f,i,s⟩:=Fk (h.fns k hk)
 refine⟨h.len,d,h.pl,fun g hg => ?_,⟨f,i⟩,⟨a,b⟩,h.ins k hk⟩
 obtain⟨j,o,rfl⟩:=List.getElem_of_mem hg
 obtain⟨-,-,-,-,-,-,l,m,n⟩:=Fk (h.fns j o)
 exact⟨⟨l,m⟩,n⟩
theorem Vb {c:List Ae} (h:(B6 c).1=0):B6 c=(0,0,0):=by
 unfold B6 at h |-
 by_cases h1:c.length=0\/60 < c.length
 ·rw[if_pos h1]at h;simp at h
 ·rw[if_neg h1]at h |-
  cases h2:F5 c c 0 with
  | some k=>rw[h2]at h;simp at h
  | none =>
   rw[h2]at h
   cases h3:Dk c c 0 with
   | some p=>rw[h3]at h;simp at h
   | none =>
    rw[h3]at h
    by_cases h4:c.any Bb=true
    ·simp only[if_pos h4]
    ·simp only[if_neg h4]at h;simp at h
def Jq (c:List Ae) (XS:List (List Ap)) (r:Int × Int × Int):Prop :=
  (∃ k u,∃ (h:k < c.length) (h':k < XS.length),u < c[k].ins.length/\B7 c c[k] XS[k] u=true/\(∀ j,j < u->B7 c c[k] XS[k] j=false) /\
        (∀ q (hq:q < k) j,j < (c[q]'(by omega)).ins.length->B7 c (c[q]'(by omega)) (XS[q]'(by omega)) j=false)/\r=(5,(k:Int),(u:Int))) \/
     ((∀ q (hq:q < c.length) (hq':q < XS.length) j,j < c[q].ins.length->B7 c c[q] XS[q] j=false)/\r=(0,0,0))
theorem Wj {c:List Ae} {XS:List (List Ap)} {r:Int × Int × Int} (hp:(B6 c).1=0) (hXL:XS.length=c.length) (hXS:∀ k (hk:k < c.length) (hk':k < XS.length),Fc c c[k] XS[k]) (h:Jq c XS r):Bt c r:=by
 unfold Bt
 rw[if_neg (by simp[hp])]
 exact⟨XS,hXL,hXS,h⟩
def Lo (c:List Ae) (w:World) (e:Ending) (w':World):Prop:=(∃ r,e = .returned (Gv r)/\Bt c r)/\Below w.heap.size w w'
theorem Dr.ptr {c:List Ae} {f:Ae} {w w':World} {e:Ending} (h:Dr c f w e w'):(∃ g,e = .returned (.pointer (some ⟨g,0,none⟩)))/\Below w.heap.size w w':=by
 obtain⟨_,g,_,_,_,_,_,_,_,_,_,_,_,b,_,_,_,_,_,a⟩:=h
 exact⟨⟨g,b⟩,a⟩
theorem Xv (c:List Ae) (hp:(B6 c).1=0) (ca:Option Addr) (cc:Nat) (w:World) (hC:Ak w.heap.size w (.slice ca c.length cc) c) (hT:Cg w) (hW:Dj w) :
  Calls Tryz.prog 49 #[.agg #[.slice ca c.length cc]] w (Lo c w):=by
 have E:=Jw hp
 obtain⟨a,F,G⟩:=E.least ca cc w hC
 have al:=E.len
 have o:Hid (∀ r:Int × Int × Int,Jq c a r->Bt c r):=fun r h=>Wj hp F G h
 have ac:Hid (a.length=c.length):=F
 obtain⟨Z,H⟩:∃ Y,w.alloc (.cells #[.slice ca c.length cc] 38)=Y:=⟨_,rfl⟩
 have ai:Below w.heap.size w Z:=by rw[<- H];exact A5 w _
 have ak:Z.heap.size=w.heap.size+1:=by rw[<- H];exact World.size_alloc _ _
 have p:Z.heap[w.heap.size]? = some (.cells #[.slice ca c.length cc] 38):=by rw[<- H];exact Ag w _
 obtain⟨i,m⟩:∃ Y,Z.alloc (.cells #[.int .i64 0,.int .i64 0,.int .i64 0] 102)=Y:=⟨_,rfl⟩
 have Q:Below w.heap.size w i:=by rw[<- m];exact Ac ai _
 have am:i.heap.size=w.heap.size+2:=by rw[<- m,World.size_alloc];omega
 have s:i.heap[w.heap.size]? = some (.cells #[.slice ca c.length cc] 38):=by rw[<- m];exact Am _ p
 have x:i.heap[w.heap.size+1]? = some (.cells #[.int .i64 0,.int .i64 0,.int .i64 0] 102):=by rw[<- m,<- ak];exact Ag _ _
 have y:Hid (∀ W,Below i.heap.size i W->W.cell? ⟨w.heap.size,0,none⟩=some (.slice ca c.length cc)/\(W.cell? ⟨w.heap.size+1,0,none⟩=some (.int .i64 0)/\W.cell? ⟨w.heap.size+1,1,none⟩=some (.int .i64 0)/\W.cell? ⟨w.heap.size+1,2,none⟩=some (.int .i64 0))/\(W.frozen? ⟨w.heap.size+1,0,none⟩=false/\W.frozen? ⟨w.heap.size+1,1,none⟩=false/\W.frozen? ⟨w.heap.size+1,2,none⟩=false)/\Below w.heap.size w W/\i.heap.size<=W.heap.size):=fun W hW=>by
  have r0:=(hW.block _ (by omega)).trans s
  have L:=(hW.block _ (by omega)).trans x
  exact⟨by rw[Lib.cell_of_heap r0];rfl,⟨by rw[Lib.cell_of_heap L];rfl,by rw[Lib.cell_of_heap L];rfl,by rw[Lib.cell_of_heap L];rfl⟩,⟨by simp[World.frozen?,L],by simp[World.frozen?,L],by simp[World.frozen?,L]⟩,Q.trans (hW.mono Q.size),hW.size⟩
 obtain⟨m0,⟨m1,m2,m3⟩,⟨ax,ay,az⟩,-,-⟩:=y.out i (Below.refl _ _)
 have aa:Hid (∀ (k:Nat) (l:k < c.length) U,Below w.heap.size w U->Calls Tryz.prog 85 #[.agg #[.slice ca c.length cc],.int .i64 (k:Int)] U (Dr c c[k] U)):=fun k l U hU=>Vl c k l c[k] rfl ca cc (E.fns k l) (E.right k l) U (Ak.mono (hC.below hU) hU.size) (hT.below hU) (hW.below hU)
 have M:Hid (∀ (k:Nat) (l:k < c.length) (h':k < a.length) (U:World) (g:Nat) (U':World),Below w.heap.size w U->Dr c c[k] U (.returned (.pointer (some ⟨g,0,none⟩))) U'->Calls Tryz.prog 86 #[.pointer (some ⟨g,0,none⟩)] U' (On c c[k] a[k] U')):=fun k l h' U g U' hU h=>by
  obtain⟨B,g',gl,ad,ia,ae,ic,lc,pv,X,W,wa,wc,b,ag,hI,af,hL,hF,hB⟩:=h
  injection b with b
  injection b with b
  injection b with b
  injection b with b
  subst b
  have ah:X=a[k]:=hL.one (G k l h')
  rw[<- ah]
  have P:=hU.trans (hB.mono hU.size)
  obtain⟨-,-,-,-,-,b6,-,-,-⟩:=Fk (E.fns k l)
  refine Wt B g gl c c[k] (E.right k l) ad ia ae ic lc pv X W wa wc U' ag hI af (hT.below P) (hW.below P) hF (fun u => ?_)
  rw[<- E5 c[k] b6]
  exact hL.1.lens u
 clear p s x E G F hC hp
 go_enter Tryz.func49,Tryz.ntmps49
 go_wp2_with fail
 go_loopw [8] (fun t wr => ∃ k:Nat,k<=c.length/\t = .int .i64 (k:Int)/\Below i.heap.size i wr/\Hid (∀ q (hq:q < c.length) (hq':q < a.length),q < k->∀ j,j < c[q].ins.length->B7 c c[q] a[q] j=false)) (fun t _=>c.length - (intOf t).toNat)
 case atStart=>exact⟨0,by omega,rfl,Below.refl _ _,fun q hq hq' h=>by omega⟩
 case round =>
  obtain⟨k,l,rfl,f,HU⟩:=hrel
  obtain⟨k0,⟨k1,k2,k3⟩,⟨au,av,aw⟩,n,ao⟩:=y.out wr f
  by_cases hlt:k < c.length
  ·have R:(k:Int) < (c.length:Int):=by omega
   have K:k < a.length:=by rw[ac.out];exact hlt
   have N:Hid (Calls Tryz.prog 85 #[.agg #[.slice ca c.length cc],.int .i64 (k:Int)] wr (Dr c c[k] wr)):=aa.out k hlt wr n
   by_cases hz:∃ u,u < c[k].ins.length/\B7 c c[k] a[k] u=true
   ·have z:Hid (∀ (g:Nat) (U':World),Dr c c[k] wr (.returned (.pointer (some ⟨g,0,none⟩))) U'->Calls Tryz.prog 86 #[.pointer (some ⟨g,0,none⟩)] U' (fun e w' => ∃ u:Nat,e = .returned (.int .i64 (u:Int))/\Jq c a (5,(k:Int),(u:Int))/\Below U'.heap.size U' w')):=fun g U' h=>by
     refine(M.out k hlt K wr g U' n h).mono ?_
     rintro e w' ⟨C|C,hb⟩
     ·obtain⟨u,S,b,h5,h6⟩:=C
      exact⟨u,b,.inl ⟨k,u,hlt,K,S,h5,h6,fun q hq j hj=>HU.out q (by omega) (by omega) hq j hj,rfl⟩,hb⟩
     ·obtain⟨u,S,h7⟩:=hz
      have:=C.2 u S
      rw[h7]at this
      simp at this
    clear hz
    go_wp2_with (first
     | (go_at_call 85;refine N.out.mono ?_;rintro e V D;obtain⟨⟨O,J⟩,d⟩:=D.ptr;subst J;have H3:Hid (Dr c c[k] wr (.returned (.pointer (some ⟨O,0,none⟩))) V):=D;clear D)
     | (go_at_call 86;refine(z.out O V H3.out).mono ?_;rintro e w4 ⟨u,rfl,T,I⟩;have A:Hid (Jq c a (5,(k:Int),(u:Int))):=T;clear T;obtain⟨j0,⟨j1,j2,j3⟩,⟨ap,aq,ar⟩,aj,an⟩:=y.out w4 (f.trans ((d.trans (I.mono d.size)).mono f.size))))
    exact bodyPost_ret (v:=.agg #[.int .i64 5,.int .i64 (k:Int),.int .i64 (u:Int)]) (by simp[results,Tryz.results49,go_sem,j1,j2,j3]) rfl ⟨⟨(5,(k:Int),(u:Int)),rfl,o.out _ A.out⟩,Ad (Ad (Ad aj 1 0 _) 1 1 _) 1 2 _⟩
   ·have z:Hid (∀ (g:Nat) (U':World),Dr c c[k] wr (.returned (.pointer (some ⟨g,0,none⟩))) U'->Calls Tryz.prog 86 #[.pointer (some ⟨g,0,none⟩)] U' (fun e w'=>e = .returned (.int .i64 (-1))/\Below U'.heap.size U' w')):=fun g U' h=>by
     refine(M.out k hlt K wr g U' n h).mono ?_
     rintro e w' ⟨C|C,hb⟩
     ·obtain⟨u,S,b,h5,h6⟩:=C
      exact(hz ⟨u,S,h5⟩).elim
     ·exact⟨C.1,hb⟩
    have ab:Hid (∀ q (hq:q < c.length) (hq':q < a.length),q < k+1->∀ j,j < c[q].ins.length->B7 c c[q] a[q] j=false):=fun q hq hq' h j hj=>by
     by_cases e:q=k
     ·subst e
      cases hx:B7 c c[q] a[q] j with
      | false=>rfl
      | true=>exact(hz ⟨j,hj,hx⟩).elim
     ·exact HU.out q hq hq' (by omega) j hj
    clear hz
    go_wp2_with (first
     | (go_at_call 85;refine N.out.mono ?_;rintro e V D;obtain⟨⟨O,J⟩,d⟩:=D.ptr;subst J;have H3:Hid (Dr c c[k] wr (.returned (.pointer (some ⟨O,0,none⟩))) V):=D;clear D)
     | (go_at_call 86;refine(z.out O V H3.out).mono ?_;rintro e w4 ⟨rfl,I⟩))
    go_roundw
    case rel=>exact⟨k+1,by omega,by go_num,f.trans ((d.trans (I.mono d.size)).mono f.size),ab⟩
    case measure=>simp[intOf];omega
  ·have R:¬ (k:Int) < (c.length:Int):=by omega
   have A:Hid (Jq c a (0,0,0)):=.inr ⟨fun q hq hq' j hj=>HU.out q hq hq' (by omega) j hj,rfl⟩
   go_wp2_with fail
   exact bodyPost_ret (v:=.agg #[.int .i64 0,.int .i64 0,.int .i64 0]) (by simp[results,Tryz.results49,go_sem,k1,k2,k3]) rfl ⟨⟨(0,0,0),rfl,o.out _ A.out⟩,Ad (Ad (Ad n 1 0 _) 1 1 _) 1 2 _⟩
theorem P2 (c:List Ae) (ca:Option Addr) (cc:Nat) (hcl:c.length<=1048576) (hcap:c.length<=cc) (hpl:∀ k (hk:k < c.length),c[k].params.length<=1048576/\c[k].ins.length<=1048576/\c[k].name.size<=1048576) (hN:∀ k (hk:k < c.length) i (hi:i < c[k].ins.length),-9223372036854775808<=c[k].ins[i].n/\c[k].ins[i].n<=9223372036854775807) (w:World) (hC:Ak w.heap.size w (.slice ca c.length cc) c) (hT:Cg w) (hW:Dj w) :
  Calls Tryz.prog 26 #[.agg #[.slice ca c.length cc]] w (Jd c w):=by
 obtain⟨j,I⟩:∃ Y,w.alloc (.cells #[.slice ca c.length cc] 38)=Y:=⟨_,rfl⟩
 have o:Below w.heap.size w j:=by rw[<- I];exact A5 w _
 have an:j.heap.size=w.heap.size+1:=by rw[<- I];exact World.size_alloc _ _
 have E:j.heap[w.heap.size]? = some (.cells #[.slice ca c.length cc] 38):=by rw[<- I];exact Ag w _
 have Q:j.cell? ⟨w.heap.size,0,none⟩=some (.slice ca c.length cc):=by rw[Lib.cell_of_heap E];rfl
 have O:Hid (∀ U,Below j.heap.size j U->U.cell? ⟨w.heap.size,0,none⟩=some (.slice ca c.length cc)/\Below w.heap.size w U):=fun U hU=>⟨(hU.cell (p:=⟨w.heap.size,0,none⟩) (by show w.heap.size < _;omega)).trans Q,o.trans (hU.mono o.size)⟩
 have H:Hid (Calls Tryz.prog 48 #[.agg #[.slice ca c.length cc]] j (Qt (B6 c) j)):=Y0 w.heap.size c ca cc hcl hcap hpl hN j o.size (hC.below o)
 have y:Hid ((B6 c).1=0->∀ U,Below w.heap.size w U->Calls Tryz.prog 49 #[.agg #[.slice ca c.length cc]] U (Lo c U)):=fun hp U hU=>Xv c hp ca cc U (Ak.mono (hC.below hU) hU.size) (hT.below hU) (hW.below hU)
 have q:Hid ((B6 c).1≠0->Bt c (B6 c)):=fun h=>by unfold Bt;rw[if_pos h]
 have z:Hid ((B6 c).1=0->B6 c=(0,0,0)):=Vb
 obtain⟨r,hr⟩:∃ r,B6 c=r:=⟨_,rfl⟩
 rw[hr]at H y q z
 obtain⟨C,F,G⟩:=r
 clear hC hT hW hpl hN hr E
 have am:=Uz
 by_cases hz:C=0
 ·have e:=z.out hz
  simp only[Prod.mk.injEq]at e
  obtain⟨-,rfl,rfl⟩:=e
  subst hz
  have J:=Ta 0 0 0 0 0 0
  simp only[beq_self_eq_true,Bool.and_self]at J
  have HU:Hid (∀ U,Below w.heap.size w U->Calls Tryz.prog 49 #[.agg #[.slice ca c.length cc]] U (Lo c U)):=y.out rfl
  clear y q z
  go_enter Tryz.func26,Tryz.ntmps26
  go_wp2_with (first|(go_at_call 48;refine H.out.mono ?_;rintro e a ⟨rfl,d⟩;unfold Gv;simp only;obtain⟨f,s⟩:∃ U,a.alloc (.cells #[.int .i64 0,.int .i64 0,.int .i64 0] 102)=U:=⟨_,rfl⟩;have u:Below j.heap.size j f:=(by rw[<- s];exact d.alloc d.size _);have b:f.heap[a.heap.size]? = some (.cells #[.int .i64 0,.int .i64 0,.int .i64 0] 102):=(by rw[<- s];exact Ag _ _);have ag:f.cell? ⟨a.heap.size,0,none⟩=some (.int .i64 0):=(by rw[Lib.cell_of_heap b];rfl);have ah:f.cell? ⟨a.heap.size,1,none⟩=some (.int .i64 0):=(by rw[Lib.cell_of_heap b];rfl);have ai:f.cell? ⟨a.heap.size,2,none⟩=some (.int .i64 0):=(by rw[Lib.cell_of_heap b];rfl);have aj:f.frozen? ⟨a.heap.size,0,none⟩=false:=(by simp[World.frozen?,b]);have ak:f.frozen? ⟨a.heap.size,1,none⟩=false:=(by simp[World.frozen?,b]);have al:f.frozen? ⟨a.heap.size,2,none⟩=false:=(by simp[World.frozen?,b]);obtain⟨n,t⟩:∃ U,(((f.setCell ⟨a.heap.size,0,none⟩ (.int .i64 0)).setCell ⟨a.heap.size,1,none⟩ (.int .i64 0)).setCell ⟨a.heap.size,2,none⟩ (.int .i64 0))=U:=⟨_,rfl⟩;have x:Below j.heap.size j n:=(by rw[<- t];exact((u.setCell (p:=⟨a.heap.size,0,none⟩) d.size _).setCell (p:=⟨a.heap.size,1,none⟩) d.size _).setCell (p:=⟨a.heap.size,2,none⟩) d.size _);have g:n.heap[a.heap.size]? = some (.cells #[.int .i64 0,.int .i64 0,.int .i64 0] 102):=(by rw[<- t];simp[World.setCell,Array.getElem?_modify,b]);have ad:n.cell? ⟨a.heap.size,0,none⟩=some (.int .i64 0):=(by rw[Lib.cell_of_heap g];rfl);have ae:n.cell? ⟨a.heap.size,1,none⟩=some (.int .i64 0):=(by rw[Lib.cell_of_heap g];rfl);have af:n.cell? ⟨a.heap.size,2,none⟩=some (.int .i64 0):=(by rw[Lib.cell_of_heap g];rfl);obtain⟨kc,l⟩:=O.out n x)|(go_at_call 49;refine(HU.out n l).mono ?_;rintro e K ⟨⟨⟨L,M,N⟩,rfl,D⟩,R⟩;unfold Gv;simp only;have q:Hid (Bt c (L,M,N)):=D;clear D;have T:a.heap.size < n.heap.size:=((Array.getElem?_eq_some_iff.1 g).1);have m:=(R.block a.heap.size T).trans g;have W:K.cell? ⟨a.heap.size,0,none⟩=some (.int .i64 0):=(by rw[Lib.cell_of_heap m];rfl);have X:K.cell? ⟨a.heap.size,1,none⟩=some (.int .i64 0):=(by rw[Lib.cell_of_heap m];rfl);have Z:K.cell? ⟨a.heap.size,2,none⟩=some (.int .i64 0):=(by rw[Lib.cell_of_heap m];rfl);have aa:K.frozen? ⟨a.heap.size,0,none⟩=false:=(by simp[World.frozen?,m]);have ab:K.frozen? ⟨a.heap.size,1,none⟩=false:=(by simp[World.frozen?,m]);have ac:K.frozen? ⟨a.heap.size,2,none⟩=false:=(by simp[World.frozen?,m])))
  obtain⟨P,A⟩:∃ U,(((K.setCell ⟨a.heap.size,0,none⟩ (.int .i64 L)).setCell ⟨a.heap.size,1,none⟩ (.int .i64 M)).setCell ⟨a.heap.size,2,none⟩ (.int .i64 N))=U:=⟨_,rfl⟩
  have V:Hid (Below w.heap.size w P):=by rw[Hid,<- A];exact((((l.trans (R.mono l.size)).setCell (p:=⟨a.heap.size,0,none⟩) (Nat.le_trans o.size d.size) _).setCell (p:=⟨a.heap.size,1,none⟩) (Nat.le_trans o.size d.size) _).setCell (p:=⟨a.heap.size,2,none⟩) (Nat.le_trans o.size d.size) _)
  have B:P.heap[a.heap.size]? = some (.cells #[.int .i64 L,.int .i64 M,.int .i64 N] 102):=by rw[<- A];simp[World.setCell,Array.getElem?_modify,m]
  have v0:P.cell? ⟨a.heap.size,0,none⟩=some (.int .i64 L):=by rw[Lib.cell_of_heap B];rfl
  have v1:P.cell? ⟨a.heap.size,1,none⟩=some (.int .i64 M):=by rw[Lib.cell_of_heap B];rfl
  have v2:P.cell? ⟨a.heap.size,2,none⟩=some (.int .i64 N):=by rw[Lib.cell_of_heap B];rfl
  rw[A]
  clear A m B W X Z aa ab ac
  go_quiet (fail)
  go_wp2_with fail
  exact bodyPost_ret (v:=Kd (L,M,N)) (by simp[results,Tryz.results26,go_sem,Kd]) rfl ⟨⟨(L,M,N),rfl,q.out⟩,Bz _ V.out⟩
 ·have J:=Ta C F G 0 0 0
  have S:(C == 0 && F == 0 && G == 0)=false:=by simp[hz]
  rw[S]at J
  have HA:Hid (Bt c (C,F,G)):=q.out hz
  clear y q z S hz
  go_enter Tryz.func26,Tryz.ntmps26
  go_wp2_with (first|(go_at_call 48;refine H.out.mono ?_;rintro e a ⟨rfl,d⟩;unfold Gv;simp only;obtain⟨f,s⟩:∃ U,a.alloc (.cells #[.int .i64 0,.int .i64 0,.int .i64 0] 102)=U:=⟨_,rfl⟩;have u:Below j.heap.size j f:=(by rw[<- s];exact d.alloc d.size _);have b:f.heap[a.heap.size]? = some (.cells #[.int .i64 0,.int .i64 0,.int .i64 0] 102):=(by rw[<- s];exact Ag _ _);have ag:f.cell? ⟨a.heap.size,0,none⟩=some (.int .i64 0):=(by rw[Lib.cell_of_heap b];rfl);have ah:f.cell? ⟨a.heap.size,1,none⟩=some (.int .i64 0):=(by rw[Lib.cell_of_heap b];rfl);have ai:f.cell? ⟨a.heap.size,2,none⟩=some (.int .i64 0):=(by rw[Lib.cell_of_heap b];rfl);have aj:f.frozen? ⟨a.heap.size,0,none⟩=false:=(by simp[World.frozen?,b]);have ak:f.frozen? ⟨a.heap.size,1,none⟩=false:=(by simp[World.frozen?,b]);have al:f.frozen? ⟨a.heap.size,2,none⟩=false:=(by simp[World.frozen?,b]);obtain⟨n,t⟩:∃ U,(((f.setCell ⟨a.heap.size,0,none⟩ (.int .i64 C)).setCell ⟨a.heap.size,1,none⟩ (.int .i64 F)).setCell ⟨a.heap.size,2,none⟩ (.int .i64 G))=U:=⟨_,rfl⟩;have x:Below j.heap.size j n:=(by rw[<- t];exact((u.setCell (p:=⟨a.heap.size,0,none⟩) d.size _).setCell (p:=⟨a.heap.size,1,none⟩) d.size _).setCell (p:=⟨a.heap.size,2,none⟩) d.size _);have g:n.heap[a.heap.size]? = some (.cells #[.int .i64 C,.int .i64 F,.int .i64 G] 102):=(by rw[<- t];simp[World.setCell,Array.getElem?_modify,b]);have ad:n.cell? ⟨a.heap.size,0,none⟩=some (.int .i64 C):=(by rw[Lib.cell_of_heap g];rfl);have ae:n.cell? ⟨a.heap.size,1,none⟩=some (.int .i64 F):=(by rw[Lib.cell_of_heap g];rfl);have af:n.cell? ⟨a.heap.size,2,none⟩=some (.int .i64 G):=(by rw[Lib.cell_of_heap g];rfl);obtain⟨kc,l⟩:=O.out n x))
  go_quiet (fail)
  go_wp2_with fail
  exact bodyPost_ret (v:=Kd (C,F,G)) (by simp[results,Tryz.results26,go_sem,Kd]) rfl ⟨⟨(C,F,G),rfl,HA.out⟩,Bz _ l⟩
end Go.Proofs.YtfjkahdghhbpnaaGreatDoor
