import Derived.Test.YtahibkjkpmdhgaaGreatDoorKCeJ
import Derived.Test.YtahibkjkpmdhgaaGreatDoorKCdT
set_option maxRecDepth 100000
set_option maxHeartbeats 2000000
namespace Go.Proofs.YtahibkjkpmdhgaaGreatDoor
open Go.RowKit
def Pk (es:List Int) (w:World) (e:Ending) (w':World):Prop := ∃ a cap,e = .returned (.slice a es.length cap)/\Ac w'.heap.size w' (.slice a es.length cap) es/\es.length<=cap/\OH w w'
theorem G1 {Y Z:World} {o:Obj} {g j:Nat} {v:Value} (hZ:Y.alloc o=Z) (hg:g < Y.heap.size) (h:Y.cell? (OI g j)=some v):Z.cell? (OI g j)=some v:=by
 rw[<- hZ];exact((Ao Y o).cell (p:=(OI g j)) hg).trans h
theorem Qe9 (m:Nat) (a n:Int) (text:ByteArray) (t0 t1:Int) (h1:1<=m) (h16:m<=16) (e0:(B5 m).2.1=t0) (e1:(B5 m).2.2.1=t1) (n13:t0≠13) (n14:t0≠14) (n15:t0≠15) (g:Nat) (w:World) (hT:B3 w) :
  Calls Tryz.prog 157 #[.pointer (some (OI g 0)),Aw ⟨(m:Int),a,n,text⟩] w (Pk (if t0=0 then [] else if t1=0 then [t0] else [t0,t1]) w):=by
 unfold Aw;simp only;obtain⟨s,x⟩:∃ Y,w.alloc (.cells #[.int .i64 (m:Int),.int .i64 a,.int .i64 n,.string text] 107)=Y:=⟨_,rfl⟩;have y:OH w s:=by rw[<- x];exact Ao w _
 have A:s.heap.size=w.heap.size+1:=by rw[<- x];exact World.size_alloc _ _
 have q:s.heap[w.heap.size]? = some (.cells #[.int .i64 (m:Int),.int .i64 a,.int .i64 n,.string text] 107):=by rw[<- x];exact Ae w _
 have D:s.cell? (OI w.heap.size 0)=some (.int .i64 (m:Int)):=by rw[Lib.cell_of_heap q];rfl
 have E:s.cell? (OI w.heap.size 1)=some (.int .i64 a):=by rw[Lib.cell_of_heap q];rfl
 have P:s.cell? (OI 0 (m * 5+1))=some (.int .i64 t0):=by rw[<- e0];exact(y.cell (p:=(OI _ _)) hT.lt).trans (hT.take0 m h1 h16)
 have Q:s.cell? (OI 0 (m * 5+2))=some (.int .i64 t1):=by rw[<- e1];exact(y.cell (p:=(OI _ _)) hT.lt).trans (hT.take1 m h1 h16)
 clear hT q e0 e1;obtain⟨c,f⟩:∃ Y,s.alloc (.cells #[.int .i64 t0,.int .i64 t1] 187)=Y:=⟨_,rfl⟩;have z:OH w c:=by rw[<- f];exact Ab y _
 have O:c.heap.size=w.heap.size+2:=by rw[<- f,World.size_alloc];omega
 have b:c.heap[w.heap.size+1]? = some (.cells #[.int .i64 t0,.int .i64 t1] 187):=by rw[<- f,<- A];exact Ae _ _
 have I:c.cell? (OI (w.heap.size+1) 0)=some (.int .i64 t0):=by rw[Lib.cell_of_heap b];rfl
 have J:c.cell? (OI (w.heap.size+1) 1)=some (.int .i64 t1):=by rw[Lib.cell_of_heap b];rfl
 have K:c.frozen? (OI (w.heap.size+1) 0)=false:=by simp[World.frozen?,b]
 have L:c.frozen? (OI (w.heap.size+1) 1)=false:=by simp[World.frozen?,b]
 have G:=G1 f Ou D;have H:=G1 f Ou E;have v:Ac c.heap.size c (.slice (some (OI (w.heap.size+1) 0)) 2 2) [t0,t1]:=by
  have h:=Nt s [t0,t1] 187 2 2 OB c (by rw[A];exact b) Ou;unfold OK at h;rw[A]at h;exact h
 have u:Hid (Calls Tryz.prog 176 #[.slice (some (OI (w.heap.size+1) 0)) 2 2,.int .i64 0] c fun e w'=>(∃ k:Int,e = .returned (.int .i64 k)/\H9 [t0,t1] 0 k)/\c=w'):=Mn [t0,t1] 0 _ 2 OB _ c v;have B:Hid (Ac c.heap.size c (.slice (some (OI (w.heap.size+1) 0)) 2 2) [t0,t1]):=v;have N:(m:Int) < 17:=Ou
 clear v b;by_cases z0:t0=0
 ·rw[if_pos z0];have C:Hid (∀ k,H9 [t0,t1] 0 k->k=0):=fun k d=>by
   rcases d with⟨rfl,F⟩|⟨j,t,rfl,r,o⟩
   ·exact(F (by simp[z0])).elim
   ·match j,o with
    | 0,_=>rfl
    | j+1,o=>exact(o 0 OB Ou (by simp[z0])).elim
  clear z0;go_enter Tryz.func157,Tryz.ntmps157;go_wp2_with (go_at_call 176;refine u.out.mono ?_;rintro e w' ⟨⟨k,rfl,d⟩,rfl⟩;have l:=C.out k d;subst l;clear d);go_ret;exact⟨_,_,rfl,⟨_,_,rfl,fun i hi=>by simp at hi⟩,by simp,z⟩
 ·rw[if_neg z0];by_cases z1:t1=0
  ·rw[if_pos z1];have C:Hid (∀ k,H9 [t0,t1] 0 k->k=1):=fun k d=>by
    rcases d with⟨rfl,F⟩|⟨j,t,rfl,r,o⟩
    ·exact(F (by simp[z1])).elim
    ·match j,t,r with
     | 0,_,r=>exact(z0 (by simpa using r)).elim
     | 1,_,_=>rfl
     | j+2,t,_=>exact absurd t OB
   clear z0 z1;have M:Hid (Ac c.heap.size c (.slice (some (OI (w.heap.size+1) 0)) 1 2) [t0]):=Ac.front (hs:=[t0,t1]) B.out (m:=1) OB;go_enter Tryz.func157,Tryz.ntmps157;go_wp2_with (go_at_call 176;refine u.out.mono ?_;rintro e w' ⟨⟨k,rfl,d⟩,rfl⟩;have l:=C.out k d;subst l;clear d);go_ret;exact⟨_,_,rfl,M.out,by simp,z⟩
  ·rw[if_neg z1];have C:Hid (∀ k,H9 [t0,t1] 0 k->k = -1):=fun k d=>by
    rcases d with⟨rfl,F⟩|⟨j,t,rfl,r,o⟩
    ·rfl
    ·match j,t,r with
     | 0,_,r=>exact(z0 (by simpa using r)).elim
     | 1,_,r=>exact(z1 (by simpa using r)).elim
     | j+2,t,_=>exact absurd t OB
   clear z0 z1;go_enter Tryz.func157,Tryz.ntmps157;go_wp2_with (go_at_call 176;refine u.out.mono ?_;rintro e w' ⟨⟨k,rfl,d⟩,rfl⟩;have l:=C.out k d;subst l;clear d);go_ret;exact⟨_,_,rfl,B.out,by simp,z⟩
theorem Qe8 (c:List Af) (k:Nat) (hk:k < c.length) (_hcl:c.length<=60) (m:Nat) (hm9:m=9) (n:Int) (text:ByteArray) (t0 t1:Int) (e0:(B5 m).2.1=t0) (e1:(B5 m).2.2.1=t1) (he14:t0=14) (ca:Option Addr) (cc:Nat) (f:Af) (pv iv lv wv:Value) (g:Nat) (w:World) (_hcap:c[k].params.length<=8) (hT:B3 w) (hC:Al w.heap.size w (.slice ca c.length cc) c) (hTr:Gh g w (.slice ca c.length cc) f pv iv lv wv) :
  Calls Tryz.prog 157 #[.pointer (some (OI g 0)),Aw ⟨(m:Int),(k:Int),n,text⟩] w (fun e w' => ∃ a r,e = .returned (.slice a c[k].params.length r)/\Ac w'.heap.size w' (.slice a c[k].params.length r) c[k].params/\OH w w'):=by
 have M:1<=m:=Ou
 have x:m<=16:=Ou
 obtain⟨a,y⟩:∃ a,a=(k:Int):=⟨_,rfl⟩;rw[<- y];unfold Aw;simp only;obtain⟨j,l⟩:∃ Y,w.alloc (.cells #[.int .i64 (m:Int),.int .i64 a,.int .i64 n,.string text] 107)=Y:=⟨_,rfl⟩;have h:OH w j:=by rw[<- l];exact Ao w _
 have D:j.heap.size=w.heap.size+1:=by rw[<- l];exact World.size_alloc _ _
 have i:j.heap[w.heap.size]? = some (.cells #[.int .i64 (m:Int),.int .i64 a,.int .i64 n,.string text] 107):=by rw[<- l];exact Ae w _
 have v:j.cell? (OI w.heap.size 0)=some (.int .i64 (m:Int)):=by rw[Lib.cell_of_heap i];rfl
 have o:j.cell? (OI w.heap.size 1)=some (.int .i64 a):=by rw[Lib.cell_of_heap i];rfl
 have aa:j.cell? (OI 0 (m * 5+1))=some (.int .i64 t0):=by rw[<- e0];exact(h.cell (p:=(OI _ _)) hT.lt).trans (hT.take0 m M x)
 have ab:j.cell? (OI 0 (m * 5+2))=some (.int .i64 t1):=by rw[<- e1];exact(h.cell (p:=(OI _ _)) hT.lt).trans (hT.take1 m M x)
 rw[y]at o;rw[y]at l;rw[y];obtain⟨N,-⟩:=(hTr.below h).cells;have u:g < j.heap.size:=(hTr.below h).lt;obtain⟨L,r,pa,pc,ia,ic,U,B,Q,I,R,S,T,A,V⟩:=hC.fn k hk;injection U with ev1 ev2 ev3;subst ev1 ev3;have C:L < w.heap.size:=B;have s:=(h.cell (p:=(OI L (k * 5+1))) C).trans I;obtain⟨P,z⟩:∃ P,Hid (c[k].params=P):=⟨_,(rfl:c[k].params=_)⟩;rw[z.out]at s A |-
 have O:Hid (Ac w.heap.size w (.slice pa P.length pc) P):=A;clear hT i e0 e1 Q I R S T A V hC hTr ev2;obtain⟨q,d⟩:∃ Y,j.alloc (.cells #[.int .i64 t0,.int .i64 t1] 187)=Y:=⟨_,rfl⟩;have t:OH w q:=by rw[<- d];exact Ab h _
 have Z:q.heap.size=w.heap.size+2:=by rw[<- d,World.size_alloc];omega
 have b:q.heap[w.heap.size+1]? = some (.cells #[.int .i64 t0,.int .i64 t1] 187):=by rw[<- d,<- D];exact Ae _ _
 have G:q.cell? (OI (w.heap.size+1) 0)=some (.int .i64 t0):=by rw[Lib.cell_of_heap b];rfl
 have H:q.cell? (OI (w.heap.size+1) 1)=some (.int .i64 t1):=by rw[Lib.cell_of_heap b];rfl
 have J:q.frozen? (OI (w.heap.size+1) 0)=false:=by simp[World.frozen?,b]
 have K:q.frozen? (OI (w.heap.size+1) 1)=false:=by simp[World.frozen?,b]
 have E:=G1 d Ou v;have F:=G1 d Ou o;have x0:=G1 d u N;have x1:=G1 d Ou s;clear b;have W:(k:Int) < (c.length:Int):=Ou
 have X:(m:Int) < 17:=Ou
 subst he14;clear hm9 y u N s;go_enter Tryz.func157,Tryz.ntmps157;go_wp2_with fail;go_quiet (fail);go_wp2_with fail;go_ret;exact⟨_,_,rfl,(O.out.below (B9 _ t)).mono t.size,B9 _ t⟩
theorem Qdw (m:Nat) (hm:m=12) (a n:Int) (text:ByteArray) (t0 t1:Int) (e0:(B5 m).2.1=t0) (e1:(B5 m).2.2.1=t1) (he15:t0=15) (z1:t1=0) (cv:Value) (f:Af) (pv iv lv wv:Value) (g:Nat) (w:World) (hT:B3 w) (hTr:Gh g w cv f pv iv lv wv) :
  Calls Tryz.prog 157 #[.pointer (some (OI g 0)),Aw ⟨(m:Int),a,n,text⟩] w (Pk (if f.result=0 then [] else [f.result]) w):=by
 have X:1<=m:=Ou
 have F:m<=16:=Ou
 unfold Aw;simp only;obtain⟨r,x⟩:∃ Y,w.alloc (.cells #[.int .i64 (m:Int),.int .i64 a,.int .i64 n,.string text] 107)=Y:=⟨_,rfl⟩;have o:OH w r:=by rw[<- x];exact Ao w _
 have A:r.heap.size=w.heap.size+1:=by rw[<- x];exact World.size_alloc _ _
 have q:r.heap[w.heap.size]? = some (.cells #[.int .i64 (m:Int),.int .i64 a,.int .i64 n,.string text] 107):=by rw[<- x];exact Ae w _
 have D:r.cell? (OI w.heap.size 0)=some (.int .i64 (m:Int)):=by rw[Lib.cell_of_heap q];rfl
 have E:r.cell? (OI w.heap.size 1)=some (.int .i64 a):=by rw[Lib.cell_of_heap q];rfl
 have ad:r.cell? (OI 0 (m * 5+1))=some (.int .i64 t0):=by rw[<- e0];exact(o.cell (p:=(OI _ _)) hT.lt).trans (hT.take0 m X F)
 have ae:r.cell? (OI 0 (m * 5+2))=some (.int .i64 t1):=by rw[<- e1];exact(o.cell (p:=(OI _ _)) hT.lt).trans (hT.take1 m X F)
 obtain⟨-,-,-,P,-⟩:=(hTr.below o).cells;have B:g < r.heap.size:=(hTr.below o).lt;obtain⟨R,L⟩:∃ R,Hid (f.result=R):=⟨_,(rfl:f.result=_)⟩;rw[L.out]at P |-
 clear hT q e0 e1;obtain⟨u,l⟩:∃ Y,r.alloc (.cells #[.int .i64 t0,.int .i64 t1] 187)=Y:=⟨_,rfl⟩;have M:OH w u:=by rw[<- l];exact Ab o _
 have O:u.heap.size=w.heap.size+2:=by rw[<- l,World.size_alloc];omega
 have b:u.heap[w.heap.size+1]? = some (.cells #[.int .i64 t0,.int .i64 t1] 187):=by rw[<- l,<- A];exact Ae _ _
 have T:u.cell? (OI (w.heap.size+1) 0)=some (.int .i64 t0):=by rw[Lib.cell_of_heap b];rfl
 have U:u.cell? (OI (w.heap.size+1) 1)=some (.int .i64 t1):=by rw[Lib.cell_of_heap b];rfl
 have V:u.frozen? (OI (w.heap.size+1) 0)=false:=by simp[World.frozen?,b]
 have W:u.frozen? (OI (w.heap.size+1) 1)=false:=by simp[World.frozen?,b]
 have Q:=G1 l Ou D;have S:=G1 l Ou E;have x3:=G1 l B P;obtain⟨c,y⟩:∃ Y,u.setCell (OI (w.heap.size+1) 0) (.int .i64 R)=Y:=⟨_,rfl⟩;have G:OH w c:=by rw[<- y];exact M.setCell (p:=(OI (w.heap.size+1) 0)) OG _
 have ac:c.heap.size=w.heap.size+2:=by rw[<- y,World.size_setCell];exact O
 have d:c.heap[w.heap.size+1]? = some (.cells #[.int .i64 R,.int .i64 t1] 187):=by rw[<- y];simp[World.setCell,Array.getElem?_modify,b]
 have Z:c.cell? (OI (w.heap.size+1) 0)=some (.int .i64 R):=by rw[Lib.cell_of_heap d];rfl
 have aa:c.cell? (OI (w.heap.size+1) 1)=some (.int .i64 t1):=by rw[Lib.cell_of_heap d];rfl
 have v:Ac c.heap.size c (.slice (some (OI (w.heap.size+1) 0)) 2 2) [R,t1]:=by
  have h:=Nt r [R,t1] 187 2 2 OB c (by rw[A];exact d) Ou;unfold OK at h;rw[A]at h;exact h
 have C:Hid (Calls Tryz.prog 176 #[.slice (some (OI (w.heap.size+1) 0)) 2 2,.int .i64 0] c fun e w'=>(∃ k:Int,e = .returned (.int .i64 k)/\H9 [R,t1] 0 k)/\c=w'):=Mn [R,t1] 0 _ 2 OB _ c v;have J:Hid (Ac c.heap.size c (.slice (some (OI (w.heap.size+1) 0)) 2 2) [R,t1]):=v;have ab:(m:Int) < 17:=Ou
 clear v b d P B hm;subst he15;by_cases z0:R=0
 ·rw[if_pos z0];have K:Hid (∀ k,H9 [R,t1] 0 k->k=0):=fun k s=>by
   rcases s with⟨rfl,N⟩|⟨j,I,rfl,H,t⟩
   ·exact(N (by simp[z0])).elim
   ·match j,t with
    | 0,_=>rfl
    | j+1,t=>exact(t 0 OB Ou (by simp[z0])).elim
  clear z0 z1;go_enter Tryz.func157,Tryz.ntmps157;go_wp2_with (go_at_call 176;refine C.out.mono ?_;rintro e w' ⟨⟨k,rfl,s⟩,rfl⟩;have z:=K.out k s;subst z;clear s);go_ret;exact⟨_,_,rfl,⟨_,_,rfl,fun i hi=>by simp at hi⟩,by simp,G⟩
 ·rw[if_neg z0];have K:Hid (∀ k,H9 [R,t1] 0 k->k=1):=fun k s=>by
   rcases s with⟨rfl,N⟩|⟨j,I,rfl,H,t⟩
   ·exact(N (by simp[z1])).elim
   ·match j,I,H with
    | 0,_,H=>exact(z0 (by simpa using H)).elim
    | 1,_,_=>rfl
    | j+2,I,_=>exact absurd I OB
  clear z0 z1;have HR:Hid (Ac c.heap.size c (.slice (some (OI (w.heap.size+1) 0)) 1 2) [R]):=Ac.front (hs:=[R,t1]) J.out (m:=1) OB;go_enter Tryz.func157,Tryz.ntmps157;go_wp2_with (go_at_call 176;refine C.out.mono ?_;rintro e w' ⟨⟨k,rfl,s⟩,rfl⟩;have z:=K.out k s;subst z;clear s);go_ret;exact⟨_,_,rfl,HR.out,by simp,G⟩
theorem Qe7 (q:Nat) (hq1:1<=q) (hq12:q<=12) (m:Nat) (hm:m=8) (n:Int) (text:ByteArray) (t0 t1:Int) (e0:(B5 m).2.1=t0) (e1:(B5 m).2.2.1=t1) (he13:t0=13) (g:Nat) (w:World) (hT:B3 w) (hW:Cw w) :
  Calls Tryz.prog 157 #[.pointer (some (OI g 0)),Aw ⟨(m:Int),(q:Int),n,text⟩] w (Pk (Gt q) w):=by
 have W:1<=m:=Ou
 have D:m<=16:=Ou
 obtain⟨a,F⟩:∃ a,a=(q:Int):=⟨_,rfl⟩;rw[<- F];unfold Aw;simp only;obtain⟨r,l⟩:∃ Y,w.alloc (.cells #[.int .i64 (m:Int),.int .i64 a,.int .i64 n,.string text] 107)=Y:=⟨_,rfl⟩;have o:OH w r:=by rw[<- l];exact Ao w _
 have O:r.heap.size=w.heap.size+1:=by rw[<- l];exact World.size_alloc _ _
 have j:r.heap[w.heap.size]? = some (.cells #[.int .i64 (m:Int),.int .i64 a,.int .i64 n,.string text] 107):=by rw[<- l];exact Ae w _
 have C:r.cell? (OI w.heap.size 0)=some (.int .i64 (m:Int)):=by rw[Lib.cell_of_heap j];rfl
 have s:r.cell? (OI w.heap.size 1)=some (.int .i64 a):=by rw[Lib.cell_of_heap j];rfl
 have ag:r.cell? (OI 0 (m * 5+1))=some (.int .i64 t0):=by rw[<- e0];exact(o.cell (p:=(OI _ _)) hT.lt).trans (hT.take0 m W D)
 have ah:r.cell? (OI 0 (m * 5+2))=some (.int .i64 t1):=by rw[<- e1];exact(o.cell (p:=(OI _ _)) hT.lt).trans (hT.take1 m W D)
 rw[F]at s;rw[F]at l;rw[F];have E:=hW.below o;clear hT j e0 e1 F;obtain⟨k,i⟩:∃ Y,r.alloc (.cells #[.int .i64 t0,.int .i64 t1] 187)=Y:=⟨_,rfl⟩;have K:OH w k:=by rw[<- i];exact Ab o _
 have u:k.heap.size=w.heap.size+2:=by rw[<- i,World.size_alloc];omega
 have c:k.heap[w.heap.size+1]? = some (.cells #[.int .i64 t0,.int .i64 t1] 187):=by rw[<- i,<- O];exact Ae _ _
 have S:k.cell? (OI (w.heap.size+1) 0)=some (.int .i64 t0):=by rw[Lib.cell_of_heap c];rfl
 have T:k.cell? (OI (w.heap.size+1) 1)=some (.int .i64 t1):=by rw[Lib.cell_of_heap c];rfl
 have U:k.frozen? (OI (w.heap.size+1) 0)=false:=by simp[World.frozen?,c]
 have V:k.frozen? (OI (w.heap.size+1) 1)=false:=by simp[World.frozen?,c]
 have R:=G1 i Ou C;have B:=G1 i Ou s;have f:=E.below (w':=k) (by rw[<- i];exact Ao _ _);have P:=f.kid q hq1 hq12 0 Ou;have X:=f.kid q hq1 hq12 1 Ou;have Z:=f.kid q hq1 hq12 2 Ou;rw[Nat.add_zero]at P;have A:Hid ((Gt q).length<=3):=Qbo q;obtain⟨L,J⟩:∃ L,Hid (Gt q=L):=⟨_,(rfl:Gt q=_)⟩;have Q:=f.kids q hq1 hq12;rw[J.out]at P X Z A Q |-
 have ab:(L.length:Int)<=3:=by have:=A.out;omega
 obtain⟨N,hN⟩:∃ N,L.length=N:=⟨_,rfl⟩;obtain⟨v,b⟩:∃ Y,k.alloc (.cells #[.int .i64 (L.getD 0 0),.int .i64 (L.getD 1 0),.int .i64 (L.getD 2 0)] 193)=Y:=⟨_,rfl⟩;have M:OH w v:=by rw[<- b];exact Ab K _
 have ae:v.heap.size=w.heap.size+3:=by rw[<- b,World.size_alloc];omega
 have t:v.heap[w.heap.size+2]? = some (.cells #[.int .i64 (L.getD 0 0),.int .i64 (L.getD 1 0),.int .i64 (L.getD 2 0)] 193):=by rw[<- b,<- u];exact Ae _ _
 have aa:=G1 b Ou B;have af:=G1 b f.lt2 Q;have HR:Hid (Ac v.heap.size v (.slice (some (OI (w.heap.size+2) 0)) L.length 3) L):=by
  have h:=Nt k [L.getD 0 0,L.getD 1 0,L.getD 2 0] 193 L.length 3 (by have:=A.out;simpa using this) v (by rw[u];exact t) Ou;unfold OK at h;rw[u]at h;have e:[L.getD 0 0,L.getD 1 0,L.getD 2 0].take L.length=L:=by
   have:=A.out;match L,this with
   | [],_=>rfl
   | [x],_=>rfl
   | [x,y],_=>rfl
   | [x,y,z],_=>rfl
   | _::_::_::_::_,h=>simp at h
  rw[e]at h;exact h
 have ac:(m:Int) < 17:=Ou
 have ad:(q:Int) < 13:=Ou
 obtain⟨d0,G⟩:∃ d,L.getD 0 0=d:=⟨_,rfl⟩;obtain⟨d1,H⟩:∃ d,L.getD 1 0=d:=⟨_,rfl⟩;obtain⟨d2,I⟩:∃ d,L.getD 2 0=d:=⟨_,rfl⟩;rw[G]at P b;rw[H]at X b;rw[I]at Z b;clear c t hm hW E f G H I Q hN;subst he13;go_enter Tryz.func157,Tryz.ntmps157;go_wp2_with fail;go_ret;exact⟨_,_,rfl,HR.out,by have:=A.out;omega,M⟩
theorem Qf (c:List Af) (hcl:c.length<=60) (f:Af) (i:Az) (hok:Aq c f i=true) (hpl:∀ g ∈ c,g.params.length<=8) (ca:Option Addr) (cc:Nat) (pv iv lv wv:Value) (g:Nat) (w:World) (hT:B3 w) (hW:Cw w) (hC:Al w.heap.size w (.slice ca c.length cc) c) (hTr:Gh g w (.slice ca c.length cc) f pv iv lv wv) :
  Calls Tryz.prog 157 #[.pointer (some (OI g 0)),Aw i] w (fun e w' => ∃ a d,e = .returned (.slice a (Ax c f i).length d)/\Ac w'.heap.size w' (.slice a (Ax c f i).length d) (Ax c f i)/\OH w w'):=by
 obtain⟨u,s⟩:=Hs hok;obtain⟨-,-,-,-,-,p,r,-,-⟩:=I4 hok;obtain⟨t,a,n,b⟩:=i;simp only at u s p r;obtain⟨m,rfl⟩:∃ m:Nat,t=(m:Int):=⟨t.toNat,by omega⟩;by_cases m8:m=8
 ·obtain⟨q,rfl⟩:∃ q:Nat,a=(q:Int):=⟨a.toNat,by have:=p Ou;omega⟩;have z:=p Ou;have h:Ax c f ⟨(m:Int),(q:Int),n,b⟩=Gt q:=by rw[m8];simp[Ax,Gt]
  rw[h];exact(Qe7 q Ou Ou m m8 n b 13 _ (by rw[m8];rfl) rfl rfl g w hT hW).mono (by rintro e w' ⟨a,d,k,l,-,o⟩;exact⟨a,d,k,l,o⟩)
 ·by_cases m9:m=9
  ·obtain⟨q,rfl⟩:∃ q:Nat,a=(q:Int):=⟨a.toNat,by have:=r Ou;omega⟩;have z:=r Ou;have j:q < c.length:=Ou;have h:Ax c f ⟨(m:Int),(q:Int),n,b⟩=c[q].params:=by
    rw[m9];have:c[q]?.getD A6=c[q]:=(by rw[List.getElem?_eq_getElem j];rfl);simp[Ax,this]
   rw[h];exact Qe8 c q j hcl m m9 n b 14 _ (by rw[m9];rfl) rfl rfl ca cc f pv iv lv wv g w (hpl _ (List.getElem_mem j)) hT hC hTr
  ·by_cases m12:m=12
   ·have h:Ax c f ⟨(m:Int),a,n,b⟩=(if f.result=0 then [] else [f.result]):=(by rw[m12];simp[Ax]);rw[h];exact(Qdw m m12 a n b 15 0 (by rw[m12];rfl) (by rw[m12];rfl) rfl rfl _ f pv iv lv wv g w hT hTr).mono (by rintro e w' ⟨a,d,k,l,-,o⟩;exact⟨a,d,k,l,o⟩)
   ·have y:m=1\/m=2\/m=3\/m=4\/m=5\/m=6\/m=7\/m=10\/m=11\/m=13\/m=14\/m=15\/m=16:=Ou;have x:∀ t0 t1,(B5 m).2.1=t0->(B5 m).2.2.1=t1->t0≠13->t0≠14->t0≠15->Ax c f ⟨(m:Int),a,n,b⟩=(if t0=0 then [] else if t1=0 then [t0] else [t0,t1]) ->
      Calls Tryz.prog 157 #[.pointer (some (OI g 0)),Aw ⟨(m:Int),a,n,b⟩] w (fun e w' => ∃ v d,e = .returned (.slice v (Ax c f ⟨(m:Int),a,n,b⟩).length d)/\Ac w'.heap.size w' (.slice v (Ax c f ⟨(m:Int),a,n,b⟩).length d) (Ax c f ⟨(m:Int),a,n,b⟩)/\OH w w'):=fun t0 t1 e0 e1 n13 n14 n15 h=>by
     rw[h];exact(Qe9 m a n b t0 t1 Ou Ou e0 e1 n13 n14 n15 g w hT).mono (by rintro e w' ⟨a,d,k,l,-,o⟩;exact⟨a,d,k,l,o⟩)
    rcases y with rfl|rfl|rfl|rfl|rfl|rfl|rfl|rfl|rfl|rfl|rfl|rfl|rfl
    all_goals exact x _ _ rfl rfl Ov Ov Ov (by simp[Ax,B5])
def Gw (p:Int) (b:Bool) (w:World) (e:Ending) (w':World):Prop:=e = .returned (.tuple #[.int .i64 p,.bool b])/\OH w w'
theorem L1 {p p':Int} {b b':Bool} {w:World} {e:Ending} {w':World} (h:Gw p b w e w') (hp:p=p') (hb:b=b'):Gw p' b' w e w':=by subst hp;subst hb;exact h
theorem Qf4 (m:Nat) (h1:1<=m) (h16:m<=16) (P:Int) (eP:(B5 m).2.2.2.1=P) (hP:P=0) (a n:Int) (text S K:ByteArray) (g:Nat) (w:World) (hT:B3 w) :
  Calls Tryz.prog 98 #[.pointer (some (OI g 0)),Aw ⟨(m:Int),a,n,text⟩,.string S,.string K] w (Gw 0 true w):=by
 unfold Aw;simp only;obtain⟨d,c⟩:∃ Y,w.alloc (.cells #[.int .i64 (m:Int),.int .i64 a,.int .i64 n,.string text] 107)=Y:=⟨_,rfl⟩;have f:OH w d:=by rw[<- c];exact Ao w _
 have k:d.heap.size=w.heap.size+1:=by rw[<- c];exact World.size_alloc _ _
 have b:d.heap[w.heap.size]? = some (.cells #[.int .i64 (m:Int),.int .i64 a,.int .i64 n,.string text] 107):=by rw[<- c];exact Ae w _
 have h:d.cell? (OI w.heap.size 0)=some (.int .i64 (m:Int)):=by rw[Lib.cell_of_heap b];rfl
 have i:d.cell? (OI w.heap.size 1)=some (.int .i64 a):=by rw[Lib.cell_of_heap b];rfl
 have l:d.cell? (OI 0 (m * 5+3))=some (.int .i64 P):=by rw[<- eP];exact(f.cell (p:=(OI _ _)) hT.lt).trans (hT.puts m h1 h16)
 have j:(m:Int) < 17:=Ou
 clear b eP;clear hT;subst hP;go_enter Tryz.func98,Tryz.ntmps98;go_wp2_with fail;go_ret2;exact⟨rfl,f⟩
theorem Qe0 (m:Nat) (h1:1<=m) (h16:m<=16) (P:Int) (eP:(B5 m).2.2.2.1=P) (hP:P=16) (a n:Int) (text S K:ByteArray) (g:Nat) (w:World) (hT:B3 w) :
  Calls Tryz.prog 98 #[.pointer (some (OI g 0)),Aw ⟨(m:Int),a,n,text⟩,.string S,.string K] w (Gw a (decide (a≠0)) w):=by
 unfold Aw;simp only;obtain⟨d,c⟩:∃ Y,w.alloc (.cells #[.int .i64 (m:Int),.int .i64 a,.int .i64 n,.string text] 107)=Y:=⟨_,rfl⟩;have f:OH w d:=by rw[<- c];exact Ao w _
 have l:d.heap.size=w.heap.size+1:=by rw[<- c];exact World.size_alloc _ _
 have b:d.heap[w.heap.size]? = some (.cells #[.int .i64 (m:Int),.int .i64 a,.int .i64 n,.string text] 107):=by rw[<- c];exact Ae w _
 have h:d.cell? (OI w.heap.size 0)=some (.int .i64 (m:Int)):=by rw[Lib.cell_of_heap b];rfl
 have i:d.cell? (OI w.heap.size 1)=some (.int .i64 a):=by rw[Lib.cell_of_heap b];rfl
 have o:d.cell? (OI 0 (m * 5+3))=some (.int .i64 P):=by rw[<- eP];exact(f.cell (p:=(OI _ _)) hT.lt).trans (hT.puts m h1 h16)
 have k:(m:Int) < 17:=Ou
 clear b eP;clear hT;subst hP;have j:Hid ((a != 0)=decide (a≠0)):=by rw[Hid];by_cases e:a=0 <;> simp[e]
 go_enter Tryz.func98,Tryz.ntmps98;go_wp2_with fail;go_ret2;exact L1 ⟨rfl,f⟩ rfl j.out
theorem Yc (m:Nat) (h1:1<=m) (h16:m<=16) (P:Int) (eP:(B5 m).2.2.2.1=P) (hP:P=20) (q:Nat) (hq1:1<=q) (hq12:q<=12) (n:Int) (text S K:ByteArray) (g:Nat) (w:World) (hT:B3 w) (hW:Cw w) :
  Calls Tryz.prog 98 #[.pointer (some (OI g 0)),Aw ⟨(m:Int),(q:Int),n,text⟩,.string S,.string K] w (Gw (Cm (q:Int)) (decide (Cm (q:Int)≠0)) w):=by
 obtain⟨a,i⟩:∃ a,a=(q:Int):=⟨_,rfl⟩;rw[<- i];unfold Aw;simp only;obtain⟨f,c⟩:∃ Y,w.alloc (.cells #[.int .i64 (m:Int),.int .i64 a,.int .i64 n,.string text] 107)=Y:=⟨_,rfl⟩;have d:OH w f:=by rw[<- c];exact Ao w _
 have s:f.heap.size=w.heap.size+1:=by rw[<- c];exact World.size_alloc _ _
 have b:f.heap[w.heap.size]? = some (.cells #[.int .i64 (m:Int),.int .i64 a,.int .i64 n,.string text] 107):=by rw[<- c];exact Ae w _
 have j:f.cell? (OI w.heap.size 0)=some (.int .i64 (m:Int)):=by rw[Lib.cell_of_heap b];rfl
 have h:f.cell? (OI w.heap.size 1)=some (.int .i64 a):=by rw[Lib.cell_of_heap b];rfl
 have u:f.cell? (OI 0 (m * 5+3))=some (.int .i64 P):=by rw[<- eP];exact(d.cell (p:=(OI _ _)) hT.lt).trans (hT.puts m h1 h16)
 have o:(m:Int) < 17:=Ou
 clear b eP;rw[i]at h c;rw[i];have t:=(hW.below d).gives q hq1 hq12;obtain⟨M,l⟩:∃ M,Hid (Cm (q:Int)=M):=⟨_,(rfl:Cm (q:Int)=_)⟩;rw[l.out]at t |-
 have k:Hid ((M != 0)=decide (M≠0)):=by rw[Hid];by_cases e:M=0 <;> simp[e]
 have r:(q:Int) < 13:=Ou
 clear hT hW i;subst hP;go_enter Tryz.func98,Tryz.ntmps98;go_wp2_with fail;go_ret2;exact L1 ⟨rfl,d⟩ rfl k.out
theorem Yd (m:Nat) (h1:1<=m) (h16:m<=16) (P:Int) (eP:(B5 m).2.2.2.1=P) (hP:P=21) (c:List Af) (k:Nat) (hk:k < c.length) (_hcl:c.length<=60) (n:Int) (text S K:ByteArray) (ca:Option Addr) (cc:Nat) (f:Af) (pv iv lv wv:Value) (g:Nat) (w:World) (hT:B3 w) (hC:Al w.heap.size w (.slice ca c.length cc) c) (hTr:Gh g w (.slice ca c.length cc) f pv iv lv wv) :
  Calls Tryz.prog 98 #[.pointer (some (OI g 0)),Aw ⟨(m:Int),(k:Int),n,text⟩,.string S,.string K] w (Gw c[k].result true w):=by
 obtain⟨a,l⟩:∃ a,a=(k:Int):=⟨_,rfl⟩;rw[<- l];unfold Aw;simp only;obtain⟨i,d⟩:∃ Y,w.alloc (.cells #[.int .i64 (m:Int),.int .i64 a,.int .i64 n,.string text] 107)=Y:=⟨_,rfl⟩;have h:OH w i:=by rw[<- d];exact Ao w _
 have G:i.heap.size=w.heap.size+1:=by rw[<- d];exact World.size_alloc _ _
 have b:i.heap[w.heap.size]? = some (.cells #[.int .i64 (m:Int),.int .i64 a,.int .i64 n,.string text] 107):=by rw[<- d];exact Ae w _
 have s:i.cell? (OI w.heap.size 0)=some (.int .i64 (m:Int)):=by rw[Lib.cell_of_heap b];rfl
 have j:i.cell? (OI w.heap.size 1)=some (.int .i64 a):=by rw[Lib.cell_of_heap b];rfl
 have M:i.cell? (OI 0 (m * 5+3))=some (.int .i64 P):=by rw[<- eP];exact(h.cell (p:=(OI _ _)) hT.lt).trans (hT.puts m h1 h16)
 have F:(m:Int) < 17:=Ou
 clear b eP;rw[l]at j d;rw[l];obtain⟨N,-⟩:=(hTr.below h).cells;obtain⟨C,v,J,L,H,I,B,r,x,y,t,z,A,q,D⟩:=hC.fn k hk;injection B with ev1 ev2 ev3;subst ev1 ev3;have o:=(h.cell (p:=(OI C (k * 5+2))) r).trans t;obtain⟨R,u⟩:∃ R,Hid (c[k].result=R):=⟨_,(rfl:c[k].result=_)⟩;rw[u.out]at o |-
 have E:(k:Int) < (c.length:Int):=Ou
 clear hT x y t z A q D hC hTr ev2 l;subst hP;go_enter Tryz.func98,Tryz.ntmps98;go_wp2_with fail;go_quiet (fail);go_wp2_with fail;go_ret2;exact⟨rfl,B9 _ h⟩
theorem Qe1 (m:Nat) (h1:1<=m) (h16:m<=16) (P:Int) (eP:(B5 m).2.2.2.1=P) (hP:P=17) (k:Nat) (n:Int) (text S K:ByteArray) (hk:k < S.size) (_hS:S.size<=1048576) (t:Int) (ht:t=(S[k].toNat:Int)) (g:Nat) (w:World) (hT:B3 w) :
  Calls Tryz.prog 98 #[.pointer (some (OI g 0)),Aw ⟨(m:Int),(k:Int),n,text⟩,.string S,.string K] w (Gw t (decide (t≠0)) w):=by
 obtain⟨a,i⟩:∃ a,a=(k:Int):=⟨_,rfl⟩;rw[<- i];unfold Aw;simp only;obtain⟨d,c⟩:∃ Y,w.alloc (.cells #[.int .i64 (m:Int),.int .i64 a,.int .i64 n,.string text] 107)=Y:=⟨_,rfl⟩;have h:OH w d:=by rw[<- c];exact Ao w _
 have s:d.heap.size=w.heap.size+1:=by rw[<- c];exact World.size_alloc _ _
 have b:d.heap[w.heap.size]? = some (.cells #[.int .i64 (m:Int),.int .i64 a,.int .i64 n,.string text] 107):=by rw[<- c];exact Ae w _
 have o:d.cell? (OI w.heap.size 0)=some (.int .i64 (m:Int)):=by rw[Lib.cell_of_heap b];rfl
 have f:d.cell? (OI w.heap.size 1)=some (.int .i64 a):=by rw[Lib.cell_of_heap b];rfl
 have A:d.cell? (OI 0 (m * 5+3))=some (.int .i64 P):=by rw[<- eP];exact(h.cell (p:=(OI _ _)) hT.lt).trans (hT.puts m h1 h16)
 have r:(m:Int) < 17:=Ou
 clear b eP;rw[i]at f c;rw[i];obtain⟨y,x⟩:∃ y,S[k]=y:=⟨_,rfl⟩;rw[x]at ht;have q:(k:Int) < (S.size:Int):=Ou
 have z:y.toNat < 256:=y.toNat_lt;have u:IntKind.i64.wrap ((y.toNat:Nat):Int)=t:=by rw[ht,IntKind.wrap_i64];omega
 have v:wrap64 ((y.toNat:Nat):Int)=t:=by rw[ht];exact IntWalk.wrap64_in _ Ou
 have j:Hid ((t != 0)=decide (t≠0)):=by rw[Hid];by_cases e:t=0 <;> simp[e]
 have l:Hid (((y.toNat:Nat):Int)=t):=ht.symm;clear hT i ht;subst hP;go_enter Tryz.func98,Tryz.ntmps98;go_wp2_with fail;go_ret2;exact L1 ⟨rfl,h⟩ (by first|rfl|exact l.out) (by first|exact j.out|(rw[l.out];exact j.out))
theorem Qe2 (m:Nat) (h1:1<=m) (h16:m<=16) (P:Int) (eP:(B5 m).2.2.2.1=P) (hP:P=18) (a n:Int) (ha1:1<=a) (ha3:a<=3) (text S K:ByteArray) (hk:0 < K.size) (hK:K.size<=1048576) (t:Int) (ht:t=(K[0].toNat:Int)) (g:Nat) (w:World) (hT:B3 w) :
  Calls Tryz.prog 98 #[.pointer (some (OI g 0)),Aw ⟨(m:Int),a,n,text⟩,.string S,.string K] w (Gw (Fx a t) (decide (Fx a t≠0)) w):=by
 unfold Aw;simp only;obtain⟨d,c⟩:∃ Y,w.alloc (.cells #[.int .i64 (m:Int),.int .i64 a,.int .i64 n,.string text] 107)=Y:=⟨_,rfl⟩;have f:OH w d:=by rw[<- c];exact Ao w _
 have r:d.heap.size=w.heap.size+1:=by rw[<- c];exact World.size_alloc _ _
 have b:d.heap[w.heap.size]? = some (.cells #[.int .i64 (m:Int),.int .i64 a,.int .i64 n,.string text] 107):=by rw[<- c];exact Ae w _
 have i:d.cell? (OI w.heap.size 0)=some (.int .i64 (m:Int)):=by rw[Lib.cell_of_heap b];rfl
 have j:d.cell? (OI w.heap.size 1)=some (.int .i64 a):=by rw[Lib.cell_of_heap b];rfl
 have z:d.cell? (OI 0 (m * 5+3))=some (.int .i64 P):=by rw[<- eP];exact(f.cell (p:=(OI _ _)) hT.lt).trans (hT.puts m h1 h16)
 have q:(m:Int) < 17:=Ou
 clear b eP;obtain⟨y,s⟩:∃ y,K[0]=y:=⟨_,rfl⟩;rw[s]at ht;have x:y.toNat < 256:=y.toNat_lt;have u:IntKind.i64.wrap ((y.toNat:Nat):Int)=t:=by rw[ht,IntKind.wrap_i64];omega
 have v:wrap64 ((y.toNat:Nat):Int)=t:=by rw[ht];exact IntWalk.wrap64_in _ Ou
 have o:(0:Int) < (K.size:Int):=Ou
 obtain⟨U,h⟩:∃ U,Hid (Fx a t=U):=⟨_,(rfl:Fx a t=_)⟩;have l:Hid (∀ W,Calls Tryz.prog 130 #[.int .i64 a,.int .i64 t] W fun e w'=>e = .returned (.int .i64 U)/\W=w'):=fun W=>by rw[<- h.out];exact Xp a t ha1 ha3 W
 rw[h.out];have k:Hid ((U != 0)=decide (U≠0)):=by rw[Hid];by_cases e:U=0 <;> simp[e]
 clear hT ht;subst hP;go_enter Tryz.func98,Tryz.ntmps98;go_wp2_with fail;go_quiet (first|(go_at_call 130;refine Qc (l.out _)));go_wp2_with fail;go_ret2;exact L1 ⟨rfl,B9 _ f⟩ rfl k.out
theorem Qe3 (m:Nat) (h1:1<=m) (h16:m<=16) (P:Int) (eP:(B5 m).2.2.2.1=P) (hP:P=19) (a n:Int) (ha1:3<=a) (ha3:a<=18) (text S K:ByteArray) (hk:1 < K.size) (hK:K.size<=1048576) (t u:Int) (ht:t=(K[0].toNat:Int)) (hu:u=(K[1].toNat:Int)) (htb:1<=t/\t<=10) (g:Nat) (w:World) (hT:B3 w) :
  Calls Tryz.prog 98 #[.pointer (some (OI g 0)),Aw ⟨(m:Int),a,n,text⟩,.string S,.string K] w (Gw (Cy a t u) (decide (Cy a t u≠0)) w):=by
 have q:0 < K.size:=Ou
 unfold Aw;simp only;obtain⟨d,c⟩:∃ Y,w.alloc (.cells #[.int .i64 (m:Int),.int .i64 a,.int .i64 n,.string text] 107)=Y:=⟨_,rfl⟩;have f:OH w d:=by rw[<- c];exact Ao w _
 have v:d.heap.size=w.heap.size+1:=by rw[<- c];exact World.size_alloc _ _
 have b:d.heap[w.heap.size]? = some (.cells #[.int .i64 (m:Int),.int .i64 a,.int .i64 n,.string text] 107):=by rw[<- c];exact Ae w _
 have i:d.cell? (OI w.heap.size 0)=some (.int .i64 (m:Int)):=by rw[Lib.cell_of_heap b];rfl
 have j:d.cell? (OI w.heap.size 1)=some (.int .i64 a):=by rw[Lib.cell_of_heap b];rfl
 have H:d.cell? (OI 0 (m * 5+3))=some (.int .i64 P):=by rw[<- eP];exact(f.cell (p:=(OI _ _)) hT.lt).trans (hT.puts m h1 h16)
 have s:(m:Int) < 17:=Ou
 clear b eP;obtain⟨y,x⟩:∃ y,K[0]=y:=⟨_,rfl⟩;rw[x]at ht;have C:y.toNat < 256:=y.toNat_lt;have A:IntKind.i64.wrap ((y.toNat:Nat):Int)=t:=by rw[ht,IntKind.wrap_i64];omega
 have B:wrap64 ((y.toNat:Nat):Int)=t:=by rw[ht];exact IntWalk.wrap64_in _ Ou
 obtain⟨z,D⟩:∃ y,K[1]=y:=⟨_,rfl⟩;rw[D]at hu;have G:z.toNat < 256:=z.toNat_lt;have E:IntKind.i64.wrap ((z.toNat:Nat):Int)=u:=by rw[hu,IntKind.wrap_i64];omega
 have F:wrap64 ((z.toNat:Nat):Int)=u:=by rw[hu];exact IntWalk.wrap64_in _ Ou
 have r:(0:Int) < (K.size:Int):=Ou
 have k:(1:Int) < (K.size:Int):=Ou
 obtain⟨U,h⟩:∃ U,Hid (Cy a t u=U):=⟨_,(rfl:Cy a t u=_)⟩;have o:Hid (∀ W,Calls Tryz.prog 131 #[.int .i64 a,.int .i64 t,.int .i64 u] W fun e w'=>e = .returned (.int .i64 U)/\W=w'):=fun W=>by rw[<- h.out];exact U6 a t u ha1 ha3 htb W
 rw[h.out];have l:Hid ((U != 0)=decide (U≠0)):=by rw[Hid];by_cases e:U=0 <;> simp[e]
 clear hT ht hu;subst hP;go_enter Tryz.func98,Tryz.ntmps98;go_wp2_with fail;go_quiet (first|(go_at_call 131;refine Qc (o.out _)));go_wp2_with fail;go_ret2;exact L1 ⟨rfl,B9 _ f⟩ rfl l.out
theorem Jk {l:List Int} (hl:∀ t ∈ l,0<=t/\t<=10) (k:Nat) (hk:k < l.length) (hk':k < (Bt l).size):l[k]=(((Bt l)[k]).toNat:Int):=by
 have h:=hl _ (List.getElem_mem hk);have e:(Bt l)[k]=UInt8.ofNat l[k].toNat:=by
  show (Bt l).data[k]=_
  simp[Bt]
 rw[e];have:(UInt8.ofNat l[k].toNat).toNat=l[k].toNat:=by
  rw[UInt8.toNat_ofNat'];omega
 rw[this];omega
theorem Qbw (c:List Af) (hcl:c.length<=60) (f:Af) (i:Az) (hok:Aq c f i=true) (s tk:List Int) (hs:∀ t ∈ s,0<=t/\t<=10) (hsl:s.length=f.slots.toNat) (hs2:s.length<=200) (htk:∀ t ∈ tk,1<=t/\t<=10) (htl:tk.length=(Ax c f i).length) (ca:Option Addr) (cc:Nat) (pv iv lv wv:Value) (g:Nat) (w:World) (hT:B3 w) (hW:Cw w) (hC:Al w.heap.size w (.slice ca c.length cc) c) (hTr:Gh g w (.slice ca c.length cc) f pv iv lv wv) :
  Calls Tryz.prog 98 #[.pointer (some (OI g 0)),Aw i,.string (Bt s),.string (Bt tk)] w (Gw (Bg c i s tk).1 (Bg c i s tk).2 w):=by
 obtain⟨G,x⟩:=Hs hok;obtain⟨-,-,r,z,A,u,v,-,-⟩:=I4 hok;obtain⟨D,a,n,b⟩:=i;simp only at G x r z A u v;obtain⟨m,rfl⟩:∃ m:Nat,D=(m:Int):=⟨D.toNat,by omega⟩;have k:∀ t ∈ tk,0<=t/\t<=10:=fun t ht=>by have:=htk t ht;omega
 by_cases m8:m=8
 ·obtain⟨q,rfl⟩:∃ q:Nat,a=(q:Int):=⟨a.toNat,by have:=u Ou;omega⟩;have C:=u Ou;have d:Bg c ⟨(m:Int),(q:Int),n,b⟩ s tk=(Cm (q:Int),decide (Cm (q:Int)≠0)):=by rw[m8];simp[Bg]
  rw[d];exact Yc m Ou Ou 20 (by rw[m8];rfl) rfl q Ou Ou n b _ _ g w hT hW
 ·by_cases m9:m=9
  ·obtain⟨q,rfl⟩:∃ q:Nat,a=(q:Int):=⟨a.toNat,by have:=v Ou;omega⟩;have C:=v Ou;have j:q < c.length:=Ou;have d:Bg c ⟨(m:Int),(q:Int),n,b⟩ s tk=(c[q].result,true):=by
    rw[m9];have:c[q]?.getD A6=c[q]:=(by rw[List.getElem?_eq_getElem j];rfl);simp[Bg,this]
   rw[d];exact Yd m Ou Ou 21 (by rw[m9];rfl) rfl c q j hcl n b _ _ ca cc f pv iv lv wv g w hT hC hTr
  ·by_cases m2:m=2
   ·obtain⟨q,rfl⟩:∃ q:Nat,a=(q:Int):=⟨a.toNat,by have:=r Ou;omega⟩;have C:=r Ou;have j:q < s.length:=Ou;have d:Bg c ⟨(m:Int),(q:Int),n,b⟩ s tk=(s[q],decide (s[q]≠0)):=by
     rw[m2];have:s[q]?.getD 0=s[q]:=(by rw[List.getElem?_eq_getElem j];rfl);simp[Bg,this]
    rw[d];have o:q < (Bt s).size:=(by rw[Ck];exact j);exact Qe1 m Ou Ou 17 (by rw[m2];rfl) rfl q n b _ _ o (by rw[Ck];omega) s[q] (Jk hs q j o) g w hT
   ·by_cases m5:m=5
    ·have l:=z Ou;have I:tk.length=1:=(by rw[htl,m5];simp[Ax]);have o:0 < (Bt tk).size:=(by rw[Ck];omega);have H:0 < tk.length:=Ou;clear htl;have d:Bg c ⟨(m:Int),a,n,b⟩ s tk=(Fx a tk[0],decide (Fx a tk[0]≠0)):=by
      rw[m5];have:tk[0]?.getD 0=tk[0]:=(by rw[List.getElem?_eq_getElem Ou];rfl);simp[Bg,this]
     rw[d];exact Qe2 m Ou Ou 18 (by rw[m5];rfl) rfl a n l.1 l.2 b _ _ o (by rw[Ck];omega) tk[0] (Jk k 0 Ou o) g w hT
    ·by_cases m6:m=6
     ·have l:=A Ou;have J:tk.length=2:=(by rw[htl,m6];simp[Ax]);have y:0 < (Bt tk).size:=(by rw[Ck];omega);have H:0 < tk.length:=Ou;have K:1 < tk.length:=Ou;clear htl;have p:1 < (Bt tk).size:=(by rw[Ck];omega);have d:Bg c ⟨(m:Int),a,n,b⟩ s tk=(Cy a tk[0] tk[1],decide (Cy a tk[0] tk[1]≠0)):=by
       rw[m6];have E:tk[0]?.getD 0=tk[0]:=(by rw[List.getElem?_eq_getElem Ou];rfl);have F:tk[1]?.getD 0=tk[1]:=(by rw[List.getElem?_eq_getElem Ou];rfl);simp[Bg,E,F]
      rw[d];exact Qe3 m Ou Ou 19 (by rw[m6];rfl) rfl a n l.1 l.2 b _ _ p (by rw[Ck];omega) tk[0] tk[1] (Jk k 0 Ou y) (Jk k 1 Ou p) (htk _ (List.getElem_mem _)) g w hT
     ·by_cases m1:m=1\/m=7
      ·have d:Bg c ⟨(m:Int),a,n,b⟩ s tk=(a,decide (a≠0)):=by
        rcases m1 with h|h <;> (rw[h];simp[Bg])
       rw[d];exact Qe0 m Ou Ou 16 (by rcases m1 with h|h <;> (rw[h];rfl)) rfl a n b _ _ g w hT
      ·have B:m=3\/m=4\/m=10\/m=11\/m=12\/m=13\/m=14\/m=15\/m=16:=Ou;have d:Bg c ⟨(m:Int),a,n,b⟩ s tk=(0,true):=by
        rcases B with h|h|h|h|h|h|h|h|h <;> (rw[h];simp[Bg])
       rw[d];exact Qf4 m Ou Ou 0 (by rcases B with h|h|h|h|h|h|h|h|h <;> (rw[h];rfl)) rfl a n b _ _ g w hT
def D5 : Am->Int
 | .none=>0
 | .known _ _=>1
 | .clash=>2
def Eu : Am->ByteArray
 | .known s _=>Bt s
 | _=>⟨#[]⟩
def Et : Am->ByteArray
 | .known _ k=>Bt k
 | _=>⟨#[]⟩
theorem Hh (sh:Am):H6 sh = .agg #[.int .i64 (D5 sh),.string (Eu sh),.string (Et sh)]:=by cases sh <;> rfl
structure Ce (g:Nat) (w:World) (X:List Am):Prop where
 blk:∃ cs:Array Value,w.heap[g]? = some (.cells cs 150 (0,0))/\cs.size=X.length * 3/\∀ u (hu:u < X.length),cs[u * 3]? = some (.int .i64 (D5 X[u]))/\cs[u * 3+1]? = some (.string (Eu X[u]))/\cs[u * 3+2]? = some (.string (Et X[u]))
theorem Ce.lt {g:Nat} {w:World} {X:List Am} (h:Ce g w X):g < w.heap.size:=by
 obtain⟨a,h,_⟩:=h.blk;exact(Array.getElem?_eq_some_iff.1 h).1
theorem Ce.below {g:Nat} {w w':World} {X:List Am} (h:Ce g w X) (hb:OH w w'):Ce g w' X:=by
 have d:=h.lt;obtain⟨a,b,c⟩:=h.blk;exact⟨a,(hb.block g d).trans b,c⟩
theorem Ce.cells {g:Nat} {w:World} {X:List Am} (h:Ce g w X) (u:Nat) (hu:u < X.length):w.cell? (OI g (u * 3))=some (.int .i64 (D5 X[u]))/\w.cell? (OI g (u * 3+1))=some (.string (Eu X[u]))/\w.cell? (OI g (u * 3+2))=some (.string (Et X[u])):=by
 obtain⟨i,d,_,f⟩:=h.blk;obtain⟨a,b,c⟩:=f u hu;exact⟨(Lib.cell_of_heap d _).trans a,(Lib.cell_of_heap d _).trans b,(Lib.cell_of_heap d _).trans c⟩
theorem Ce.froz {g:Nat} {w:World} {X:List Am} (h:Ce g w X) (j:Nat):w.frozen? (OI g j)=false:=by
 obtain⟨b,a,_⟩:=h.blk;simp[World.frozen?,a]
theorem Ke (w:World) (o0 o1 o2:Obj):((((w.alloc o0).alloc o1).alloc o2).drew).heap[w.heap.size]? = some o0/\((((w.alloc o0).alloc o1).alloc o2).drew).heap[w.heap.size+1]? = some o1/\((((w.alloc o0).alloc o1).alloc o2).drew).heap[w.heap.size+1+1]? = some o2/\((((w.alloc o0).alloc o1).alloc o2).drew).heap.size=w.heap.size+3/\OH w ((((w.alloc o0).alloc o1).alloc o2).drew):=by
 have a:(w.alloc o0).heap.size=w.heap.size+1:=World.size_alloc ..;have b:((w.alloc o0).alloc o1).heap.size=w.heap.size+1+1:=by rw[World.size_alloc,a]
 refine⟨?_, ?_, ?_, ?_, ?_⟩
 ·exact Ak o2 (Ak o1 (Ae w o0))
 ·have h:=Ae (w.alloc o0) o1;rw[a]at h;exact Ak o2 h
 ·have h:=Ae ((w.alloc o0).alloc o1) o2;rw[b]at h;exact h
 ·show (((w.alloc o0).alloc o1).alloc o2).heap.size=_
  rw[World.size_alloc,b]
 ·exact(Gy w o0 o1 o2).drew
theorem Ba.cells {B:Nat} {w:World} {a:Option Addr} {n cap:Nat} {l:List Az} (h:Ba B w (.slice a n cap) l) (i:Nat) (hi:i < l.length):∃ g,a=some (OI g 0)/\g < B/\w.cell? (OI g (i * 4))=some (.int .i64 l[i].op)/\w.cell? (OI g (i * 4+1))=some (.int .i64 l[i].a)/\w.cell? (OI g (i * 4+2))=some (.int .i64 l[i].n)/\w.cell? (OI g (i * 4+3))=some (.string l[i].text):=by
 obtain⟨j,k,e,f⟩:=h;injection e with e1;subst e1;obtain⟨g,c,d,b⟩:=f i hi;exact⟨g,c,d,b 0 Ou,b 1 Ou,b 2 Ou,b 3 Ou⟩
end Go.Proofs.YtahibkjkpmdhgaaGreatDoor
