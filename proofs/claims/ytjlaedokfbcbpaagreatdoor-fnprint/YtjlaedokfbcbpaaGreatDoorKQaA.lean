import Derived.Test.YtjlaedokfbcbpaaGreatDoorKTkO
import Derived.Deep.MidRow
set_option maxRecDepth 100000
set_option maxHeartbeats 4000000
namespace Go.Proofs.YtjlaedokfbcbpaaGreatDoor
open Go.RowKit Proofs.Tryz
variable {ts:List (Ab × Nat)} {g:Nat} {a:Option Addr} {c E i j:Nat} {w W W2:World}
structure Bl (g:Nat) (w w':World):Prop where
 os:w'.os=w.os
 tape:w'.tape=w.tape
 output:w'.output=w.output
 size:w.heap.size<=w'.heap.size
 keep:∀ k,k < w.heap.size->k≠g->w'.heap[k]? = w.heap[k]?
theorem Bl.refl (g:Nat) (w:World):Bl g w w:=⟨rfl,rfl,rfl,Nat.le_refl _,fun _ _ _=>rfl⟩
theorem Bl.trans {g:Nat} {a b c:World} (h:Bl g a b) (k:Bl g b c):Bl g a c :=
 ⟨k.os.trans h.os,k.tape.trans h.tape,k.output.trans h.output,Nat.le_trans h.size k.size,fun i hi hs=>(k.keep i (Nat.lt_of_lt_of_le hi h.size) hs).trans (h.keep i hi hs)⟩
theorem Bl.of_below {g:Nat} {a b:World} (h:Below a.heap.size a b):Bl g a b:=⟨h.os,h.tape,h.output,h.size,fun i hi _=>h.block i hi⟩
theorem Bl.set {g:Nat} (w:World) (i:Nat) (v:Value):Bl g w (w.setCell (OK g i) v) :=
 ⟨rfl,rfl,rfl,by simp[World.setCell],fun _ _ hk=>Below.heap_setCell _ _ _ _ hk⟩
theorem Bl.below {g B:Nat} {w w':World} (h:Bl g w w') (hB:B<=w.heap.size) (hs:B<=g):Below B w w':=⟨h.os,h.tape,h.output,h.size,fun k hk=>h.keep k OC OC⟩
theorem Bl.cell {g:Nat} {w w':World} (h:Bl g w w') {b o:Nat} (hb:b < w.heap.size) (hg:b≠g):w'.cell? (OK b o)=w.cell? (OK b o):=World.cell?_of_block (h.keep b hb hg)
theorem Bl.own {g:Nat} {w w':World} (h:Bl g w w') {B e size n:Nat} {v:Value} {xs:List Value} (ho:w.ownsRow B e size v n xs) (hB:g < B):w'.ownsRow B e size v n xs:=by
 refine⟨ho.1, ?_⟩;rcases ho.2 with i|⟨b,c,d,j,f,a,rest⟩
 ·exact .inl i
 ·exact .inr ⟨b,c,d,j,f,by rw[h.keep b (Array.getElem?_eq_some_iff.1 a).1 OC];exact a,rest⟩
def Zj (w:World) (a:Option Addr) (ts:List (Ab × Nat)) (B:Nat):Prop :=
 ∀ i (h:i < ts.length),∃ b,a=some (OK b 0)/\b < B/\∀ j (v:Value),(Lh ts[i])[j]? = some v->w.cell? (OK b (i * 5+j))=some v
theorem Zj.keep {w w':World} {B:Nat} (h:Zj w a ts B) (hk:∀ k,k < B->w'.heap[k]? = w.heap[k]?):Zj w' a ts B:=fun i hi=>by
 obtain⟨b,d,c,f⟩:=h i hi
 exact⟨b,d,c,fun j v hv=>by rw[World.cell?_of_block (hk b c)];exact f j v hv⟩
theorem Qcy (l:List UInt8):(Aj l).toList=l:=by
 rw[ByteArray.toList_eq];rfl
theorem Rg {i:Nat} (h:¬ i < ts.length):Dm ts i=0:=by
 have:ts[i]? = none:=by simp;omega
 simp[Dm,this]
theorem Ia {B:Nat} {a w:World} (n:Nat) (h:Below B a w):Below B a (w.drewN n):=⟨h.os,h.tape,h.output,h.size,h.block⟩
theorem Ja {B:Nat} {a w:World} (h:Below B a w):Below B a w.drew:=⟨h.os,h.tape,h.output,h.size,h.block⟩
structure Cz (ts:List (Ab × Nat)) (g:Nat) (a:Option Addr) (c E:Nat) (i:Nat) (w:World):Prop where
 blk:w.heap[g]? = some (.cells #[.slice a ts.length c,.int .i64 (i:Int),.int .i64 (E:Int)] 74)
 tks:Zj w a ts g
 le:i<=ts.length
 len:ts.length<=12000
 cap:ts.length<=c
def P7 (ts:List (Ab × Nat)) (E i:Nat):Nat:=match ts[i]? with|some q=>q.2|none=>E
theorem Cz.lt (h:Cz ts g a c E i w):g < w.heap.size:=(Array.getElem?_eq_some_iff.1 h.blk).1
theorem Cz.cells (h:Cz ts g a c E i w):w.cell? (OK g 0)=some (.slice a ts.length c)/\w.cell? (OK g 1)=some (.int .i64 (i:Int))/\w.cell? (OK g 2)=some (.int .i64 (E:Int))/\w.frozen? (OK g 1)=false:=by
 have b:=h.blk;refine⟨?_, ?_, ?_, ?_⟩
 ·rw[Lib.cell_of_heap b];rfl
 ·rw[Lib.cell_of_heap b];rfl
 ·rw[Lib.cell_of_heap b];rfl
 ·simp[World.frozen?,b]
theorem Cz.below {w':World} (h:Cz ts g a c E i w) (hb:Below w.heap.size w w'):Cz ts g a c E i w' :=
 ⟨(hb.block g h.lt).trans h.blk,h.tks.keep fun k hk=>hb.block k (Nat.lt_trans hk h.lt),h.le,h.len,h.cap⟩
theorem Cz.nx (h:Cz ts g a c E i w) (hi:i < ts.length):Cz ts g a c E (i+1) (w.setCell (OK g 1) (.int .i64 ((i:Int)+1))):=by
 refine⟨?_,h.tks.keep fun k hk=>Below.heap_setCell _ _ _ _ OJ,hi,h.len,h.cap⟩;have:=h.blk;simp[World.setCell,Array.getElem?_modify,this]
theorem Cz.tok (h:Cz ts g a c E i w) (hp:i < ts.length):∃ b,a=some (OK b 0)/\b < g/\w.cell? (OK b (i * 5))=some (.int .i64 (Dm ts i))/\w.cell? (OK b (i * 5+1))=some (.string (Aj (B8 ts i)))/\w.cell? (OK b (i * 5+2))=some (.int .i64 (P8 ts i))/\w.cell? (OK b (i * 5+3))=some (.int .i64 (P3 ts i))/\w.cell? (OK b (i * 5+4))=some (.int .i64 (P7 ts E i:Int)):=by
 obtain⟨b,f,j,d⟩:=h.tks i hp;have e:ts[i]? = some ts[i]:=List.getElem?_eq_getElem hp;refine⟨b,f,j, ?_, ?_, ?_, ?_, ?_⟩
 ·have:=d 0 _ rfl;simpa[Dm,e]using this
 ·have:=d 1 _ rfl;simpa[B8,e]using this
 ·have:=d 2 _ rfl;simpa[P8,e]using this
 ·have:=d 3 _ rfl;simpa[P3,e]using this
 ·have:=d 4 _ rfl;simpa[P7,e]using this
theorem Cz.sum (h:Cz ts g a c E i w):wrap64 ((i:Int)+1)=(i:Int)+1/\IntKind.i64.wrap ((i:Int)+1)=(i:Int)+1:=by
 have b:=h.le;have d:=h.len;have e:wrap64 ((i:Int)+1)=(i:Int)+1:=by rw[wrap64];omega
 exact⟨e,(IntWalk.i64_left _).trans e⟩
def Nt (ts:List (Ab × Nat)) (E i:Nat):Value:=.agg #[.int .i64 (Dm ts i),.string (Aj (B8 ts i)),.int .i64 (P8 ts i),.int .i64 (P3 ts i),.int .i64 (P7 ts E i:Int)]
theorem Qlz (h:¬ i < ts.length):Dm ts i=0/\B8 ts i=[]/\P8 ts i=0/\P3 ts i=0/\P7 ts E i=E:=by
 have e:ts[i]? = none:=by simp;omega
 simp[Dm,B8,P8,P3,P7,e]
theorem Qc7 (w:World):∃ W0,w.alloc (.cells #[.int .i64 0,.string ⟨#[]⟩,.int .i64 0,.int .i64 0,.int .i64 0] 113)=W0/\Below w.heap.size w W0/\W0.cell? (OK w.heap.size 0)=some (.int .i64 0)/\W0.cell? (OK w.heap.size 1)=some (.string ⟨#[]⟩)/\W0.cell? (OK w.heap.size 2)=some (.int .i64 0)/\W0.cell? (OK w.heap.size 3)=some (.int .i64 0)/\W0.cell? (OK w.heap.size 4)=some (.int .i64 0)/\∀ k,W0.frozen? (OK w.heap.size k)=false:=by
 refine⟨_,rfl,OP _ _, ?_, ?_, ?_, ?_, ?_,fun k => ?_⟩ <;> simp[go_sem]
theorem Qmt {W:World} {n:Nat} {x0 x1 x2 x3 x4 v0 v1 v2 v3 v4:Value} (r0:W.cell? (OK n 0)=some x0) (r1:W.cell? (OK n 1)=some x1) (r2:W.cell? (OK n 2)=some x2) (r3:W.cell? (OK n 3)=some x3) (r4:W.cell? (OK n 4)=some x4) :
  (((((W.setCell (OK n 0) v0).setCell (OK n 1) v1).setCell (OK n 2) v2).setCell (OK n 3) v3).setCell (OK n 4) v4).cell? (OK n 0)=some v0/\(((((W.setCell (OK n 0) v0).setCell (OK n 1) v1).setCell (OK n 2) v2).setCell (OK n 3) v3).setCell (OK n 4) v4).cell? (OK n 1)=some v1/\(((((W.setCell (OK n 0) v0).setCell (OK n 1) v1).setCell (OK n 2) v2).setCell (OK n 3) v3).setCell (OK n 4) v4).cell? (OK n 2)=some v2/\(((((W.setCell (OK n 0) v0).setCell (OK n 1) v1).setCell (OK n 2) v2).setCell (OK n 3) v3).setCell (OK n 4) v4).cell? (OK n 3)=some v3/\(((((W.setCell (OK n 0) v0).setCell (OK n 1) v1).setCell (OK n 2) v2).setCell (OK n 3) v3).setCell (OK n 4) v4).cell? (OK n 4)=some v4:=by
 have o:∀ (V:World) (j k:Nat) (v:Value),j≠k->(V.setCell (OK n k) v).cell? (OK n j)=V.cell? (OK n j):=fun V j k v h=>World.cell?_setCell_other _ _ _ _ (by simp;try omega)
 refine⟨?_, ?_, ?_, ?_, ?_⟩
 ·rw[o _ _ _ _ OD,o _ _ _ _ OD,o _ _ _ _ OD,o _ _ _ _ OD];exact World.cell?_setCell_same _ _ _ r0
 ·rw[o _ _ _ _ OD,o _ _ _ _ OD,o _ _ _ _ OD];exact World.cell?_setCell_same _ _ _ (by rw[o _ _ _ _ OD];exact r1)
 ·rw[o _ _ _ _ OD,o _ _ _ _ OD];exact World.cell?_setCell_same _ _ _ (by rw[o _ _ _ _ OD,o _ _ _ _ OD];exact r2)
 ·rw[o _ _ _ _ OD];exact World.cell?_setCell_same _ _ _ (by rw[o _ _ _ _ OD,o _ _ _ _ OD,o _ _ _ _ OD];exact r3)
 ·exact World.cell?_setCell_same _ _ _ (by rw[o _ _ _ _ OD,o _ _ _ _ OD,o _ _ _ _ OD,o _ _ _ _ OD];exact r4)
theorem Qfq {W:World} {v0 v1 v2 v3 v4:Value} (h:Below w.heap.size w W):Below w.heap.size w (((((W.setCell (OK w.heap.size 0) v0).setCell (OK w.heap.size 1) v1).setCell (OK w.heap.size 2) v2).setCell (OK w.heap.size 3) v3).setCell (OK w.heap.size 4) v4) :=
 ((((h.setCell (p:=(OK w.heap.size 0)) ON _).setCell (p:=(OK w.heap.size 1)) ON _).setCell (p:=(OK w.heap.size 2)) ON _).setCell (p:=(OK w.heap.size 3)) ON _).setCell (p:=(OK w.heap.size 4)) ON _
theorem Qjn (hp:¬ i < ts.length) (hP:Cz ts g a c E i w) :
  Calls prog 126 #[.pointer (some (OK g 0))] w fun e w'=>e = .returned (Nt ts E i)/\Below w.heap.size w w':=by
 obtain⟨k,J,f,u,x,y,z,A,P⟩:=Qc7 w;have l:=hP.below f;obtain⟨K,L,M,_⟩:=l.cells;obtain⟨o,q,r,s,t⟩:=Qlz (E:=E) hp;have m:Hid (Nt ts E i = .agg #[.int .i64 0,.string ⟨#[]⟩,.int .i64 0,.int .i64 0,.int .i64 (E:Int)]):=by simp[Hid,Nt,o,q,r,s,t,Aj]
 rw[m.out];have O:¬ (i:Int) < (ts.length:Int):=OC
 clear o q r s t m;go_enter func126,ntmps126;go_wp2_with fail;go_quiet (fail);go_wp2_with fail;obtain⟨j,b⟩:∃ W,k.drewN nq=W:=⟨_,rfl⟩;have H:Below w.heap.size w j:=by rw[<- b];exact Ia _ f
 have I:∀ p,j.cell? p=k.cell? p:=by rw[<- b];exact fun _=>rfl
 have N:∀ p,j.frozen? p=k.frozen? p:=by rw[<- b];exact fun _=>rfl
 rw[<- I]at u x y z A;rw[b];obtain⟨B,C,D,F,G⟩:=Qmt (v0:=.int .i64 0) (v1:=.string ⟨#[]⟩) (v2:=.int .i64 0) (v3:=.int .i64 0) (v4:=.int .i64 (E:Int)) u x y z A;have h:=Qfq (v0:=.int .i64 0) (v1:=.string ⟨#[]⟩) (v2:=.int .i64 0) (v3:=.int .i64 0) (v4:=.int .i64 (E:Int)) H;obtain⟨n,d⟩:∃ n,(((((j.setCell (OK w.heap.size 0) (.int .i64 0)).setCell (OK w.heap.size 1) (.string ⟨#[]⟩)).setCell (OK w.heap.size 2) (.int .i64 0)).setCell (OK w.heap.size 3) (.int .i64 0)).setCell (OK w.heap.size 4) (.int .i64 (E:Int)))=n:=⟨_,rfl⟩;rw[d]at B C D F G h |-
 clear d;refine bodyPost_ret (v:=.agg #[.int .i64 0,.string ⟨#[]⟩,.int .i64 0,.int .i64 0,.int .i64 (E:Int)]) (by simp[results,results126,go_sem,B,C,D,F,G]) rfl ?_;exact⟨rfl,h⟩
theorem Qjo (hp:i < ts.length) (hP:Cz ts g a c E i w) :
  Calls prog 126 #[.pointer (some (OK g 0))] w fun e w'=>e = .returned (Nt ts E i)/\Below w.heap.size w w':=by
 obtain⟨x,A,m,N,O,P,R,S,T⟩:=Qc7 w;have l:=hP.below m;obtain⟨B,C,c2,_⟩:=l.cells;obtain⟨b,rfl,aa,H,I,J,L,M⟩:=l.tok hp;unfold Nt;have G:=hP.len;have F:=hP.cap;have ab:(i:Int) < (ts.length:Int):=OC
 have ac:(0:Int)<=(i:Int):=OC
 generalize Dm ts i=K at *;generalize Aj (B8 ts i)=X at *;generalize P8 ts i=Y at *;generalize P3 ts i=Z at *;generalize ((P7 ts E i:Nat):Int)=Q at *;go_enter func126,ntmps126;go_wp2_with fail;go_quiet (fail);go_wp2_with fail;obtain⟨q,d⟩:∃ W,x.drewN nq=W:=⟨_,rfl⟩;have u:Below w.heap.size w q:=by rw[<- d];exact Ia _ m
 have z:∀ p,q.cell? p=x.cell? p:=by rw[<- d];exact fun _=>rfl
 have D:∀ p,q.frozen? p=x.frozen? p:=by rw[<- d];exact fun _=>rfl
 rw[<- z]at N O P R S;rw[d];rw[<- z]at B C H I J L M;have ad:∀ k,q.frozen? (OK w.heap.size k)=false:=fun k=>by rw[D];exact T k
 have t:g < w.heap.size:=hP.lt;have HS:Hid (∀ V,Below w.heap.size w V->V.cell? (OK g 0)=some (.slice (some (OK b 0)) ts.length c)/\V.cell? (OK g 1)=some (.int .i64 (i:Int))/\V.cell? (OK b (i * 5))=some (.int .i64 K)/\V.cell? (OK b (i * 5+1))=some (.string X)/\V.cell? (OK b (i * 5+2))=some (.int .i64 Y)/\V.cell? (OK b (i * 5+3))=some (.int .i64 Z)/\V.cell? (OK b (i * 5+4))=some (.int .i64 Q)):=by
  intro V hV;have n:∀ b' o,b' < w.heap.size->V.cell? (OK b' o)=q.cell? (OK b' o):=fun b' o h=>(hV.cell (p:=(OK b' o)) h).trans (u.cell (p:=(OK b' o)) h).symm
  have f:b < w.heap.size:=OC
  exact⟨(n _ _ t).trans B,(n _ _ t).trans C,(n _ _ f).trans H,(n _ _ f).trans I,(n _ _ f).trans J,(n _ _ f).trans L,(n _ _ f).trans M⟩
 clear d z D T A m l;go_region_held3 (fun V=>V.cell? (OK g 0)=some (.slice (some (OK b 0)) ts.length c)/\V.cell? (OK g 1)=some (.int .i64 (i:Int))/\V.cell? (OK b (i * 5))=some (.int .i64 K)/\V.cell? (OK b (i * 5+1))=some (.string X)/\V.cell? (OK b (i * 5+2))=some (.int .i64 Y)/\V.cell? (OK b (i * 5+3))=some (.int .i64 Z)/\V.cell? (OK b (i * 5+4))=some (.int .i64 Q)) (exact HS.out _ (by repeat' (first|exact u|apply Below.drew|apply Ia|refine Below.alloc ?_ ?_ _|refine Below.setCell ?_ ?_ _|exact ON|(simp;done)|(simp;omega)))) (fail);go_wp2_with fail;obtain⟨U,y1,y2,y3,y4⟩:=Qmt (v0:=.int .i64 K) (v1:=.string X) (v2:=.int .i64 Y) (v3:=.int .i64 Z) (v4:=.int .i64 Q) N O P R S;have s:=Qfq (v0:=.int .i64 K) (v1:=.string X) (v2:=.int .i64 Y) (v3:=.int .i64 Z) (v4:=.int .i64 Q) u;obtain⟨y,r⟩:∃ y,(((((q.setCell (OK w.heap.size 0) (.int .i64 K)).setCell (OK w.heap.size 1) (.string X)).setCell (OK w.heap.size 2) (.int .i64 Y)).setCell (OK w.heap.size 3) (.int .i64 Z)).setCell (OK w.heap.size 4) (.int .i64 Q))=y:=⟨_,rfl⟩;rw[r]at U y1 y2 y3 y4 s |-
 clear r;refine bodyPost_ret (v:=.agg #[.int .i64 K,.string X,.int .i64 Y,.int .i64 Z,.int .i64 Q]) (by simp[results,results126,go_sem,U,y1,y2,y3,y4]) rfl ?_;exact⟨rfl,Ja s⟩
variable {ts:List (Ab × Nat)} {g:Nat} {a:Option Addr} {c E i j:Nat} {w W y:World}
theorem J3 (hP:Cz ts g a c E i w) :
  Calls prog 126 #[.pointer (some (OK g 0))] w fun e w'=>e = .returned (Nt ts E i)/\Below w.heap.size w w':=by
 by_cases h:i < ts.length
 ·exact Qjo h hP
 ·exact Qjn h hP
theorem Gd (k:Int) (T:List UInt8) (hP:Cz ts g a c E i w) :
  Calls prog 155 #[.pointer (some (OK g 0)),.int .i64 k,.string ⟨T.toArray⟩] w fun e w'=>e = .returned (.bool (Bq ts k T i))/\Below w.heap.size w w':=by
 have d:Hid (Bq ts k T i=((Dm ts i == k) && (Aj (B8 ts i)).toList == (⟨T.toArray⟩:ByteArray).toList)):=by
  have f:=Qcy (B8 ts i);have h:=Qcy T;rw[Hid,Bq,f];simp only[Aj]at h;rw[h]
 obtain⟨R,l⟩:∃ R,Bq ts k T i=R:=⟨_,rfl⟩;rw[l]at d |-
 have j:Hid (Nt ts E i = .agg #[.int .i64 (Dm ts i),.string (Aj (B8 ts i)),.int .i64 (P8 ts i),.int .i64 (P3 ts i),.int .i64 (P7 ts E i:Int)]):=rfl;generalize Dm ts i=K at *;generalize Aj (B8 ts i)=X at *;generalize P8 ts i=Y at *;generalize P3 ts i=Z at *;generalize (⟨T.toArray⟩:ByteArray)=U at *;cases e5:(K == k) <;> cases f:(X.toList == U.toList)
 all_goals
  rw[e5,f]at d;simp at d;go_enter func155,ntmps155;go_wp2_with (go_at_call 126;refine(J3 hP).mono ?_;rintro e m ⟨rfl,b⟩;rw[j.out]);go_ret;exact⟨by rw[d.out];rfl,b.alloc b.size _⟩
def B2 (ts:List (Ab × Nat)) (g:Nat) (a:Option Addr) (c E j:Nat) (w w':World):Prop:=Cz ts g a c E j w'/\Bl g w w'
theorem B2.to (h:B2 ts g a c E i w W) (k:B2 ts g a c E j W W2):B2 ts g a c E j w W2:=⟨k.1,h.2.trans k.2⟩
theorem Qpc {k:Int} {T:List UInt8} (hk:k≠0) (h:Bq ts k T i=true):i < ts.length:=by
 by_cases hp:i < ts.length
 ·exact hp
 ·simp[Bq,Rg hp]at h;exact absurd h.1.symm hk
theorem Qho (k:Int) (T:List UInt8) (hs:Bq ts k T i=true) (hp:i < ts.length) (hP:Cz ts g a c E i w) :
  Calls prog 127 #[.pointer (some (OK g 0)),.int .i64 k,.string ⟨T.toArray⟩] w fun e w'=>e = .returned (.bool true)/\B2 ts g a c E (i+1) w w':=by
 obtain⟨f,h⟩:=hP.sum;go_enter func127,ntmps127;go_wp2_with (go_at_call 155;refine(Gd k T hP).mono ?_;rintro e j ⟨rfl,d⟩;rw[hs];have b:=hP.below d;obtain⟨l,m,n,o⟩:=b.cells);go_ret;exact⟨rfl,b.nx hp,(Bl.of_below d).trans (Bl.set _ _ _)⟩
theorem Qhn (k:Int) (T:List UInt8) (hs:Bq ts k T i=false) (hP:Cz ts g a c E i w) :
  Calls prog 127 #[.pointer (some (OK g 0)),.int .i64 k,.string ⟨T.toArray⟩] w fun e w'=>e = .returned (.bool false)/\B2 ts g a c E i w w':=by
 go_enter func127,ntmps127;go_wp2_with (go_at_call 155;refine(Gd k T hP).mono ?_;rintro e f ⟨rfl,b⟩;rw[hs];have d:=hP.below b);go_ret;exact⟨rfl,d,Bl.of_below b⟩
theorem X4 (k:Int) (hk:k≠0:=by decide) (T:List UInt8) (hP:Cz ts g a c E i w) :
  Calls prog 127 #[.pointer (some (OK g 0)),.int .i64 k,.string ⟨T.toArray⟩] w fun e w'=>e = .returned (.bool (Bq ts k T i))/\B2 ts g a c E (if Bq ts k T i then i+1 else i) w w':=by
 cases hs:Bq ts k T i with
 | true=>simpa using Qho k T hs (Qpc hk hs) hP
 | false=>simpa using Qhn k T hs hP
theorem D2 (T:List UInt8) (hP:Cz ts g a c E i w) :
  Calls prog 92 #[.pointer (some (OK g 0)),.string ⟨T.toArray⟩] w fun e w'=>e = .returned (.bool (Bq ts 5 T i))/\B2 ts g a c E (if Bq ts 5 T i then i+1 else i) w w':=by
 obtain⟨R,f⟩:∃ R,Hid (Bq ts 5 T i=R):=⟨_,rfl⟩;rw[f.out];obtain⟨j,d⟩:∃ j,Hid ((if R then i+1 else i)=j):=⟨_,rfl⟩;rw[d.out];go_enter func92,ntmps92;go_wp2_with (go_at_call 127;refine(X4 5 OD T hP).mono ?_;rintro e h ⟨rfl,b⟩;rw[f.out]at b |-;rw[d.out]at b);go_ret;exact⟨rfl,b⟩
theorem D3 (T:List UInt8) (hP:Cz ts g a c E i w) :
  Calls prog 124 #[.pointer (some (OK g 0)),.string ⟨T.toArray⟩] w fun e w'=>e = .returned (.bool (Bq ts 2 T i))/\B2 ts g a c E (if Bq ts 2 T i then i+1 else i) w w':=by
 obtain⟨R,f⟩:∃ R,Hid (Bq ts 2 T i=R):=⟨_,rfl⟩;rw[f.out];obtain⟨j,d⟩:∃ j,Hid ((if R then i+1 else i)=j):=⟨_,rfl⟩;rw[d.out];go_enter func124,ntmps124;go_wp2_with (go_at_call 127;refine(X4 2 OD T hP).mono ?_;rintro e h ⟨rfl,b⟩;rw[f.out]at b |-;rw[d.out]at b);go_ret;exact⟨rfl,b⟩
theorem Dz (T:List UInt8) (hs:Bq ts 5 T i=true) (hP:Cz ts g a c E i w) :
  Calls prog 91 #[.pointer (some (OK g 0)),.string ⟨T.toArray⟩] w fun e w'=>e = .returned (.tuple #[])/\B2 ts g a c E (i+1) w w':=by
 go_enter func91,ntmps91;go_wp2_with (go_at_call 92;refine(D2 T hP).mono ?_;rintro e d ⟨rfl,b⟩;rw[hs]at b |-;rw[if_pos rfl]at b);go_end0;exact⟨rfl,b⟩
theorem O1 (T:List UInt8) (hs:Bq ts 2 T i=true) (hP:Cz ts g a c E i w) :
  Calls prog 89 #[.pointer (some (OK g 0)),.string ⟨T.toArray⟩] w fun e w'=>e = .returned (.tuple #[])/\B2 ts g a c E (i+1) w w':=by
 go_enter func89,ntmps89;go_wp2_with (go_at_call 124;refine(D3 T hP).mono ?_;rintro e d ⟨rfl,b⟩;rw[hs]at b |-;rw[if_pos rfl]at b);go_end0;exact⟨rfl,b⟩
variable {ts:List (Ab × Nat)} {g:Nat} {a:Option Addr} {c E i j:Nat} {w W W2:World}
theorem Qc0 (l:List (List UInt8)) (x:List UInt8):Lv l x<=l.length:=by
 unfold Lv;split
 ·rename_i h;have:=List.idxOf_lt_length_of_mem h;omega
 ·omega
theorem Qfs (l:List (List UInt8)) (hn:l.Nodup) (x:List UInt8) (k:Nat) (hk:k < l.length):l[k]=x ↔ Lv l x=k+1:=by
 unfold Lv;constructor
 ·intro h;subst h;rw[if_pos (List.getElem_mem hk),List.Nodup.idxOf_getElem hn]
 ·intro h;by_cases hm:x ∈ l
  ·rw[if_pos hm]at h;have a:l.idxOf x=k:=OC;subst a;exact List.getElem_idxOf hk
  ·rw[if_neg hm]at h;omega
theorem K7 (hk:Dm ts i=1) (hP:Cz ts g a c E i w) :
  Calls prog 90 #[.pointer (some (OK g 0))] w fun e w'=>e = .returned (.string (Aj (B8 ts i)))/\B2 ts g a c E (i+1) w w':=by
 obtain⟨l,m⟩:=hP.sum;have f:i < ts.length:=by
  by_cases f:i < ts.length
  ·exact f
  ·rw[Rg f]at hk;omega
 have h:Hid (Nt ts E i = .agg #[.int .i64 1,.string (Aj (B8 ts i)),.int .i64 (P8 ts i),.int .i64 (P3 ts i),.int .i64 (P7 ts E i:Int)]):=by rw[Hid,Nt,hk]
 generalize Aj (B8 ts i)=X at *;generalize P8 ts i=Y at *;generalize P3 ts i=Z at *;generalize ((P7 ts E i:Nat):Int)=Q at *;go_enter func90,ntmps90;go_wp2_with (go_at_call 126;refine(J3 hP).mono ?_;rintro e j ⟨rfl,b⟩;rw[h.out];have d:=(hP.below b).below (OP _ (.cells #[.int .i64 1,.string X,.int .i64 Y,.int .i64 Z,.int .i64 Q] 113));obtain⟨n,o,p,q⟩:=d.cells;have k:j.heap.size≠g:=(by have:=(hP.below b).lt;omega));go_ret;exact⟨rfl,d.nx f,((Bl.of_below b).trans (Bl.of_below (OP _ _))).trans (Bl.set _ _ _)⟩
def Qfu : List Value:=[.string ⟨#[]⟩,.string ⟨#[98,111,111,108]⟩,.string ⟨#[116,101,120,116]⟩,.string ⟨#[117,56]⟩,.string ⟨#[117,49,54]⟩,.string ⟨#[117,51,50]⟩,.string ⟨#[117,54,52]⟩,.string ⟨#[105,56]⟩,.string ⟨#[105,49,54]⟩,.string ⟨#[105,51,50]⟩,.string ⟨#[105,54,52]⟩]
def Qfv : List Value:=[.string ⟨#[]⟩,.string ⟨#[45]⟩,.string ⟨#[33]⟩,.string ⟨#[126]⟩]
def Qfp : List Value:=[.string ⟨#[]⟩,.int .i64 0,.string ⟨#[124,124]⟩,.int .i64 1,.string ⟨#[38,38]⟩,.int .i64 2,.string ⟨#[61,61]⟩,.int .i64 3,.string ⟨#[33,61]⟩,.int .i64 3,.string ⟨#[60]⟩,.int .i64 3,.string ⟨#[60,61]⟩,.int .i64 3,.string ⟨#[62]⟩,.int .i64 3,.string ⟨#[62,61]⟩,.int .i64 3,.string ⟨#[43]⟩,.int .i64 4,.string ⟨#[45]⟩,.int .i64 4,.string ⟨#[124]⟩,.int .i64 4,.string ⟨#[94]⟩,.int .i64 4,.string ⟨#[42]⟩,.int .i64 5,.string ⟨#[47]⟩,.int .i64 5,.string ⟨#[37]⟩,.int .i64 5,.string ⟨#[38]⟩,.int .i64 5,.string ⟨#[60,60]⟩,.int .i64 5,.string ⟨#[62,62]⟩,.int .i64 5]
def Qat : List Value:=[.string ⟨#[]⟩,.int .i64 0,.string ⟨#[114,101,97,100]⟩,.int .i64 1,.string ⟨#[104,97,115]⟩,.int .i64 1,.string ⟨#[108,105,115,116]⟩,.int .i64 1,.string ⟨#[116,111,111,108]⟩,.int .i64 2,.string ⟨#[97,114,103]⟩,.int .i64 0,.string ⟨#[108,101,110]⟩,.int .i64 1,.string ⟨#[97,116]⟩,.int .i64 2,.string ⟨#[99,117,116]⟩,.int .i64 3,.string ⟨#[102,105,110,100]⟩,.int .i64 2,.string ⟨#[99,104,114]⟩,.int .i64 1,.string ⟨#[100,101,99]⟩,.int .i64 1,.string ⟨#[110,117,109]⟩,.int .i64 1]
structure Eg (g:Nat) (w:World):Prop where
 t:w.rangeAt 0 0 Qfu
 u:w.rangeAt 3 0 Qfv
 b:w.rangeAt 4 0 Qfp
 d:w.rangeAt 2 0 Qat
 gt:0 < g/\3 < g/\4 < g/\2 < g
 gw:g < w.heap.size
theorem Eg.fr {g:Nat} {w w':World} (h:Eg g w) (hf:Bl g w w'):Eg g w':=by
 obtain⟨b,c,d,f⟩:=h.gt;have a:=h.gw;exact⟨fun j v hv=>(hf.cell OC OC).trans (h.t j v hv),fun j v hv=>(hf.cell OC OC).trans (h.u j v hv),fun j v hv=>(hf.cell OC OC).trans (h.b j v hv),fun j v hv=>(hf.cell OC OC).trans (h.d j v hv),h.gt,Nat.lt_of_lt_of_le a hf.size⟩
theorem Sk (k:Int) (l:List (List UInt8)) (hn:l.Nodup) (h0:[] ∉ l) (m:Nat) (hm:m<=l.length) (h:Bq ts k (([]::l).getD m []) i=true):(if Dm ts i=k then Lv l (B8 ts i) else 0)=m:=by
 simp only[Bq,Bool.and_eq_true,beq_iff_eq]at h;rw[if_pos h.1,h.2];cases m with
 | zero=>simp[Lv,h0]
 | succ m =>
  have a:m < l.length:=OC
  have e:([]::l).getD (m+1) []=l[m]:=by simp[List.getElem?_eq_getElem a]
  rw[e];exact(Qfs l hn _ m a).1 rfl
theorem U0 (k:Int) (l:List (List UInt8)) (hn:l.Nodup) (h:∀ m,m < l.length+1->Bq ts k (([]::l).getD m []) i=false):(if Dm ts i=k then Lv l (B8 ts i) else 0)=0:=by
 by_cases hk:Dm ts i=k
 ·rw[if_pos hk];cases hx:Lv l (B8 ts i) with
  | zero=>rfl
  | succ m =>
   have d:=Qc0 l (B8 ts i);have b:m < l.length:=OC;have c:=(Qfs l hn (B8 ts i) m b).2 hx;have a:=h (m+1) OC;have e:([]::l).getD (m+1) []=l[m]:=(by simp[List.getElem?_eq_getElem b]);rw[e,c]at a;simp[Bq,hk]at a
 ·rw[if_neg hk]
theorem Wh {k:Int} {l:List (List UInt8)} {m:Nat} (h:∀ j,j < m->Bq ts k (([]::l).getD j []) i=false) (h2:Bq ts k (([]::l).getD m []) i=false) (j:Nat) (hj:j < m+1):Bq ts k (([]::l).getD j []) i=false:=by
 by_cases e:j=m
 ·subst e;exact h2
 ·exact h j OC
theorem Qex : ∀ (k:Nat) (_:k < 11) (W:World),Sem.run prog (Instr.index 95 (.agg Qfu.toArray) (.int .i64 (k:Int))) W = .ok (.string ⟨(([]::I0).getD k []).toArray⟩) W
 | 0,_,W=>OE
 | 1,_,W=>OE
 | 2,_,W=>OE
 | 3,_,W=>OE
 | 4,_,W=>OE
 | 5,_,W=>OE
 | 6,_,W=>OE
 | 7,_,W=>OE
 | 8,_,W=>OE
 | 9,_,W=>OE
 | 10,_,W=>OE
 | k+11,h,_=>OC
theorem S9 (hB:Eg g w) (hP:Cz ts g a c E i w) :
  Calls prog 128 #[.pointer (some (OK g 0))] w fun e w'=>e = .returned (.int .i64 (Da ts i:Int))/\B2 ts g a c E i w w':=by
 obtain⟨R,l⟩:∃ R,Hid (Da ts i=R):=⟨_,rfl⟩;rw[l.out];go_enter func128,ntmps128;go_wp2_with (refine wpList_load_mid rfl 95 _ rfl 0 0 rfl Qfu (.array 11 9) hB.t underlying95 rfl OE ?_);go_loopw [6,3,4] (fun v _ _ wr => ∃ k:Nat,k<=11/\v = .int .i64 (k:Int)/\Cz ts g a c E i wr/\Bl g w wr/\∀ m,m < k->Bq ts 2 (([]::I0).getD m []) i=false) (fun v _ _ _=>30 - (intOf v).toNat);case atStart=>exact⟨0,by omega,rfl,hP,Bl.refl _ _,fun m hm=>OC⟩
 case round =>
  obtain⟨k,u,rfl,b,f,j⟩:=hrel;have h:Hid (∀ m,m < k->Bq ts 2 (([]::I0).getD m []) i=false):=j;clear j;by_cases hlt:k < 11
  ·obtain⟨X,n⟩:∃ X,Hid (([]::I0).getD k []=X):=⟨_,rfl⟩;have o:=Qex k hlt;rw[n.out]at o;have s:(k:Int) < 11:=OC;have t:(0:Int)<=(k:Int):=OC;have r:wrap64 ((k:Int)+1)=((k+1:Nat):Int):=(by unfold wrap64;omega);cases hI:Bq ts 2 X i with
   | true =>
    have e:R=k:=(by rw[<- l.out];exact Sk 2 I0 OD OD k (by simp[I0];omega) (by rw[n.out];exact hI));subst e;go_wp2_with (go_at_call 155;refine(Gd 2 X b).mono ?_;rintro e q ⟨rfl,d⟩;rw[hI]);go_ret;exact⟨rfl,b.below d,f.trans (Bl.of_below d)⟩
   | false =>
    go_wp2_with (go_at_call 155;refine(Gd 2 X b).mono ?_;rintro e q ⟨rfl,d⟩;rw[hI]);go_roundw;case rel=>exact⟨k+1,by omega,by first|rfl|simp[r],b.below d,f.trans (Bl.of_below d),fun m hm=>Wh h.out (by rw[n.out];exact hI) m hm⟩
    case measure=>simp[intOf];omega
  ·have p:k=11:=OC;subst p;have e:R=0:=(by rw[<- l.out];exact U0 2 I0 OD h.out);subst e;go_wp2_with fail;go_ret;exact⟨rfl,b,f⟩
theorem Qfx (h:Da ts i≠0):i < ts.length:=by
 by_cases hp:i < ts.length
 ·exact hp
 ·simp[Da,Rg hp]at h
theorem Mr (h:Da ts i≠0) (hB:Eg g w) (hP:Cz ts g a c E i w) :
  Calls prog 94 #[.pointer (some (OK g 0))] w fun e w'=>e = .returned (.int .i64 (Da ts i:Int))/\B2 ts g a c E (i+1) w w':=by
 obtain⟨j,k⟩:=hP.sum;have f:=Qfx h;obtain⟨t,d⟩:∃ t:Int,(Da ts i:Int)=t:=⟨_,rfl⟩;have l:¬ t=0:=OC
 have m:(t == 0)=false:=by simpa using l
 rw[d];go_enter func94,ntmps94;go_wp2_with (go_at_call 128;refine(S9 hB hP).mono ?_;rintro e n ⟨rfl,b⟩;rw[d];obtain⟨o,p,q,r⟩:=b.1.cells);go_ret;exact⟨rfl,b.1.nx f,b.2.trans (Bl.set _ _ _)⟩
theorem Qlf : ∀ (k:Nat) (_:k < 19) (W:World),Sem.run prog (Instr.index 238 (.agg Qfp.toArray) (.int .i64 (k:Int))) W = .ok (.agg #[.string ⟨(([]::G4).getD k []).toArray⟩,.int .i64 (P6 k:Int)]) W
 | 0,_,W=>OE
 | 1,_,W=>OE
 | 2,_,W=>OE
 | 3,_,W=>OE
 | 4,_,W=>OE
 | 5,_,W=>OE
 | 6,_,W=>OE
 | 7,_,W=>OE
 | 8,_,W=>OE
 | 9,_,W=>OE
 | 10,_,W=>OE
 | 11,_,W=>OE
 | 12,_,W=>OE
 | 13,_,W=>OE
 | 14,_,W=>OE
 | 15,_,W=>OE
 | 16,_,W=>OE
 | 17,_,W=>OE
 | 18,_,W=>OE
 | k+19,h,_=>OC
theorem Si (hB:Eg g w) (hP:Cz ts g a c E i w) :
  Calls prog 195 #[.pointer (some (OK g 0))] w fun e w'=>e = .returned (.int .i64 (Js ts i:Int))/\B2 ts g a c E i w w':=by
 obtain⟨R,n⟩:∃ R,Hid (Js ts i=R):=⟨_,rfl⟩;rw[n.out];go_enter func195,ntmps195;go_wp2_with (refine wpList_load_mid rfl 238 _ rfl 4 0 rfl Qfp (.array 19 237) hB.b underlying238 rfl OE ?_);go_loopw [6,3,4] (fun v _ _ wr => ∃ k:Nat,k<=19/\v = .int .i64 (k:Int)/\Cz ts g a c E i wr/\Bl g w wr/\∀ m,m < k->Bq ts 5 (([]::G4).getD m []) i=false) (fun v _ _ _=>30 - (intOf v).toNat);case atStart=>exact⟨0,by omega,rfl,hP,Bl.refl _ _,fun m hm=>OC⟩
 case round =>
  obtain⟨k,x,rfl,b,f,l⟩:=hrel;have h:Hid (∀ m,m < k->Bq ts 5 (([]::G4).getD m []) i=false):=l;clear l;by_cases hlt:k < 19
  ·obtain⟨X,o⟩:∃ X,Hid (([]::G4).getD k []=X):=⟨_,rfl⟩;have p:=Qlf k hlt;rw[o.out]at p;have t:(k:Int) < 19:=OC;have u:(0:Int)<=(k:Int):=OC;have s:wrap64 ((k:Int)+1)=((k+1:Nat):Int):=(by unfold wrap64;omega);cases hI:Bq ts 5 X i with
   | true =>
    have e:R=k:=(by rw[<- n.out];exact Sk 5 G4 OD OD k (by simp[G4];omega) (by rw[o.out];exact hI));subst e;go_wp2_with (go_at_call 155;refine(Gd 5 X (b.below (OP _ _))).mono ?_;rintro e r ⟨rfl,d⟩;rw[hI]);go_ret;exact⟨rfl,(b.below (OP _ _)).below d,(f.trans (Bl.of_below (OP _ _))).trans (Bl.of_below d)⟩
   | false =>
    go_wp2_with (go_at_call 155;refine(Gd 5 X (b.below (OP _ _))).mono ?_;rintro e r ⟨rfl,d⟩;rw[hI]);go_roundw;case rel=>exact⟨k+1,by omega,by first|rfl|simp[s],(b.below (OP _ _)).below d,(f.trans (Bl.of_below (OP _ _))).trans (Bl.of_below d),fun m hm=>Wh h.out (by rw[o.out];exact hI) m hm⟩
    case measure=>simp[intOf];omega
  ·have q:k=19:=OC;subst q;have e:R=0:=(by rw[<- n.out];exact U0 5 G4 OD h.out);subst e;go_wp2_with fail;go_ret;exact⟨rfl,b,f⟩
variable {ts:List (Ab × Nat)} {g:Nat} {a:Option Addr} {c E i j:Nat} {w W W2:World}
theorem Qk9 {α β:Type} {m:Jz α} {f:α->Nat->Jz β} {y:Except Nat (β × Nat)} (h:Dj m f=some y):(∃ k,m=some (.error k)/\y = .error k)\/∃ x,m=some (.ok x)/\f x.1 x.2=some y:=by
 unfold Dj at h;split at h
 ·simp at h
 ·simp at h;exact .inl ⟨_,rfl,h.symm⟩
 ·exact .inr ⟨_,rfl,h⟩
theorem Ai {α β:Type} {m:Jz α} {f:α->Nat->Jz β} {y:β × Nat} (h:Dj m f=some (.ok y)):∃ x,m=some (.ok x)/\f x.1 x.2=some (.ok y):=by
 rcases Qk9 h with⟨k,_,a⟩|a
 ·simp at a
 ·exact a
theorem Ho {ts:List (Ab × Nat)} {k:Int} {T:List UInt8} {i:Nat} {x:Unit × Nat} (h:Kd ts k T i=some (.ok x)):x.2=i+1:=by
 unfold Kd at h;split at h
 ·simp at h;rw[<- h]
 ·simp at h
structure Qqy (ts:List (Ab × Nat)) (n:Nat):Prop where
 unm:∀ i x,Fx ts n i=some (.ok x)->i < x.2
 word:∀ i x,K8 ts n i=some (.ok x)->i < x.2
 brk:∀ i x,Nc ts n i=some (.ok x)->i < x.2
 brest:∀ k i x,Hn ts n k i=some (.ok x)->i < x.2
 brestL:∀ k j us i x,Gy ts n k j us i=some (.ok x)->i<=x.2
 call:∀ i x,Jj ts n i=some (.ok x)->i < x.2
 args:∀ us i x,Ji ts n us i=some (.ok x)->i < x.2
 rank:∀ l i x,Ds ts n l i=some (.ok x)->i < x.2
 rankL:∀ l m t i x,Iz ts n l m t i=some (.ok x)->i<=x.2
theorem O9 (ts:List (Ab × Nat)):∀ n,Qqy ts n
 | 0=>by constructor <;> intros <;> rename_i h <;> simp[Fx,K8,Nc,Hn,Gy,Jj,Ji,Ds,Iz]at h
 | n+1=>by
  have g:=O9 ts n
  constructor
  ·intro i x h
   rw[Fx]at h
   split at h
   ·obtain⟨y,f,d⟩:=Ai h
    have:=g.unm _ _ f
    simp at d;rw[<- d];simp;omega
   ·split at h
    ·simp at h;rw[<- h];simp
    ·split at h
     ·simp at h;rw[<- h];simp
     ·split at h
      ·split at h
       ·obtain⟨y,f,d⟩:=Ai h
        have:=g.call _ _ f
        simp at d;rw[<- d];simp;omega
       ·simp at h;rw[<- h];simp
      ·split at h
       ·exact g.word _ _ h
       ·exact g.brk _ _ h
  ·intro i x h
   rw[K8]at h
   split at h
   ·simp at h;rw[<- h];simp
   ·split at h
    ·simp at h;rw[<- h];simp
    ·split at h
     ·obtain⟨y,f,d⟩:=Ai h
      have:=g.brest _ _ _ f
      simp at d;rw[<- d];simp;omega
     ·split at h
      ·simp at h
      ·obtain⟨y,f,d⟩:=Ai h
       have:=g.brk _ _ f
       simp at d;rw[<- d];simp;omega
  ·intro i x h
   rw[Nc]at h
   obtain⟨y,f,d⟩:=Ai h
   obtain⟨z,o,p⟩:=Ai d
   obtain⟨u,r,q⟩:=Ai p
   have a:=Ho f
   have b:=g.rank _ _ _ o
   have c:=Ho r
   simp at q;rw[<- q];simp;omega
  ·intro k i x h
   rw[Hn]at h
   obtain⟨y,f,d⟩:=Ai h
   obtain⟨z,o,p⟩:=Ai d
   obtain⟨u,r,q⟩:=Ai p
   have a:=Ho f
   have b:=g.brestL _ _ _ _ _ o
   have c:=Ho r
   simp at q;rw[<- q];simp;omega
  ·intro k j us i x h
   rw[Gy]at h
   split at h
   ·obtain⟨y,f,d⟩:=Ai h
    obtain⟨z,o,p⟩:=Ai d
    have b:=g.rank _ _ _ o
    have c:=g.brestL _ _ _ _ _ p
    split at f
    ·have a:=Ho f;omega
    ·simp at f;rw[<- f]at b;simp at b;omega
   ·simp at h;rw[<- h];simp
  ·intro i x h
   rw[Jj]at h
   obtain⟨y,f,d⟩:=Ai h
   have a:=Ho f
   split at d
   ·simp at d;rw[<- d];simp;omega
   ·have:=g.args _ _ _ d;omega
  ·intro us i x h
   rw[Ji]at h
   obtain⟨y,f,d⟩:=Ai h
   have a:=g.rank _ _ _ f
   split at d
   ·simp at d;rw[<- d];simp;omega
   ·obtain⟨z,o,p⟩:=Ai d
    have b:=Ho o
    have:=g.args _ _ _ p;omega
  ·intro l i x h
   rw[Ds]at h
   obtain⟨y,f,d⟩:=Ai h
   have a:=g.unm _ _ f
   have b:=g.rankL _ _ _ _ _ d
   omega
  ·intro l m t i x h
   rw[Iz]at h
   split at h
   ·simp at h;rw[<- h];simp
   ·obtain⟨y,f,d⟩:=Ai h
    have a:=g.rank _ _ _ f
    have b:=g.rankL _ _ _ _ _ d
    omega
theorem K6 {β:Type} {k:Int} {T:List UInt8} {f:Unit->Nat->Jz β} {y:β × Nat} (h:Dj (Kd ts k T i) f=some (.ok y)):Bq ts k T i=true/\f () (i+1)=some (.ok y):=by
 unfold Kd at h;split at h
 ·rename_i h1;exact⟨h1,h⟩
 ·simp[Dj]at h
theorem P2 {β:Type} {f:List UInt8->Nat->Jz β} {y:β × Nat} (h:Dj (Ib ts i) f=some (.ok y)):Dm ts i=1/\f (B8 ts i) (i+1)=some (.ok y):=by
 unfold Ib at h;split at h
 ·rename_i h1;exact⟨h1,h⟩
 ·simp[Dj]at h
theorem Nb {β:Type} {f:Nat->Nat->Jz β} {y:β × Nat} (h:Dj (Oa ts i) f=some (.ok y)):Da ts i≠0/\f (Da ts i) (i+1)=some (.ok y):=by
 unfold Oa at h;split at h
 ·simp[Dj]at h
 ·rename_i h1;exact⟨h1,h⟩
theorem Qda (T:List UInt8) (h:Bq ts 2 T i=true) (hP:Cz ts g a c E i w):Calls prog 124 #[.pointer (some (OK g 0)),.string ⟨T.toArray⟩] w fun e w'=>e = .returned (.bool true)/\B2 ts g a c E (i+1) w w':=by simpa[h]using D3 T hP
theorem Qc9 (T:List UInt8) (h:¬ Bq ts 2 T i=true) (hP:Cz ts g a c E i w):Calls prog 124 #[.pointer (some (OK g 0)),.string ⟨T.toArray⟩] w fun e w'=>e = .returned (.bool false)/\B2 ts g a c E i w w':=by simpa[h]using D3 T hP
theorem L5 (T:List UInt8) (h:Bq ts 5 T i=true) (hP:Cz ts g a c E i w):Calls prog 92 #[.pointer (some (OK g 0)),.string ⟨T.toArray⟩] w fun e w'=>e = .returned (.bool true)/\B2 ts g a c E (i+1) w w':=by simpa[h]using D2 T hP
theorem L4 (T:List UInt8) (h:¬ Bq ts 5 T i=true) (hP:Cz ts g a c E i w):Calls prog 92 #[.pointer (some (OK g 0)),.string ⟨T.toArray⟩] w fun e w'=>e = .returned (.bool false)/\B2 ts g a c E i w w':=by simpa[h]using D2 T hP
def Ck (B:Nat) (W:World) (t:Aa) (v:Value):Prop:=Ba (fun b=>B<=b/\b < W.heap.size) W t v
def Hq (B:Nat) (W:World) (l:List Aa) (us:List Value):Prop:=An (fun b=>B<=b/\b < W.heap.size) W l us
theorem Ck.fr {B:Nat} {t:Aa} {v:Value} (h:Ck B W t v) (hF:Bl g W W2) (hB:g < B):Ck B W2 t v :=
 Ba.below (fun b hb=>⟨hb.1,Nat.lt_of_lt_of_le hb.2 hF.size⟩) (fun b hb=>hF.keep b hb.2 OC) t v h
theorem Hq.fr {B:Nat} {l:List Aa} {us:List Value} (h:Hq B W l us) (hF:Bl g W W2) (hB:g < B):Hq B W2 l us :=
 An.below (fun b hb=>⟨hb.1,Nat.lt_of_lt_of_le hb.2 hF.size⟩) (fun b hb=>hF.keep b hb.2 OC) l us h
theorem Ck.mono {B C:Nat} {t:Aa} {v:Value} (h:Ck B W t v) (hB:C<=B):Ck C W t v :=
 Ba.below (fun b hb=>⟨by omega,hb.2⟩) (fun b hb=>rfl) t v h
theorem X1 {P:Nat->Prop}:∀ (l:List Aa) (us:List Value),An P W l us->Aq us (l.map (fun t=>t.nd.kind))
 | [],us,h=>by rw[An]at h;subst h;exact⟨rfl,fun i h=>by simp at h⟩
 | t::r,us,h=>by
  rw[An]at h
  obtain⟨u,a,rfl,b,k⟩:=h
  have c:=X1 r a k
  obtain⟨d,ks⟩:=t
  rw[Ba]at b
  obtain⟨o,m,n,_,_,_⟩:=b
  obtain⟨f,g,x,rfl,j⟩:=R3 n m
  refine⟨by simp[c.1],fun i hi => ?_⟩
  cases i with
  | zero=>exact⟨f,g,x,rfl,j⟩
  | succ i=>exact c.2 i (by simpa using hi)
theorem Eh {B:Nat} (d:Ae) (l:List Aa) (us:List Value) (x:Value) (h1:1<=d.kind) (h2:d.kind<=24) (hI:Az (fun b=>B<=b/\b < W.heap.size) W d us x) (hR:Hq B W l us) (hl:us.length<=100000):Ck B W (.node d l) (.iface (A9 d.kind) x):=by
 unfold Ck;rw[Ba];exact⟨us,⟨h1,h2,x,rfl,hI⟩,X1 l us hR,fun _=>hl,hl,hR⟩
theorem G5 (B:Nat) (W:World):Hq B W [] []:=by unfold Hq;rw[An]
theorem Hq.snoc {B:Nat} {l:List Aa} {us:List Value} {t:Aa} {v:Value} (h:Hq B W l us) (h2:Ck B W t v):Hq B W (l++[t]) (us++[v]) :=
 An.app _ _ _ _ h (by rw[An];exact⟨v,[],rfl,h2,by rw[An]⟩)
theorem Hq.one {B:Nat} {t:Aa} {v:Value} (h:Hq B W ([]++[t]) ([]++[v])):Ck B W t v:=by
 rw[Hq,List.nil_append,List.nil_append,An]at h;obtain⟨_,_,e,h,_⟩:=h;cases e
 exact h
def Kw (ts:List (Ab × Nat)) (g:Nat) (a:Option Addr) (c E:Nat) (p:Aa × Nat) (w:World) (e:Ending) (w':World):Prop := ∃ ty x,e = .returned (.iface ty x)/\Ck w.heap.size w' p.1 (.iface ty x)/\B2 ts g a c E p.2 w w'
def Rf (ts:List (Ab × Nat)) (g:Nat) (a:Option Addr) (c E n:Nat):Prop := ∀ (l i:Nat) (w:World) (r:Aa × Nat),1<=l->l<=6->Ds ts n l i=some (.ok r)->Eg g w->Cz ts g a c E i w ->
 Calls prog 182 #[.pointer (some (OK g 0)),.int .i64 (l:Int)] w (Kw ts g a c E r w)
def Qhd (ts:List (Ab × Nat)) (g:Nat) (a:Option Addr) (c E n:Nat):Prop := ∀ (i:Nat) (w:World) (r:Aa × Nat),Ds ts n 1 i=some (.ok r)->Eg g w->Cz ts g a c E i w->Calls prog 157 #[.pointer (some (OK g 0))] w (Kw ts g a c E r w)
theorem Mc {n:Nat} (ih:Rf ts g a c E n):Qhd ts g a c E n:=by
 intro i w r j b d;go_enter func157,ntmps157;go_wp2_with (go_at_call 182;refine(ih 1 i w r OC OC j b d).mono ?_;rintro e l ⟨k,x,rfl,f,h⟩);go_ret;exact⟨k,x,rfl,f,h⟩
theorem Qnb {n:Nat} (hV:Qhd ts g a c E n) (r:Aa × Nat) (b:Nc ts (n+1) i=some (.ok r)) (hB:Eg g w) (hP:Cz ts g a c E i w) :
  Calls prog 203 #[.pointer (some (OK g 0))] w (Kw ts g a c E r w):=by
 have f:B2 ts g a c E i w w:=⟨hP,Bl.refl _ _⟩;have j:=hP.lt;have h:=G5 w.heap.size w;rw[Nc]at b;repeat' (first|(replace b:=K6 b;obtain⟨_,b⟩:=b)|(replace b:=P2 b;obtain⟨_,b⟩:=b)|(replace b:=Nb b;obtain⟨_,b⟩:=b)|(replace b:=Ai b;obtain⟨_,_,b⟩:=b)|(split at b)|fail)
 simp only[Option.some.injEq,Except.ok.injEq]at b;subst b;go_enter func203,ntmps203;go_wp2_with (first|(go_at_call 91;refine(Dz _ OG f.1).mono ?_;rintro e l ⟨rfl,d⟩;replace h:=h.fr d.2 j;replace f:=f.to d;clear d)|(go_at_call 157;refine(hV _ _ _ OG (hB.fr f.2) f.1).mono ?_;rintro e l ⟨m,y,rfl,k,d⟩;replace h:=(h.fr d.2 j).snoc (k.mono f.2.size);replace f:=f.to d;clear d k));go_ret;exact⟨m,y,rfl,h.one,f⟩
end Go.Proofs.YtjlaedokfbcbpaaGreatDoor
