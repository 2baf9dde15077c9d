import Derived.Test.YtahibkjkpmdhgaaGreatDoorKTk
import Derived.Test.YtahibkjkpmdhgaaGreatDoorKCdU
set_option maxRecDepth 100000
set_option maxHeartbeats 1000000
namespace Go.Proofs.YtahibkjkpmdhgaaGreatDoor
open Go.RowKit
structure Ia (Z:Dp) (X0 X:List Am) (ag:Bool) (i:Nat):Prop where
 low:H5 Z X
 stk:∀ u,H7 (Ai X u)
 first:Dl Z.first (Ai X 0)
 sum:I6 Z.m X0<=I6 Z.m X
 more:ag=true->I6 Z.m X0 < I6 Z.m X
 same:ag=false->X=X0/\∀ u,u < i->Ai X u ≠ .none->∀ v ∈ Z.goes u,v < Z.n->Dl (Z.left u (Ai X u)) (Ai X v)
structure Km (Z:Dp) (X0 X:List Am) (ag:Bool) (i:Nat) (b:Am) (gl:List Nat) (k:Nat):Prop where
 rd:Ia Z X0 X ag i
 blow:∀ v ∈ gl,v < Z.n->∀ Y,J4 Z Y->Dl b (Ai Y v)
 blen:Dv Z.m b
 bstk:H7 b
 all:ag=false->(Ai X i ≠ .none->b=Z.left i (Ai X i))/\∀ j (hj:j < gl.length),j < k->gl[j] < Z.n->Dl b (Ai X gl[j])
theorem Km.start {Z:Dp} {X0 X:List Am} {ag:Bool} {i:Nat} (h:Ia Z X0 X ag i) (hi:i < Z.n) (hn:Ai X i ≠ .none) (hb:H7 (Z.left i (Ai X i))):Km Z X0 X ag i (Z.left i (Ai X i)) (Z.goes i) 0 :=
 ⟨h,fun v hv hvn Y hY=>h.low.leaves i hi hn v hvn hv Y hY,Z.keep i _ (h.low.lens i),hb,fun _=>⟨fun _=>rfl,fun j hj hk=>Ou⟩⟩
theorem Qby (X:List Am) (v:Nat) (hv:v < X.length):X.set v (Ai X v)=X:=by
 unfold Ai;rw[List.getD_eq_getElem?_getD,List.getElem?_eq_getElem hv];exact List.set_getElem_self hv
theorem Km.step {Z:Dp} {X0 X:List Am} {ag:Bool} {i:Nat} {b:Am} {gl:List Nat} {k:Nat} (h:Km Z X0 X ag i b gl k) (hk:k < gl.length) (hv:gl[k] < Z.n):Km Z X0 (X.set gl[k] (Bb (Ai X gl[k]) b)) (ag || decide (Bb (Ai X gl[k]) b≠Ai X gl[k])) i b gl (k+1):=by
 have a:gl[k] < X.length:=by rw[h.rd.low.size];exact hv
 have g:=Qa (h.rd.low.lens gl[k]) h.blen;have l:=Lx (h.rd.low.lens gl[k]) h.blen;have c:=h.rd.low.come gl[k] hv b h.blen (h.blow gl[k] (List.getElem_mem hk) hv);have f:=Nr (h.rd.low.lens gl[k]) (Nu (h.rd.low.lens gl[k]) h.blen) g;have m:=Ps Z.m X gl[k] (Bb (Ai X gl[k]) b) a;by_cases he:Bb (Ai X gl[k]) b=Ai X gl[k]
 ·have n:X.set gl[k] (Bb (Ai X gl[k]) b)=X:=by rw[he];exact Qby X _ a
  have d:(ag || decide (Bb (Ai X gl[k]) b≠Ai X gl[k]))=ag:=by simp[he]
  rw[n,d];refine⟨h.rd,h.blow,h.blen,h.bstk,fun ha=>⟨(h.all ha).1,fun j hj hjk hjn => ?_⟩⟩;by_cases e:j=k
  ·subst e;rw[he]at l;exact l
  ·exact(h.all ha).2 j hj Ou hjn
 ·have o:=f.2 (fun e=>he e.symm);have d:(ag || decide (Bb (Ai X gl[k]) b≠Ai X gl[k]))=true:=by simp[he]
  rw[d];refine⟨⟨c,fun u => ?_, ?_, ?_,fun _ => ?_,fun ha=>by simp at ha⟩,h.blow,h.blen,h.bstk,fun ha=>by simp at ha⟩
  ·rw[Fj _ _ _ _ a];by_cases e:u=gl[k]
   ·rw[if_pos e];exact Qbn (h.rd.stk _) h.bstk
   ·rw[if_neg e];exact h.rd.stk u
  ·rw[Fj _ _ _ _ a];by_cases e:0=gl[k]
   ·rw[if_pos e,<- e];rw[<- e]at g;exact h.rd.first.trans g
   ·rw[if_neg e];exact h.rd.first
  ·have:=h.rd.sum;omega
  ·have:=h.rd.sum;omega
theorem Km.skip {Z:Dp} {X0 X:List Am} {ag:Bool} {i:Nat} {b:Am} {gl:List Nat} {k:Nat} (h:Km Z X0 X ag i b gl k) (hk:k < gl.length) (hv:¬ gl[k] < Z.n):Km Z X0 X ag i b gl (k+1) :=
 ⟨h.rd,h.blow,h.blen,h.bstk,fun ha=>⟨(h.all ha).1,fun j hj hjk hjn=>by
  by_cases e:j=k
  ·subst e;exact(hv hjn).elim
  ·exact(h.all ha).2 j hj Ou hjn⟩⟩
theorem Km.done {Z:Dp} {X0 X:List Am} {ag:Bool} {i:Nat} {b:Am} {k:Nat} (h:Km Z X0 X ag i b (Z.goes i) k) (hk:(Z.goes i).length<=k):Ia Z X0 X ag (i+1) :=
 ⟨h.rd.low,h.rd.stk,h.rd.first,h.rd.sum,h.rd.more,fun ha=>⟨(h.rd.same ha).1,fun u hu hn v hv hvn=>by
  by_cases e:u=i
  ·subst e
   rw[<- (h.all ha).1 hn]
   obtain⟨j,a,rfl⟩:=List.getElem_of_mem hv
   exact(h.all ha).2 j a Ou hvn
  ·exact(h.rd.same ha).2 u Ou hn v hv hvn⟩⟩
theorem Ia.none {Z:Dp} {X0 X:List Am} {ag:Bool} {i:Nat} (h:Ia Z X0 X ag i) (hn:Ai X i = .none):Ia Z X0 X ag (i+1) :=
 ⟨h.low,h.stk,h.first,h.sum,h.more,fun ha=>⟨(h.same ha).1,fun u hu hx v hv hvn=>by
  by_cases e:u=i
  ·subst e;exact(hx hn).elim
  ·exact(h.same ha).2 u Ou hx v hv hvn⟩⟩
theorem Ia.fix {Z:Dp} {X0 X:List Am} {i:Nat} (h:Ia Z X0 X false i) (hi:Z.n<=i):J4 Z X :=
 ⟨h.low.size,fun u hu hn v hv hvn=>(h.same rfl).2 u Ou hn v hv hvn,fun _=>h.first⟩
theorem Ia.again {Z:Dp} {X0 X:List Am} {ag:Bool} {i:Nat} (h:Ia Z X0 X ag i):Ia Z X X false 0 :=
 ⟨h.low,h.stk,h.first,Nat.le_refl _,fun e=>by simp at e,fun _=>⟨rfl,fun u hu=>Ou⟩⟩
theorem Ia.begin (Z:Dp) (hn:0 < Z.n) (hs:H7 Z.first):Ia Z ((List.replicate Z.n Am.none).set 0 Z.first) ((List.replicate Z.n Am.none).set 0 Z.first) false 0:=by
 have d:(List.replicate Z.n Am.none).length=Z.n:=List.length_replicate;have b:∀ u,Ai (List.replicate Z.n Am.none) u = .none:=fun u=>by
  unfold Ai;rw[List.getD_eq_getElem?_getD,List.getElem?_replicate];by_cases e:u < Z.n <;> simp[e]
 have a:=(H5.start Z).come 0 hn Z.first Z.flen (fun Y hY=>hY.first hn)
 have c:Bb (Ai (List.replicate Z.n Am.none) 0) Z.first=Z.first:=by
  rw[b];cases Z.first <;> rfl
 rw[c]at a;refine⟨a,fun u => ?_, ?_,Nat.le_refl _,fun e=>by simp at e,fun _=>⟨rfl,fun u hu=>Ou⟩⟩
 ·rw[Fj _ _ _ _ Ou];by_cases e:u=0
  ·rw[if_pos e];exact hs
  ·rw[if_neg e,b];trivial
 ·rw[Fj _ _ _ _ Ou,if_pos rfl];exact Dl.refl _
theorem Ia.top {Z:Dp} {X0 X:List Am} {ag:Bool} {i:Nat} (h:Ia Z X0 X ag i):I6 Z.m X<=Z.n * (Z.m+2):=by
 have:=Qy Z.m X h.low.lens;rw[h.low.size]at this;exact this
theorem A9.off {B:Nat} {W:World} {st:Int} {sv kv:Value} {g:Nat} {cur:Array Value} {fr:Nat × Nat} (hg:W.heap[g]? = some (.cells cur 126 fr)):∀ {sh:Am},A9 B W (Ah st sv kv) sh->∀ k,(sv.ownBlock=some k\/kv.ownBlock=some k)->k≠g
 | .none,h,k,c=>by
  have b:Ah st sv kv=Ah 0 (.slice none 0 0) (.slice none 0 0):=h
  unfold Ah at b
  injection b with b
  simp at b
  obtain⟨_,rfl,rfl⟩:=b
  simp[Value.ownBlock]at c
 | .clash,h,k,c=>by
  have b:Ah st sv kv=Ah 2 (.slice none 0 0) (.slice none 0 0):=h
  unfold Ah at b
  injection b with b
  simp at b
  obtain⟨_,rfl,rfl⟩:=b
  simp[Value.ownBlock]at c
 | .known s l,h,k,c=>by
  obtain⟨p,q,n,o,e,_,_,_,_,j,m⟩:=h
  unfold Ah at e
  injection e with e
  simp at e
  obtain⟨_,rfl,rfl⟩:=e
  intro f
  subst f
  rcases c with c|c
  ·obtain⟨_,d,i,a⟩:=j _ c
   rw[hg]at a
   injection a with a;injection a with _ a;exact absurd a Ov
  ·obtain⟨_,d,i,a⟩:=m _ c
   rw[hg]at a
   injection a with a;injection a with _ a;exact absurd a Ov
structure Cs (g:Nat) (W:World) (X:List Am):Prop where
 row:∃ cur,W.heap[g]? = some (.cells cur 126)/\cur.size=X.length * 3
 each:∀ u (hu:u < X.length),∃ st sa sl sc ka kl kc,W.cell? (OI g (u * 3))=some (.int .i64 st)/\W.cell? (OI g (u * 3+1))=some (.slice sa sl sc)/\W.cell? (OI g (u * 3+2))=some (.slice ka kl kc)/\A9 W.heap.size W (Ah st (.slice sa sl sc) (.slice ka kl kc)) X[u]
theorem Cs.lt {g:Nat} {W:World} {X:List Am} (h:Cs g W X):g < W.heap.size:=by
 obtain⟨a,b,_⟩:=h.row;exact(Array.getElem?_eq_some_iff.1 b).1
theorem Cs.below {g:Nat} {W W':World} {X:List Am} (h:Cs g W X) (hb:OH W W'):Cs g W' X:=by
 have a:=h.lt;refine⟨?_,fun u hu => ?_⟩
 ·obtain⟨b,c,d⟩:=h.row;exact⟨b,(hb.block g a).trans c,d⟩
 ·obtain⟨q,m,o,n,j,l,k,c,d,f,i⟩:=h.each u hu;exact⟨q,m,o,n,j,l,k,(hb.cell (p:=(OI g (u * 3))) a).trans c,(hb.cell (p:=(OI g (u * 3+1))) a).trans d,(hb.cell (p:=(OI g (u * 3+2))) a).trans f,(i.below hb).mono hb.size⟩
theorem Cs.froz {g:Nat} {W:World} {X:List Am} (h:Cs g W X) (j:Nat):W.frozen? (OI g j)=false:=by
 obtain⟨a,b,_⟩:=h.row;simp[World.frozen?,b]
def Fb (W:World) (g v:Nat) (a b c:Value):World:=((W.setCell (OI g (v * 3)) a).setCell (OI g (v * 3+1)) b).setCell (OI g (v * 3+2)) c
theorem Cs.store {g:Nat} {W:World} {X:List Am} (h:Cs g W X) (v:Nat) (hv:v < X.length) {sh:Am} {st:Int} {sa ka:Option Addr} {sl sc kl kc:Nat} (hs:A9 W.heap.size W (Ah st (.slice sa sl sc) (.slice ka kl kc)) sh):Cs g (Fb W g v (.int .i64 st) (.slice sa sl sc) (.slice ka kl kc)) (X.set v sh):=by
 obtain⟨l,f,A⟩:=h.row;have d:(Fb W g v (.int .i64 st) (.slice sa sl sc) (.slice ka kl kc)).heap[g]? = some (.cells (((l.setIfInBounds (v * 3) (.int .i64 st)).setIfInBounds (v * 3+1) (.slice sa sl sc)).setIfInBounds (v * 3+2) (.slice ka kl kc)) 126) :=
  heap_setCell_same _ _ _ _ _ _ (heap_setCell_same _ _ _ _ _ _ (heap_setCell_same _ _ _ _ _ _ f))
 have B:∀ k,k≠g->(Fb W g v (.int .i64 st) (.slice sa sl sc) (.slice ka kl kc)).heap[k]? = W.heap[k]?:=fun k hk=>by
  unfold Fb;rw[Below.heap_setCell _ _ _ _ (by exact hk),Below.heap_setCell _ _ _ _ (by exact hk),Below.heap_setCell _ _ _ _ (by exact hk)]
 have m:(Fb W g v (.int .i64 st) (.slice sa sl sc) (.slice ka kl kc)).heap.size=W.heap.size:=by simp[Fb]
 have i:∀ {a:Int} {b c:Value} {s2:Am},A9 W.heap.size W (Ah a b c) s2->A9 (Fb W g v (.int .i64 st) (.slice sa sl sc) (.slice ka kl kc)).heap.size (Fb W g v (.int .i64 st) (.slice sa sl sc) (.slice ka kl kc)) (Ah a b c) s2:=fun {a b c s2} hx=>by
  refine hx.keep (Nat.le_of_eq m.symm) (fun j sv' kv' e k hk=>B k ?_);unfold Ah at e;injection e with e;simp at e;obtain⟨_,rfl,rfl⟩:=e;exact A9.off f hx k hk
 refine⟨⟨_,d,by simp[A]⟩,fun u hu => ?_⟩;rw[List.length_set]at hu;by_cases e:u=v
 ·subst e;refine⟨st,sa,sl,sc,ka,kl,kc, ?_, ?_, ?_, ?_⟩
  ·rw[Lib.cell_of_heap d];simp[Array.getElem?_setIfInBounds];omega
  ·rw[Lib.cell_of_heap d];simp[Array.getElem?_setIfInBounds];omega
  ·rw[Lib.cell_of_heap d];simp[Array.getElem?_setIfInBounds];omega
  ·rw[List.getElem_set_self];exact i hs
 ·obtain⟨j,q,s,r,n,p,o,t,x,y,z⟩:=h.each u hu;refine⟨j,q,s,r,n,p,o, ?_, ?_, ?_, ?_⟩
  ·rw[<- t,Lib.cell_of_heap d,Lib.cell_of_heap f,Array.getElem?_setIfInBounds_ne Ou,Array.getElem?_setIfInBounds_ne Ou,Array.getElem?_setIfInBounds_ne Ou]
  ·rw[<- x,Lib.cell_of_heap d,Lib.cell_of_heap f,Array.getElem?_setIfInBounds_ne Ou,Array.getElem?_setIfInBounds_ne Ou,Array.getElem?_setIfInBounds_ne Ou]
  ·rw[<- y,Lib.cell_of_heap d,Lib.cell_of_heap f,Array.getElem?_setIfInBounds_ne Ou,Array.getElem?_setIfInBounds_ne Ou,Array.getElem?_setIfInBounds_ne Ou]
  ·rw[List.getElem_set_ne (fun h=>e h.symm)];exact i z
theorem Po (n u j:Nat) (hu:u < n) (hj:j < 3):(madeCells (Value.agg #[.int .i64 0,.slice none 0 0,.slice none 0 0]).cells (n * 3))[u * 3+j]? = (#[Value.int .i64 0,.slice none 0 0,.slice none 0 0]:Array Value)[j]?:=by
 have b:u * 3+j < n * 3:=Ou
 have c:(u * 3+j) % 3=j:=Ou
 have d:(Value.agg #[.int .i64 0,.slice none 0 0,.slice none 0 0]).cells = #[Value.int .i64 0,.slice none 0 0,.slice none 0 0]:=rfl;rw[d];unfold madeCells;simp only[Array.getElem?_map,List.size_toArray,List.length_cons,List.length_nil];rw[Array.getElem?_eq_getElem (by simpa using b)];simp only[Array.getElem_range,Option.map_some,c];have a:j=0\/j=1\/j=2:=Ou
 rcases a with rfl|rfl|rfl <;> rfl
theorem Cs.made {W:World} {B g n:Nat} (h:W.ownsRow B 126 3 (.slice (some (OI g 0)) n n) n (madeCells (Value.agg #[.int .i64 0,.slice none 0 0,.slice none 0 0]).cells (n * 3)).toList):Cs g W (List.replicate n .none):=by
 rcases h.2 with⟨d,_⟩|⟨o,i,c,d,p,k,m,l,f,b⟩
 ·simp at d
 ·injection d with e1 e2 e3;injection e1 with e1;injection e1 with e1
  subst e1 e3;have a:∀ j,j < n * 3->W.cell? (OI g j)=(madeCells (Value.agg #[.int .i64 0,.slice none 0 0,.slice none 0 0]).cells (n * 3))[j]?:=fun j hj=>by
   rw[Lib.cell_of_heap k,<- Array.getElem?_toList,<- Array.getElem?_toList,<- b,List.getElem?_take_of_lt hj]
  refine⟨⟨c,k,by rw[List.length_replicate,f]⟩,fun u hu => ?_⟩;rw[List.length_replicate]at hu;refine⟨0,none,0,0,none,0,0, ?_, ?_, ?_, ?_⟩
  ·have:=a (u * 3+0) Ou;rw[Po n u 0 hu Ou]at this;exact this
  ·rw[a (u * 3+1) Ou,Po n u 1 hu Ou];rfl
  ·rw[a (u * 3+2) Ou,Po n u 2 hu Ou];rfl
  ·rw[List.getElem_replicate];rfl
theorem Ac.uniq {B C:Nat} {W:World} {v:Value} {a b:List Int} (h:Ac B W v a) (k:Ac C W v b):a=b:=by
 obtain⟨x,p,rfl,l⟩:=h;obtain⟨y,q,e,m⟩:=k;injection e with e1 e2 e3;subst e1;refine List.ext_getElem e2 (fun i i1 i2 => ?_);obtain⟨g,o,j,_,f⟩:=l i i1;obtain⟨n,r,d,_,c⟩:=m i i2;rw[j]at d;injection d with d;injection d with f3 f4
 subst f3 f4;rw[f]at c;injection c with c;injection c
theorem Ej {a b:Int} {p q r s:Value} (h:Ah a p q=Ah b r s):a=b/\p=r/\q=s:=by
 unfold Ah at h;injection h with h;simp at h;exact h
theorem A9.uniq {B C:Nat} {W:World} {v:Value}:∀ {a b:Am},A9 B W v a->A9 C W v b->a=b
 | .none,.none,_,_=>rfl
 | .clash,.clash,_,_=>rfl
 | .none,.clash,h,k=>by
  have d:v=_:=h
  have c:v=_:=k
  rw[d]at c
  exact absurd (Ej c).1 Ov
 | .clash,.none,h,k=>by
  have d:v=_:=h
  have c:v=_:=k
  rw[d]at c
  exact absurd (Ej c).1 Ov
 | .none,.known _ _,h,k=>by
  have d:v=_:=h
  obtain⟨l,m,i,j,c,_⟩:=k
  rw[d]at c
  exact absurd (Ej c).1 Ov
 | .clash,.known _ _,h,k=>by
  have d:v=_:=h
  obtain⟨l,m,i,j,c,_⟩:=k
  rw[d]at c
  exact absurd (Ej c).1 Ov
 | .known _ _,.none,k,h=>by
  have d:v=_:=h
  obtain⟨l,m,i,j,c,_⟩:=k
  rw[d]at c
  exact absurd (Ej c).1 Ov
 | .known _ _,.clash,k,h=>by
  have d:v=_:=h
  obtain⟨l,m,i,j,c,_⟩:=k
  rw[d]at c
  exact absurd (Ej c).1 Ov
 | .known s k,.known s' c,h,d=>by
  obtain⟨l,m,i,j,e,_,_,q,r,_,_⟩:=h
  obtain⟨x,y,t,u,n,_,_,f,g,_,_⟩:=d
  rw[e]at n
  obtain⟨_,o,p⟩:=Ej n
  rw[<- o]at f
  rw[<- p]at g
  rw[q.uniq f,r.uniq g]
theorem Cs.uniq {g:Nat} {W:World} {X Y:List Am} (h:Cs g W X) (k:Cs g W Y):X=Y:=by
 obtain⟨x,n,z⟩:=h.row;obtain⟨y,b,A⟩:=k.row;rw[n]at b;injection b with b;injection b with b
 subst b;refine List.ext_getElem Ou (fun u u1 u2 => ?_);obtain⟨H,E,G,F,B,D,C,i,j,l,m⟩:=h.each u u1;obtain⟨v,r,t,s,o,q,p,a,c,d,f⟩:=k.each u u2;rw[i]at a;rw[j]at c;rw[l]at d;injection a with a;injection a with _ a
 injection c with c;injection d with d;rw[<- a,<- c,<- d]at f;exact m.uniq f
theorem Cs.eps {g:Nat} {W:World} {X:List Am} (h:Cs g W X):Classical.epsilon (fun Y=>Cs g W Y)=X:=(Classical.epsilon_spec (p:=fun Y=>Cs g W Y) ⟨X,h⟩).uniq h
structure Ic (w:World) (cC fC:Array Value) (X:List Am) (W:World):Prop where
 since:OH w W
 cod:W.heap[w.heap.size]? = some (.cells cC 59)
 fnb:W.heap[w.heap.size+1]? = some (.cells fC 130)
 shs:Cs (w.heap.size+2) W X
theorem Ic.below {w:World} {cC fC:Array Value} {X:List Am} {W W':World} (h:Ic w cC fC X W) (hb:OH W W'):Ic w cC fC X W':=by
 have a:=h.shs.lt;exact⟨h.since.trans (hb.mono h.since.size),(hb.block _ Ou).trans h.cod,(hb.block _ Ou).trans h.fnb,h.shs.below hb⟩
theorem Ic.alloc {w:World} {cC fC:Array Value} {X:List Am} {W:World} (h:Ic w cC fC X W) (o:Obj):Ic w cC fC X (W.alloc o):=h.below (Ao W o)
theorem Ic.set {w:World} {cC fC:Array Value} {X:List Am} {W:World} (h:Ic w cC fC X W) (O i:Nat) (v:Value) (hO:w.heap.size+2 < O) (hty:∃ a,W.heap[O]? = some (.cells a 126)):Ic w cC fC X (W.setCell (OI O i) v):=by
 obtain⟨l,d⟩:=hty;have b:∀ g,g≠O->(W.setCell (OI O i) v).heap[g]? = W.heap[g]?:=fun g hg=>Below.heap_setCell _ _ _ _ (by exact hg)
 refine⟨h.since.setCell (p:=(OI O i)) (by show w.heap.size<=O;omega) v,(b _ Ou).trans h.cod,(b _ Ou).trans h.fnb, ?_,fun u hu => ?_⟩
 ·obtain⟨a,q,r⟩:=h.shs.row;exact⟨a,(b _ Ou).trans q,r⟩
 ·obtain⟨B,y,A,z,s,x,t,m,n,o,f⟩:=h.shs.each u hu;have c:∀ j,(W.setCell (OI O i) v).cell? (OJ w 2 j)=W.cell? (OJ w 2 j):=fun j=>World.cell?_of_block (b _ (by show w.heap.size+2≠O;omega))
  refine⟨B,y,A,z,s,x,t,(c _).trans m,(c _).trans n,(c _).trans o,f.keep OB (fun st' sv' kv' e k hk2=>b k ?_)⟩;obtain⟨_,rfl,rfl⟩:=Ej e;exact A9.off d f k hk2
theorem Ic.store {w:World} {cC fC:Array Value} {X:List Am} {W:World} (h:Ic w cC fC X W) (v:Nat) (hv:v < X.length) {sh:Am} {st:Int} {sa ka:Option Addr} {sl sc kl kc:Nat} (hs:A9 W.heap.size W (Ah st (.slice sa sl sc) (.slice ka kl kc)) sh):Ic w cC fC (X.set v sh) (Fb W (w.heap.size+2) v (.int .i64 st) (.slice sa sl sc) (.slice ka kl kc)):=by
 have a:∀ g,g≠w.heap.size+2->(Fb W (w.heap.size+2) v (.int .i64 st) (.slice sa sl sc) (.slice ka kl kc)).heap[g]? = W.heap[g]?:=fun g hg=>by
  unfold Fb;rw[Below.heap_setCell _ _ _ _ (by exact hg),Below.heap_setCell _ _ _ _ (by exact hg),Below.heap_setCell _ _ _ _ (by exact hg)]
 refine⟨?_,(a _ Ou).trans h.cod,(a _ Ou).trans h.fnb,h.shs.store v hv hs⟩;unfold Fb;exact Ad (Ad (Ad h.since 2 _ _) 2 _ _) 2 _ _
theorem Ir {X:List Am} {u:Nat} (hu:u < X.length):Ai X u=X[u]:=by
 unfold Ai;rw[List.getD_eq_getElem?_getD,List.getElem?_eq_getElem hu];rfl
theorem A9.state {B:Nat} {W:World} {st:Int} {sv kv:Value}:∀ {sh:Am},A9 B W (Ah st sv kv) sh->(st=0 ↔ sh = .none)/\(st=2 ↔ sh = .clash)
 | .none,h=>by
  have e:=(Ej (show Ah st sv kv=_ from h)).1
  subst e;simp
 | .clash,h=>by
  have e:=(Ej (show Ah st sv kv=_ from h)).1
  subst e;simp
 | .known s k,h=>by
  obtain⟨c,d,a,b,e,_⟩:=h
  have e:=(Ej e).1
  subst e;simp
theorem D1 (f:Af) (h:(f.params.length:Int)<=f.slots):(B4 f).length=f.slots.toNat:=by
 unfold B4;rw[List.length_append,List.length_replicate];omega
theorem Sc (i:Az) (at':Nat) (hat:at'<=1048576) (ha:i.op=10\/i.op=11->0<=i.a) (w:World) :
  Calls Tryz.prog 112 #[Aw i,.int .i64 (at':Int)] w fun e w' => ∃ n cap,e = .returned (.slice (some (OJ w 1 0)) n cap)/\Ac w'.heap.size w' (.slice (some (OJ w 1 0)) n cap) (Ct (A5 i at'))/\OH w w'/\w.heap.size+1 < w'.heap.size:=by
 obtain⟨b,a,n,c⟩:=i;simp only at ha;unfold Aw;have f:wrap64 ((at':Int)+1)=(at':Int)+1:=IntWalk.wrap64_in _ Ou;by_cases h12:b=12
 ·subst h12;go_enter Tryz.func112,Tryz.ntmps112;go_wp2_with fail;go_ret;exact⟨0,0,rfl,Ac.two w _ [] _ _,Ka w _ _,by simp⟩
 ·by_cases h13:b=13
  ·subst h13;go_enter Tryz.func112,Tryz.ntmps112;go_wp2_with fail;go_ret;exact⟨0,0,rfl,Ac.two w _ [] _ _,Ka w _ _,by simp⟩
  ·by_cases h10:b=10
   ·subst h10;obtain⟨k,rfl⟩:∃ k:Nat,a=(k:Int):=⟨a.toNat,by have:=ha (.inl rfl);omega⟩;go_enter Tryz.func112,Tryz.ntmps112;go_wp2_with fail;go_ret;exact⟨1,1,rfl,Ac.two w _ [(k:Int)] _ _,Ka w _ _,by simp⟩
   ·by_cases h11:b=11
    ·subst h11;obtain⟨k,rfl⟩:∃ k:Nat,a=(k:Int):=⟨a.toNat,by have:=ha (.inr rfl);omega⟩;go_enter Tryz.func112,Tryz.ntmps112;go_wp2_with fail;go_ret;exact⟨2,2,rfl,Ac.two w _ [(k:Int),(at':Int)+1] _ _,Ka w _ _,by simp⟩
    ·have g:(b == 12)=false:=(by simp[h12]);have h:(b == 13)=false:=(by simp[h13]);have j:(b == 10)=false:=(by simp[h10]);have l:(b == 11)=false:=(by simp[h11]);have d:Hid (A5 ⟨b,a,n,c⟩ at'=[at'+1]):=(by rw[Hid,A5];simp[h12,h13,h10,h11]);rw[d.out];clear h12 h13 h10 h11 d ha;go_enter Tryz.func112,Tryz.ntmps112;go_wp2_with fail;go_ret;exact⟨1,1,rfl,Ac.two w _ [(at':Int)+1] _ _,Ka w _ _,by simp⟩
structure G6 (w:World) (cC fC:Array Value) (Z:Dp) (X X3:List Am) (ag:Bool) (i:Nat) (b:Am) (gl:List Nat) (k:Nat) (Os Og:Nat) (so go:Obj) (bv:Value) (W:World):Prop where
 sl:Ic w cC fC X3 W
 rk:Km Z X X3 ag i b gl k
 os:W.heap[Os]? = some so
 og:W.heap[Og]? = some go
 sb:A9 W.heap.size W bv b
theorem G6.below {w:World} {cC fC:Array Value} {Z:Dp} {X X3:List Am} {ag:Bool} {i:Nat} {b:Am} {gl:List Nat} {k Os Og:Nat} {so go:Obj} {bv:Value} {W W':World} (h:G6 w cC fC Z X X3 ag i b gl k Os Og so go bv W) (hb:OH W W'):G6 w cC fC Z X X3 ag i b gl k Os Og so go bv W' :=
 ⟨h.sl.below hb,h.rk,(hb.block _ (Array.getElem?_eq_some_iff.1 h.os).1).trans h.os,(hb.block _ (Array.getElem?_eq_some_iff.1 h.og).1).trans h.og,(h.sb.below hb).mono hb.size⟩
theorem G6.skip {w:World} {cC fC:Array Value} {Z:Dp} {X X3:List Am} {ag:Bool} {i:Nat} {b:Am} {gl:List Nat} {k Os Og:Nat} {so go:Obj} {bv:Value} {W:World} (h:G6 w cC fC Z X X3 ag i b gl k Os Og so go bv W) (hk:k < gl.length) (hv:¬ gl[k] < Z.n):G6 w cC fC Z X X3 ag i b gl (k+1) Os Og so go bv W :=
 ⟨h.sl,h.rk.skip hk hv,h.os,h.og,h.sb⟩
theorem G6.set {w:World} {cC fC:Array Value} {Z:Dp} {X X3:List Am} {ag:Bool} {i:Nat} {b:Am} {gl:List Nat} {k Os Og:Nat} {so go:Obj} {bv:Value} {W:World} (h:G6 w cC fC Z X X3 ag i b gl k Os Og so go bv W) (O j:Nat) (v:Value) (hO:w.heap.size+2 < O) (hs:O≠Os) (hg:O≠Og) (hty:∃ a,W.heap[O]? = some (.cells a 126)):G6 w cC fC Z X X3 ag i b gl k Os Og so go bv (W.setCell (OI O j) v):=by
 refine⟨h.sl.set O j v hO hty,h.rk,(Below.heap_setCell _ _ _ _ (by show Os≠O;exact fun e=>hs e.symm)).trans h.os,(Below.heap_setCell _ _ _ _ (by show Og≠O;exact fun e=>hg e.symm)).trans h.og,h.sb.keep OB (fun st sv kv e k hk=>Below.heap_setCell _ _ _ _ ?_)⟩;obtain⟨a,d⟩:=hty;have c:=h.sb;rw[e]at c;exact A9.off d c k hk
theorem G6.step {w:World} {cC fC:Array Value} {Z:Dp} {X X3:List Am} {ag:Bool} {i:Nat} {b:Am} {gl:List Nat} {k Os Og:Nat} {so go:Obj} {bv:Value} {W:World} (h:G6 w cC fC Z X X3 ag i b gl k Os Og so go bv W) (hk:k < gl.length) (hv:gl[k] < Z.n) (hOs:w.heap.size+2 < Os) (hOg:w.heap.size+2 < Og) {st:Int} {sa ka:Option Addr} {sl sc kl kc:Nat} (hs:A9 W.heap.size W (Ah st (.slice sa sl sc) (.slice ka kl kc)) (Bb (Ai X3 gl[k]) b)):G6 w cC fC Z X (X3.set gl[k] (Bb (Ai X3 gl[k]) b)) (ag || decide (Bb (Ai X3 gl[k]) b≠Ai X3 gl[k])) i b gl (k+1) Os Og so go bv (Fb W (w.heap.size+2) gl[k] (.int .i64 st) (.slice sa sl sc) (.slice ka kl kc)):=by
 have j:gl[k] < X3.length:=by rw[h.rk.rd.low.size];exact hv
 have c:∀ g,g≠w.heap.size+2->(Fb W (w.heap.size+2) gl[k] (.int .i64 st) (.slice sa sl sc) (.slice ka kl kc)).heap[g]? = W.heap[g]?:=fun g hg=>by
  unfold Fb;rw[Below.heap_setCell _ _ _ _ (by exact hg),Below.heap_setCell _ _ _ _ (by exact hg),Below.heap_setCell _ _ _ _ (by exact hg)]
 refine⟨h.sl.store gl[k] j hs,h.rk.step hk hv,(c _ Ou).trans h.os,(c _ Ou).trans h.og,h.sb.keep (by simp[Fb]) (fun st sv kv e k hk=>c k ?_)⟩;obtain⟨d,f,_⟩:=h.sl.shs.row;have a:=h.sb;rw[e]at a;exact A9.off f a k hk
end Go.Proofs.YtahibkjkpmdhgaaGreatDoor
