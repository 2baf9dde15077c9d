import Derived.Test.YtahibkjkpmdhgaaGreatDoorKCdU
set_option maxRecDepth 100000
set_option maxHeartbeats 1000000
namespace Go.Proofs.YtahibkjkpmdhgaaGreatDoor
open Go.RowKit
structure Hm (Z:Dd) (X0 X:List Ao) (ag:Bool) (i:Nat):Prop where
 low:Hh Z X
 stk:∀ u,Hj (Aj X u)
 first:C8 Z.first (Aj X 0)
 sum:Ic Z.m X0<=Ic Z.m X
 more:ag=true->Ic Z.m X0 < Ic Z.m X
 same:ag=false->X=X0/\∀ u,u < i->Aj X u ≠ .none->∀ v ∈ Z.goes u,v < Z.n->C8 (Z.left u (Aj X u)) (Aj X v)
structure Jn (Z:Dd) (X0 X:List Ao) (ag:Bool) (i:Nat) (b:Ao) (gl:List Nat) (k:Nat):Prop where
 rd:Hm Z X0 X ag i
 blow:∀ v ∈ gl,v < Z.n->∀ Y,I5 Z Y->C8 b (Aj Y v)
 blen:Di Z.m b
 bstk:Hj b
 all:ag=false->(Aj X i ≠ .none->b=Z.left i (Aj X i))/\∀ j (hj:j < gl.length),j < k->gl[j] < Z.n->C8 b (Aj X gl[j])
theorem Jn.start {Z:Dd} {X0 X:List Ao} {ag:Bool} {i:Nat} (h:Hm Z X0 X ag i) (hi:i < Z.n) (hn:Aj X i ≠ .none) (hb:Hj (Z.left i (Aj X i))):Jn Z X0 X ag i (Z.left i (Aj X i)) (Z.goes i) 0 :=
 ⟨h,fun v hv hvn Y hY=>h.low.leaves i hi hn v hvn hv Y hY,Z.keep i _ (h.low.lens i),hb,fun _=>⟨fun _=>rfl,fun j hj hk=>by omega⟩⟩
theorem Y4 (X:List Ao) (v:Nat) (hv:v < X.length):X.set v (Aj X v)=X:=by
 unfold Aj;rw[List.getD_eq_getElem?_getD,List.getElem?_eq_getElem hv];exact List.set_getElem_self hv
theorem Jn.step {Z:Dd} {X0 X:List Ao} {ag:Bool} {i:Nat} {b:Ao} {gl:List Nat} {k:Nat} (h:Jn Z X0 X ag i b gl k) (hk:k < gl.length) (hv:gl[k] < Z.n):Jn Z X0 (X.set gl[k] (Bc (Aj X gl[k]) b)) (ag || decide (Bc (Aj X gl[k]) b≠Aj X gl[k])) i b gl (k+1):=by
 have a:gl[k] < X.length:=by rw[h.rd.low.size];exact hv
 have g:=N9 (h.rd.low.lens gl[k]) h.blen;have l:=Kn (h.rd.low.lens gl[k]) h.blen;have c:=h.rd.low.come gl[k] hv b h.blen (h.blow gl[k] (List.getElem_mem hk) hv);have f:=L8 (h.rd.low.lens gl[k]) (Mb (h.rd.low.lens gl[k]) h.blen) g;have m:=Nv Z.m X gl[k] (Bc (Aj X gl[k]) b) a;by_cases he:Bc (Aj X gl[k]) b=Aj X gl[k]
 ·have n:X.set gl[k] (Bc (Aj X gl[k]) b)=X:=by rw[he];exact Y4 X _ a
  have d:(ag || decide (Bc (Aj X gl[k]) b≠Aj X gl[k]))=ag:=by simp[he]
  rw[n,d];refine⟨h.rd,h.blow,h.blen,h.bstk,fun ha=>⟨(h.all ha).1,fun j hj hjk hjn => ?_⟩⟩;by_cases e:j=k
  ·subst e;rw[he]at l;exact l
  ·exact(h.all ha).2 j hj (by omega) hjn
 ·have o:=f.2 (fun e=>he e.symm);have d:(ag || decide (Bc (Aj X gl[k]) b≠Aj X gl[k]))=true:=by simp[he]
  rw[d];refine⟨⟨c,fun u => ?_, ?_, ?_,fun _ => ?_,fun ha=>by simp at ha⟩,h.blow,h.blen,h.bstk,fun ha=>by simp at ha⟩
  ·rw[Ez _ _ _ _ a];by_cases e:u=gl[k]
   ·rw[if_pos e];exact Yq (h.rd.stk _) h.bstk
   ·rw[if_neg e];exact h.rd.stk u
  ·rw[Ez _ _ _ _ a];by_cases e:0=gl[k]
   ·rw[if_pos e,<- e];rw[<- e]at g;exact h.rd.first.trans g
   ·rw[if_neg e];exact h.rd.first
  ·have:=h.rd.sum;omega
  ·have:=h.rd.sum;omega
theorem Jn.skip {Z:Dd} {X0 X:List Ao} {ag:Bool} {i:Nat} {b:Ao} {gl:List Nat} {k:Nat} (h:Jn Z X0 X ag i b gl k) (hk:k < gl.length) (hv:¬ gl[k] < Z.n):Jn Z X0 X ag i b gl (k+1) :=
 ⟨h.rd,h.blow,h.blen,h.bstk,fun ha=>⟨(h.all ha).1,fun j hj hjk hjn=>by
  by_cases e:j=k
  ·subst e;exact(hv hjn).elim
  ·exact(h.all ha).2 j hj (by omega) hjn⟩⟩
theorem Jn.done {Z:Dd} {X0 X:List Ao} {ag:Bool} {i:Nat} {b:Ao} {k:Nat} (h:Jn Z X0 X ag i b (Z.goes i) k) (hk:(Z.goes i).length<=k):Hm Z X0 X ag (i+1) :=
 ⟨h.rd.low,h.rd.stk,h.rd.first,h.rd.sum,h.rd.more,fun ha=>⟨(h.rd.same ha).1,fun u hu hn v hv hvn=>by
  by_cases e:u=i
  ·subst e
   rw[<- (h.all ha).1 hn]
   obtain⟨j,a,rfl⟩:=List.getElem_of_mem hv
   exact(h.all ha).2 j a (by omega) hvn
  ·exact(h.rd.same ha).2 u (by omega) hn v hv hvn⟩⟩
theorem Hm.none {Z:Dd} {X0 X:List Ao} {ag:Bool} {i:Nat} (h:Hm Z X0 X ag i) (hn:Aj X i = .none):Hm Z X0 X ag (i+1) :=
 ⟨h.low,h.stk,h.first,h.sum,h.more,fun ha=>⟨(h.same ha).1,fun u hu hx v hv hvn=>by
  by_cases e:u=i
  ·subst e;exact(hx hn).elim
  ·exact(h.same ha).2 u (by omega) hx v hv hvn⟩⟩
theorem Hm.fix {Z:Dd} {X0 X:List Ao} {i:Nat} (h:Hm Z X0 X false i) (hi:Z.n<=i):I5 Z X :=
 ⟨h.low.size,fun u hu hn v hv hvn=>(h.same rfl).2 u (by omega) hn v hv hvn,fun _=>h.first⟩
theorem Hm.again {Z:Dd} {X0 X:List Ao} {ag:Bool} {i:Nat} (h:Hm Z X0 X ag i):Hm Z X X false 0 :=
 ⟨h.low,h.stk,h.first,Nat.le_refl _,fun e=>by simp at e,fun _=>⟨rfl,fun u hu=>by omega⟩⟩
theorem Hm.begin (Z:Dd) (hn:0 < Z.n) (hs:Hj Z.first):Hm Z ((List.replicate Z.n Ao.none).set 0 Z.first) ((List.replicate Z.n Ao.none).set 0 Z.first) false 0:=by
 have d:(List.replicate Z.n Ao.none).length=Z.n:=List.length_replicate;have b:∀ u,Aj (List.replicate Z.n Ao.none) u = .none:=fun u=>by
  unfold Aj;rw[List.getD_eq_getElem?_getD,List.getElem?_replicate];by_cases e:u < Z.n <;> simp[e]
 have a:=(Hh.start Z).come 0 hn Z.first Z.flen (fun Y hY=>hY.first hn)
 have c:Bc (Aj (List.replicate Z.n Ao.none) 0) Z.first=Z.first:=by
  rw[b];cases Z.first <;> rfl
 rw[c]at a;refine⟨a,fun u => ?_, ?_,Nat.le_refl _,fun e=>by simp at e,fun _=>⟨rfl,fun u hu=>by omega⟩⟩
 ·rw[Ez _ _ _ _ (by omega)];by_cases e:u=0
  ·rw[if_pos e];exact hs
  ·rw[if_neg e,b];trivial
 ·rw[Ez _ _ _ _ (by omega),if_pos rfl];exact C8.refl _
theorem Hm.top {Z:Dd} {X0 X:List Ao} {ag:Bool} {i:Nat} (h:Hm Z X0 X ag i):Ic Z.m X<=Z.n * (Z.m+2):=by
 have:=Oz Z.m X h.low.lens;rw[h.low.size]at this;exact this
theorem Ba.off {B:Nat} {W:World} {st:Int} {sv kv:Value} {g:Nat} {cur:Array Value} {fr:Nat × Nat} (hg:W.heap[g]? = some (.cells cur 126 fr)):∀ {sh:Ao},Ba B W (Ah st sv kv) sh->∀ k,(sv.ownBlock=some k\/kv.ownBlock=some k)->k≠g
 | .none,h,k,c=>by
  have b:Ah st sv kv=Ah 0 (.slice none 0 0) (.slice none 0 0):=h
  unfold Ah at b
  injection b with b
  simp at b
  obtain⟨_,rfl,rfl⟩:=b
  simp[Value.ownBlock]at c
 | .clash,h,k,c=>by
  have b:Ah st sv kv=Ah 2 (.slice none 0 0) (.slice none 0 0):=h
  unfold Ah at b
  injection b with b
  simp at b
  obtain⟨_,rfl,rfl⟩:=b
  simp[Value.ownBlock]at c
 | .known s l,h,k,c=>by
  obtain⟨p,q,n,o,e,_,_,_,_,j,m⟩:=h
  unfold Ah at e
  injection e with e
  simp at e
  obtain⟨_,rfl,rfl⟩:=e
  intro f
  subst f
  rcases c with c|c
  ·obtain⟨_,d,i,a⟩:=j _ c
   rw[hg]at a
   injection a with a;injection a with _ a;exact absurd a (by decide)
  ·obtain⟨_,d,i,a⟩:=m _ c
   rw[hg]at a
   injection a with a;injection a with _ a;exact absurd a (by decide)
structure Cm (g:Nat) (W:World) (X:List Ao):Prop where
 row:∃ cur,W.heap[g]? = some (.cells cur 126)/\cur.size=X.length * 3
 each:∀ u (hu:u < X.length),∃ st sa sl sc ka kl kc,W.cell? ⟨g,u * 3,none⟩=some (.int .i64 st)/\W.cell? ⟨g,u * 3+1,none⟩=some (.slice sa sl sc)/\W.cell? ⟨g,u * 3+2,none⟩=some (.slice ka kl kc)/\Ba W.heap.size W (Ah st (.slice sa sl sc) (.slice ka kl kc)) X[u]
theorem Cm.lt {g:Nat} {W:World} {X:List Ao} (h:Cm g W X):g < W.heap.size:=by
 obtain⟨a,b,_⟩:=h.row;exact(Array.getElem?_eq_some_iff.1 b).1
theorem Cm.below {g:Nat} {W W':World} {X:List Ao} (h:Cm g W X) (hb:Below W.heap.size W W'):Cm g W' X:=by
 have a:=h.lt;refine⟨?_,fun u hu => ?_⟩
 ·obtain⟨b,c,d⟩:=h.row;exact⟨b,(hb.block g a).trans c,d⟩
 ·obtain⟨q,m,o,n,j,l,k,c,d,f,i⟩:=h.each u hu;exact⟨q,m,o,n,j,l,k,(hb.cell (p:=⟨g,u * 3,none⟩) a).trans c,(hb.cell (p:=⟨g,u * 3+1,none⟩) a).trans d,(hb.cell (p:=⟨g,u * 3+2,none⟩) a).trans f,(i.below hb).mono hb.size⟩
theorem Cm.froz {g:Nat} {W:World} {X:List Ao} (h:Cm g W X) (j:Nat):W.frozen? ⟨g,j,none⟩=false:=by
 obtain⟨a,b,_⟩:=h.row;simp[World.frozen?,b]
def Ev (W:World) (g v:Nat) (a b c:Value):World:=((W.setCell ⟨g,v * 3,none⟩ a).setCell ⟨g,v * 3+1,none⟩ b).setCell ⟨g,v * 3+2,none⟩ c
theorem Cm.store {g:Nat} {W:World} {X:List Ao} (h:Cm g W X) (v:Nat) (hv:v < X.length) {sh:Ao} {st:Int} {sa ka:Option Addr} {sl sc kl kc:Nat} (hs:Ba W.heap.size W (Ah st (.slice sa sl sc) (.slice ka kl kc)) sh):Cm g (Ev W g v (.int .i64 st) (.slice sa sl sc) (.slice ka kl kc)) (X.set v sh):=by
 obtain⟨l,f,A⟩:=h.row;have d:(Ev W g v (.int .i64 st) (.slice sa sl sc) (.slice ka kl kc)).heap[g]? = some (.cells (((l.setIfInBounds (v * 3) (.int .i64 st)).setIfInBounds (v * 3+1) (.slice sa sl sc)).setIfInBounds (v * 3+2) (.slice ka kl kc)) 126) :=
  heap_setCell_same _ _ _ _ _ _ (heap_setCell_same _ _ _ _ _ _ (heap_setCell_same _ _ _ _ _ _ f))
 have B:∀ k,k≠g->(Ev W g v (.int .i64 st) (.slice sa sl sc) (.slice ka kl kc)).heap[k]? = W.heap[k]?:=fun k hk=>by
  unfold Ev;rw[Below.heap_setCell _ _ _ _ (by exact hk),Below.heap_setCell _ _ _ _ (by exact hk),Below.heap_setCell _ _ _ _ (by exact hk)]
 have m:(Ev W g v (.int .i64 st) (.slice sa sl sc) (.slice ka kl kc)).heap.size=W.heap.size:=by simp[Ev]
 have i:∀ {a:Int} {b c:Value} {s2:Ao},Ba W.heap.size W (Ah a b c) s2->Ba (Ev W g v (.int .i64 st) (.slice sa sl sc) (.slice ka kl kc)).heap.size (Ev W g v (.int .i64 st) (.slice sa sl sc) (.slice ka kl kc)) (Ah a b c) s2:=fun {a b c s2} hx=>by
  refine hx.keep (Nat.le_of_eq m.symm) (fun j sv' kv' e k hk=>B k ?_);unfold Ah at e;injection e with e;simp at e;obtain⟨_,rfl,rfl⟩:=e;exact Ba.off f hx k hk
 refine⟨⟨_,d,by simp[A]⟩,fun u hu => ?_⟩;rw[List.length_set]at hu;by_cases e:u=v
 ·subst e;refine⟨st,sa,sl,sc,ka,kl,kc, ?_, ?_, ?_, ?_⟩
  ·rw[Lib.cell_of_heap d];simp[Array.getElem?_setIfInBounds];omega
  ·rw[Lib.cell_of_heap d];simp[Array.getElem?_setIfInBounds];omega
  ·rw[Lib.cell_of_heap d];simp[Array.getElem?_setIfInBounds];omega
  ·rw[List.getElem_set_self];exact i hs
 ·obtain⟨j,q,s,r,n,p,o,t,x,y,z⟩:=h.each u hu;refine⟨j,q,s,r,n,p,o, ?_, ?_, ?_, ?_⟩
  ·rw[<- t,Lib.cell_of_heap d,Lib.cell_of_heap f,Array.getElem?_setIfInBounds_ne (by omega),Array.getElem?_setIfInBounds_ne (by omega),Array.getElem?_setIfInBounds_ne (by omega)]
  ·rw[<- x,Lib.cell_of_heap d,Lib.cell_of_heap f,Array.getElem?_setIfInBounds_ne (by omega),Array.getElem?_setIfInBounds_ne (by omega),Array.getElem?_setIfInBounds_ne (by omega)]
  ·rw[<- y,Lib.cell_of_heap d,Lib.cell_of_heap f,Array.getElem?_setIfInBounds_ne (by omega),Array.getElem?_setIfInBounds_ne (by omega),Array.getElem?_setIfInBounds_ne (by omega)]
  ·rw[List.getElem_set_ne (fun h=>e h.symm)];exact i z
theorem Nq (n u j:Nat) (hu:u < n) (hj:j < 3):(madeCells (Value.agg #[.int .i64 0,.slice none 0 0,.slice none 0 0]).cells (n * 3))[u * 3+j]? = (#[Value.int .i64 0,.slice none 0 0,.slice none 0 0]:Array Value)[j]?:=by
 have b:u * 3+j < n * 3:=by omega
 have c:(u * 3+j) % 3=j:=by omega
 have d:(Value.agg #[.int .i64 0,.slice none 0 0,.slice none 0 0]).cells = #[Value.int .i64 0,.slice none 0 0,.slice none 0 0]:=rfl;rw[d];unfold madeCells;simp only[Array.getElem?_map,List.size_toArray,List.length_cons,List.length_nil];rw[Array.getElem?_eq_getElem (by simpa using b)];simp only[Array.getElem_range,Option.map_some,c];have a:j=0\/j=1\/j=2:=by omega
 rcases a with rfl|rfl|rfl <;> rfl
theorem Cm.made {W:World} {B g n:Nat} (h:W.ownsRow B 126 3 (.slice (some ⟨g,0,none⟩) n n) n (madeCells (Value.agg #[.int .i64 0,.slice none 0 0,.slice none 0 0]).cells (n * 3)).toList):Cm g W (List.replicate n .none):=by
 rcases h.2 with⟨d,_⟩|⟨o,i,c,d,p,k,m,l,f,b⟩
 ·simp at d
 ·injection d with e1 e2 e3;injection e1 with e1;injection e1 with e1
  subst e1 e3;have a:∀ j,j < n * 3->W.cell? ⟨g,j,none⟩=(madeCells (Value.agg #[.int .i64 0,.slice none 0 0,.slice none 0 0]).cells (n * 3))[j]?:=fun j hj=>by
   rw[Lib.cell_of_heap k,<- Array.getElem?_toList,<- Array.getElem?_toList,<- b,List.getElem?_take_of_lt hj]
  refine⟨⟨c,k,by rw[List.length_replicate,f]⟩,fun u hu => ?_⟩;rw[List.length_replicate]at hu;refine⟨0,none,0,0,none,0,0, ?_, ?_, ?_, ?_⟩
  ·have:=a (u * 3+0) (by omega);rw[Nq n u 0 hu (by omega)]at this;exact this
  ·rw[a (u * 3+1) (by omega),Nq n u 1 hu (by omega)];rfl
  ·rw[a (u * 3+2) (by omega),Nq n u 2 hu (by omega)];rfl
  ·rw[List.getElem_replicate];rfl
theorem Ab.uniq {B C:Nat} {W:World} {v:Value} {a b:List Int} (h:Ab B W v a) (k:Ab C W v b):a=b:=by
 obtain⟨x,p,rfl,l⟩:=h;obtain⟨y,q,e,m⟩:=k;injection e with e1 e2 e3;subst e1;refine List.ext_getElem e2 (fun i i1 i2 => ?_);obtain⟨g,o,j,_,f⟩:=l i i1;obtain⟨n,r,d,_,c⟩:=m i i2;rw[j]at d;injection d with d;injection d with f3 f4
 subst f3 f4;rw[f]at c;injection c with c;injection c
theorem D6 {a b:Int} {p q r s:Value} (h:Ah a p q=Ah b r s):a=b/\p=r/\q=s:=by
 unfold Ah at h;injection h with h;simp at h;exact h
theorem Ba.uniq {B C:Nat} {W:World} {v:Value}:∀ {a b:Ao},Ba B W v a->Ba C W v b->a=b
 | .none,.none,_,_=>rfl
 | .clash,.clash,_,_=>rfl
 | .none,.clash,h,k=>by
  have d:v=_:=h
  have c:v=_:=k
  rw[d]at c
  exact absurd (D6 c).1 (by decide)
 | .clash,.none,h,k=>by
  have d:v=_:=h
  have c:v=_:=k
  rw[d]at c
  exact absurd (D6 c).1 (by decide)
 | .none,.known _ _,h,k=>by
  have d:v=_:=h
  obtain⟨l,m,i,j,c,_⟩:=k
  rw[d]at c
  exact absurd (D6 c).1 (by decide)
 | .clash,.known _ _,h,k=>by
  have d:v=_:=h
  obtain⟨l,m,i,j,c,_⟩:=k
  rw[d]at c
  exact absurd (D6 c).1 (by decide)
 | .known _ _,.none,k,h=>by
  have d:v=_:=h
  obtain⟨l,m,i,j,c,_⟩:=k
  rw[d]at c
  exact absurd (D6 c).1 (by decide)
 | .known _ _,.clash,k,h=>by
  have d:v=_:=h
  obtain⟨l,m,i,j,c,_⟩:=k
  rw[d]at c
  exact absurd (D6 c).1 (by decide)
 | .known s k,.known s' c,h,d=>by
  obtain⟨l,m,i,j,e,_,_,q,r,_,_⟩:=h
  obtain⟨x,y,t,u,n,_,_,f,g,_,_⟩:=d
  rw[e]at n
  obtain⟨_,o,p⟩:=D6 n
  rw[<- o]at f
  rw[<- p]at g
  rw[q.uniq f,r.uniq g]
theorem Cm.uniq {g:Nat} {W:World} {X Y:List Ao} (h:Cm g W X) (k:Cm g W Y):X=Y:=by
 obtain⟨x,n,z⟩:=h.row;obtain⟨y,b,A⟩:=k.row;rw[n]at b;injection b with b;injection b with b
 subst b;refine List.ext_getElem (by omega) (fun u u1 u2 => ?_);obtain⟨H,E,G,F,B,D,C,i,j,l,m⟩:=h.each u u1;obtain⟨v,r,t,s,o,q,p,a,c,d,f⟩:=k.each u u2;rw[i]at a;rw[j]at c;rw[l]at d;injection a with a;injection a with _ a
 injection c with c;injection d with d;rw[<- a,<- c,<- d]at f;exact m.uniq f
theorem Cm.eps {g:Nat} {W:World} {X:List Ao} (h:Cm g W X):Classical.epsilon (fun Y=>Cm g W Y)=X:=(Classical.epsilon_spec (p:=fun Y=>Cm g W Y) ⟨X,h⟩).uniq h
structure Ho (w:World) (cC fC:Array Value) (X:List Ao) (W:World):Prop where
 since:Below w.heap.size w W
 cod:W.heap[w.heap.size]? = some (.cells cC 59)
 fnb:W.heap[w.heap.size+1]? = some (.cells fC 130)
 shs:Cm (w.heap.size+2) W X
theorem Ho.below {w:World} {cC fC:Array Value} {X:List Ao} {W W':World} (h:Ho w cC fC X W) (hb:Below W.heap.size W W'):Ho w cC fC X W':=by
 have a:=h.shs.lt;exact⟨h.since.trans (hb.mono h.since.size),(hb.block _ (by omega)).trans h.cod,(hb.block _ (by omega)).trans h.fnb,h.shs.below hb⟩
theorem Ho.alloc {w:World} {cC fC:Array Value} {X:List Ao} {W:World} (h:Ho w cC fC X W) (o:Obj):Ho w cC fC X (W.alloc o):=h.below (Au W o)
theorem Ho.set {w:World} {cC fC:Array Value} {X:List Ao} {W:World} (h:Ho w cC fC X W) (O i:Nat) (v:Value) (hO:w.heap.size+2 < O) (hty:∃ a,W.heap[O]? = some (.cells a 126)):Ho w cC fC X (W.setCell ⟨O,i,none⟩ v):=by
 obtain⟨l,d⟩:=hty;have b:∀ g,g≠O->(W.setCell ⟨O,i,none⟩ v).heap[g]? = W.heap[g]?:=fun g hg=>Below.heap_setCell _ _ _ _ (by exact hg)
 refine⟨h.since.setCell (p:=⟨O,i,none⟩) (by show w.heap.size<=O;omega) v,(b _ (by omega)).trans h.cod,(b _ (by omega)).trans h.fnb, ?_,fun u hu => ?_⟩
 ·obtain⟨a,q,r⟩:=h.shs.row;exact⟨a,(b _ (by omega)).trans q,r⟩
 ·obtain⟨B,y,A,z,s,x,t,m,n,o,f⟩:=h.shs.each u hu;have c:∀ j,(W.setCell ⟨O,i,none⟩ v).cell? ⟨w.heap.size+2,j,none⟩=W.cell? ⟨w.heap.size+2,j,none⟩:=fun j=>World.cell?_of_block (b _ (by show w.heap.size+2≠O;omega))
  refine⟨B,y,A,z,s,x,t,(c _).trans m,(c _).trans n,(c _).trans o,f.keep (by simp) (fun st' sv' kv' e k hk2=>b k ?_)⟩;obtain⟨_,rfl,rfl⟩:=D6 e;exact Ba.off d f k hk2
theorem Ho.store {w:World} {cC fC:Array Value} {X:List Ao} {W:World} (h:Ho w cC fC X W) (v:Nat) (hv:v < X.length) {sh:Ao} {st:Int} {sa ka:Option Addr} {sl sc kl kc:Nat} (hs:Ba W.heap.size W (Ah st (.slice sa sl sc) (.slice ka kl kc)) sh):Ho w cC fC (X.set v sh) (Ev W (w.heap.size+2) v (.int .i64 st) (.slice sa sl sc) (.slice ka kl kc)):=by
 have a:∀ g,g≠w.heap.size+2->(Ev W (w.heap.size+2) v (.int .i64 st) (.slice sa sl sc) (.slice ka kl kc)).heap[g]? = W.heap[g]?:=fun g hg=>by
  unfold Ev;rw[Below.heap_setCell _ _ _ _ (by exact hg),Below.heap_setCell _ _ _ _ (by exact hg),Below.heap_setCell _ _ _ _ (by exact hg)]
 refine⟨?_,(a _ (by omega)).trans h.cod,(a _ (by omega)).trans h.fnb,h.shs.store v hv hs⟩;unfold Ev;exact Ad (Ad (Ad h.since 2 _ _) 2 _ _) 2 _ _
theorem Hy {X:List Ao} {u:Nat} (hu:u < X.length):Aj X u=X[u]:=by
 unfold Aj;rw[List.getD_eq_getElem?_getD,List.getElem?_eq_getElem hu];rfl
theorem Ba.state {B:Nat} {W:World} {st:Int} {sv kv:Value}:∀ {sh:Ao},Ba B W (Ah st sv kv) sh->(st=0 ↔ sh = .none)/\(st=2 ↔ sh = .clash)
 | .none,h=>by
  have e:=(D6 (show Ah st sv kv=_ from h)).1
  subst e;simp
 | .clash,h=>by
  have e:=(D6 (show Ah st sv kv=_ from h)).1
  subst e;simp
 | .known s k,h=>by
  obtain⟨c,d,a,b,e,_⟩:=h
  have e:=(D6 e).1
  subst e;simp
theorem Dm (f:Ae) (h:(f.params.length:Int)<=f.slots):(Bz f).length=f.slots.toNat:=by
 unfold Bz;rw[List.length_append,List.length_replicate];omega
theorem Pv (i:Ay) (at':Nat) (hat:at'<=1048576) (ha:i.op=10\/i.op=11->0<=i.a) (w:World) :
  Calls Tryz.prog 112 #[Ak i,.int .i64 (at':Int)] w fun e w' => ∃ n cap,e = .returned (.slice (some ⟨w.heap.size+1,0,none⟩) n cap)/\Ab w'.heap.size w' (.slice (some ⟨w.heap.size+1,0,none⟩) n cap) (Cn (A5 i at'))/\Below w.heap.size w w'/\w.heap.size+1 < w'.heap.size:=by
 obtain⟨b,a,n,c⟩:=i;simp only at ha;unfold Ak;have f:wrap64 ((at':Int)+1)=(at':Int)+1:=IntWalk.wrap64_in _ (by omega);by_cases h12:b=12
 ·subst h12;go_enter Tryz.func112,Tryz.ntmps112;go_wp2_with fail;go_ret;exact⟨0,0,rfl,Ab.two w _ [] _ _,Jc w _ _,by simp⟩
 ·by_cases h13:b=13
  ·subst h13;go_enter Tryz.func112,Tryz.ntmps112;go_wp2_with fail;go_ret;exact⟨0,0,rfl,Ab.two w _ [] _ _,Jc w _ _,by simp⟩
  ·by_cases h10:b=10
   ·subst h10;obtain⟨k,rfl⟩:∃ k:Nat,a=(k:Int):=⟨a.toNat,by have:=ha (.inl rfl);omega⟩;go_enter Tryz.func112,Tryz.ntmps112;go_wp2_with fail;go_ret;exact⟨1,1,rfl,Ab.two w _ [(k:Int)] _ _,Jc w _ _,by simp⟩
   ·by_cases h11:b=11
    ·subst h11;obtain⟨k,rfl⟩:∃ k:Nat,a=(k:Int):=⟨a.toNat,by have:=ha (.inr rfl);omega⟩;go_enter Tryz.func112,Tryz.ntmps112;go_wp2_with fail;go_ret;exact⟨2,2,rfl,Ab.two w _ [(k:Int),(at':Int)+1] _ _,Jc w _ _,by simp⟩
    ·have g:(b == 12)=false:=(by simp[h12]);have h:(b == 13)=false:=(by simp[h13]);have j:(b == 10)=false:=(by simp[h10]);have l:(b == 11)=false:=(by simp[h11]);have d:Hid (A5 ⟨b,a,n,c⟩ at'=[at'+1]):=(by rw[Hid,A5];simp[h12,h13,h10,h11]);rw[d.out];clear h12 h13 h10 h11 d ha;go_enter Tryz.func112,Tryz.ntmps112;go_wp2_with fail;go_ret;exact⟨1,1,rfl,Ab.two w _ [(at':Int)+1] _ _,Jc w _ _,by simp⟩
structure Gi (w:World) (cC fC:Array Value) (Z:Dd) (X X3:List Ao) (ag:Bool) (i:Nat) (b:Ao) (gl:List Nat) (k:Nat) (Os Og:Nat) (so go:Obj) (bv:Value) (W:World):Prop where
 sl:Ho w cC fC X3 W
 rk:Jn Z X X3 ag i b gl k
 os:W.heap[Os]? = some so
 og:W.heap[Og]? = some go
 sb:Ba W.heap.size W bv b
theorem Gi.below {w:World} {cC fC:Array Value} {Z:Dd} {X X3:List Ao} {ag:Bool} {i:Nat} {b:Ao} {gl:List Nat} {k Os Og:Nat} {so go:Obj} {bv:Value} {W W':World} (h:Gi w cC fC Z X X3 ag i b gl k Os Og so go bv W) (hb:Below W.heap.size W W'):Gi w cC fC Z X X3 ag i b gl k Os Og so go bv W' :=
 ⟨h.sl.below hb,h.rk,(hb.block _ (Array.getElem?_eq_some_iff.1 h.os).1).trans h.os,(hb.block _ (Array.getElem?_eq_some_iff.1 h.og).1).trans h.og,(h.sb.below hb).mono hb.size⟩
theorem Gi.skip {w:World} {cC fC:Array Value} {Z:Dd} {X X3:List Ao} {ag:Bool} {i:Nat} {b:Ao} {gl:List Nat} {k Os Og:Nat} {so go:Obj} {bv:Value} {W:World} (h:Gi w cC fC Z X X3 ag i b gl k Os Og so go bv W) (hk:k < gl.length) (hv:¬ gl[k] < Z.n):Gi w cC fC Z X X3 ag i b gl (k+1) Os Og so go bv W :=
 ⟨h.sl,h.rk.skip hk hv,h.os,h.og,h.sb⟩
theorem Gi.set {w:World} {cC fC:Array Value} {Z:Dd} {X X3:List Ao} {ag:Bool} {i:Nat} {b:Ao} {gl:List Nat} {k Os Og:Nat} {so go:Obj} {bv:Value} {W:World} (h:Gi w cC fC Z X X3 ag i b gl k Os Og so go bv W) (O j:Nat) (v:Value) (hO:w.heap.size+2 < O) (hs:O≠Os) (hg:O≠Og) (hty:∃ a,W.heap[O]? = some (.cells a 126)):Gi w cC fC Z X X3 ag i b gl k Os Og so go bv (W.setCell ⟨O,j,none⟩ v):=by
 refine⟨h.sl.set O j v hO hty,h.rk,(Below.heap_setCell _ _ _ _ (by show Os≠O;exact fun e=>hs e.symm)).trans h.os,(Below.heap_setCell _ _ _ _ (by show Og≠O;exact fun e=>hg e.symm)).trans h.og,h.sb.keep (by simp) (fun st sv kv e k hk=>Below.heap_setCell _ _ _ _ ?_)⟩;obtain⟨a,d⟩:=hty;have c:=h.sb;rw[e]at c;exact Ba.off d c k hk
theorem Gi.step {w:World} {cC fC:Array Value} {Z:Dd} {X X3:List Ao} {ag:Bool} {i:Nat} {b:Ao} {gl:List Nat} {k Os Og:Nat} {so go:Obj} {bv:Value} {W:World} (h:Gi w cC fC Z X X3 ag i b gl k Os Og so go bv W) (hk:k < gl.length) (hv:gl[k] < Z.n) (hOs:w.heap.size+2 < Os) (hOg:w.heap.size+2 < Og) {st:Int} {sa ka:Option Addr} {sl sc kl kc:Nat} (hs:Ba W.heap.size W (Ah st (.slice sa sl sc) (.slice ka kl kc)) (Bc (Aj X3 gl[k]) b)):Gi w cC fC Z X (X3.set gl[k] (Bc (Aj X3 gl[k]) b)) (ag || decide (Bc (Aj X3 gl[k]) b≠Aj X3 gl[k])) i b gl (k+1) Os Og so go bv (Ev W (w.heap.size+2) gl[k] (.int .i64 st) (.slice sa sl sc) (.slice ka kl kc)):=by
 have j:gl[k] < X3.length:=by rw[h.rk.rd.low.size];exact hv
 have c:∀ g,g≠w.heap.size+2->(Ev W (w.heap.size+2) gl[k] (.int .i64 st) (.slice sa sl sc) (.slice ka kl kc)).heap[g]? = W.heap[g]?:=fun g hg=>by
  unfold Ev;rw[Below.heap_setCell _ _ _ _ (by exact hg),Below.heap_setCell _ _ _ _ (by exact hg),Below.heap_setCell _ _ _ _ (by exact hg)]
 refine⟨h.sl.store gl[k] j hs,h.rk.step hk hv,(c _ (by omega)).trans h.os,(c _ (by omega)).trans h.og,h.sb.keep (by simp[Ev]) (fun st sv kv e k hk=>c k ?_)⟩;obtain⟨d,f,_⟩:=h.sl.shs.row;have a:=h.sb;rw[e]at a;exact Ba.off f a k hk
end Go.Proofs.YtahibkjkpmdhgaaGreatDoor
