import Derived.Test.YtjlaedokfbcbpaaGreatDoorKQaH
set_option maxRecDepth 100000
set_option maxHeartbeats 4000000
namespace Go.Proofs.YtjlaedokfbcbpaaGreatDoor
open Go.RowKit Proofs.Tryz
variable {ts:List (Ab × Nat)} {g:Nat} {a:Option Addr} {c E i j:Nat} {w W W2:World}
def Qmr (ts:List (Ab × Nat)) (g:Nat) (a:Option Addr) (c E:Nat) (p:List Aa × Nat) (w:World) (e:Ending) (w':World):Prop := ∃ v0 v1 v2,e = .returned (.agg #[v0,v1,v2])/\Ck w.heap.size w' (Co 12 0 0 [] p.1) (.iface 205 (.agg #[v0,v1,v2]))/\B2 ts g a c E p.2 w w'
def Qbp (ts:List (Ab × Nat)) (g:Nat) (a:Option Addr) (c E n:Nat):Prop := ∀ (i:Nat) (w:World) (r:List Aa × Nat),L3 ts n i=some (.ok r)->Eg g w->Cz ts g a c E i w ->
 Calls prog 156 #[.pointer (some (OK g 0))] w (Qmr ts g a c E r w)
structure Pz (ts:List (Ab × Nat)) (g:Nat) (a:Option Addr) (c E:Nat) (w:World) (b:Nat) (p:Nat) (W:World) (t:Aa) (u:Value) (l:List Aa) (S o:Value):Prop where
 T:B2 ts g a c E p w W
 res:W.heap[w.heap.size]? = some (.cells #[.nilIface,.slice none 0 0,.nilIface] 205)
 var:W.heap[b]? = some (.cells #[u,S,o] 205)
 gw:g < w.heap.size
 bw:w.heap.size < b
 R1:Ba (fun x=>w.heap.size < x/\x < b) W t u
 R2:Ba (fun x=>w.heap.size < x/\x < b) W (Co 21 0 0 [] l) (.iface 51 (.agg #[S]))
variable {b p p2:Nat} {t:Aa} {u S o v0 v1 v2:Value} {l:List Aa}
theorem Pz.to (h:Pz ts g a c E w b p W t u l S o) (hT:B2 ts g a c E p2 W W2):Pz ts g a c E w b p2 W2 t u l S o:=by
 have k:=h.gw;have j:=h.bw;have f:=(Array.getElem?_eq_some_iff.1 h.res).1;have i:=(Array.getElem?_eq_some_iff.1 h.var).1;have d:∀ x,w.heap.size < x/\x < b->W2.heap[x]? = W.heap[x]?:=fun x hx=>hT.2.keep _ OC OC
 exact⟨h.T.to hT,(hT.2.keep _ f OC).trans h.res,(hT.2.keep _ i OC).trans h.var,k,j,Ba.below (fun _ h=>h) d _ _ h.R1,Ba.below (fun _ h=>h) d _ _ h.R2⟩
theorem Pz.cells (h:Pz ts g a c E w b p W t u l S o):(W.cell? (OK w.heap.size 0)=some .nilIface/\W.cell? (OK w.heap.size 1)=some (.slice none 0 0)/\W.cell? (OK w.heap.size 2)=some .nilIface)/\(W.cell? (OK b 0)=some u/\W.cell? (OK b 1)=some S/\W.cell? (OK b 2)=some o)/\(∀ k,W.frozen? (OK w.heap.size k)=false)/\∀ k,W.frozen? (OK b k)=false:=by
 have d:=h.res;have f:=h.var;refine⟨⟨?_, ?_, ?_⟩,⟨?_, ?_, ?_⟩,fun k => ?_,fun k => ?_⟩
 ·rw[Lib.cell_of_heap d];rfl
 ·rw[Lib.cell_of_heap d];rfl
 ·rw[Lib.cell_of_heap d];rfl
 ·rw[Lib.cell_of_heap f];rfl
 ·rw[Lib.cell_of_heap f];rfl
 ·rw[Lib.cell_of_heap f];rfl
 ·simp[World.frozen?,d]
 ·simp[World.frozen?,f]
theorem Ck.setC {B k:Nat} {t:Aa} {x:Value} (h:Ck B W t x) (hk:k < B) (o:Nat) (v:Value):Ck B (W.setCell (OK k o) v) t x :=
 Ba.below (fun y hy=>⟨hy.1,by simpa[World.setCell]using hy.2⟩) (fun y hy=>Below.heap_setCell _ _ _ _ OJ) _ _ h
theorem Pz.store (h:Pz ts g a c E w b p W t u l S o) (v:Value):Pz ts g a c E w b p (W.setCell (OK b 2) v) t u l S v:=by
 have n:=h.gw;have m:=h.bw;have i:=h.T.1;have f:=h.T.2;have q:=(Array.getElem?_eq_some_iff.1 h.res).1;have d:∀ k,k≠b->(W.setCell (OK b 2) v).heap[k]? = W.heap[k]?:=fun k d=>Below.heap_setCell _ _ _ _ d
 refine⟨⟨⟨(d _ OC).trans i.blk,i.tks.keep fun j hj=>d _ OC,i.le,i.len,i.cap⟩,⟨f.os,f.tape,f.output,by simpa[World.setCell]using f.size,fun j hj hjg=>(d _ OC).trans (f.keep j hj hjg)⟩⟩,(d _ OC).trans h.res, ?_,n,m,Ba.below (fun _ h=>h) (fun x hx=>d x OC) _ _ h.R1,Ba.below (fun _ h=>h) (fun x hx=>d x OC) _ _ h.R2⟩;simp[World.setCell,Array.getElem?_modify,h.var]
theorem Qbs {W:World} {n:Nat} {x0 x1 x2 v0 v1 v2:Value} (r0:W.cell? (OK n 0)=some x0) (r1:W.cell? (OK n 1)=some x1) (r2:W.cell? (OK n 2)=some x2) :
  (((W.setCell (OK n 0) v0).setCell (OK n 1) v1).setCell (OK n 2) v2).cell? (OK n 0)=some v0/\(((W.setCell (OK n 0) v0).setCell (OK n 1) v1).setCell (OK n 2) v2).cell? (OK n 1)=some v1/\(((W.setCell (OK n 0) v0).setCell (OK n 1) v1).setCell (OK n 2) v2).cell? (OK n 2)=some v2:=by
 obtain⟨a,b⟩:=Qhm (v0:=v0) (v1:=v1) r0 r1;refine⟨?_, ?_, ?_⟩
 ·rw[World.cell?_setCell_other _ _ _ _ OF];exact a
 ·rw[World.cell?_setCell_other _ _ _ _ OF];exact b
 ·exact World.cell?_setCell_same _ _ _ (by rw[World.cell?_setCell_other _ _ _ _ OF,World.cell?_setCell_other _ _ _ _ OF];exact r2)
theorem Qo7 {W:World} {n:Nat} {v0 v1 v2:Value} (k:Nat) (hk:k≠n):(((W.setCell (OK n 0) v0).setCell (OK n 1) v1).setCell (OK n 2) v2).heap[k]? = W.heap[k]? :=
 (Below.heap_setCell _ _ _ _ hk).trans ((Below.heap_setCell _ _ _ _ hk).trans (Below.heap_setCell _ _ _ _ hk))
theorem Pz.ret {B:Nat} (h:Pz ts g a c E w b p W t u l S o):Ck w.heap.size (((W.setCell (OK w.heap.size 0) v0).setCell (OK w.heap.size 1) v1).setCell (OK w.heap.size 2) v2) t u/\Ck w.heap.size (((W.setCell (OK w.heap.size 0) v0).setCell (OK w.heap.size 1) v1).setCell (OK w.heap.size 2) v2) (Co 21 0 0 [] l) (.iface 51 (.agg #[S]))/\B2 ts g a c E p w (((W.setCell (OK w.heap.size 0) v0).setCell (OK w.heap.size 1) v1).setCell (OK w.heap.size 2) v2)/\(∀ t2 x2,b < B->Ck B W t2 x2->Ck w.heap.size (((W.setCell (OK w.heap.size 0) v0).setCell (OK w.heap.size 1) v1).setCell (OK w.heap.size 2) v2) t2 x2):=by
 have q:=h.gw;have n:=h.bw;have i:=h.T.1;have f:=h.T.2;have m:=(Array.getElem?_eq_some_iff.1 h.var).1;have k:(((W.setCell (OK w.heap.size 0) v0).setCell (OK w.heap.size 1) v1).setCell (OK w.heap.size 2) v2).heap.size=W.heap.size:=by simp[World.setCell]
 have d:=@Qo7 W w.heap.size v0 v1 v2;refine⟨Ba.below (fun x hx=>⟨by omega,by omega⟩) (fun x hx=>d x OC) _ _ h.R1,Ba.below (fun x hx=>⟨by omega,by omega⟩) (fun x hx=>d x OC) _ _ h.R2,⟨⟨(d _ OC).trans i.blk,i.tks.keep fun j hj=>d _ OC,i.le,i.len,i.cap⟩,⟨f.os,f.tape,f.output,by rw[k];exact f.size,fun j hj hjg=>(d _ OC).trans (f.keep j hj hjg)⟩⟩,fun t2 x2 hB hR=>Ba.below (fun x hx=>⟨by omega,by omega⟩) (fun x hx=>d x OC) _ _ hR⟩
theorem Pz.start {V:World} (hR:V.heap[w.heap.size]? = some (.cells #[.nilIface,.slice none 0 0,.nilIface] 205)) (hT:B2 ts g a c E p w V) (hg:g < w.heap.size) (R1:Ck (w.heap.size+1) V t u) (R2:Ck (w.heap.size+1) V (Co 21 0 0 [] l) (.iface 51 (.agg #[S]))):Pz ts g a c E w V.heap.size p (V.alloc (.cells #[u,S,.nilIface] 205)) t u l S .nilIface:=by
 have b:Below V.heap.size V (V.alloc (.cells #[u,S,.nilIface] 205)):=OP _ _;have d:=(Array.getElem?_eq_some_iff.1 hR).1;exact⟨hT.to ⟨hT.1.below b,Bl.of_below b⟩,(b.block _ d).trans hR,heap_alloc_new _ _,hg,d,Ba.below (fun x hx=>⟨by omega,by omega⟩) (fun x hx=>b.block _ OC) _ _ R1,Ba.below (fun x hx=>⟨by omega,by omega⟩) (fun x hx=>b.block _ OC) _ _ R2⟩
theorem Qnm (hP:Cz ts g a c E p w):∃ V,w.alloc (.cells #[.nilIface,.slice none 0 0,.nilIface] 205)=V/\V.heap[w.heap.size]? = some (.cells #[.nilIface,.slice none 0 0,.nilIface] 205)/\B2 ts g a c E p w V/\w.heap.size+1=V.heap.size :=
 ⟨_,rfl,heap_alloc_new _ _,⟨hP.below (OP _ _),Bl.of_below (OP _ _)⟩,by simp⟩
theorem Qlo {B:Nat} {v:Value} (h:Ck B W t v) (h2:Ck B W (Co 21 0 0 [] l) (.iface 51 (.agg #[S]))):Ck B W (Co 12 0 0 [] [t,Co 21 0 0 [] l]) (.iface 205 (.agg #[v,S,.nilIface])) :=
 Eh ⟨12,0,0,0,Aj [],2⟩ [t,Co 21 0 0 [] l] [v,.iface 51 (.agg #[S])] _ OF OF (.inl ⟨v,S,rfl,rfl⟩) (P5 h h2) OF
theorem Qc5 {B:Nat} {v:Value} {u:Aa} {ty:TypeId} {y:Value} (h:Ck B W t v) (h2:Ck B W (Co 21 0 0 [] l) (.iface 51 (.agg #[S]))) (h3:Ck B W u (.iface ty y)):Ck B W (Co 12 0 0 [] [t,Co 21 0 0 [] l,u]) (.iface 205 (.agg #[v,S,.iface ty y])) :=
 Eh ⟨12,0,0,0,Aj [],3⟩ [t,Co 21 0 0 [] l,u] [v,.iface 51 (.agg #[S]),.iface ty y] _ OF OF (.inr ⟨v,S,ty,y,rfl,rfl⟩) (Qhk h h2 h3) OF
theorem Qld (hG:Gc ts) (n:Nat) (ih:Qbp ts g a c E n) (ihb:Xy ts g a c E n):Qbp ts g a c E (n+1):=by
 intro i w r l J hP;have m:=hP.lt;have q:True:=trivial;have s:True:=trivial;have t:True:=trivial;have I:True:=trivial;obtain⟨V0,P,d,k,Q⟩:=Qnm hP;rw[L3]at l;replace l:=Ai l;obtain⟨x1,h1,l⟩:=l;have K:Hid (∀ W,Eg g W->Cz ts g a c E i W->Calls prog 157 #[.pointer (some (OK g 0))] W (Kw ts g a c E x1 W)):=fun W hb hp=>Ql0 hG n x1 h1 hb hp
 replace l:=Ai l;obtain⟨o,h2,l⟩:=l;have L:Hid (∀ W,Eg g W->Cz ts g a c E x1.2 W->Calls prog 95 #[.pointer (some (OK g 0))] W (Qo ts g a c E o W)):=fun W hb hp=>ihb x1.2 W o h2 hb hp
 cases h3:Bq ts 2 [101,108,115,101] o.2 with
 | false =>
  simp only[h3,Bool.false_eq_true,if_false,Option.some.injEq,Except.ok.injEq]at l;subst l;go_enter func156,ntmps156;go_wp2_with (first|(have _t:=q;go_at_call 157;(try rw[P]);refine(K.out _ (J.fr k.2) k.1).mono ?_;rintro e R ⟨D,y,rfl,h,b⟩;rw[<- Q]at h;replace d:=(b.2.keep _ OC (Nat.ne_of_gt m)).trans d;replace k:=k.to b;clear b;clear q)|(have _t:=s;go_at_call 95;refine(L.out _ (J.fr k.2) k.1).mono ?_;rintro e V2 ⟨F,G,rfl,S,b⟩;have p:w.heap.size < R.heap.size:=(Array.getElem?_eq_some_iff.1 d).1;replace d:=(b.2.keep _ p (Nat.ne_of_gt m)).trans d;replace h:=h.fr b.2 (Nat.lt_of_lt_of_le m (Nat.le_succ _));have z:=Mb (S.mono (C:=w.heap.size+1) p) (Nat.le_trans (G9 h2) (Nat.le_trans b.1.le (Nat.le_trans b.1.len OD)));replace k:=k.to b;clear b;have f:=Pz.start d k m h z;clear s)|(have _t:=t;go_at_call 124;refine(D3 [101,108,115,101] f.T.1).mono ?_;rintro e V ⟨rfl,b⟩;rw[h3]at b |-;replace b:B2 ts g a c E o.2 _ V:=b;replace f:=f.to b;clear b;obtain⟨⟨z0,z1,z2⟩,⟨y0,y1,y2⟩,f0,f1⟩:=f.cells;clear t));obtain⟨T,U,X⟩:=Qbs (v0:=.iface D y) (v1:=.slice F o.1.length G) (v2:=.nilIface) z0 z1 z2;refine bodyPost_ret (v:=.agg #[.iface D y,.slice F o.1.length G,.nilIface]) (by simp[results,results156,go_sem,T,U,X]) rfl ?_;obtain⟨Y,Z,r3,_⟩:=f.ret (B:=0) (v0:=.iface D y) (v1:=.slice F o.1.length G) (v2:=.nilIface);exact⟨_,_,_,rfl,Qlo Y Z,r3⟩
 | true =>
  rw[h3,if_pos rfl]at l;cases h4:Bq ts 2 [105,102] (o.2+1) with
  | true =>
   rw[h4,if_pos rfl]at l;replace l:=Ai l;obtain⟨H,h5,l⟩:=l;have M:Hid (∀ W,Eg g W->Cz ts g a c E (o.2+1+1) W->Calls prog 156 #[.pointer (some (OK g 0))] W (Qmr ts g a c E H W)):=fun W hb hp=>ih (o.2+1+1) W H h5 hb hp
   rw[Option.some.injEq,Except.ok.injEq]at l;subst l;go_enter func156,ntmps156;go_wp2_with (first|(have _t:=q;go_at_call 157;(try rw[P]);refine(K.out _ (J.fr k.2) k.1).mono ?_;rintro e R ⟨D,y,rfl,h,b⟩;rw[<- Q]at h;replace d:=(b.2.keep _ OC (Nat.ne_of_gt m)).trans d;replace k:=k.to b;clear b;clear q)|(have _t:=s;go_at_call 95;refine(L.out _ (J.fr k.2) k.1).mono ?_;rintro e V2 ⟨F,G,rfl,S,b⟩;have p:w.heap.size < R.heap.size:=(Array.getElem?_eq_some_iff.1 d).1;replace d:=(b.2.keep _ p (Nat.ne_of_gt m)).trans d;replace h:=h.fr b.2 (Nat.lt_of_lt_of_le m (Nat.le_succ _));have z:=Mb (S.mono (C:=w.heap.size+1) p) (Nat.le_trans (G9 h2) (Nat.le_trans b.1.le (Nat.le_trans b.1.len OD)));replace k:=k.to b;clear b;have f:=Pz.start d k m h z;clear s)|(have _t:=t;go_at_call 124;refine(D3 [101,108,115,101] f.T.1).mono ?_;rintro e V ⟨rfl,b⟩;rw[h3]at b |-;replace b:B2 ts g a c E (o.2+1) _ V:=b;replace f:=f.to b;clear b;clear t)|(have _t:=I;go_at_call 124;refine(D3 [105,102] f.T.1).mono ?_;rintro e V ⟨rfl,b⟩;rw[h4]at b |-;replace b:B2 ts g a c E (o.2+1+1) _ V:=b;replace f:=f.to b;clear b;clear I)|(go_at_call 156;refine(M.out _ (J.fr f.T.2) f.T.1).mono ?_;rintro e V4 ⟨u0,u1,u2,rfl,N,b⟩;have A:=(Array.getElem?_eq_some_iff.1 f.var).1;replace f:=f.to b;clear b;have x:=f.cells;have u:=f.store (.iface 205 (.agg #[u0,u1,u2]));have O:=N.setC A 2 (.iface 205 (.agg #[u0,u1,u2]));obtain⟨⟨z0,z1,z2⟩,⟨y0,y1,y2⟩,f0,f1⟩:=u.cells;have gb:=x.2.2.2 2;have cb:=x.2.1.2.2));obtain⟨T,U,X⟩:=Qbs (v0:=.iface D y) (v1:=.slice F o.1.length G) (v2:=.iface 205 (.agg #[u0,u1,u2])) z0 z1 z2;refine bodyPost_ret (v:=.agg #[.iface D y,.slice F o.1.length G,.iface 205 (.agg #[u0,u1,u2])]) (by simp[results,results156,go_sem,T,U,X]) rfl ?_;obtain⟨Y,Z,r3,r4⟩:=u.ret (v0:=.iface D y) (v1:=.slice F o.1.length G) (v2:=.iface 205 (.agg #[u0,u1,u2]));exact⟨_,_,_,rfl,Qc5 Y Z (r4 _ _ A O),r3⟩
  | false =>
   rw[h4,if_neg OD]at l;replace l:=Ai l;obtain⟨H,h5,l⟩:=l;have M:Hid (∀ W,Eg g W->Cz ts g a c E (o.2+1) W->Calls prog 95 #[.pointer (some (OK g 0))] W (Qo ts g a c E H W)):=fun W hb hp=>ihb (o.2+1) W H h5 hb hp
   rw[Option.some.injEq,Except.ok.injEq]at l;subst l;go_enter func156,ntmps156;go_wp2_with (first|(have _t:=q;go_at_call 157;(try rw[P]);refine(K.out _ (J.fr k.2) k.1).mono ?_;rintro e R ⟨D,y,rfl,h,b⟩;rw[<- Q]at h;replace d:=(b.2.keep _ OC (Nat.ne_of_gt m)).trans d;replace k:=k.to b;clear b;clear q)|(have _t:=s;go_at_call 95;refine(L.out _ (J.fr k.2) k.1).mono ?_;rintro e V2 ⟨F,G,rfl,S,b⟩;have p:w.heap.size < R.heap.size:=(Array.getElem?_eq_some_iff.1 d).1;replace d:=(b.2.keep _ p (Nat.ne_of_gt m)).trans d;replace h:=h.fr b.2 (Nat.lt_of_lt_of_le m (Nat.le_succ _));have z:=Mb (S.mono (C:=w.heap.size+1) p) (Nat.le_trans (G9 h2) (Nat.le_trans b.1.le (Nat.le_trans b.1.len OD)));replace k:=k.to b;clear b;have f:=Pz.start d k m h z;clear s)|(have _t:=t;go_at_call 124;refine(D3 [101,108,115,101] f.T.1).mono ?_;rintro e V ⟨rfl,b⟩;rw[h3]at b |-;replace b:B2 ts g a c E (o.2+1) _ V:=b;replace f:=f.to b;clear b;clear t)|(have _t:=I;go_at_call 124;refine(D3 [105,102] f.T.1).mono ?_;rintro e V ⟨rfl,b⟩;rw[h4]at b |-;replace b:B2 ts g a c E (o.2+1) _ V:=b;replace f:=f.to b;clear b;clear I)|(go_at_call 95;refine(M.out _ (J.fr f.T.2) f.T.1).mono ?_;rintro e V4 ⟨wa,wc,rfl,aa,b⟩;have N:=Mb aa (Nat.le_trans (G9 h5) (Nat.le_trans b.1.le (Nat.le_trans b.1.len OD)));have A:=(Array.getElem?_eq_some_iff.1 f.var).1;replace f:=f.to b;clear b;have x:=f.cells;have u:=f.store (.iface 51 (.agg #[.slice wa H.1.length wc]));have O:=N.setC A 2 (.iface 51 (.agg #[.slice wa H.1.length wc]));obtain⟨⟨z0,z1,z2⟩,⟨y0,y1,y2⟩,f0,f1⟩:=u.cells;have gb:=x.2.2.2 2;have cb:=x.2.1.2.2));obtain⟨T,U,X⟩:=Qbs (v0:=.iface D y) (v1:=.slice F o.1.length G) (v2:=.iface 51 (.agg #[.slice wa H.1.length wc])) z0 z1 z2;refine bodyPost_ret (v:=.agg #[.iface D y,.slice F o.1.length G,.iface 51 (.agg #[.slice wa H.1.length wc])]) (by simp[results,results156,go_sem,T,U,X]) rfl ?_;obtain⟨Y,Z,r3,r4⟩:=u.ret (v0:=.iface D y) (v1:=.slice F o.1.length G) (v2:=.iface 51 (.agg #[.slice wa H.1.length wc]));exact⟨_,_,_,rfl,Qc5 Y Z (r4 _ _ A O),r3⟩
variable {ts:List (Ab × Nat)} {g:Nat} {a:Option Addr} {c E i j:Nat} {w W W2:World}
theorem Qlv (hG:Gc ts) (n:Nat) (ihi:Qbp ts g a c E n) (ihb:Xy ts g a c E n):Qhc ts g a c E (n+1):=by
 intro i w r f o p;have d:B2 ts g a c E i w w:=⟨p,Bl.refl _ _⟩;have j:=p.lt;have h:=G5 w.heap.size w;have q:=Mc (Xz hG (g:=g) (a:=a) (c:=c) (E:=E) n n ON).rank;rw[Kc]at f;repeat' (first|(replace f:=K6 f;obtain⟨_,f⟩:=f)|(replace f:=P2 f;obtain⟨_,f⟩:=f)|(replace f:=Nb f;obtain⟨_,f⟩:=f)|(replace f:=Ai f;obtain⟨_,_,f⟩:=f)|(split at f)|fail)
 all_goals
  simp only[Option.some.injEq,Except.ok.injEq]at f;subst f;go_enter func129,ntmps129;go_wp2_with (first|(go_at_call 124;(first|refine(Qda _ OG d.1).mono ?_|refine(Qc9 _ OG d.1).mono ?_);rintro e m ⟨rfl,b⟩;replace h:=h.fr b.2 j;replace d:=d.to b;clear b)|(go_at_call 91;refine(Dz _ OG d.1).mono ?_;rintro e m ⟨rfl,b⟩;replace h:=h.fr b.2 j;replace d:=d.to b;clear b)|(go_at_call 157;refine(q _ _ _ OG (o.fr d.2) d.1).mono ?_;rintro e m ⟨s,y,rfl,k,b⟩;replace h:=(h.fr b.2 j).snoc (k.mono d.2.size);replace d:=d.to b;clear b k)|(go_at_call 156;refine(ihi _ _ _ OG (o.fr d.2) d.1).mono ?_;rintro e m ⟨u,v,z,rfl,k,b⟩;replace k:=k.mono d.2.size;replace d:=d.to b;clear b)|(go_at_call 158;refine(Qjv hG n _ OG (o.fr d.2) d.1).mono ?_;rintro e m ⟨u,v,rfl,k,b⟩;replace h:=(h.fr b.2 j).snoc (k.mono d.2.size);replace d:=d.to b;clear b k)|(go_at_call 95;refine(ihb _ _ _ OG (o.fr d.2) d.1).mono ?_;rintro e m ⟨t,x,rfl,l,b⟩;replace l:=l.mono d.2.size;replace h:=h.fr b.2 j;replace d:=d.to b;clear b));go_ret;first|exact⟨_,_,rfl,k,d⟩|exact⟨_,_,rfl,h.one,d⟩|exact⟨_,_,rfl,Qjt h.one l (Nat.le_trans (G9 (ts:=ts) (n:=n) OG) (Nat.le_trans d.1.le (Nat.le_trans d.1.len OD))),d⟩
structure Qqr (ts:List (Ab × Nat)) (g:Nat) (a:Option Addr) (c E n:Nat):Prop where
 blk:Xy ts g a c E n
 ifr:Qbp ts g a c E n
 st:Qhc ts g a c E n
theorem Qpb (hG:Gc ts) (n:Nat):∀ m,m<=n->Qqr ts g a c E m:=by
 induction n with
 | zero =>
  intro m d;obtain rfl:m=0:=OC
  exact⟨fun i w r h=>by simp[Er]at h,fun i w r h=>by simp[L3]at h,fun i w r h=>by simp[Kc]at h⟩
 | succ n ih =>
  intro m d;by_cases e:m<=n
  ·exact ih m e
  obtain rfl:m=n+1:=OC
  have b:=ih n ON;exact⟨Qjh n fun m h=>(ih m h).st,Qld hG n b.ifr b.blk,Qlv hG n b.ifr b.blk⟩
theorem Uy (hG:Gc ts) (n:Nat) (r:List Aa × Nat) (hr:Er ts n i=some (.ok r)) (hB:Eg g w) (hP:Cz ts g a c E i w) :
  Calls prog 95 #[.pointer (some (OK g 0))] w (Qo ts g a c E r w):=(Qpb hG n n ON).blk i w r hr hB hP
variable {ts:List (Ab × Nat)} {g:Nat} {a:Option Addr} {c E i j:Nat} {w W W2:World}
theorem Qc8 (T t e:TypeId) (i:TypeInfo) (z:Value) (size bytes:Nat) (ht:prog.underlying t=some (.slice e)) (hi:prog.info? e=some i) (hz:i.zero=some z) (hsize:i.size=size) (hby:i.bytes=bytes) (hzs:z.cells.size=size) (hs0:0 < size) (hbb:bytes<=1000) {B n vc:Nat} {va:Option Addr} {xs:List Value} (F:W.ownsRow B e size (.slice va n vc) n xs) (cs:List Value) (hcs:cs.length=size) (h1c:∀ u ∈ cs,u.oneCell'=true) (hBW:B<=W.heap.size) (hl:n+1<=1000000) (hgB:g < B) (hgW:g < W.heap.size) :
  ∃ o p w',(Builtin.append_ #[t,t] T #[.slice va n vc,.slice (some (OK W.heap.size 0)) 1 1]).run prog (W.alloc (.cells cs.toArray e)) = .ok (.slice o (n+1) p) w'/\w'.ownsRow B e size (.slice o (n+1) p) (n+1) (xs++cs)/\(W.alloc (.cells cs.toArray e)).grownBy w' (Value.slice va n vc).ownBlock/\((Value.slice o (n+1) p).ownBlock=(Value.slice va n vc).ownBlock\/(Value.slice o (n+1) p).ownBlock=some (W.alloc (.cells cs.toArray e)).heap.size)/\(∀ V,Bl g V W->V.heap.size<=B->Bl g V w')/\(∀ ts a c E i,Cz ts g a c E i W->Cz ts g a c E i w')/\(W.heap.size<=w'.heap.size/\∀ k,k < B->k < W.heap.size->w'.heap[k]? = W.heap[k]?):=by
 have f:Below W.heap.size W (W.alloc (.cells cs.toArray e)):=OP _ _;have v:=K5 F f;have s:Qhb (W.alloc (.cells cs.toArray e)) (some (OK W.heap.size 0)) 1 cs:=fun _=>⟨_,rfl,fun j u hj=>by
  exact Qw W cs.toArray e j _ (by simpa using hj)⟩
 obtain⟨v',w',D,y,m,A⟩:=Ng (P:=prog) (w:=W.alloc (.cells cs.toArray e)) B t T e i z size bytes ht hi hz hsize hby hzs hs0 _ _ _ v (some (OK W.heap.size 0)) 1 1 cs OC s h1c OI (Nat.le_trans (Nat.mul_le_mul hl hbb) OD) OB;obtain⟨o,p,K⟩:=Zp y;rw[K]at y A D;have d:∀ k,k < B->k < W.heap.size->w'.heap[k]? = W.heap[k]?:=fun k hk1 hk2=>by
  exact DdQaEx106
 exact⟨o,p,w',D,y,m,A,fun V hF hV=>⟨(m.os.trans f.os).trans hF.os,(m.tape.trans f.tape).trans hF.tape,(m.output.trans f.output).trans hF.output,Nat.le_trans hF.size (Nat.le_trans f.size m.size),fun k hk1 hk2=>(d k OC (Nat.lt_of_lt_of_le hk1 hF.size)).trans (hF.keep k hk1 hk2)⟩,fun ts a c E i hP=>⟨(d g hgB hgW).trans hP.blk,hP.tks.keep fun k hk=>d k OC OC,hP.le,hP.len,hP.cap⟩,Nat.le_trans f.size m.size,d⟩
theorem Tryz.infoParamP : (prog.info? 94).map (fun i=>(i.zero,i.size,i.bytes))=some (some (.agg #[.string ByteArray.empty,.int .i64 0]),2,24):=OE
def Ud (q:List UInt8 × Nat):Aa:=Lk 22 0 (q.2:Int) 0 q.1
def Qaq (q:List UInt8 × Nat):ByteArray × Int:=(Aj q.1,(q.2:Int))
def Ky (B:Nat) (W:World) (va:Option Addr) (vc:Nat) (qs:List (List UInt8 × Nat)):Prop:=W.ownsRow B 94 2 (.slice va qs.length vc) qs.length (Iu (qs.map Qaq))
theorem Ky.nil (B:Nat) (W:World):Ky B W none 0 []:=⟨rfl,.inl ⟨rfl,rfl⟩⟩
theorem Ky.fr {B:Nat} {va:Option Addr} {vc:Nat} {qs:List (List UInt8 × Nat)} (h:Ky B W va vc qs) (hF:Bl g W W2) (hB:g < B):Ky B W2 va vc qs:=hF.own h hB
theorem Ky.mono {B C:Nat} {va:Option Addr} {vc:Nat} {qs:List (List UInt8 × Nat)} (h:Ky B W va vc qs) (hC:C<=B):Ky C W va vc qs:=Uc h hC
theorem Qfw {ops:Array Oper} {rest:List Oper} {o:Oper} {A:Act} {Q:Exit->Act->World->Prop} (hgd:o.guard=none) (s' y:Operand)
  (ho:o.op = .call { callee:=.builtin .append,args := #[s',y],argTypes := #[48,48] }) {B vc n:Nat} {va:Option Addr} {qs:List (List UInt8 × Nat)} (q:List UInt8 × Nat) {X:ByteArray} {Y:Int} (hX:Aj q.1=X) (hY:(q.2:Int)=Y) (hK:Ky B W va vc qs) (hs:A.eval s' = .slice va n vc) (hn:qs.length=n) (hy:A.eval y = .slice (some (OK W.heap.size 0)) 1 1) (hBW:B<=W.heap.size) (hl:n+1<=1000000) (hgB:g < B) (hgW:g < W.heap.size)
  (h:∀ b d w',Ky B w' b d (qs++[q])->(∀ V,Bl g V W->V.heap.size<=B->Bl g V w')->(∀ ts a c E i,Cz ts g a c E i W->Cz ts g a c E i w')->wpList prog ops Q rest (A.put o.dst (.slice b (n+1) d)) w') :
  wpList prog ops Q (o::rest) A (W.alloc (.cells #[.string X,.int .i64 Y] 94)):=by
 subst hn;subst hX;subst hY;obtain⟨v,f,j,k,l⟩:=info_parts Tryz.infoParamP;obtain⟨b,d,w',t,p,_,_,r,s,x⟩:=Qc8 (g:=g) o.type 48 94 v _ 2 24 underlying48 f j k l rfl OD OD hK [.string (Aj q.1),.int .i64 (q.2:Int)] rfl (by intro u m;simp at m;rcases m with rfl|rfl <;> rfl) hBW hl hgB hgW;refine wpList_plain hgd fun K hK2 => ?_
 unfold Oper.wp execOp;simp only[ho,resolve,invoke,builtin,Sem.run_bind,Sem.run_pure,Result.andThen_ok,List.map_toArray,List.map_cons,List.map_nil,hs,hy,t];refine hK2 _ _ (h b d w' ?_ r s);unfold Ky;rw[List.length_append,List.map_append];simpa[Iu,Qaq]using p
def Qms (ts:List (Ab × Nat)) (g:Nat) (a:Option Addr) (c E:Nat) (p:List Aa × Nat) (w:World) (e:Ending) (w':World):Prop := ∃ va vc,e = .returned (.slice va p.1.length vc)/\(∃ qs,p.1=qs.map Ud/\Ky w.heap.size w' va vc qs)/\B2 ts g a c E p.2 w w'
theorem Qjp (n:Nat) (r:List Aa × Nat) (h:G2 ts n [] i=some (.ok r)) (hB:Eg g w) (hP:Cz ts g a c E i w) :
  Calls prog 93 #[.pointer (some (OK g 0))] w (Qms ts g a c E r w):=by
 have d:B2 ts g a c E i w w:=⟨hP,Bl.refl _ _⟩;have f:=hP.lt;have C:Hid (G2 ts n [] i=some (.ok r)):=h;clear h;go_enter func93,ntmps93;go_wp2_with fail;go_loopw [3,4] (fun ov _ wr => ∃ (m:Nat) (q:List (List UInt8 × Nat)) (p:Nat) (z:Option Addr) (A:Nat),m<=n/\ov = .slice z q.length A/\Ky w.heap.size wr z A q/\B2 ts g a c E p w wr/\G2 ts m (q.map Ud) p=some (.ok r)/\q.length<=p) (fun _ _ wr=>K9 g ts.length wr);case atStart=>exact⟨n,[],_,_,_,Nat.le_refl _,rfl,Ky.nil _ _,d,C.out,by simp⟩
 case round =>
  clear d C;obtain⟨m,q,p,z,A,J,rfl,j,d,h,F⟩:=hrel;obtain⟨m,rfl⟩:∃ m',m=m'+1:=by
   cases m with
   | zero=>simp[G2]at h
   | succ m=>exact⟨m,rfl⟩
  rw[G2]at h;have u:q.length+1<=1000000:=by have:=d.1.le;have:=d.1.len;omega
  have t:q.map Ud++[Lk 22 0 (Da ts (p+1):Int) 0 (B8 ts p)]=(q++[(B8 ts p,Da ts (p+1))]).map Ud:=by simp[Ud]
  have v:Hid (K9 g ts.length wr=ts.length+1 - p):=d.1.left;replace h:=P2 h;obtain⟨G,h⟩:=h;replace h:=Nb h;obtain⟨H,h⟩:=h;by_cases h4:Bq ts 5 [41] (p+1+1)=true
  ·rw[if_pos h4,Option.some.injEq,Except.ok.injEq]at h;subst h;go_wp2_with (first|(go_at_call 90;refine(K7 OG d.1).mono ?_;rintro e s ⟨rfl,b⟩;replace j:=j.fr b.2 f;replace d:=d.to b;clear b)|(go_at_call 94;refine(Mr OG (hB.fr d.2) d.1).mono ?_;rintro e s ⟨rfl,b⟩;replace j:=j.fr b.2 f;replace d:=d.to b;clear b)|(refine Qfw (g:=g) rfl (.tmp 7) (.tmp 12) rfl (B8 ts p,Da ts (p+1)) rfl rfl j rfl rfl rfl d.2.size u f (Nat.lt_of_lt_of_le f d.2.size) ?_;intro x y B l k o;replace j:=l;replace d:B2 ts g a c E (p+1+1) w B:=⟨o _ _ _ _ _ d.1,k _ d.2 ON⟩;clear l k o)|(go_at_call 92;(first|refine(L5 _ OG d.1).mono ?_|refine(L4 _ OG d.1).mono ?_);rintro e s ⟨rfl,b⟩;replace j:=j.fr b.2 f;replace d:=d.to b;clear b)|(go_at_call 91;refine(Dz _ OG d.1).mono ?_;rintro e s ⟨rfl,b⟩;replace j:=j.fr b.2 f;replace d:=d.to b;clear b));go_ret;rw[t];exact⟨x,y,by simp,⟨_,rfl,j⟩,d⟩
  ·rw[if_neg h4]at h;replace h:=K6 h;obtain⟨I,h⟩:=h;rw[t]at h;have D:Hid (G2 ts m ((q++[(B8 ts p,Da ts (p+1))]).map Ud) (p+1+1+1)=some (.ok r)):=h;clear h;go_wp2_with (first|(go_at_call 90;refine(K7 OG d.1).mono ?_;rintro e s ⟨rfl,b⟩;replace j:=j.fr b.2 f;replace d:=d.to b;clear b)|(go_at_call 94;refine(Mr OG (hB.fr d.2) d.1).mono ?_;rintro e s ⟨rfl,b⟩;replace j:=j.fr b.2 f;replace d:=d.to b;clear b)|(refine Qfw (g:=g) rfl (.tmp 7) (.tmp 12) rfl (B8 ts p,Da ts (p+1)) rfl rfl j rfl rfl rfl d.2.size u f (Nat.lt_of_lt_of_le f d.2.size) ?_;intro x y B l k o;replace j:=l;replace d:B2 ts g a c E (p+1+1) w B:=⟨o _ _ _ _ _ d.1,k _ d.2 ON⟩;clear l k o)|(go_at_call 92;(first|refine(L5 _ OG d.1).mono ?_|refine(L4 _ OG d.1).mono ?_);rintro e s ⟨rfl,b⟩;replace j:=j.fr b.2 f;replace d:=d.to b;clear b)|(go_at_call 91;refine(Dz _ OG d.1).mono ?_;rintro e s ⟨rfl,b⟩;replace j:=j.fr b.2 f;replace d:=d.to b;clear b));go_roundw;case rel=>exact⟨m,q++[(B8 ts p,Da ts (p+1))],p+1+1+1,x,y,by omega,by simp,j,d,D.out,by simp;omega⟩
   case measure=>rw[v.out,d.1.left];have:=d.1.le;omega
end Go.Proofs.YtjlaedokfbcbpaaGreatDoor
