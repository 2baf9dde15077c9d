import Derived.Test.YtahibkjkpmdhgaaGreatDoorKVmA
set_option maxRecDepth 100000
set_option maxHeartbeats 4000000
namespace Go.Proofs.YtahibkjkpmdhgaaGreatDoor
open Go.RowKit
theorem Lo {A:Nat} {w:World} {e:TypeId} {N:Nat} {v:Value} (h:Cz A w e N v) {k:Nat} (hk:v.ownBlock=some k):A<=k/\k < w.heap.size:=by
 obtain⟨g,n,a,b,rfl,c,d⟩:=h;have e:g=k:=by simpa[Value.ownBlock]using hk
 subst e;exact⟨c,d.lt⟩
theorem Il {A B C:Nat} {w w':World} {v:Value} {c:List Ae} (h:C6 A B w v c) (hs:∀ k,A<=k->k < w.heap.size->w'.heap[k]? = w.heap[k]?) (hC:B<=C):C6 A C w' v c:=by
 obtain⟨a,d,rfl,D⟩:=h;refine⟨a,d,rfl,fun k hk => ?_⟩;obtain⟨g,r,q,s,m,E,t,u,x,y,z,⟨f,i⟩,l,b⟩:=D k hk;have n:=hs g m i.lt;have p:∀ j,r.ownBlock=some j->w'.heap[j]? = w.heap[j]?:=fun j hj=>hs j (Lo l hj).1 (Lo l hj).2
 have o:∀ j,q.ownBlock=some j->w'.heap[j]? = w.heap[j]?:=fun j hj=>hs j (Lo b hj).1 (Lo b hj).2
 exact⟨g,r,q,s,m,by omega,fun j hj=>by rw[World.cell?_of_block (a:=⟨g,k * 5+j,none⟩) n];exact t j hj,u.keep p hC,x.keep o hC,y,z,⟨f,n.trans i.blk,i.size⟩,l.keep p,b.keep o⟩
theorem J3 {A A' B:Nat} {w:World} {v:Value} {c:List Ae} (h:C6 A B w v c) (hA:A'<=A):C6 A' B w v c:=by
 obtain⟨a,b,rfl,s⟩:=h;refine⟨a,b,rfl,fun k hk => ?_⟩;obtain⟨g,u,t,f,x,i,l,m,n,o,p,q,r,d⟩:=s k hk;exact⟨g,u,t,f,by omega,i,l,m,n,fun j hj=>Nat.le_trans hA (o j hj),fun j hj=>Nat.le_trans hA (p j hj),q,r.mono hA,d.mono hA⟩
structure Es (g:Nat) (w:World) (cs:List (List Ae)) (i:Nat):Prop where
 row:∃ cur,Hf g 59 cs.length w cur
 each:∀ k (hk:k < cs.length),k < i->∃ p,w.cell? ⟨g,k,none⟩=some (.slice p cs[k].length cs[k].length)/\C6 (g+1) w.heap.size w (.slice p cs[k].length cs[k].length) cs[k]
theorem Es.lt {g:Nat} {w:World} {cs:List (List Ae)} {i:Nat} (h:Es g w cs i):g < w.heap.size:=by
 obtain⟨a,b⟩:=h.row;exact b.lt
theorem Es.below {g:Nat} {w w':World} {cs:List (List Ae)} {i:Nat} (h:Es g w cs i) (hb:Below w.heap.size w w'):Es g w' cs i:=by
 have d:=h.lt;obtain⟨a,f⟩:=h.row;refine⟨⟨a,f.below hb⟩,fun k hk hki => ?_⟩;obtain⟨p,b,c⟩:=h.each k hk hki;exact⟨p,(hb.cell (p:=⟨g,k,none⟩) d).trans b,Il c (fun k _ hk=>hb.block k hk) hb.size⟩
theorem Es.store {g:Nat} {w:World} {cs:List (List Ae)} {i:Nat} (h:Es g w cs i) (hi:i < cs.length) {p:Option Addr} (hc:C6 (g+1) w.heap.size w (.slice p cs[i].length cs[i].length) cs[i]):Es g (w.setCell ⟨g,i,none⟩ (.slice p cs[i].length cs[i].length)) cs (i+1):=by
 obtain⟨d,b⟩:=h.row;have a:=b.store i (.slice p cs[i].length cs[i].length);have c:∀ k,k≠g->(w.setCell ⟨g,i,none⟩ (.slice p cs[i].length cs[i].length)).heap[k]? = w.heap[k]?:=fun k hk=>Below.heap_setCell _ _ _ _ hk
 have m:(w.setCell ⟨g,i,none⟩ (.slice p cs[i].length cs[i].length)).heap.size=w.heap.size:=by simp
 refine⟨⟨_,a⟩,fun k hk hki => ?_⟩;by_cases e:k=i
 ·subst e;refine⟨p, ?_,Il hc (fun j hj _=>c j (by omega)) (by omega)⟩;rw[Lib.cell_of_heap a.blk,Array.getElem?_setIfInBounds,if_pos rfl,if_pos (by rw[b.size];exact hk)]
 ·obtain⟨q,f,l⟩:=h.each k hk (by omega);refine⟨q, ?_,Il l (fun j hj _=>c j (by omega)) (by omega)⟩;rw[Lib.cell_of_heap a.blk,Array.getElem?_setIfInBounds,if_neg (by omega),<- Lib.cell_of_heap b.blk];exact f
def A8 (A:Nat) (w:World) (v:Value) (cs:List (List Ae)):Prop :=
 ∃ a cap,v = .slice a cs.length cap/\∀ k (hk:k < cs.length),∃ g p,a=some ⟨g,0,none⟩/\A<=g/\g < w.heap.size/\w.cell? ⟨g,k,none⟩=some (.slice p cs[k].length cs[k].length)/\C6 A w.heap.size w (.slice p cs[k].length cs[k].length) cs[k]
theorem A8.keep {A:Nat} {w w':World} {v:Value} {cs:List (List Ae)} (h:A8 A w v cs) (hs:∀ k,A<=k->k < w.heap.size->w'.heap[k]? = w.heap[k]?) (hz:w.heap.size<=w'.heap.size):A8 A w' v cs:=by
 obtain⟨a,b,rfl,l⟩:=h;refine⟨a,b,rfl,fun k hk => ?_⟩;obtain⟨g,p,d,c,f,i,j⟩:=l k hk;exact⟨g,p,d,c,by omega,by rw[World.cell?_of_block (a:=⟨g,k,none⟩) (hs g c f)];exact i,Il j hs hz⟩
theorem Es.codes {g:Nat} {w:World} {cs:List (List Ae)} {i:Nat} (h:Es g w cs i) (hi:cs.length<=i):A8 g w (.slice (some ⟨g,0,none⟩) cs.length cs.length) cs:=by
 refine⟨_,_,rfl,fun k hk => ?_⟩;obtain⟨p,a,b⟩:=h.each k hk (by omega);exact⟨g,p,rfl,Nat.le_refl _,h.lt,a,J3 b (by omega)⟩
theorem Tryz.infoCode : (Tryz.prog.info? 59).map (fun i=>(i.zero,i.size,i.bytes))=some (some (.agg #[.slice none 0 0]),1,24):=by kernel_rfl
theorem Qcj (cs:List (List Ae)) (a:Option Addr) (cap:Nat) (hs:Q0 cs) (w:World) (hN:Fz w (.slice a cs.length cap) cs) :
  Calls Tryz.prog 28 #[.slice a cs.length cap] w fun e w'=>e = .returned (.slice (some ⟨w.heap.size,0,none⟩) cs.length cs.length)/\A8 w.heap.size w' (.slice (some ⟨w.heap.size,0,none⟩) cs.length cs.length) cs/\Below w.heap.size w w':=by
 have K:Hid (Fz w (.slice a cs.length cap) cs):=hN;have hl:cs.length<=1048576:=hs.1;have E:Hid (∀ c ∈ cs,Nx c):=hs.2;clear hN hs;have z:=Jt (P:=Tryz.prog) Tryz.infoCode Tryz.underlying30 cs.length (by omega) (by omega);obtain⟨D,n⟩:∃ m,madeCells (Value.agg #[.slice none 0 0]).cells (cs.length * 1)=m:=⟨_,rfl⟩;have C:Hid (D.size=cs.length):=by rw[Hid,<- n,size_madeCells,Nat.mul_one]
 rw[n]at z;clear n;go_enter Tryz.func28,Tryz.ntmps28;go_wp2_with fail;obtain⟨F,d⟩:∃ V,w.alloc (.cells D 59)=V:=⟨_,rfl⟩;rw[d];have s:Hid (Es w.heap.size F cs 0/\Below w.heap.size w F):=⟨⟨⟨D,by rw[<- d];exact Af w _,C.out⟩,fun k hk h=>by omega⟩,by rw[<- d];exact Au w _⟩;clear d z;go_loopw [4] (fun t wr => ∃ i:Nat,i<=cs.length/\t = .int .i64 (i:Int)/\Es w.heap.size wr cs i/\Below w.heap.size w wr) (fun t _=>cs.length - (intOf t).toNat);case atStart=>exact⟨0,by omega,rfl,s.out.1,s.out.2⟩
 case round =>
  obtain⟨i,Z,rfl,b,f⟩:=hrel;by_cases hlt:i < cs.length
  ·have x:(i:Int) < (cs.length:Int):=(by omega);obtain⟨W,G,e,J⟩:=K.out.below f;injection e with e e2 e3;subst e e3;obtain⟨g,o,I,v,N,Y,X,H⟩:=J i hlt;subst N;have L:Hid (∀ U,Below wr.heap.size wr U->Calls Tryz.prog 58 #[.agg #[.slice I cs[i].length v]] U fun e w' => ∃ p,e = .returned (.agg #[.slice p cs[i].length cs[i].length])/\C6 (U.heap.size+3) w'.heap.size w' (.slice p cs[i].length cs[i].length) cs[i]/\Below U.heap.size U w'):=fun U hU=>Wt cs[i] I v (E.out _ (List.getElem_mem hlt)).1 (fun k hk=>(E.out _ (List.getElem_mem hlt)).2 _ (List.getElem_mem hk) |>.2) U (H.below hU)
   have r:Hid (Es w.heap.size wr cs i):=b;have Q:w.heap.size < wr.heap.size:=b.lt;have A:Hid (∀ j,Below wr.heap.size wr j->(∃ y,j.cell? ⟨w.heap.size,i,none⟩=some y)/\j.frozen? ⟨w.heap.size,i,none⟩=false):=fun j hb=>by
    obtain⟨M,R⟩:=r.out.row;exact(R.below hb).cell i (by omega)
   clear b J H;go_wp2_with (go_at_call 58;refine(L.out _ (by first|exact Below.refl _ _|exact(Below.refl _ _).drew)).mono ?_;rintro e j ⟨T,rfl,u,l⟩;have B:Hid (C6 (w.heap.size+1) j.heap.size j (.slice T cs[i].length cs[i].length) cs[i]):=J3 u (by omega);clear u;obtain⟨⟨y1,S⟩,O⟩:=A.out j l);go_roundw;case rel=>exact⟨i+1,by omega,by go_num,(r.out.below l).store hlt B.out,(f.trans (l.mono f.size)).setCell (p:=⟨w.heap.size,i,none⟩) (Nat.le_refl _) _⟩
   case measure=>simp[intOf];omega
  ·have x:¬ (i:Int) < (cs.length:Int):=(by omega);have q:Hid (A8 w.heap.size wr (.slice (some ⟨w.heap.size,0,none⟩) cs.length cs.length) cs):=b.codes (by omega);clear b;go_wp2_with fail;go_ret;exact⟨rfl,q.out,f⟩
theorem Aa {w:World} {R:Nat} {cs:Array Value} {t:TypeId} (h:w.heap[R]? = some (.cells cs t)) (k:Nat) (v:Value) (hv:cs[k]? = some v):w.cell? ⟨R,k,none⟩=some v/\w.frozen? ⟨R,k,none⟩=false :=
 ⟨by rw[Lib.cell_of_heap h];exact hv,by simp[World.frozen?,h]⟩
def Bd (B:Nat) (w w':World):Prop:=w.heap.size<=w'.heap.size/\∀ k,B<=k->k < w.heap.size->w'.heap[k]? = w.heap[k]?
theorem Bd.refl (B:Nat) (w:World):Bd B w w:=⟨Nat.le_refl _,fun _ _ _=>rfl⟩
theorem Bd.trans {B:Nat} {a b c:World} (h:Bd B a b) (k:Bd B b c):Bd B a c:=⟨Nat.le_trans h.1 k.1,fun i h1 h2=>(k.2 i h1 (Nat.lt_of_lt_of_le h2 h.1)).trans (h.2 i h1 h2)⟩
theorem Bd.below {B:Nat} {a b:World} (h:Below a.heap.size a b):Bd B a b:=⟨h.size,fun k _ hk=>h.block k hk⟩
theorem Bd.set {B b k:Nat} {w:World} (v:Value) (h:b < B):Bd B w (w.setCell ⟨b,k,none⟩ v):=⟨by simp,fun i hi _=>Below.heap_setCell _ _ _ _ (by show i≠b;omega)⟩
theorem B0 {A B e size n:Nat} {w w':World} {v:Value} {xs:List Value} (h:w.ownsRow A e size v n xs) (hA:B<=A) (hk:Bd B w w'):w'.ownsRow A e size v n xs:=by
 obtain⟨f,c⟩:=h;refine⟨f, ?_⟩;rcases c with c|⟨g,a,b,rfl,i,d,r⟩
 ·exact .inl c
 ·exact .inr ⟨g,a,b,rfl,i,(hk.2 g (by omega) (Array.getElem?_eq_some_iff.1 d).1).trans d,r⟩
theorem D1 {A B e size n:Nat} {w:World} {v:Value} {xs:List Value} (h:w.ownsRow A e size v n xs) (hA:B<=A):w.ownsRow B e size v n xs:=by
 obtain⟨d,c⟩:=h;refine⟨d, ?_⟩;rcases c with c|⟨g,a,b,rfl,i,f,r⟩
 ·exact .inl c
 ·exact .inr ⟨g,a,b,rfl,by omega,f,r⟩
theorem Ms (w:World) (o1 o2 o3:Obj):∃ Y,((w.alloc o1).alloc o2).alloc o3=Y/\Y.heap.size=w.heap.size+3/\Y.heap[w.heap.size]? = some o1/\Y.heap[w.heap.size+1]? = some o2/\Y.heap[w.heap.size+1+1]? = some o3/\Below w.heap.size w Y:=by
 refine⟨_,rfl,by rw[World.size_alloc,World.size_alloc,World.size_alloc],Am _ (Am _ (Af w _)), ?_, ?_,Ga w _ _ _⟩
 ·have h:=Af (w.alloc o1) o2;rw[World.size_alloc]at h;exact Am _ h
 ·have h:=Af ((w.alloc o1).alloc o2) o3;rw[World.size_alloc,World.size_alloc]at h;exact h
theorem Dt {w:World} {b b2 k:Nat} {v:Value} {o:Option Obj} (h:w.heap[b2]? = o) (hn:b2≠b):(w.setCell ⟨b,k,none⟩ v).heap[b2]? = o:=(Below.heap_setCell _ _ _ _ hn).trans h
def Vc (f:Fa) (w:World) (e:Ending) (w':World):Prop := ∃ sa sc ta tc,e = .returned (.agg #[.int .i64 f.code,.int .i64 f.fn,.int .i64 f.at',.slice sa f.slots.length sc,.slice ta f.stack.length tc])/\w'.ownsRow (w.heap.size+3) 132 3 (.slice sa f.slots.length sc) f.slots.length (D4 f.slots)/\w'.ownsRow (w.heap.size+3) 132 3 (.slice ta f.stack.length tc) f.stack.length (D4 f.stack)/\Below w.heap.size w w'
theorem Qdc (f:Fa) (sa ta:Option Addr) (sc tc:Nat) (hs:Lp f) (w:World) (hS:E9 w (.slice sa f.slots.length sc) f.slots) (hT:E9 w (.slice ta f.stack.length tc) f.stack) :
  Calls Tryz.prog 59 #[.agg #[.int .i64 f.code,.int .i64 f.fn,.int .i64 f.at',.slice sa f.slots.length sc,.slice ta f.stack.length tc]] w (Vc f w):=by
 have E:Hid (∀ U,Below w.heap.size w U->Calls Tryz.prog 89 #[.slice sa f.slots.length sc] U fun e w' => ∃ v',e = .returned v'/\w'.ownsRow U.heap.size 132 3 v' f.slots.length (D4 f.slots)/\Below U.heap.size U w'):=fun U hU=>K9 f.slots _ U (C2 hS hU) hs.1.1
 have F:Hid (∀ U,Below w.heap.size w U->Calls Tryz.prog 89 #[.slice ta f.stack.length tc] U fun e w' => ∃ v',e = .returned v'/\w'.ownsRow U.heap.size 132 3 v' f.stack.length (D4 f.stack)/\Below U.heap.size U w'):=fun U hU=>K9 f.stack _ U (C2 hT hU) hs.2.1
 clear hS hT hs;have S:Gf:=trivial;go_enter Tryz.func59,Tryz.ntmps59;go_wp2_with (first
  | (go_at_call 89;have _t:=S;clear S;obtain⟨Y,Z,aa,W,P,O,t⟩:=Ms w (.cells #[.int .i64 f.code,.int .i64 f.fn,.int .i64 f.at',.slice sa f.slots.length sc,.slice ta f.stack.length tc] 83) (.cells #[.int .i64 0,.int .i64 0,.int .i64 0,.slice none 0 0,.slice none 0 0] 91) (.cells #[.int .i64 f.code,.int .i64 f.fn,.int .i64 f.at',.slice none 0 0,.slice none 0 0] 91);rw[Z];refine(E.out Y t).mono ?_;rintro e M ⟨v1,rfl,c,j⟩;obtain⟨a,b,I⟩:=It c;subst I;have n:=D1 (B:=w.heap.size+3) c (by omega);clear c;have X:=(j.block _ (by omega)).trans W;have Q:=(j.block _ (by omega)).trans P;have K:=(j.block _ (by omega)).trans O;have ab:w.heap.size+3<=M.heap.size:=(by have:=j.size;omega);clear W P O;obtain⟨r,g⟩:∃ V,M.setCell ⟨w.heap.size+1+1,3,none⟩ (.slice a f.slots.length b)=V:=⟨_,rfl⟩;obtain⟨y3,z3⟩:=Aa K 3 _ rfl;have x2:r.heap[w.heap.size]? = some (.cells #[.int .i64 f.code,.int .i64 f.fn,.int .i64 f.at',.slice sa f.slots.length sc,.slice ta f.stack.length tc] 83):=(by rw[<- g];exact Dt X (by omega));have r2:r.heap[w.heap.size+1]? = some (.cells #[.int .i64 0,.int .i64 0,.int .i64 0,.slice none 0 0,.slice none 0 0] 91):=(by rw[<- g];exact Dt Q (by omega));have o2:r.heap[w.heap.size+1+1]? = some (.cells #[.int .i64 f.code,.int .i64 f.fn,.int .i64 f.at',.slice a f.slots.length b,.slice none 0 0] 91):=(by rw[<- g];exact(A3 K).trans rfl);have ad:r.heap.size=M.heap.size:=(by rw[<- g];simp);have q:Hid (Below w.heap.size w r):=(by rw[Hid,<- g];exact(t.trans (j.mono t.size)).setCell (p:=⟨w.heap.size+1+1,3,none⟩) (by show w.heap.size<=w.heap.size+1+1;omega) _);have D:Hid (r.ownsRow (w.heap.size+3) 132 3 (.slice a f.slots.length b) f.slots.length (D4 f.slots)):=(by rw[Hid,<- g];exact B0 n (Nat.le_refl _) (Bd.set _ (by omega)));clear n X Q K;obtain⟨y4,-⟩:=Aa x2 4 _ rfl;have N:Gf:=trivial)
  | (go_at_call 89;have _t:=N;clear N;refine(F.out r q.out).mono ?_;rintro e T ⟨v2,rfl,d,k⟩;obtain⟨h,i,J⟩:=It d;subst J;have o:=D1 (B:=w.heap.size+3) d (by omega);clear d;have R:=(k.block _ (by omega)).trans r2;have L:=(k.block _ (by omega)).trans o2;have ac:w.heap.size+3<=T.heap.size:=(by have:=k.size;omega);obtain⟨s,l⟩:∃ V,T.setCell ⟨w.heap.size+1+1,4,none⟩ (.slice h f.stack.length i)=V:=⟨_,rfl⟩;obtain⟨y5,z5⟩:=Aa L 4 _ rfl;have u:s.heap[w.heap.size+1]? = some (.cells #[.int .i64 0,.int .i64 0,.int .i64 0,.slice none 0 0,.slice none 0 0] 91):=(by rw[<- l];exact Dt R (by omega));have A:s.heap[w.heap.size+1+1]? = some (.cells #[.int .i64 f.code,.int .i64 f.fn,.int .i64 f.at',.slice a f.slots.length b,.slice h f.stack.length i] 91):=(by rw[<- l];exact(A3 L).trans rfl);have C:Hid (Below w.heap.size w s):=(by rw[Hid,<- l];exact(q.out.trans (k.mono (by have:=q.out.size;omega))).setCell (p:=⟨w.heap.size+1+1,4,none⟩) (by show w.heap.size<=w.heap.size+1+1;omega) _);have x:Hid (s.ownsRow (w.heap.size+3) 132 3 (.slice a f.slots.length b) f.slots.length (D4 f.slots)/\s.ownsRow (w.heap.size+3) 132 3 (.slice h f.stack.length i) f.stack.length (D4 f.stack)):=(by rw[Hid,<- l];exact⟨B0 D.out (Nat.le_refl _) ((Bd.below k).trans (Bd.set _ (by omega))),B0 o (Nat.le_refl _) (Bd.set _ (by omega))⟩);clear o R L;obtain⟨a0,-⟩:=Aa A 0 _ rfl;obtain⟨a1,-⟩:=Aa A 1 _ rfl;obtain⟨a2,-⟩:=Aa A 2 _ rfl;obtain⟨a3,-⟩:=Aa A 3 _ rfl;obtain⟨a4,-⟩:=Aa A 4 _ rfl;obtain⟨e0,f0⟩:=Aa u 0 _ rfl;obtain⟨e1,f1⟩:=Aa u 1 _ rfl;obtain⟨e2,f2⟩:=Aa u 2 _ rfl;obtain⟨e3,f3⟩:=Aa u 3 _ rfl;obtain⟨e4,f4⟩:=Aa u 4 _ rfl))
 obtain⟨G,m⟩:∃ V,((((s.setCell ⟨w.heap.size+1,0,none⟩ (.int .i64 f.code)).setCell ⟨w.heap.size+1,1,none⟩ (.int .i64 f.fn)).setCell ⟨w.heap.size+1,2,none⟩ (.int .i64 f.at')).setCell ⟨w.heap.size+1,3,none⟩ (.slice a f.slots.length b)).setCell ⟨w.heap.size+1,4,none⟩ (.slice h f.stack.length i)=V:=⟨_,rfl⟩;have z:G.heap[w.heap.size+1]? = some (.cells #[.int .i64 f.code,.int .i64 f.fn,.int .i64 f.at',.slice a f.slots.length b,.slice h f.stack.length i] 91):=by
  rw[<- m];exact(A3 (A3 (A3 (A3 (A3 u))))).trans rfl
 have y:Bd (w.heap.size+3) s G:=by
  rw[<- m];exact(((((Bd.refl _ _).trans (Bd.set _ (by omega))).trans (Bd.set _ (by omega))).trans (Bd.set _ (by omega))).trans (Bd.set _ (by omega))).trans (Bd.set _ (by omega))
 have H:Below w.heap.size w G:=by
  rw[<- m];exact((((C.out.setCell (p:=⟨w.heap.size+1,0,none⟩) (by show w.heap.size<=w.heap.size+1;omega) _).setCell (p:=⟨w.heap.size+1,1,none⟩) (by show w.heap.size<=w.heap.size+1;omega) _).setCell (p:=⟨w.heap.size+1,2,none⟩) (by show w.heap.size<=w.heap.size+1;omega) _).setCell (p:=⟨w.heap.size+1,3,none⟩) (by show w.heap.size<=w.heap.size+1;omega) _).setCell (p:=⟨w.heap.size+1,4,none⟩) (by show w.heap.size<=w.heap.size+1;omega) _
 rw[m];obtain⟨n0,-⟩:=Aa z 0 _ rfl;obtain⟨n1,-⟩:=Aa z 1 _ rfl;obtain⟨n2,-⟩:=Aa z 2 _ rfl;obtain⟨n3,-⟩:=Aa z 3 _ rfl;obtain⟨n4,-⟩:=Aa z 4 _ rfl;exact bodyPost_ret (v:=.agg #[.int .i64 f.code,.int .i64 f.fn,.int .i64 f.at',.slice a f.slots.length b,.slice h f.stack.length i]) (by simp[results,Tryz.results59,go_sem,n0,n1,n2,n3,n4]) rfl ⟨_,_,_,_,rfl,B0 x.out.1 (Nat.le_refl _) y,B0 x.out.2 (Nat.le_refl _) y,H⟩
structure Ge (g:Nat) (w:World) (fs:List Fa) (i:Nat):Prop where
 row:∃ cur,Hf g 91 (fs.length * 5) w cur
 each:∀ k (hk:k < fs.length),k < i->∃ sa sc ta tc,(∀ q,q < 5->w.cell? ⟨g,k * 5+q,none⟩=([.int .i64 fs[k].code,.int .i64 fs[k].fn,.int .i64 fs[k].at',.slice sa fs[k].slots.length sc,.slice ta fs[k].stack.length tc]:List Value)[q]?)/\w.ownsRow (g+1) 132 3 (.slice sa fs[k].slots.length sc) fs[k].slots.length (D4 fs[k].slots)/\w.ownsRow (g+1) 132 3 (.slice ta fs[k].stack.length tc) fs[k].stack.length (D4 fs[k].stack)
theorem Ge.lt {g:Nat} {w:World} {fs:List Fa} {i:Nat} (h:Ge g w fs i):g < w.heap.size:=by
 obtain⟨a,b⟩:=h.row;exact b.lt
theorem Ge.below {g:Nat} {w w':World} {fs:List Fa} {i:Nat} (h:Ge g w fs i) (hb:Below w.heap.size w w'):Ge g w' fs i:=by
 have f:=h.lt;obtain⟨a,j⟩:=h.row;refine⟨⟨a,j.below hb⟩,fun k hk hki => ?_⟩;obtain⟨l,m,n,o,b,c,d⟩:=h.each k hk hki;exact⟨l,m,n,o,fun q hq=>(hb.cell (p:=⟨g,k * 5+q,none⟩) f).trans (b q hq),B0 c (Nat.le_refl _) (Bd.below hb),B0 d (Nat.le_refl _) (Bd.below hb)⟩
theorem Ge.store {g:Nat} {w:World} {fs:List Fa} {i:Nat} (h:Ge g w fs i) (hi:i < fs.length) {sa ta:Option Addr} {sc tc:Nat} (h2:w.ownsRow (g+1) 132 3 (.slice sa fs[i].slots.length sc) fs[i].slots.length (D4 fs[i].slots)) (h3:w.ownsRow (g+1) 132 3 (.slice ta fs[i].stack.length tc) fs[i].stack.length (D4 fs[i].stack)) :
  Ge g (((((w.setCell ⟨g,i * 5,none⟩ (.int .i64 fs[i].code)).setCell ⟨g,i * 5+1,none⟩ (.int .i64 fs[i].fn)).setCell ⟨g,i * 5+2,none⟩ (.int .i64 fs[i].at')).setCell ⟨g,i * 5+3,none⟩ (.slice sa fs[i].slots.length sc)).setCell ⟨g,i * 5+4,none⟩ (.slice ta fs[i].stack.length tc)) fs (i+1):=by
 obtain⟨n,d⟩:=h.row;have b:=((((d.store (i * 5) (.int .i64 fs[i].code)).store (i * 5+1) (.int .i64 fs[i].fn)).store (i * 5+2) (.int .i64 fs[i].at')).store (i * 5+3) (.slice sa fs[i].slots.length sc)).store (i * 5+4) (.slice ta fs[i].stack.length tc);have a:Bd (g+1) w (((((w.setCell ⟨g,i * 5,none⟩ (.int .i64 fs[i].code)).setCell ⟨g,i * 5+1,none⟩ (.int .i64 fs[i].fn)).setCell ⟨g,i * 5+2,none⟩ (.int .i64 fs[i].at')).setCell ⟨g,i * 5+3,none⟩ (.slice sa fs[i].slots.length sc)).setCell ⟨g,i * 5+4,none⟩ (.slice ta fs[i].stack.length tc)) :=
  (((((Bd.refl _ _).trans (Bd.set _ (by omega))).trans (Bd.set _ (by omega))).trans (Bd.set _ (by omega))).trans (Bd.set _ (by omega))).trans (Bd.set _ (by omega))
 refine⟨⟨_,b⟩,fun k hk1 hki => ?_⟩;by_cases e:k=i
 ·subst e;refine⟨sa,sc,ta,tc,fun q hq => ?_,B0 h2 (Nat.le_refl _) a,B0 h3 (Nat.le_refl _) a⟩;refine(Lib.cell_of_heap b.blk _).trans ?_;simp only[Array.getElem?_setIfInBounds,Array.size_setIfInBounds,d.size];have c:q=0\/q=1\/q=2\/q=3\/q=4:=by omega
  rcases c with rfl|rfl|rfl|rfl|rfl
  ·rw[if_neg (by omega),if_neg (by omega),if_neg (by omega),if_neg (by omega),if_pos (by omega),if_pos (by omega)];rfl
  ·rw[if_neg (by omega),if_neg (by omega),if_neg (by omega),if_pos (by omega),if_pos (by omega)];rfl
  ·rw[if_neg (by omega),if_neg (by omega),if_pos (by omega),if_pos (by omega)];rfl
  ·rw[if_neg (by omega),if_pos (by omega),if_pos (by omega)];rfl
  ·rw[if_pos (by omega),if_pos (by omega)];rfl
 ·obtain⟨f,j,l,m,o,p,r⟩:=h.each k hk1 (by omega);refine⟨f,j,l,m,fun q hq => ?_,B0 p (Nat.le_refl _) a,B0 r (Nat.le_refl _) a⟩;rw[<- o q hq,Lib.cell_of_heap d.blk];refine(Lib.cell_of_heap b.blk _).trans ?_;simp only[Array.getElem?_setIfInBounds];rw[if_neg (by omega),if_neg (by omega),if_neg (by omega),if_neg (by omega),if_neg (by omega)]
def Cf (A:Nat) (w:World) (v:Value) (fs:List Fa):Prop :=
 ∃ a cap,v = .slice a fs.length cap/\∀ k (hk:k < fs.length),∃ g sa sc ta tc,a=some ⟨g,0,none⟩/\A<=g/\g < w.heap.size/\(∀ q,q < 5->w.cell? ⟨g,k * 5+q,none⟩=([.int .i64 fs[k].code,.int .i64 fs[k].fn,.int .i64 fs[k].at',.slice sa fs[k].slots.length sc,.slice ta fs[k].stack.length tc]:List Value)[q]?)/\w.ownsRow A 132 3 (.slice sa fs[k].slots.length sc) fs[k].slots.length (D4 fs[k].slots)/\w.ownsRow A 132 3 (.slice ta fs[k].stack.length tc) fs[k].stack.length (D4 fs[k].stack)
theorem Cf.keep {A:Nat} {w w':World} {v:Value} {fs:List Fa} (h:Cf A w v fs) (hk:Bd A w w'):Cf A w' v fs:=by
 obtain⟨a,b,rfl,m⟩:=h;refine⟨a,b,rfl,fun k hk1 => ?_⟩;obtain⟨g,n,o,p,r,f,c,d,i,j,l⟩:=m k hk1;exact⟨g,n,o,p,r,f,c,Nat.lt_of_lt_of_le d hk.1,fun q hq=>by rw[World.cell?_of_block (a:=⟨g,k * 5+q,none⟩) (hk.2 g c d)];exact i q hq,B0 j (Nat.le_refl _) hk,B0 l (Nat.le_refl _) hk⟩
theorem Ge.frames {g:Nat} {w:World} {fs:List Fa} {i:Nat} (h:Ge g w fs i) (hi:fs.length<=i):Cf g w (.slice (some ⟨g,0,none⟩) fs.length fs.length) fs:=by
 refine⟨_,_,rfl,fun k hk => ?_⟩;obtain⟨d,f,j,l,a,b,c⟩:=h.each k hk (by omega);exact⟨g,d,f,j,l,rfl,Nat.le_refl _,h.lt,a,D1 b (by omega),D1 c (by omega)⟩
theorem Tryz.infoFrame : (Tryz.prog.info? 91).map (fun i=>(i.zero,i.size,i.bytes))=some (some (.agg #[.int .i64 0,.int .i64 0,.int .i64 0,.slice none 0 0,.slice none 0 0]),5,72):=by kernel_rfl
theorem Qc6 (fs:List Fa) (a:Option Addr) (cap:Nat) (hs:Ou fs) (w:World) (hN:Hc w (.slice a fs.length cap) fs) :
  Calls Tryz.prog 30 #[.slice a fs.length cap] w fun e w'=>e = .returned (.slice (some ⟨w.heap.size,0,none⟩) fs.length fs.length)/\Cf w.heap.size w' (.slice (some ⟨w.heap.size,0,none⟩) fs.length fs.length) fs/\Below w.heap.size w w':=by
 have X:Hid (Hc w (.slice a fs.length cap) fs):=hN;have hl:fs.length<=1048576:=hs.1;have Y:Hid (∀ f ∈ fs,Lp f):=hs.2;clear hN hs;have C:=Jt (P:=Tryz.prog) Tryz.infoFrame Tryz.underlying31 fs.length (by omega) (by omega);obtain⟨G,r⟩:∃ m,madeCells (Value.agg #[.int .i64 0,.int .i64 0,.int .i64 0,.slice none 0 0,.slice none 0 0]).cells (fs.length * 5)=m:=⟨_,rfl⟩;have D:Hid (G.size=fs.length * 5):=by rw[Hid,<- r,size_madeCells]
 rw[r]at C;clear r;go_enter Tryz.func30,Tryz.ntmps30;go_wp2_with fail;obtain⟨L,l⟩:∃ V,w.alloc (.cells G 91)=V:=⟨_,rfl⟩;rw[l];have x:Hid (Ge w.heap.size L fs 0/\Below w.heap.size w L):=⟨⟨⟨G,by rw[<- l];exact Af w _,D.out⟩,fun k hk h=>by omega⟩,by rw[<- l];exact Au w _⟩;clear l C;go_loopw [4] (fun t wr => ∃ i:Nat,i<=fs.length/\t = .int .i64 (i:Int)/\Ge w.heap.size wr fs i/\Below w.heap.size w wr) (fun t _=>fs.length - (intOf t).toNat);case atStart=>exact⟨0,by omega,rfl,x.out.1,x.out.2⟩
 case round =>
  obtain⟨i,hi,rfl,j,n⟩:=hrel;by_cases hlt:i < fs.length
  ·have B:(i:Int) < (fs.length:Int):=(by omega);obtain⟨a',M,e,Q⟩:=X.out.below n;injection e with e e2 e3;subst e e3;obtain⟨g,o,R,S,T,W,ea,hg,⟨c0,c1,c2,c3,c4⟩,N,O⟩:=Q i hlt;subst ea;have Z:Hid (∀ U,Below wr.heap.size wr U->Calls Tryz.prog 59 #[.agg #[.int .i64 fs[i].code,.int .i64 fs[i].fn,.int .i64 fs[i].at',.slice R fs[i].slots.length S,.slice T fs[i].stack.length W]] U (Vc fs[i] U)):=fun U hU=>Qdc fs[i] R T S W (Y.out _ (List.getElem_mem hlt)) U (C2 N hU) (C2 O hU)
   have v:Hid (Ge w.heap.size wr fs i):=j;have af:w.heap.size < wr.heap.size:=j.lt;have d:Hid (∀ c,Below wr.heap.size wr c->∀ q,q < 5->(∃ y,c.cell? ⟨w.heap.size,i * 5+q,none⟩=some y)/\c.frozen? ⟨w.heap.size,i * 5+q,none⟩=false):=fun c hb q hq=>by
    obtain⟨aa,hr⟩:=v.out.row;exact(hr.below hb).cell (i * 5+q) (by omega)
   clear j Q N O;go_wp2_with (go_at_call 59;refine(Z.out _ (by first|exact Below.refl _ _|exact(Below.refl _ _).drew)).mono ?_;rintro e c ⟨H,I,J,K,rfl,z,A,b⟩;have u:Hid (c.ownsRow (w.heap.size+1) 132 3 (.slice H fs[i].slots.length I) fs[i].slots.length (D4 fs[i].slots)/\c.ownsRow (w.heap.size+1) 132 3 (.slice J fs[i].stack.length K) fs[i].stack.length (D4 fs[i].stack)):=⟨D1 z (by omega),D1 A (by omega)⟩;clear z A;obtain⟨⟨y0,F⟩,E⟩:=d.out c b 0 (by omega);obtain⟨⟨y1,ag⟩,ab⟩:=d.out c b 1 (by omega);obtain⟨⟨y2,ah⟩,ac⟩:=d.out c b 2 (by omega);obtain⟨⟨y3,ai⟩,ad⟩:=d.out c b 3 (by omega);obtain⟨⟨y4,aj⟩,ae⟩:=d.out c b 4 (by omega);simp only[Nat.add_zero]at F E);go_roundw;case rel=>exact⟨i+1,by omega,by go_num,(v.out.below b).store hlt u.out.1 u.out.2,(((((n.trans (b.mono n.size)).setCell (p:=⟨w.heap.size,i * 5,none⟩) (Nat.le_refl _) _).setCell (p:=⟨w.heap.size,i * 5+1,none⟩) (Nat.le_refl _) _).setCell (p:=⟨w.heap.size,i * 5+2,none⟩) (Nat.le_refl _) _).setCell (p:=⟨w.heap.size,i * 5+3,none⟩) (Nat.le_refl _) _).setCell (p:=⟨w.heap.size,i * 5+4,none⟩) (Nat.le_refl _) _⟩
   case measure=>simp[intOf];omega
  ·have B:¬ (i:Int) < (fs.length:Int):=(by omega);have s:Hid (Cf w.heap.size wr (.slice (some ⟨w.heap.size,0,none⟩) fs.length fs.length) fs):=j.frames (by omega);clear j;go_wp2_with fail;go_ret;exact⟨rfl,s.out,n⟩
end Go.Proofs.YtahibkjkpmdhgaaGreatDoor
