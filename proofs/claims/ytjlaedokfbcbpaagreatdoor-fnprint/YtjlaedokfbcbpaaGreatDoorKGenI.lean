import Derived.Test.YtjlaedokfbcbpaaGreatDoorKGenD
set_option maxRecDepth 100000
set_option maxHeartbeats 4000000
namespace Go.Proofs.YtjlaedokfbcbpaaGreatDoor
open Go.RowKit Proofs.Tryz
theorem H6 {w w':World} {R p:Nat} (h:Dn w R p) (hk:∀ k,k<=R->w'.heap[k]? = w.heap[k]?):Dn w' R p:=by
 obtain⟨v,n,f,o,m⟩:=h.box;refine⟨v,n,(hk R ON).trans f,o, ?_⟩;rcases m with e|⟨b,c,d,g,j,l⟩
 ·exact .inl e
 ·refine .inr ⟨b,c,d,g,j,fun i hi => ?_⟩;obtain⟨x,r,s,q⟩:=l i hi;exact⟨x,r,s,by rw[World.cell?_of_block (a:=(OK b (c+i))) (hk b OC)];exact q⟩
theorem Aw.grown {B g R P:Nat} {w w':World} {nv:Value} {nl:List (ByteArray × Int)} {fv:Value} {F:List Ca} {ret loops count size:Int} (h:Aw B g R P w nv nl fv F ret loops count size) {A n:Nat} {v:Value} {xs:List Value} (ho:w.ownsRow A 62 6 v n xs) (hA:g < A) (hg:w.grownBy w' v.ownBlock):Aw B g R P w' nv nl fv F ret loops count size:=by
 have f:g < w.heap.size:=(Array.getElem?_eq_some_iff.1 h.box).1;have i:=h.lo;have c:∀ k,k<=g->w'.heap[k]? = w.heap[k]?:=fun k hk=>hg.block k OC (fun e=>by have:=(A8 ho e.symm).1.1;omega)
 have a:∀ {A e s n:Nat} {u:Value} {xs:List Value},w.ownsRow A e s u n xs->e≠62->w'.ownsRow A e s u n xs:=fun hu he=>B1 hu (fun k hk _ hl=>hg.block k hl (fun e=>by
  obtain⟨m,d⟩:=(A8 hu hk).2
  obtain⟨o,b⟩:=(A8 ho e.symm).2
  rw[d]at b;injection b with b;injection b with _ b _;exact he b))
 obtain⟨p,j,l⟩:=h.rd;exact⟨h.lo,⟨p,j,H6 l (fun k hk=>c k OC)⟩,(c g ON).trans h.box,a h.names OD,h.nbd,⟨a h.fns.row OD,fun s hs=>a (h.fns.par s hs) OD,h.fns.bd⟩,h.bd⟩
theorem Bg.grown {B:Nat} {V w w':World} (h:Bg B V w) {A n:Nat} {v:Value} {xs:List Value} (ho:w.ownsRow A 62 6 v n xs) (hA:V.heap.size<=A) (hg:w.grownBy w' v.ownBlock):Bg B V w' :=
 ⟨hg.os.trans h.os,hg.tape.trans h.tape,hg.output.trans h.output,Nat.le_trans h.size hg.size,fun k hk hp=>(hg.block k (Nat.lt_of_lt_of_le hk h.size) (fun e=>by have:=(A8 ho e.symm).1.1;omega)).trans (h.keep k hk hp)⟩
theorem To {B:Nat} {w:World} {a:Option Addr} {n c:Nat} {l:List Int} (h:w.ownsRow B 3 1 (.slice a n c) n (Gf l)) (hn:l.length=n) (i:Nat) (hi:i < n):∃ b,a=some (OK b 0)/\w.cell? (OK b i)=some (.int .i64 (l[i]'OC)):=by
 rcases h.2 with⟨d,k⟩|⟨g,f,j,d,_⟩
 ·injection d with e1 e2 e3;omega
 ·injection d with e1 e2 e3;subst e1;subst e3;exact⟨g,rfl,G7 h rfl _ _ (by unfold Gf;rw[List.getElem?_map,List.getElem?_eq_getElem OC];rfl)⟩
theorem L0 {B:Nat} {w:World} {a:Option Addr} {n c:Nat} {F:List Ca} (h:w.ownsRow B 133 3 (.slice a n c) F.length (Rv F)) (hn:F.length=n) (i:Nat) (hi:i < n):∃ b,a=some (OK b 0)/\w.cell? (OK b (i * 3))=some (.string (F[i]'OC).name)/\w.cell? (OK b (i * 3+1))=some (F[i]'OC).pv/\w.cell? (OK b (i * 3+2))=some (.int .i64 (F[i]'OC).result):=by
 rcases h.2 with⟨d,m⟩|⟨g,k,l,d,_⟩
 ·injection d with e1 e2 e3;omega
 ·injection d with e1 e2 e3;subst e1;subst e3;have f:=fun j hj=>Wc Qb3 3 (fun _=>rfl) F i OC j hj
  exact⟨g,rfl,G7 h rfl _ _ (f 0 OC),G7 h rfl _ _ (f 1 OC),G7 h rfl _ _ (f 2 OC)⟩
def Z6 (B g R P Q K:Nat) (w:World) (nv:Value) (nl:List (ByteArray × Int)) (fv:Value) (F:List Ca) (ret loops count:Int) (e:Ending) (w':World):Prop := ∃ a n c b size,e = .returned (.tuple #[.slice a n c,.bool b])/\As w.heap.size w' (.slice a n c) K/\Aw B g R (P+1+cond b (3 * Q) 0) w' nv nl fv F ret loops count size/\Bg B w w'
theorem Tm {B g R P d:Nat} {w:World} {nv:Value} {nl:List (ByteArray × Int)} {fv:Value} {F:List Ca} {ret loops count size:Int} (HE:Hid (F6 B g R d)) (h:Aw B g R P w nv nl fv F ret loops count size) (hP:P+3 * Bm d+1<=700000000) (t:Int) :
  Calls prog 160 #[.pointer (some (OK g 0)),.int .i64 t,.int .i64 ((d:Int)+1)] w (Z6 B g R P (Bm d) (3 * Bm d+1) w nv nl fv F ret loops count):=by
 obtain⟨i0,be,bp,bq,br⟩:=info_parts K0;obtain⟨fa,y,rfl⟩:=B3 h.fns.row;have HS:Hid (Aw B g R P w nv nl (.slice fa F.length y) F ret loops count size):=h;obtain⟨g0,-,g2,-⟩:=h.cells;have b1:F.length<=5:=h.fns.bd.1;have bs:Hid (∀ s ∈ F,s.name.size<=30/\s.params.length<=3/\∃ a c,s.pv = .slice a s.params.length c):=fun s hs=>⟨(h.fns.bd.2 s hs).1,(h.fns.bd.2 s hs).2.1,B3 (h.fns.par s hs)⟩
 have cb:d<=700000000:=by
  have:d < 5 ^ d:=Nat.lt_pow_self OC;unfold Bm at hP;omega
 clear h;obtain⟨n,HN⟩:∃ n,Hid (F.length=n):=⟨_,(rfl:F.length=_)⟩;rw[HN.out]at HS g2 b1 |-
 go_enter func160,ntmps160;go_wp2_with fail;refine(Xa HS.out n OC OC).mono ?_;rintro e I ⟨v,rfl,hv,cg,bk,ao⟩;have a4:Hid (Aw B g R (P+1) I nv nl (.slice fa n y) F ret loops count size):=bk;have az:Hid (Bg B w I):=ao;have ci:=ao.size;clear bk ao g0 g2;go_wp2_with fail;go_loopw [10] (fun t wr => ∃ j:Nat,j<=n/\t = .int .i64 (j:Int)/\Aw B g R (P+1) wr nv nl (.slice fa n y) F ret loops count size/\Below I.heap.size I wr) (fun t _=>n - (intOf t).toNat);case atStart=>exact⟨0,by omega,rfl,a4.out,OO _⟩
 case round =>
  obtain⟨j,hj,rfl,D,O⟩:=hrel;have a8:Hid (Aw B g R (P+1) wr nv nl (.slice fa n y) F ret loops count size):=D;have J:Hid (Below I.heap.size I wr):=O;have aa:=O.size;by_cases hlt:j < n
  ·have bh:(j:Int) < (n:Int):=OC;have b6:=hv OC;obtain⟨q,HQ⟩:∃ q,Hid ((v+j) % n=q):=⟨_,(rfl:(v+j) % n=_)⟩;have bj:q < n:=(by rw[<- HQ.out];exact Nat.mod_lt _ OC);have bi:q < F.length:=(by rw[HN.out];exact bj);obtain⟨b,rfl,av,aw,ax⟩:=L0 D.fns.row HN.out q bj;have bc:=D.cells.2.2.1;obtain⟨b5,b2,pa,pc,au⟩:=bs.out F[q] (List.getElem_mem bi);have ag:Hid (∀ (U:World) P' H,Aw B g R P' U nv nl (.slice (some (OK b 0)) n y) F ret loops count H->U.ownsRow B 3 1 F[q].pv F[q].params.length (Gf F[q].params)):=fun U P' H h=>h.fns.par F[q] (List.getElem_mem bi)
   obtain⟨m,HM⟩:∃ m,Hid (F[q].params.length=m):=⟨_,(rfl:F[q].params.length=_)⟩;obtain⟨nm,a2⟩:∃ m,Hid (F[q].name=m):=⟨_,(rfl:F[q].name=_)⟩;obtain⟨rs,a3⟩:∃ m,Hid (F[q].result=m):=⟨_,(rfl:F[q].result=_)⟩;rw[HM.out]at au b2 ag;rw[au]at aw ag;rw[a2.out]at av b5;rw[a3.out]at ax;have ce:(q:Int) < (n:Int):=OC;have hw:IntKind.i64.wrap ((v:Int)+(j:Int))=(v:Int)+(j:Int):=(IntWalk.i64_left _).trans (IntWalk.wrap64_in _ OC);have cd:((n:Int) == 0)=false:=OH;have b9:¬ n=0:=OC;have b4:((v:Int)+(j:Int)).tmod (n:Int)=(q:Int):=(by rw[<- HQ.out,Int.tmod_eq_emod_of_nonneg OC];push_cast;rfl);clear D O hlt b6 HQ hv au a2 a3;go_wp2_with fail;refine wp_region_held_drew (S:=(fun W=>W.cell? (OK g 2)=some (.slice (some (OK b 0)) n y)/\W.cell? (OK b (q * 3))=some (.string nm)/\W.cell? (OK b (q * 3+1))=some (.slice pa m pc)/\W.cell? (OK b (q * 3+2))=some (.int .i64 rs))) OE (⟨bc,av,aw,ax⟩) (fun hHeld => ?_);refine Tk 0 (.pointer (some (OK g 0))) ?_;refine Tk 1 (.pointer (some (OK g 0))) ?_;refine Tk 2 (.pointer (some (OK g 2))) ?_;(try simp[Act.put]);refine Tk 3 (.slice (some (OK b 0)) n y) ?_;refine Tk 4 (.int .i64 (v:Int)) ?_;refine Tk 5 (.int .i64 (j:Int)) ?_;(try simp[Act.put]);refine Tk 6 (.int .i64 ((v:Int)+(j:Int))) ?_;refine Tk 7 (.int .i64 (n:Int)) ?_;refine Tk 8 (.int .i64 (q:Int)) ?_;(try simp[Act.put]);refine Tk 9 (.pointer (some (OK b (q * 3)))) ?_;refine Tk 10 (.agg #[.string nm,.slice pa m pc,.int .i64 rs]) ?_;(try simp[Act.put]);have f:=hHeld;refine Tr 11 rfl fun KK hK=>?_
   go_simp;refine hK.out _ _ (⟨Ge hHeld.1,Ge hHeld.2.1,Ge hHeld.2.2.1,Ge hHeld.2.2.2⟩) (fun hHeld => ?_);clear hK;(try simp[Act.put]);refine Tr 12 rfl fun KK hK=>?_
   go_simp;refine hK.out _ _ (⟨Ge f.1,Ge f.2.1,Ge f.2.2.1,Ge f.2.2.2⟩) (fun hHeld => ?_);clear hK;(try simp[Act.put]);refine wpAnyH_done OE ?_ _;obtain⟨V,hV⟩:∃ V,(wr.alloc (.cells #[.string nm,.slice pa m pc,.int .i64 rs] 133)).drew=V:=⟨_,rfl⟩;have a9:Below wr.heap.size wr V:=(by rw[<- hV];exact(OP wr _).drew);have E:V.heap[wr.heap.size]? = some (.cells #[.string nm,.slice pa m pc,.int .i64 rs] 133):=(by rw[<- hV];exact World.alloc_heap_new wr _);have b7:wr.heap.size+1=V.heap.size:=(by rw[<- hV];simp[World.drew]);have x0:V.cell? (OK wr.heap.size 0)=some (.string nm):=(by rw[Lib.cell_of_heap E];rfl);have x1:V.cell? (OK wr.heap.size 1)=some (.slice pa m pc):=(by rw[Lib.cell_of_heap E];rfl);have x2:V.cell? (OK wr.heap.size 2)=some (.int .i64 rs):=(by rw[Lib.cell_of_heap E];rfl);rw[hV];have K:Hid (Below wr.heap.size wr V):=a9;have al:Hid (V.heap[wr.heap.size]? = some (.cells #[.string nm,.slice pa m pc,.int .i64 rs] 133)):=E;clear hHeld f E a9 hV av aw ax bc hw b4;have ak:Hid (Aw B g R (P+1) V nv nl (.slice (some (OK b 0)) n y) F ret loops count size):=a8.out.below K.out;obtain⟨bb,bt⟩:∃ b,Hid ((rs != t)=b):=⟨_,(rfl:(rs != t)=_)⟩;have he:=bt.out;cases bb with
   | true =>
    go_wp2_with fail;go_roundw;case rel=>exact⟨j+1,by omega,by go_num,ak.out,J.out.trans (K.out.mono aa)⟩
    case measure=>simp[intOf];omega
   | false =>
    go_wp2_with fail;have ay:Hid (Below I.heap.size I V):=J.out.trans (K.out.mono aa);obtain⟨X,HX⟩:∃ X,Hid (wr.heap.size=X):=⟨_,(rfl:wr.heap.size=_)⟩;rw[HX.out]at al b7 x0 x1 x2 aa |-
    have bd:g < V.heap.size:=(Array.getElem?_eq_some_iff.1 ak.out.box).1;clear J a8 K x0 x1 x2 HX;go_loopw [12,13] (fun o t wr => ∃ (k:Nat) (l:List Ae) (H:Int),k<=m/\t = .int .i64 (k:Int)/\l.length<=k * Bm d/\(∀ x ∈ l,Fi x)/\wr.ownsRow V.heap.size 62 6 o l.length (Ap l)/\Aw B g R (P+1+k * Bm d) wr nv nl (.slice (some (OK b 0)) n y) F ret loops count H/\Bg B V wr) (fun _ t _=>m - (intOf t).toNat);case atStart =>
     refine⟨0,[],size,by omega,rfl,by simp,by simp, ?_,by simpa using ak.out.below (OP V _),(Bg.refl B V).alloc _⟩;exact L2 V V.heap.size ON [] OF
    case round =>
     obtain⟨k,l,H,hk,rfl,aq,ac,C,bm,Z⟩:=hrel;obtain⟨oa,oc,rfl⟩:=B3 C;have aj:Hid (Aw B g R (P+1+k * Bm d) wr nv nl (.slice (some (OK b 0)) n y) F ret loops count H):=bm;have a0:Hid (Bg B V wr):=Z;have M:Hid (wr.ownsRow V.heap.size 62 6 (.slice oa l.length oc) l.length (Ap l)):=C;have a1:Hid (∀ x ∈ l,Fi x):=ac;have ck:=Z.size;have Q:=(Z.keep X OC (.inr (fun cur t fr hc=>by rw[al.out]at hc;injection hc with hc;injection hc with _ hc _;rw[<- hc];decide))).trans al.out;have x1:wr.cell? (OK X 1)=some (.slice pa m pc):=(by rw[Lib.cell_of_heap Q];rfl);have x0:wr.cell? (OK X 0)=some (.string nm):=(by rw[Lib.cell_of_heap Q];rfl);clear C bm Z ac;have cc:=Q5 d;have ap:k * Bm d<=3 * Bm d:=Nat.mul_le_mul_right _ OC;by_cases hkm:k < m
     ·have b0:(k:Int) < (m:Int):=OC;obtain⟨b',rfl,hc⟩:=To (ag.out wr _ _ aj.out) HM.out k hkm;have ab:k * Bm d+Bm d<=3 * Bm d:=(by have:=Nat.mul_le_mul_right (Bm d) (show k+1<=3 by omega);rw[Nat.add_mul,Nat.one_mul]at this;exact this);have ch:wrap64 ((d:Int)+1 - 1)=(d:Int):=(by rw[show (d:Int)+1 - 1=(d:Int) by omega];exact IntWalk.wrap64_in _ OC);have ca:(d:Int)+1 - 1=(d:Int):=OC;have ae:Hid (k * Bm d+Bm d<=3 * Bm d/\k * Bm d<=3 * Bm d):=⟨ab,ap⟩;have p:Hid (l.length<=k * Bm d):=aq;clear Q aq ap ab;go_wp2_with fail;refine(HE.out (P+1+k * Bm d) wr nv nl _ F ret loops count H _ aj.out (by have:=ae.out;omega)).mono ?_;rintro e w5 ⟨a5,n5,c5,s5,rfl,b3,bl,T⟩;obtain⟨G,bf,bo,ar⟩:=b3;have cj:=T.size;have L:Hid (w5.ownsRow V.heap.size 62 6 (.slice oa l.length oc) l.length (Ap l)):=T.row M.out OD;obtain⟨a6,c6,e6⟩:=B3 ar;injection e6 with e61 e62 e63;subst e61;subst e62;subst e63;have bx:Hid (Aw B g R (P+1+k * Bm d+Bm d) w5 nv nl (.slice (some (OK b 0)) n y) F ret loops count s5):=bl;have bv:Hid (Bg B V w5):=a0.out.trans T;have ah:Hid (w5.ownsRow wr.heap.size 62 6 (.slice a5 G.length c5) G.length (Ap G)/\(∀ x ∈ G,Fi x)/\G.length<=Bm d):=⟨ar,bo,bf⟩;clear bl T ar bo;obtain⟨q5,N⟩:∃ q,Hid (G.length=q):=⟨_,(rfl:G.length=_)⟩;rw[N.out]at bf |-
      obtain⟨q6,r⟩:∃ q,Hid (l.length=q):=⟨_,(rfl:l.length=_)⟩;rw[r.out]at L p M |-
      go_wp2_with (first|(at_builtin;(refine Eo rfl _ _ 23 rfl V.heap.size 62 i0 (.agg #[.int .i64 0,.int .i64 0,.int .i64 0,.int .i64 0,.string ⟨#[]⟩,.int .i64 0]) 6 56 underlying23 be bp bq br rfl OD _ _ _ rfl L.out a5 q5 c5 rfl (Ap G) (by rw[Jo,N.out]) (by have:=M5 ah.out.1;rw[N.out]at this;exact this) (Le G) (by have:=p.out;have:=ae.out;unfold maxLen;omega) (by have:=p.out;have:=ae.out;omega) OC ?_;intro v6 w6 i A)));obtain⟨a7,c7,e7⟩:=B3 i;subst e7;have ai:Hid (Aw B g R (P+1+k * Bm d+Bm d) w6 nv nl (.slice (some (OK b 0)) n y) F ret loops count s5):=bx.out.grown L.out bd A;have ad:Hid (Bg B V w6):=bv.out.grown L.out ON A;go_roundw;case rel =>
       refine⟨k+1,l++G,s5,by omega,by go_num, ?_, ?_, ?_, ?_,ad.out⟩
       ·rw[List.length_append,Nat.add_mul,Nat.one_mul,r.out];have:=p.out;have:=ah.out.2.2;omega
       ·intro x z;rcases List.mem_append.1 z with z|z
        ·exact a1.out x z
        ·exact ah.out.2.1 x z
       ·rw[List.length_append,r.out,N.out,Ap,List.flatMap_append];exact i
       ·rw[Nat.add_mul,Nat.one_mul,<- Nat.add_assoc];exact ai.out
      case measure=>simp[intOf];omega
     ·have b0:¬ (k:Int) < (m:Int):=OC;have p:Hid (l.length<=3 * Bm d):=by show l.length<=3 * Bm d;omega
      have bz:Hid (Aw B g R (P+1+3 * Bm d) wr nv nl (.slice (some (OK b 0)) n y) F ret loops count H):=aj.out.mono OC;have bg:l.length<=2100000000:=OC;clear Q aq ap;obtain⟨q6,r⟩:∃ q,Hid (l.length=q):=⟨_,(rfl:l.length=_)⟩;rw[r.out]at p M bg |-
      obtain⟨V2,am⟩:∃ Y,wr.alloc (.cells #[.int .i64 7,.int .i64 0,.int .i64 0,.int .i64 0,.string nm,.int .i64 (m:Int)] 62)=Y:=⟨_,rfl⟩;have an:Below wr.heap.size wr V2:=(by rw[<- am];exact OP wr _);have cf:V2.heap.size=wr.heap.size+1:=(by rw[<- am];simp);have af:Hid (V2.ownsRow V.heap.size 62 6 (.slice oa q6 oc) q6 (Ap l)):=B1 M.out (fun k _ _ hl=>an.block k hl);have bn:Jn V2 (some (OK wr.heap.size 0)) 1 (By ⟨7,0,0,0,nm,(m:Int)⟩):=fun _=>⟨_,rfl,fun k u hk=>by
       rw[Ld,<- am,Lib.cell_of_heap (World.alloc_heap_new wr _)]
       simpa[By]using hk⟩
      have bw:Hid (Aw B g R (P+1+3 * Bm d) V2 nv nl (.slice (some (OK b 0)) n y) F ret loops count H):=bz.out.below an;have bu:Hid (Bg B V V2):=a0.out.trans (Bg.of_below an);go_wp2_with (first|(at_builtin;(refine Eo rfl _ _ 23 rfl V.heap.size 62 i0 (.agg #[.int .i64 0,.int .i64 0,.int .i64 0,.int .i64 0,.string ⟨#[]⟩,.int .i64 0]) 6 56 underlying23 be bp bq br rfl OD _ _ _ rfl af.out (some (OK wr.heap.size 0)) 1 1 rfl (By ⟨7,0,0,0,nm,(m:Int)⟩) rfl bn (fun u hu=>Le [⟨7,0,0,0,nm,(m:Int)⟩] u (by simpa[Ap]using hu)) OI OC OC ?_;intro v6 w6 i A)));obtain⟨a7,c7,e7⟩:=B3 i;subst e7;have ai:=bw.out.grown af.out bd A;have ad:=bu.out.grown af.out ON A;have b8:w.heap.size<=V.heap.size:=(by have:=ay.out.size;omega);refine bodyPost_ret (v:=.tuple #[.slice a7 (q6+1) c7,.bool true]) (by simp[results,results160,go_sem]) rfl ⟨a7,_,c7,true,H,rfl,⟨l++[⟨7,0,0,0,nm,(m:Int)⟩], ?_, ?_, ?_⟩,ai,(az.out.trans (Bg.of_below ay.out)).trans ad⟩
      ·have:=p.out;rw[List.length_append,r.out];simp;omega
      ·intro x z;rcases List.mem_append.1 z with z|z
       ·exact a1.out x z
       ·simp at z;subst z;exact L1 OC
      ·have:=G0 i b8;rw[List.length_append,r.out];simpa[Ap,List.flatMap_append]using this
  ·have bh:¬ (j:Int) < (n:Int):=OC;clear D O hv;go_wp2_with fail;have ba:Below I.heap.size I (wr.alloc (.cells #[] 62)):=J.out.alloc aa _;exact bodyPost_ret (v:=.tuple #[.slice (some (OK wr.heap.size 0)) 0 0,.bool false]) (by simp[results,results160,go_sem]) rfl ⟨_,_,_,false,size,rfl,(Mg wr).mono OC OC,a4.out.below ba,az.out.trans (Bg.of_below ba)⟩
theorem DdGenJx342 {P:Prop} (h:P:=by
 change Aw B g R (P+1+1+3 * Bm d) w2 nv nl fv F ret loops count s2 at ae
 go_wp2_with fail
 go_ret
 exact⟨a2,n2,c2,s2,rfl,b9.mono OC OC,ae.mono OC,K.trans aj⟩
 ):P:=h
theorem DdGenJx231 {P:Prop} (h:P:=by
 refine(W9 HE0 O OC).mono ?_
 rintro e H ⟨ay,ba,a0,G,rfl,D,l,f⟩
 have ac:=l.cells.1
 have N:=f.size
 go_wp2_with fail
 refine(M0 1 (D.mono ON (show _<=Bm d by omega)) OC).mono ?_
 rintro e wz ⟨Z,nz,cz,rfl,C,x⟩
 go_wp2_with fail
 go_ret
 exact⟨Z,nz,cz,G,rfl,C.mono OC OC,(l.below x).mono OC,(K.trans f).trans (Bg.of_below x)⟩
 ):P:=h
theorem DdGenJx226 {P:Prop} (h:P:=by
 rintro e wz ⟨Z,nz,cz,rfl,C,x⟩
 go_wp2_with fail
 go_ret
 exact⟨Z,nz,cz,ag,rfl,C.mono OC OC,(A.below x).mono OC,((K.trans f).trans s).trans (Bg.of_below x)⟩
 ):P:=h
theorem DdGenJx27 {P:Prop} (h:P:=by
 refine(HE.out _ X nv nl _ F ret loops count size 2 O OC).mono ?_
 rintro e H ⟨ay,ba,a0,G,rfl,D,l,f⟩
 have ac:=l.cells.1
 have N:=f.size
 go_wp2_with fail
 refine(HE.out _ H nv nl _ F ret loops count G 2 l OC).mono ?_
 rintro e Y ⟨be,bg,bf,ag,rfl,J,A,s⟩
 have al:=A.cells.1
 have af:=s.size
 go_wp2_with fail
 refine(Yu _ ((D.fr s).mono ON (show _<=Bm d by omega)) (J.mono ON (show _<=Bm d by omega)) OC).mono ?_
 rintro e wz ⟨Z,nz,cz,rfl,C,x⟩
 go_wp2_with fail
 go_ret
 exact⟨Z,nz,cz,ag,rfl,C.mono OC OC,(A.below x).mono OC,((K.trans f).trans s).trans (Bg.of_below x)⟩
 ):P:=h
theorem Qgm {B g R P d:Nat} {w:World} {nv:Value} {nl:List (ByteArray × Int)} {fv:Value} {F:List Ca} {ret loops count size:Int} (HE0:Hid (F6 B g R 0)) (HE:Hid (F6 B g R d)) (h:Aw B g R P w nv nl fv F ret loops count size) (hP:P+4 * Bm d+50<=700000000) :
  Calls prog 133 #[.pointer (some (OK g 0)),.int .i64 ((d:Int)+1)] w (Tj B g R (P+4 * Bm d+50) (4 * Bm d+50) w nv nl fv F ret loops count):=by
 have HS:Hid (Aw B g R P w nv nl fv F ret loops count size):=h;have cs:=Q5 d;have g0:=h.cells.1;have cr:d<=700000000:=by
  have:d < 5 ^ d:=Nat.lt_pow_self OC;unfold Bm at hP;omega
 clear h;have c0:wrap64 ((d:Int)+1 - 1)=(d:Int):=by rw[show (d:Int)+1 - 1=(d:Int) by omega];exact IntWalk.wrap64_in _ OC
 have cc:(d:Int)+1 - 1=(d:Int):=OC
 go_enter func133,ntmps133;go_wp2_with fail;refine(Bn HS.out 14 OC OC OC).mono ?_;rintro e X ⟨v,rfl,hv,O,K⟩;have g1:=O.cells.1;have c1:=K.size;clear g0;have hd:v=0\/v=1\/v=2\/v=3\/v=4\/v=5\/v=6\/v=7\/v=8\/v=9\/v=10\/11<=v:=OC
 rcases hd with rfl|rfl|rfl|rfl|rfl|rfl|rfl|rfl|rfl|rfl|rfl|de
 ·go_wp2_with fail;exact DdGenJx27
 ·go_wp2_with fail;exact DdGenJx27
 ·go_wp2_with fail;exact DdGenJx27
 ·have cd:IntKind.i64.wrap (d:Int)=(d:Int):=(IntWalk.i64_left _).trans (IntWalk.wrap64_in _ OC);go_wp2_with fail;refine wp_region_held_drew (S:=(fun W=>W.cell? (OK g 0)=some (.pointer (some (OK R 0))))) OE (g1) (fun hHeld => ?_);refine Tk 0 (.pointer (some (OK g 0))) ?_;refine Tk 1 (.int .i64 ((d:Int)+1)) ?_;refine Tk 2 (.int .i64 (d:Int)) ?_;(try simp[Act.put]);refine Tk 4 (.pointer (some (OK g 0))) ?_;refine Tk 5 (.pointer (some (OK g 0))) ?_;refine Tk 6 (.pointer (some (OK g 0))) ?_;(try simp[Act.put]);refine Tk 7 (.pointer (some (OK R 0))) ?_;refine Tk 10 (.pointer (some (OK g 0))) ?_;refine Tk 11 (.pointer (some (OK g 0))) ?_;(try simp[Act.put]);refine Tk 12 (.pointer (some (OK g 0))) ?_;refine Tk 13 (.pointer (some (OK R 0))) ?_;(try simp[Act.put]);have b3:=O.below ((OO X).drew);have c5:X.drew.heap.size=X.heap.size:=rfl;refine Tr 3 rfl fun KK I=>?_
  go_simp;refine(HE.out _ X.drew nv nl _ F ret loops count size 2 b3 OC).mono ?_;rintro e H ⟨ay,ba,a0,G,rfl,D,l,f⟩;have ac:=l.cells.1;have N:=f.size;go_wp2;refine I.out _ _ (ac) (fun hHeld => ?_);clear I;(try simp[Act.put]);refine Tr 8 rfl fun KK I=>?_
  go_simp;refine(Bn l 3 OC OC OC).mono ?_;rintro e Y ⟨u,rfl,hu,A,s⟩;have al:=A.cells.1;have af:=s.size;go_wp2;refine I.out _ _ (al) (fun hHeld => ?_);clear I;(try simp[Act.put]);refine Tr 9 rfl fun KK I=>?_
  go_simp;refine(J5 10 (u:Int) Y).mono ?_;rintro e bv ⟨b0,b6,b1,rfl,ai,a4⟩;have E:Bg B Y bv:=Bg.of_below a4;have M:=A.below a4;have bh:=M.cells.1;have br:=E.size;go_wp2;refine I.out _ _ (bh) (fun hHeld => ?_);clear I;(try simp[Act.put]);refine Tr 14 rfl fun KK I=>?_
  go_simp;refine(Bn M 6 OC OC OC).mono ?_;rintro e ck ⟨y,rfl,hy,bz,bc⟩;have c8:=bz.cells.1;have df:=bc.size;go_wp2;refine I.out _ _ (c8) (fun hHeld => ?_);clear I;(try simp[Act.put]);refine Tr 15 rfl fun KK I=>?_
  go_simp;refine(J5 10 (y:Int) ck).mono ?_;rintro e dc ⟨dh,dm,di,rfl,ca,bx⟩;have bd:Bg B ck dc:=Bg.of_below bx;have bp:=bz.below bx;have cj:=bp.cells.1;have dg:=bd.size;go_wp2;refine I.out _ _ (cj) (fun hHeld => ?_);clear I;(try simp[Act.put]);refine Tr 16 rfl fun KK I=>?_
  go_simp;refine I.out _ _ (Ge cj) (fun hHeld => ?_);clear I;(try simp[Act.put]);refine Tr 17 rfl fun KK I=>?_
  go_simp;refine(Qfh 8 (((((D.fr s).fr E).fr bc).fr bd).mono ON (show _<=Bm d by omega)) (((ai.fr bc).fr bd).mono ON (show _<=Bm d by omega)) (ca.mono ON (show _<=Bm d by omega)) OC).mono ?_;rintro e wz ⟨Z,nz,cz,rfl,C,x⟩;have b4:=(bp.below x);go_wp2;refine I.out _ _ (b4.cells.1) (fun hHeld => ?_);clear I;(try simp[Act.put]);refine Tk 18 (.slice Z nz cz) ?_;(try simp[Act.put]);refine wpAnyH_done OE ?_ _;go_wp2_with fail;go_ret;exact⟨Z,nz,cz,G,rfl,C.mono OC OC,(bp.below x).mono OC,(((((K.drew.trans f).trans s).trans E).trans bc).trans bd).trans (Bg.of_below x)⟩
 ·go_wp2_with fail;refine(HE.out _ X nv nl _ F ret loops count size 2 O OC).mono ?_;rintro e H ⟨ay,ba,a0,G,rfl,D,l,f⟩;have ac:=l.cells.1;have N:=f.size;go_wp2_with fail;refine(HE.out _ H nv nl _ F ret loops count G 10 l OC).mono ?_;rintro e Y ⟨be,bg,bf,ag,rfl,J,A,s⟩;have al:=A.cells.1;have af:=s.size;go_wp2_with fail;refine(HE.out _ Y nv nl _ F ret loops count ag 10 A OC).mono ?_;rintro e bv ⟨b0,b6,b1,bs,rfl,ai,M,E⟩;have bh:=M.cells.1;have br:=E.size;go_wp2_with fail;refine(Qfh 8 (((D.fr s).fr E).mono ON (show _<=Bm d by omega)) ((J.fr E).mono ON (show _<=Bm d by omega)) (ai.mono ON (show _<=Bm d by omega)) OC).mono ?_;rintro e wz ⟨Z,nz,cz,rfl,C,x⟩;go_wp2_with fail;go_ret;exact⟨Z,nz,cz,bs,rfl,C.mono OC OC,(M.below x).mono OC,(((K.trans f).trans s).trans E).trans (Bg.of_below x)⟩
 ·go_wp2_with fail;refine(HE.out _ X nv nl _ F ret loops count size 3 O OC).mono ?_;rintro e H ⟨ay,ba,a0,G,rfl,D,l,f⟩;have ac:=l.cells.1;have N:=f.size;go_wp2_with fail;refine(M0 10 (D.mono ON (show _<=Bm d by omega)) OC).mono ?_;rintro e wz ⟨Z,nz,cz,rfl,C,x⟩;go_wp2_with fail;go_ret;exact⟨Z,nz,cz,G,rfl,C.mono OC OC,(l.below x).mono OC,(K.trans f).trans (Bg.of_below x)⟩
 ·go_wp2_with fail;refine(Bn O 8 OC OC OC).mono ?_;rintro e H ⟨u,rfl,hu,l,f⟩;have ac:=l.cells.1;have N:=f.size;go_wp2_with fail;refine(HE.out _ H nv nl _ F ret loops count size _ l OC).mono ?_;rintro e Y ⟨be,bg,bf,ag,rfl,J,A,s⟩;have al:=A.cells.1;have af:=s.size;go_wp2_with fail;refine(M0 11 (J.mono ON (show _<=Bm d by omega)) OC).mono ?_;exact DdGenJx226
 ·go_wp2_with fail;exact DdGenJx231
 ·go_wp2_with fail;exact DdGenJx231
 ·obtain⟨VT,au⟩:∃ V,X.alloc (.cells #[.string ⟨#[]⟩,.string ⟨#[108,105,98,47]⟩,.string ⟨#[116]⟩,.string ⟨#[120,32,121]⟩] 9)=V:=⟨_,rfl⟩;have bj:Below X.heap.size X VT:=by rw[<- au];exact OP X _
  have av:VT.heap[X.heap.size]? = some (.cells #[.string ⟨#[]⟩,.string ⟨#[108,105,98,47]⟩,.string ⟨#[116]⟩,.string ⟨#[120,32,121]⟩] 9):=by rw[<- au];exact World.alloc_heap_new X _
  have bo:=O.below bj;have gT:=bo.cells.1;have bk:Bg B X VT:=Bg.of_below bj;have c4:=bk.size;go_wp2_with fail;try rw[au]
  refine(Bn bo 4 OC OC OC).mono ?_;rintro e H ⟨u,rfl,hu,l,f⟩;have ac:=l.cells.1;have N:=f.size;have bq:=(f.keep X.heap.size (Array.getElem?_eq_some_iff.1 av).1 (.inr (fun cur t fr hc=>by rw[av]at hc;injection hc with hc;injection hc with _ hc _;rw[<- hc];decide))).trans av;obtain⟨tx,cy,b5⟩:∃ tx:ByteArray,H.cell? (OK X.heap.size u)=some (.string tx)/\tx.size<=100:=by
   have bb:u < 4:=OC;have bi:((#[.string ⟨#[]⟩,.string ⟨#[108,105,98,47]⟩,.string ⟨#[116]⟩,.string ⟨#[120,32,121]⟩]:Array Value).toList).all (Jr 100)=true:=OD;obtain⟨tx,h1,h2⟩:=Mn (List.all_eq_true.1 bi ((#[.string ⟨#[]⟩,.string ⟨#[108,105,98,47]⟩,.string ⟨#[116]⟩,.string ⟨#[120,32,121]⟩]:Array Value)[u]'(by simpa using bb)) OF);exact⟨tx,by rw[Lib.cell_of_heap bq,Array.getElem?_eq_getElem (by simpa using bb),h1],h2⟩
  have cb:(u:Int) < 4:=OC
  clear bq av au;go_wp2_with fail;refine(D8 tx b5 H).mono ?_;rintro e Y ⟨be,bg,bf,rfl,J,a1⟩;have s:Bg B H Y:=Bg.of_below a1;have A:=l.below a1;have al:=A.cells.1;have af:=s.size;go_wp2_with fail;refine(M0 3 (J.mono ON (show _<=Bm d by omega)) OC).mono ?_;rintro e wz ⟨Z,nz,cz,rfl,C,x⟩;go_wp2_with fail;go_ret;exact⟨Z,nz,cz,size,rfl,C.mono OC OC,(A.below x).mono OC,(((K.trans bk).trans f).trans s).trans (Bg.of_below x)⟩
 ·obtain⟨VT,au⟩:∃ V,X.alloc (.cells #[.string ⟨#[116,48]⟩,.string ⟨#[116,49]⟩,.string ⟨#[97]⟩] 9)=V:=⟨_,rfl⟩;have bj:Below X.heap.size X VT:=by rw[<- au];exact OP X _
  have av:VT.heap[X.heap.size]? = some (.cells #[.string ⟨#[116,48]⟩,.string ⟨#[116,49]⟩,.string ⟨#[97]⟩] 9):=by rw[<- au];exact World.alloc_heap_new X _
  have bo:=O.below bj;have gT:=bo.cells.1;have bk:Bg B X VT:=Bg.of_below bj;have c4:=bk.size;go_wp2_with fail;try rw[au]
  refine(Bn bo 3 OC OC OC).mono ?_;rintro e H ⟨u,rfl,hu,l,f⟩;have ac:=l.cells.1;have N:=f.size;have bq:=(f.keep X.heap.size (Array.getElem?_eq_some_iff.1 av).1 (.inr (fun cur t fr hc=>by rw[av]at hc;injection hc with hc;injection hc with _ hc _;rw[<- hc];decide))).trans av;obtain⟨tx,cy,b5⟩:∃ tx:ByteArray,H.cell? (OK X.heap.size u)=some (.string tx)/\tx.size<=100:=by
   have bb:u < 3:=OC;have bi:((#[.string ⟨#[116,48]⟩,.string ⟨#[116,49]⟩,.string ⟨#[97]⟩]:Array Value).toList).all (Jr 100)=true:=OD;obtain⟨tx,h1,h2⟩:=Mn (List.all_eq_true.1 bi ((#[.string ⟨#[116,48]⟩,.string ⟨#[116,49]⟩,.string ⟨#[97]⟩]:Array Value)[u]'(by simpa using bb)) OF);exact⟨tx,by rw[Lib.cell_of_heap bq,Array.getElem?_eq_getElem (by simpa using bb),h1],h2⟩
  have cb:(u:Int) < 3:=OC
  clear bq av au;go_wp2_with fail;refine(D8 tx b5 H).mono ?_;rintro e Y ⟨be,bg,bf,rfl,J,a1⟩;have s:Bg B H Y:=Bg.of_below a1;have A:=l.below a1;have al:=A.cells.1;have af:=s.size;go_wp2_with fail;refine(HE.out _ Y nv nl _ F ret loops count size 2 A OC).mono ?_;rintro e bv ⟨b0,b6,b1,bs,rfl,ai,M,E⟩;have bh:=M.cells.1;have br:=E.size;go_wp2_with fail;refine(Yv 4 ((J.fr E).mono ON (show _<=Bm d by omega)) (ai.mono ON (show _<=Bm d by omega)) OC).mono ?_;rintro e wz ⟨Z,nz,cz,rfl,C,x⟩;go_wp2_with fail;go_ret;exact⟨Z,nz,cz,bs,rfl,C.mono OC OC,(M.below x).mono OC,((((K.trans bk).trans f).trans s).trans E).trans (Bg.of_below x)⟩
 ·have f0:((v:Int) == 0)=false:=by simp;omega
  have f1:((v:Int) == 1)=false:=by simp;omega
  have f2:((v:Int) == 2)=false:=by simp;omega
  have f3:((v:Int) == 3)=false:=by simp;omega
  have f4:((v:Int) == 4)=false:=by simp;omega
  have f5:((v:Int) == 5)=false:=by simp;omega
  have f6:((v:Int) == 6)=false:=by simp;omega
  have f7:((v:Int) == 7)=false:=by simp;omega
  have f8:((v:Int) == 8)=false:=by simp;omega
  have f9:((v:Int) == 9)=false:=by simp;omega
  have dj:((v:Int) == 10)=false:=by simp;omega
  go_wp2_with fail;refine(Tm HE O OC 2).mono ?_;rintro e w2 ⟨a2,n2,c2,b2,s2,rfl,b9,ae,aj⟩;have ce:=aj.size;cases b2 with
  | true =>
   exact DdGenJx342
  | false =>
   change Aw B g R (P+1+1) w2 nv nl fv F ret loops count s2 at ae;go_wp2_with fail;refine(Rs ae OC 2).mono ?_;rintro e w3 ⟨a3,n3,c3,rfl,cw,cx,ct⟩;go_wp2_with fail;go_ret;exact⟨a3,n3,c3,s2,rfl,cw.mono OC OC,cx.mono OC,(K.trans aj).trans ct⟩
theorem Qk4 (l:Array Bool) (i j:Nat) (hi:i < l.size):(l.setIfInBounds i true).getD j false=(j == i || l.getD j false):=by
 by_cases e:j=i
 ·subst e;simp[hi]
 ·have a:¬ i=j:=fun h=>e h.symm
  simp[e,a]
theorem W4 (l:List Bool) (i:Nat) (h:l[i]? = some false):(l.set i true).count false+1=l.count false:=by
 induction l generalizing i with
 | nil=>simp at h
 | cons x t ih =>
  cases i with
  | zero=>simp at h;subst h;simp
  | succ i=>simp at h;have:=ih i h;simp[List.count_cons];omega
theorem Qd4 {P:Program} {ops:Array Oper} {Q:Exit->Act->World->Prop} {md:Region.Mode} {S:World->Prop} (I:(Nat->Bool)->Act->World->Prop)
  (htop:(List.range ops.size).all (fun i=>((ops[i]?).map (·.after.all fun e=>decide (e.on < i))).getD true)=true)
  (hS:∀ L a w,I L a w->S w)
  (hstep:∀ (L:Nat->Bool) (i:Nat) (o:Oper),ops[i]? = some o->L i=false->(∀ e ∈ o.after,Region.binds md e=true->L e.on=true)->∀ a w,I L a w->∀ K':Act->World->Prop,Shut (∀ a' w',I (fun j=>j == i || L j) a' w'->K' a' w')->if Region.wanted o (yielded ops a.tmps)=true then Oper.wp P o a w K' Q else K' (a.put o.dst undef) w)
  (hdone:∀ (L:Nat->Bool),(∀ i,i < ops.size->L i=true)->∀ a w,I L a w->Q .normal a w) :
  ∀ (c:Nat) (b:Array Bool) (a:Act) (w:World),b.size=ops.size->b.toList.count false<=c->I (fun j=>b.getD j false) a w->wpAnyH P md ops Q S c b a w:=by
 have g:∀ b:Array Bool,b.size=ops.size->Region.ready md ops b=[]->∀ n i,i<=n->i < ops.size->b.getD i false=true:=by
  intro b k v n;induction n using Nat.strongRecOn with
  | ind n ih =>
   intro i u d;by_cases p:b.getD i false=true
   ·exact p
   ·exfalso;have l:i ∈ Region.ready md ops b:=by
     rw[mem_ready];refine⟨?_,ops[i],by simp[d],fun e he hb => ?_⟩
     ·have:i < b.size:=OC;simp[this]at p |-;exact p
     ·have h:=(List.all_eq_true.1 htop) i (List.mem_range.2 d);simp only[Array.getElem?_eq_getElem d,Option.map_some,Option.getD_some]at h;rw[Array.all_eq_true_iff_forall_mem]at h;have s:=of_decide_eq_true (h e he);exact ih e.on OC e.on ON OC
    rw[v]at l;cases l
 intro c;induction c with
 | zero =>
  intro b a w k p r;have f:Region.ready md ops b=[]:=by
   apply List.eq_nil_iff_forall_not_mem.2;intro i l;obtain⟨m,o,q,-⟩:=mem_ready.1 l;have d:i < b.size:=(by rw[k];exact(Array.getElem?_eq_some_iff.1 q).1);simp[d]at m;have:b.toList[i]? = some false:=(by simp[d,m]);have:=W4 _ _ this;omega
  exact⟨f,hdone _ (fun i d=>g b k f i i ON d) a w r⟩
 | succ c ih =>
  intro b a w k p r;refine⟨fun f=>hdone _ (fun i d=>g b k f i i ON d) a w r,fun i l => ?_⟩;obtain⟨m,o,q,t⟩:=mem_ready.1 l;have d:i < b.size:=by rw[k];exact(Array.getElem?_eq_some_iff.1 q).1
  have h:b.getD i false=false:=by simp[d]at m |-;exact m
  refine wpOp_step q (fun K' hK=>hstep _ i o q h t a w r K' (fun a' w' hI'=>hK a' w' ⟨hS _ _ _ hI', ?_⟩));refine ih _ a' w' (by simp[k]) ?_ ?_
  ·have s:b.toList[i]? = some false:=by simp[d]at h |-;exact h
   have:=W4 _ _ s;simp only[Array.toList_setIfInBounds];omega
  ·have e:(fun j=>(b.setIfInBounds i true).getD j false)=(fun j=>j == i || b.getD j false):=funext fun j=>Qk4 b i j d
   rw[e];exact hI'
theorem Qb2 {P:Program} {ops:Array Oper} {Q:Exit->Act->World->Prop} {md:Region.Mode} {S:World->Prop} (J:Act->(Nat->Bool)->Act->World->Prop) {fuel:Nat} {listed:Array Bool} {a0:Act} {w:World}
  (htop:(List.range ops.size).all (fun i=>((ops[i]?).map (·.after.all fun e=>decide (e.on < i))).getD true)=true)
  (hS:∀ L a w,J a0 L a w->S w)
  (hstep:∀ (L:Nat->Bool) (i:Nat) (o:Oper),ops[i]? = some o->L i=false->(∀ e ∈ o.after,Region.binds md e=true->L e.on=true)->∀ a w,J a0 L a w->∀ K':Act->World->Prop,Shut (∀ a' w',J a0 (fun j=>j == i || L j) a' w'->K' a' w')->if Region.wanted o (yielded ops a.tmps)=true then Oper.wp P o a w K' Q else K' (a.put o.dst undef) w)
  (hdone:∀ (L:Nat->Bool),(∀ i,i < ops.size->L i=true)->∀ a w,J a0 L a w->Q .normal a w)
  (hs:listed.size=ops.size) (hc:listed.toList.count false<=fuel) (h0:J a0 (fun j=>listed.getD j false) a0 w):wpAnyH P md ops Q S fuel listed a0 w :=
 Qd4 (J a0) htop hS hstep hdone fuel listed a0 w hs hc h0
theorem Tp {b:Bool} {P:Prop} (h:b=false) (k:b=true):P:=by rw[h]at k;cases k
structure Qfe (B g R P e:Nat) (w1:World) (nv:Value) (nl:List (ByteArray × Int)) (fv:Value) (F:List Ca) (ret loops count:Int) (L:Nat->Bool) (U:World) (v16 v21 v22 v23 v24 v29 v30 v31 v6:Value):Prop where
 lo:L 1=true/\L 2=true/\L 3=true/\L 4=true/\L 9=true/\L 10=true/\L 11=true/\L 12=true
 d:(L 13=true->L 5=true)/\(L 15=true->L 13=true)/\(L 16=true->L 15=true)
 fr:Bg B w1 U
 st:∃ size,Aw B g R (cond (L 13) (P+1+e) (cond (L 5) (P+1) P)) U nv nl fv F ret loops count size
 f0:L 0=true->∃ b,v16 = .slice (some (OK b 0)) 2 2/\U.heap[b]? = some (.cells #[.int .i64 1,.int .i64 3] 3)
 f5:L 5=true->∃ u:Nat,u < 2/\v21 = .int .i64 (u:Int)
 f6:L 6=true->∃ b u:Nat,u < 2/\v22 = .pointer (some (OK b u))/\U.heap[b]? = some (.cells #[.int .i64 1,.int .i64 3] 3)
 f7:L 7=true->∃ z,v23 = .int .i64 z
 f8:L 8=true->∃ z,v24 = .agg #[.int .i64 5,.int .i64 z,.int .i64 0,.int .i64 0,.string ⟨#[]⟩,.int .i64 0]
 f13:L 13=true->∃ a n c,v29 = .slice a n c/\As w1.heap.size U (.slice a n c) e
 f14:L 14=true->∃ b a n c,v30 = .slice (some (OK b 0)) 1 1/\U.heap[b]? = some (.cells #[.slice a n c] 23)/\As w1.heap.size U (.slice a n c) e
 f15:L 15=true->∃ a n c,v31 = .slice a n c/\As w1.heap.size U (.slice a n c) (e+1)
 f16:L 16=true->v6=v31
theorem Bg.blk {B:Nat} {U U':World} (hf:Bg B U U') {b:Nat} {cur:Array Value} {t:TypeId} (h:U.heap[b]? = some (.cells cur t)) (ht:t≠81/\t≠131):U'.heap[b]? = some (.cells cur t) :=
 (hf.keep b (Array.getElem?_eq_some_iff.1 h).1 (.inr (fun c2 t2 fr hc=>by rw[h]at hc;injection hc with hc;injection hc with _ hc _;rw[<- hc];exact ht))).trans h
theorem Qfe.keep {B g R P e:Nat} {w1:World} {nv:Value} {nl:List (ByteArray × Int)} {fv:Value} {F:List Ca} {ret loops count:Int} {L:Nat->Bool} {U U':World} {v16 v21 v22 v23 v24 v29 v30 v31 v6:Value} (h:Qfe B g R P e w1 nv nl fv F ret loops count L U v16 v21 v22 v23 v24 v29 v30 v31 v6) (hf:Bg B U U') (hst:∃ size,Aw B g R (cond (L 13) (P+1+e) (cond (L 5) (P+1) P)) U' nv nl fv F ret loops count size):Qfe B g R P e w1 nv nl fv F ret loops count L U' v16 v21 v22 v23 v24 v29 v30 v31 v6 :=
 ⟨h.lo,h.d,h.fr.trans hf,hst,fun q=>let ⟨b,a,r⟩:=h.f0 q;⟨b,a,hf.blk r OD⟩,h.f5,fun q=>let ⟨b,u,a,c,r⟩:=h.f6 q;⟨b,u,a,c,hf.blk r OD⟩,h.f7,h.f8,fun q=>let ⟨a,n,c,k,r⟩:=h.f13 q;⟨a,n,c,k,r.fr hf⟩,fun q=>let ⟨b,a,n,c,k,m,r⟩:=h.f14 q;⟨b,a,n,c,k,hf.blk m OD,r.fr hf⟩,fun q=>let ⟨a,n,c,k,r⟩:=h.f15 q;⟨a,n,c,k,r.fr hf⟩,h.f16⟩
end Go.Proofs.YtjlaedokfbcbpaaGreatDoor
