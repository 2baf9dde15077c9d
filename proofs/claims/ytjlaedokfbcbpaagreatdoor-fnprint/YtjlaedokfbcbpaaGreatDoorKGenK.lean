import Derived.Test.YtjlaedokfbcbpaaGreatDoorKGenI
import Derived.Lib.ItoaNum
import Derived.Lib.Index
import Derived.Lib.ItoaMem
import Derived.OwnWalk
import Derived.MapKept
set_option maxRecDepth 100000
set_option maxHeartbeats 4000000
namespace Go.Proofs.YtjlaedokfbcbpaaGreatDoor
open Go.RowKit Proofs.Tryz
def Q7 (a0:Act) (v16 v21 v22 v23 v24 v29 v30 v31 v6:Value):Act:=((((((((a0.put (some 16) v16).put (some 21) v21).put (some 22) v22).put (some 23) v23).put (some 24) v24).put (some 29) v29).put (some 30) v30).put (some 31) v31).put (some 6) v6
def Qqt (B g R P e:Nat) (w1:World) (nv:Value) (nl:List (ByteArray × Int)) (fv:Value) (F:List Ca) (ret loops count:Int) (a0:Act) (L:Nat->Bool) (a:Act) (U:World):Prop := ∃ v16 v21 v22 v23 v24 v29 v30 v31 v6,a=Q7 a0 v16 v21 v22 v23 v24 v29 v30 v31 v6/\U.cell? (OK g 0)=some (.pointer (some (OK R 0)))/\Qfe B g R P e w1 nv nl fv F ret loops count L U v16 v21 v22 v23 v24 v29 v30 v31 v6
theorem DdGenKx184 {P:Prop} (h:P:=by
 rintro e wz ⟨Z,nz,cz,rfl,C,x⟩
 go_wp2_with fail
 go_ret
 exact⟨Z,nz,cz,G,rfl,C.mono OC OC,(l.below x).mono OC,((K.trans aj).trans f).trans (Bg.of_below x)⟩
 ):P:=h
theorem DdGenKx295 {P:Prop} (h:P:=by
 go_wp2_with fail
 refine(Bn O 10 OC OC OC).mono ?_
 rintro e b7 ⟨u,rfl,hu,a7,a5⟩
 have c9:=a7.cells.1
 have cg:=a5.size
 go_wp2_with fail
 refine(HE.out _ b7 nv nl _ F ret loops count size t a7 OC).mono ?_
 rintro e b8 ⟨cl,c6,cn,bt,rfl,bl,a8,a6⟩
 have da:=a8.cells.1
 have ch:=a6.size
 go_wp2_with fail
 refine(HE.out _ b8 nv nl _ F ret loops count bt t a8 OC).mono ?_
 rintro e dd ⟨cm,c7,co,bu,rfl,bm,a9,ah⟩
 have db:=a9.cells.1
 have ci:=ah.size
 go_wp2_with fail
 refine(Yu _ ((bl.fr ah).mono ON (show _<=Bm d by omega)) (bm.mono ON (show _<=Bm d by omega)) OC).mono ?_
 rintro e wz ⟨Z,nz,cz,rfl,C,x⟩
 go_wp2_with fail
 go_ret
 exact⟨Z,nz,cz,bu,rfl,C.mono OC OC,(a9.below x).mono OC,(((K.trans a5).trans a6).trans ah).trans (Bg.of_below x)⟩
 ):P:=h
theorem Qbx {B g R P d:Nat} {w:World} {nv:Value} {nl:List (ByteArray × Int)} {fv:Value} {F:List Ca} {ret loops count size:Int} (HE:Hid (F6 B g R d)) (h:Aw B g R P w nv nl fv F ret loops count size) (hP:P+4 * Bm d+50<=700000000) (t:Int) :
  Calls prog 134 #[.pointer (some (OK g 0)),.int .i64 t,.int .i64 ((d:Int)+1)] w (Tj B g R (P+4 * Bm d+50) (4 * Bm d+50) w nv nl fv F ret loops count):=by
 have HS:Hid (Aw B g R P w nv nl fv F ret loops count size):=h;have cs:=Q5 d;have g0:=h.cells.1;have cr:d<=700000000:=by
  have:d < 5 ^ d:=Nat.lt_pow_self OC;unfold Bm at hP;omega
 clear h;have c0:wrap64 ((d:Int)+1 - 1)=(d:Int):=by rw[show (d:Int)+1 - 1=(d:Int) by omega];exact IntWalk.wrap64_in _ OC
 have cc:(d:Int)+1 - 1=(d:Int):=OC
 go_enter func134,ntmps134;go_wp2_with fail;refine(Bn HS.out 10 OC OC OC).mono ?_;rintro e X ⟨v,rfl,hv,O,K⟩;have g1:=O.cells.1;have c1:=K.size;clear g0;have hd:v=0\/v=1\/v=2\/v=3\/4<=v:=OC
 rcases hd with rfl|rfl|rfl|rfl|dl
 ·have cd:IntKind.i64.wrap (d:Int)=(d:Int):=(IntWalk.i64_left _).trans (IntWalk.wrap64_in _ OC);go_wp2_with fail;refine wp_region_held_drew (S:=(fun W=>W.cell? (OK g 0)=some (.pointer (some (OK R 0))))) OE (g1) (fun hHeld => ?_);refine Tk 1 (.pointer (some (OK g 0))) ?_;refine Tk 2 (.pointer (some (OK g 0))) ?_;refine Tk 3 (.pointer (some (OK g 0))) ?_;(try simp[Act.put]);refine Tk 4 (.pointer (some (OK R 0))) ?_;refine Tk 9 (.pointer (some (OK g 0))) ?_;refine Tk 10 (.int .i64 t) ?_;(try simp[Act.put]);refine Tk 11 (.int .i64 ((d:Int)+1)) ?_;refine Tk 12 (.int .i64 (d:Int)) ?_;(try simp[Act.put]);refine Qb2 (Qqt B g R (P+1) (Bm d) X nv nl fv F ret loops count) OE (fun L a U h=>by obtain⟨_,_,_,_,_,_,_,_,_,_,hs,_⟩:=h;exact hs) ?step0 ?done0 (by rfl) OD ⟨undef,undef,undef,undef,undef,undef,undef,undef,.slice none 0 0,by simp only[Q7,Act.put,List.setIfInBounds_toArray,List.set_cons_zero,List.set_cons_succ],hHeld, ?start0⟩;case start0=>exact⟨⟨rfl,rfl,rfl,rfl,rfl,rfl,rfl,rfl⟩,⟨(fun q=>nomatch q),(fun q=>nomatch q),(fun q=>nomatch q)⟩,(Bg.refl _ _).drew,⟨size,O.below ((OO X).drew)⟩,(fun q=>nomatch q),(fun q=>nomatch q),(fun q=>nomatch q),(fun q=>nomatch q),(fun q=>nomatch q),(fun q=>nomatch q),(fun q=>nomatch q),(fun q=>nomatch q),(fun q=>nomatch q)⟩
  case step0 =>
   clear hHeld g1;intro L i o ak ad Q a' U hI K' I;obtain⟨am,aw,an,ao,ap,ax,aq,ar,v6,rfl,hS,p⟩:=hI;have hi:i < 17:=(Array.getElem?_eq_some_iff.1 ak).1;simp only[Q7,Act.put,List.setIfInBounds_toArray,List.set_cons_zero,List.set_cons_succ];obtain⟨sz,ab⟩:=p.st;have cf:=p.fr.size;obtain rfl|rfl|rfl|rfl|rfl|rfl|rfl|rfl|rfl|rfl|rfl|rfl|rfl|rfl|rfl|rfl|rfl:i=0\/i=1\/i=2\/i=3\/i=4\/i=5\/i=6\/i=7\/i=8\/i=9\/i=10\/i=11\/i=12\/i=13\/i=14\/i=15\/i=16:=OC
   ·obtain rfl:=Option.some.inj ak;have hb:=OP U (.cells #[.int .i64 1,.int .i64 3] 3);have T:=p.keep (Bg.of_below hb) ⟨sz,ab.below hb⟩;go_simp;exact I.out _ _ ⟨.slice (some (OK U.heap.size 0)) 2 2,aw,an,ao,ap,ax,aq,ar,v6,by simp only[Q7,Act.put,List.setIfInBounds_toArray,List.set_cons_zero,List.set_cons_succ],Ge hS,⟨p.lo,p.d,T.fr,T.st,fun _=>⟨_,rfl,World.alloc_heap_new U _⟩,T.f5,T.f6,T.f7,T.f8,T.f13,T.f14,T.f15,T.f16⟩⟩
   ·exact Tp ad p.lo.1
   ·exact Tp ad p.lo.2.1
   ·exact Tp ad p.lo.2.2.1
   ·exact Tp ad p.lo.2.2.2.1
   ·obtain rfl:=Option.some.inj ak;have bw:L 13=false:=by cases e:L 13 with|false=>rfl|true=>exact Tp ad (p.d.1 e)
    rw[bw,ad]at ab;change Aw B g R (P+1) U nv nl fv F ret loops count sz at ab;go_simp;refine(Bn ab 2 OC OC OC).mono ?_;rintro e U' ⟨u,rfl,hu,bn,aa⟩;try go_wp2
    have T:Qfe B g R (P+1) (Bm d) X nv nl fv F ret loops count (fun j=>j == 5 || L j) U' am (.int .i64 (u:Int)) an ao ap ax aq ar v6:=by
     refine⟨p.lo,⟨fun _=>rfl,p.d.2⟩,p.fr.trans aa,⟨sz, ?_⟩,fun q=>let ⟨b,a,r⟩:=p.f0 q;⟨b,a,aa.blk r OD⟩,fun _=>⟨u,by omega,rfl⟩,fun q=>let ⟨b,u,a,c,r⟩:=p.f6 q;⟨b,u,a,c,aa.blk r OD⟩,p.f7,p.f8,fun q=>let ⟨a,n,c,k,r⟩:=p.f13 q;⟨a,n,c,k,r.fr aa⟩,fun q=>let ⟨b,a,n,c,k,m,r⟩:=p.f14 q;⟨b,a,n,c,k,aa.blk m OD,r.fr aa⟩,fun q=>let ⟨a,n,c,k,r⟩:=p.f15 q;⟨a,n,c,k,r.fr aa⟩,p.f16⟩;show Aw B g R (cond (L 13) _ (P+1+1)) U' nv nl fv F ret loops count sz
     rw[bw];exact bn
    exact I.out _ _ ⟨am,.int .i64 (u:Int),an,ao,ap,ax,aq,ar,v6,by simp only[Q7,Act.put,List.setIfInBounds_toArray,List.set_cons_zero,List.set_cons_succ],bn.cells.1,T⟩
   ·obtain rfl:=Option.some.inj ak;obtain⟨b,rfl,hb⟩:=p.f0 (Q ⟨0,.data⟩ OF rfl);obtain⟨u,hu,rfl⟩:=p.f5 (Q ⟨5,.data⟩ OF rfl);have cb:(u:Int) < 2:=OC;go_simp;exact I.out _ _ ⟨.slice (some (OK b 0)) 2 2,.int .i64 (u:Int),.pointer (some (OK b u)),ao,ap,ax,aq,ar,v6,by simp only[Q7,Act.put,List.setIfInBounds_toArray,List.set_cons_zero,List.set_cons_succ],hS,⟨p.lo,p.d,p.fr,p.st,p.f0,p.f5,fun _=>⟨b,u,hu,rfl,hb⟩,p.f7,p.f8,p.f13,p.f14,p.f15,p.f16⟩⟩
   ·obtain rfl:=Option.some.inj ak;obtain⟨b,u,hu,rfl,hb⟩:=p.f6 (Q ⟨6,.data⟩ OF rfl);obtain⟨z,hz⟩:∃ z:Int,U.cell? (OK b u)=some (.int .i64 z):=by
     have bb:u=0\/u=1:=OC;rcases bb with rfl|rfl
     ·exact⟨1,by rw[Lib.cell_of_heap hb];rfl⟩
     ·exact⟨3,by rw[Lib.cell_of_heap hb];rfl⟩
    go_simp;exact I.out _ _ ⟨am,aw,.pointer (some (OK b u)),.int .i64 z,ap,ax,aq,ar,v6,by simp only[Q7,Act.put,List.setIfInBounds_toArray,List.set_cons_zero,List.set_cons_succ],hS,⟨p.lo,p.d,p.fr,p.st,p.f0,p.f5,p.f6,fun _=>⟨z,rfl⟩,p.f8,p.f13,p.f14,p.f15,p.f16⟩⟩
   ·obtain rfl:=Option.some.inj ak;obtain⟨z,rfl⟩:=p.f7 (Q ⟨7,.data⟩ OF rfl);go_simp;exact I.out _ _ ⟨am,aw,an,.int .i64 z,.agg #[.int .i64 5,.int .i64 z,.int .i64 0,.int .i64 0,.string ⟨#[]⟩,.int .i64 0],ax,aq,ar,v6,by simp only[Q7,Act.put,List.setIfInBounds_toArray,List.set_cons_zero,List.set_cons_succ],hS,⟨p.lo,p.d,p.fr,p.st,p.f0,p.f5,p.f6,p.f7,fun _=>⟨z,rfl⟩,p.f13,p.f14,p.f15,p.f16⟩⟩
   ·exact Tp ad p.lo.2.2.2.2.1
   ·exact Tp ad p.lo.2.2.2.2.2.1
   ·exact Tp ad p.lo.2.2.2.2.2.2.1
   ·exact Tp ad p.lo.2.2.2.2.2.2.2
   ·obtain rfl:=Option.some.inj ak;have h5:=Q ⟨5,.chain⟩ OF rfl;have dk:L 15=false:=by cases e:L 15 with|false=>rfl|true=>exact Tp ad (p.d.2.1 e)
    rw[ad,h5]at ab;change Aw B g R (P+1+1) U nv nl fv F ret loops count sz at ab;go_simp;refine(HE.out _ U nv nl _ F ret loops count sz t ab OC).mono ?_;rintro e U' ⟨a,n,c,s',rfl,cv,bn,aa⟩;try go_wp2
    have T:Qfe B g R (P+1) (Bm d) X nv nl fv F ret loops count (fun j=>j == 13 || L j) U' am aw an ao ap (.slice a n c) aq ar v6 :=
     ⟨p.lo,⟨fun _=>h5,fun _=>rfl,p.d.2.2⟩,p.fr.trans aa,⟨s',bn⟩,fun q=>let ⟨b,a,r⟩:=p.f0 q;⟨b,a,aa.blk r OD⟩,p.f5,fun q=>let ⟨b,u,a,c,r⟩:=p.f6 q;⟨b,u,a,c,aa.blk r OD⟩,p.f7,p.f8,fun _=>⟨a,n,c,rfl,cv.mono cf ON⟩,fun q=>let ⟨b,a,n,c,k,m,r⟩:=p.f14 q;⟨b,a,n,c,k,aa.blk m OD,r.fr aa⟩,fun q=>let ⟨a,n,c,k,r⟩:=p.f15 q;⟨a,n,c,k,r.fr aa⟩,p.f16⟩
    exact I.out _ _ ⟨am,aw,an,ao,ap,.slice a n c,aq,ar,v6,by simp only[Q7,Act.put,List.setIfInBounds_toArray,List.set_cons_zero,List.set_cons_succ],bn.cells.1,T⟩
   ·obtain rfl:=Option.some.inj ak;obtain⟨a,n,c,rfl,hr⟩:=p.f13 (Q ⟨13,.data⟩ OF rfl);have hb:=OP U (.cells #[.slice a n c] 23);have T:=p.keep (Bg.of_below hb) ⟨sz,ab.below hb⟩;go_simp;exact I.out _ _ ⟨am,aw,an,ao,ap,.slice a n c,.slice (some (OK U.heap.size 0)) 1 1,ar,v6,by simp only[Q7,Act.put,List.setIfInBounds_toArray,List.set_cons_zero,List.set_cons_succ],Ge hS,⟨p.lo,p.d,T.fr,T.st,T.f0,T.f5,T.f6,T.f7,T.f8,T.f13,fun _=>⟨_,a,n,c,rfl,World.alloc_heap_new U _,hr.fr (Bg.of_below (B:=B) hb)⟩,T.f15,T.f16⟩⟩
   ·obtain rfl:=Option.some.inj ak;have bw:=Q ⟨13,.chain⟩ OF rfl;obtain⟨z,rfl⟩:=p.f8 (Q ⟨8,.data⟩ OF rfl);obtain⟨b,a,n,c,rfl,hb,hr⟩:=p.f14 (Q ⟨14,.data⟩ OF rfl);skip;go_simp;refine(Pi ⟨5,z,0,0,⟨#[]⟩,0⟩ Bh [.slice a n c] (Bm d) (some (OK b 0)) 1 U (fun i v hi=>⟨b,rfl,by rw[Lib.cell_of_heap hb];simpa using hi⟩) (fun v hv=>by simp at hv;subst hv;exact⟨_,hr⟩) OF OH).mono ?_;rintro e U' ⟨Z,nz,cz,rfl,C,x⟩;try go_wp2
    have T:=p.keep (Bg.of_below x) ⟨sz,ab.below x⟩;exact I.out _ _ ⟨am,aw,an,ao,.agg #[.int .i64 5,.int .i64 z,.int .i64 0,.int .i64 0,.string ⟨#[]⟩,.int .i64 0],ax,.slice (some (OK b 0)) 1 1,.slice Z nz cz,v6,by simp only[Q7,Act.put,List.setIfInBounds_toArray,List.set_cons_zero,List.set_cons_succ],(ab.below x).cells.1,⟨p.lo,⟨p.d.1,fun _=>bw,fun _=>rfl⟩,T.fr,T.st,T.f0,T.f5,T.f6,T.f7,T.f8,T.f13,T.f14,fun _=>⟨Z,nz,cz,rfl,C.mono cf OF⟩,fun q=>Tp ad (p.d.2.2 q)⟩⟩
   ·obtain rfl:=Option.some.inj ak;obtain⟨a,n,c,rfl,hr⟩:=p.f15 (Q ⟨15,.data⟩ OF rfl);go_simp;exact I.out _ _ ⟨am,aw,an,ao,ap,ax,aq,.slice a n c,.slice a n c,by simp only[Q7,Act.put,List.setIfInBounds_toArray,List.set_cons_zero,List.set_cons_succ],hS,⟨p.lo,⟨p.d.1,p.d.2.1,fun _=>Q ⟨15,.data⟩ OF rfl⟩,p.fr,p.st,p.f0,p.f5,p.f6,p.f7,p.f8,p.f13,p.f14,p.f15,fun _=>rfl⟩⟩
  case done0 =>
   clear hHeld g1;intro L hL a' U hI;obtain⟨am,aw,an,ao,ap,ax,aq,ar,v6,rfl,hS,p⟩:=hI;obtain⟨sz,ab⟩:=p.st;rw[hL 13 OD]at ab;change Aw B g R (P+1+1+Bm d) U nv nl fv F ret loops count sz at ab;obtain⟨a,n,c,cp,hr⟩:=p.f15 (hL 15 OD);obtain rfl:=p.f16 (hL 16 OD);subst cp;have cu:=p.fr;simp only[Q7,Act.put,List.setIfInBounds_toArray,List.set_cons_zero,List.set_cons_succ];clear p hL hS;go_wp2_with fail;go_ret;exact⟨a,n,c,sz,rfl,hr.mono OC OC,ab.mono OC,K.trans cu⟩
 ·go_wp2_with fail;refine(Bn O 8 OC OC OC).mono ?_;rintro e H ⟨u,rfl,hu,l,f⟩;have ac:=l.cells.1;have N:=f.size;go_wp2_with fail;refine(HE.out _ H nv nl _ F ret loops count size _ l OC).mono ?_;rintro e Y ⟨be,bg,bf,ag,rfl,J,A,s⟩;have al:=A.cells.1;have af:=s.size;go_wp2_with fail;refine(D9 ⟨9,0,t,0,⟨#[]⟩,0⟩ Bh (J.mono ON (show _<=Bm d by omega)) OC).mono ?_;exact DdGenJx226
 ·by_cases ht:t=10
  ·subst ht;go_wp2_with fail;refine(Bn O 3 OC OC OC).mono ?_;rintro e w2 ⟨y,rfl,hy,ae,aj⟩;have g2:=ae.cells.1;have ce:=aj.size;have cq:y=0\/y=1\/y=2:=OC;rcases cq with rfl|rfl|rfl
   ·go_wp2_with fail;refine(HE.out _ w2 nv nl _ F ret loops count size 2 ae OC).mono ?_;rintro e H ⟨ay,ba,a0,G,rfl,D,l,f⟩;have ac:=l.cells.1;have N:=f.size;go_wp2_with fail;refine(M0 6 (D.mono ON (show _<=Bm d by omega)) OC).mono ?_;exact DdGenKx184
   ·go_wp2_with fail;refine(HE.out _ w2 nv nl _ F ret loops count size 2 ae OC).mono ?_;rintro e H ⟨ay,ba,a0,G,rfl,D,l,f⟩;have ac:=l.cells.1;have N:=f.size;go_wp2_with fail;refine(HE.out _ H nv nl _ F ret loops count G 2 l OC).mono ?_;rintro e Y ⟨be,bg,bf,ag,rfl,J,A,s⟩;have al:=A.cells.1;have af:=s.size;go_wp2_with fail;refine(Yv 9 ((D.fr s).mono ON (show _<=Bm d by omega)) (J.mono ON (show _<=Bm d by omega)) OC).mono ?_;rintro e wz ⟨Z,nz,cz,rfl,C,x⟩;go_wp2_with fail;go_ret;exact⟨Z,nz,cz,ag,rfl,C.mono OC OC,(A.below x).mono OC,(((K.trans aj).trans f).trans s).trans (Bg.of_below x)⟩
   ·go_wp2_with fail;refine(HE.out _ w2 nv nl _ F ret loops count size 2 ae OC).mono ?_;rintro e H ⟨ay,ba,a0,G,rfl,D,l,f⟩;have ac:=l.cells.1;have N:=f.size;go_wp2_with fail;refine(M0 12 (D.mono ON (show _<=Bm d by omega)) OC).mono ?_;exact DdGenKx184
  ·have e1:(t == 10)=false:=(by simpa using ht);by_cases ht3:t=3
   ·subst ht3;have cd:IntKind.i64.wrap (d:Int)=(d:Int):=(IntWalk.i64_left _).trans (IntWalk.wrap64_in _ OC);go_wp2_with fail;refine wp_region_held_drew (S:=(fun W=>W.cell? (OK g 0)=some (.pointer (some (OK R 0))))) OE (g1) (fun hHeld => ?_);refine Tk 0 (.pointer (some (OK g 0))) ?_;refine Tk 1 (.int .i64 ((d:Int)+1)) ?_;refine Tk 2 (.int .i64 (d:Int)) ?_;(try simp[Act.put]);refine Tk 4 (.pointer (some (OK g 0))) ?_;refine Tk 5 (.pointer (some (OK g 0))) ?_;refine Tk 6 (.pointer (some (OK g 0))) ?_;(try simp[Act.put]);refine Tk 7 (.pointer (some (OK R 0))) ?_;(try simp[Act.put]);have b3:=O.below ((OO X).drew);have c5:X.drew.heap.size=X.heap.size:=rfl;refine Tr 3 rfl fun KK I=>?_
    go_simp;refine(HE.out _ X.drew nv nl _ F ret loops count size 2 b3 OC).mono ?_;rintro e H ⟨ay,ba,a0,G,rfl,D,l,f⟩;have ac:=l.cells.1;have N:=f.size;go_wp2;refine I.out _ _ (ac) (fun hHeld => ?_);clear I;(try simp[Act.put]);refine Tr 8 rfl fun KK I=>?_
    go_simp;refine(Bn l 3 OC OC OC).mono ?_;rintro e Y ⟨u,rfl,hu,A,s⟩;have al:=A.cells.1;have af:=s.size;go_wp2;refine I.out _ _ (al) (fun hHeld => ?_);clear I;(try simp[Act.put]);refine Tr 9 rfl fun KK I=>?_
    go_simp;refine(J5 10 (u:Int) Y).mono ?_;rintro e bv ⟨b0,b6,b1,rfl,ai,a4⟩;have E:Bg B Y bv:=Bg.of_below a4;have M:=A.below a4;have bh:=M.cells.1;have br:=E.size;go_wp2;refine I.out _ _ (bh) (fun hHeld => ?_);clear I;(try simp[Act.put]);refine Tr 10 rfl fun KK I=>?_
    go_simp;refine I.out _ _ (Ge bh) (fun hHeld => ?_);clear I;(try simp[Act.put]);refine Tr 11 rfl fun KK I=>?_
    go_simp;refine(Yv 7 (((D.fr s).fr E).mono ON (show _<=Bm d by omega)) (ai.mono ON (show _<=Bm d by omega)) OC).mono ?_;rintro e wz ⟨Z,nz,cz,rfl,C,x⟩;have b4:=(M.below x);go_wp2;refine I.out _ _ (b4.cells.1) (fun hHeld => ?_);clear I;(try simp[Act.put]);refine Tk 12 (.slice Z nz cz) ?_;(try simp[Act.put]);refine wpAnyH_done OE ?_ _;go_wp2_with fail;go_ret;exact⟨Z,nz,cz,G,rfl,C.mono OC OC,(M.below x).mono OC,(((K.drew.trans f).trans s).trans E).trans (Bg.of_below x)⟩
   ·have e2:(t == 3)=false:=(by simpa using ht3);exact DdGenKx295
 ·go_wp2_with fail;refine(Tm HE O OC t).mono ?_;rintro e w2 ⟨a2,n2,c2,b2,s2,rfl,b9,ae,aj⟩;have ce:=aj.size;cases b2 with
  | true =>
   exact DdGenJx342
  | false =>
   change Aw B g R (P+1+1) w2 nv nl fv F ret loops count s2 at ae;have g2:=ae.cells.1;go_wp2_with fail;refine(Bn ae 10 OC OC OC).mono ?_;rintro e b7 ⟨u,rfl,hu,a7,a5⟩;have c9:=a7.cells.1;have cg:=a5.size;go_wp2_with fail;refine(HE.out _ b7 nv nl _ F ret loops count s2 t a7 OC).mono ?_;rintro e b8 ⟨cl,c6,cn,bt,rfl,bl,a8,a6⟩;have da:=a8.cells.1;have ch:=a6.size;go_wp2_with fail;refine(HE.out _ b8 nv nl _ F ret loops count bt t a8 OC).mono ?_;rintro e dd ⟨cm,c7,co,bu,rfl,bm,a9,ah⟩;have db:=a9.cells.1;have ci:=ah.size;go_wp2_with fail;refine(Yu _ ((bl.fr ah).mono ON (show _<=Bm d by omega)) (bm.mono ON (show _<=Bm d by omega)) OC).mono ?_;rintro e wz ⟨Z,nz,cz,rfl,C,x⟩;go_wp2_with fail;go_ret;exact⟨Z,nz,cz,bu,rfl,C.mono OC OC,(a9.below x).mono OC,((((K.trans aj).trans a5).trans a6).trans ah).trans (Bg.of_below x)⟩
 ·have f0:((v:Int) == 0)=false:=by simp;omega
  have f1:((v:Int) == 1)=false:=by simp;omega
  have f2:((v:Int) == 2)=false:=by simp;omega
  have f3:((v:Int) == 3)=false:=by simp;omega
  exact DdGenKx295
theorem Bd {w:World} {g i k:Nat} {v:Value} (h:k≠g):(w.setCell (OK g i) v).heap[k]? = w.heap[k]?:=Below.heap_setCell _ _ _ _ h
theorem Ha {w:World} {g i:Nat} {arr:Array Value} {t:TypeId} {v:Value} (h:w.heap[g]? = some (.cells arr t)):(w.setCell (OK g i) v).heap[g]? = some (.cells (arr.setIfInBounds i v) t):=by
 simp[World.setCell,Array.getElem?_modify,h]
theorem Aw.put {B g R P P':Nat} {w:World} {nv:Value} {nl:List (ByteArray × Int)} {fv:Value} {F:List Ca} {ret loops count size:Int} (h:Aw B g R P w nv nl fv F ret loops count size) (hP:P<=P') (k:Nat) (x:Value) {ret' loops' count' size':Int} (he:(#[.pointer (some (OK R 0)),nv,fv,.int .i64 ret,.int .i64 loops,.int .i64 count,.int .i64 size]:Array Value).setIfInBounds k x = #[.pointer (some (OK R 0)),nv,fv,.int .i64 ret',.int .i64 loops',.int .i64 count',.int .i64 size']) (hb:Hs ret'/\(0<=loops'/\loops'<=P')/\(0<=count'/\count'<=P')/\(-(P':Int)<=size'/\size'<=P')) :
  Aw B g R P' (w.setCell (OK g k) x) nv nl fv F ret' loops' count' size'/\Bg B w (w.setCell (OK g k) x):=by
 have d:=h.lo;have c:Bg B w (w.setCell (OK g k) x):=⟨rfl,rfl,rfl,by simp[World.setCell],fun j hj b=>Bd (fun e=>by
  subst e
  rcases b with b|b
  ·omega
  ·exact(b _ _ _ h.box).2 rfl)⟩
 obtain⟨p,b,f⟩:=h.rd;refine⟨⟨h.lo,⟨p,by omega,H6 f (fun j hj=>Bd OC)⟩,by rw[Ha h.box,he],B1 h.names (fun j hj _ _=>Bd (fun e=>by
  subst e
  obtain⟨i,a⟩:=(A8 h.names hj).2
  rw[h.box]at a;injection a with a;injection a with _ a _;exact absurd a OD)),⟨by have:=h.nbd.1;omega,h.nbd.2⟩,h.fns.fr c,hb⟩,c⟩
theorem Aw.froz {B g R P:Nat} {w:World} {nv:Value} {nl:List (ByteArray × Int)} {fv:Value} {F:List Ca} {ret loops count size:Int} (h:Aw B g R P w nv nl fv F ret loops count size) (k:Nat):w.frozen? (OK g k)=false:=by simp[World.frozen?,h.box]
theorem DdGenLx40 {P:Prop} (h:P:=by
 go_wp2_with fail
 refine(Rs j.out OC t).mono ?_
 rintro e H ⟨a,n,c,rfl,m,p,l⟩
 go_wp2_with fail
 go_ret
 exact⟨a,n,c,size - 1,rfl,m.mono OC OC,p.mono OC,i.out.trans l⟩
 ):P:=h
theorem W6 (B g R:Nat):F6 B g R 0:=by
 intro P w G E x F q f b size t h y;have Q:Bm 0=100:=rfl;have J:=h.cells.2.2.2.2.2.2;have I:=h.froz 6;have s:=h.bd;have U:wrap64 (size - 1)=size - 1:=IntWalk.wrap64_in _ OC;obtain⟨o,k⟩:=h.put (P':=P+1) OC 6 (.int .i64 (size - 1)) (size':=size - 1) (ret':=q) (loops':=f) (count':=b) rfl ⟨s.1,by omega,by omega,by omega⟩;have j:Hid (Aw B g R (P+1) (w.setCell (OK g 6) (.int .i64 (size - 1))) G E x F q f b (size - 1)):=o;have i:Hid (Bg B w (w.setCell (OK g 6) (.int .i64 (size - 1)))):=k;obtain⟨V,z⟩:∃ V,w.setCell (OK g 6) (.int .i64 (size - 1))=V:=⟨_,rfl⟩;rw[z]at j i;have D:=i.out.size;clear h o k;go_enter func101,ntmps101;exact DdGenLx40
theorem DdGenLx98 {P:Prop} (h:P:=by
 rintro e H ⟨a,n,c,X,rfl,m,p,l⟩
 go_wp2_with fail
 go_ret
 exact⟨a,n,c,X,rfl,m.mono OC OC,p.mono OC,(i.out.trans u).trans l⟩
 ):P:=h
theorem Qgb (B g R d:Nat) (HE0:Hid (F6 B g R 0)) (HE:Hid (F6 B g R d)):F6 B g R (d+1):=by
 intro P w G E x F q f b size t h y;have C:=Qky d;have S:=Q5 d;rw[C]at y |-
 have O:d<=700000000:=by
  have:d < 5 ^ d:=Nat.lt_pow_self OC;unfold Bm at y;omega
 have A:((d+1:Nat):Int)=(d:Int)+1:=OC
 rw[A];have N:¬ (d:Int)+1<=0:=OC
 have J:=h.cells.2.2.2.2.2.2;have I:=h.froz 6;have s:=h.bd;have U:wrap64 (size - 1)=size - 1:=IntWalk.wrap64_in _ OC;obtain⟨o,k⟩:=h.put (P':=P+1) OC 6 (.int .i64 (size - 1)) (size':=size - 1) (ret':=q) (loops':=f) (count':=b) rfl ⟨s.1,by omega,by omega,by omega⟩;have j:Hid (Aw B g R (P+1) (w.setCell (OK g 6) (.int .i64 (size - 1))) G E x F q f b (size - 1)):=o;have i:Hid (Bg B w (w.setCell (OK g 6) (.int .i64 (size - 1)))):=k;obtain⟨V,z⟩:∃ V,w.setCell (OK g 6) (.int .i64 (size - 1))=V:=⟨_,rfl⟩;rw[z]at j i;have D:=i.out.size;have k0:=j.out.cells.1;have k6:=j.out.cells.2.2.2.2.2.2;clear h o k;by_cases hsz:size - 1 < 0
 ·go_enter func101,ntmps101;exact DdGenLx40
 ·go_enter func101,ntmps101;go_wp2_with fail;refine(Bn j.out 4 OC OC OC).mono ?_;rintro e w2 ⟨v,rfl,hv,r,u⟩;have W:=u.size;by_cases hv0:v=0
  ·subst hv0;go_wp2_with fail;refine(Rs r OC t).mono ?_;rintro e H ⟨a,n,c,rfl,m,p,l⟩;go_wp2_with fail;go_ret;exact⟨a,n,c,size - 1,rfl,m.mono OC OC,p.mono OC,(i.out.trans u).trans l⟩
  ·have T:((v:Int) == 0)=false:=OH;have M:t=1\/t=2\/(t≠1/\t≠2):=OC;rcases M with rfl|rfl|⟨K,L⟩
   ·go_wp2_with fail;refine(Qbv HE0 HE r OC).mono ?_;exact DdGenLx98
   ·go_wp2_with fail;refine(Qgm HE0 HE r OC).mono ?_;exact DdGenLx98
   ·have Y:(t == 1)=false:=(by simpa using K);have Z:(t == 2)=false:=(by simpa using L);go_wp2_with fail;refine(Qbx HE r OC t).mono ?_;exact DdGenLx98
theorem L7 (B g R:Nat):∀ d,F6 B g R d
 | 0=>W6 B g R
 | d+1=>Qgb B g R d (W6 B g R) (L7 B g R d)
theorem Cf (w:World) (o:Obj):(w.alloc o).heap[w.heap.size]? = some o:=(MapKept.heap_alloc w o).1
theorem My {W W':World} {B e size n:Nat} {v:Value} {xs:List Value} (h:W.ownsRow B e size v n xs) (hb:Below W.heap.size W W'):W'.ownsRow B e size v n xs:=by
 refine⟨h.1, ?_⟩;rcases h.2 with f|⟨g,b,c,i,d,a,rest⟩
 ·exact .inl f
 ·exact .inr ⟨g,b,c,i,d,by rw[hb.block g (Array.getElem?_eq_some_iff.1 a).1];exact a,rest⟩
theorem Qic {P:Program} {w:World} {src dst e:TypeId} (hs:P.underlying src=some (.slice e)) (he:P.underlying e=some (.int .u8)) (hd:P.underlying dst=some .string) {B:Nat} {v:Value} {acc:List UInt8}
  (h:w.ownsRow B e 1 v acc.length (Lib.byteCells acc)):(convert src dst v).run P w = .ok (.string ⟨acc.toArray⟩) w:=by
 have a:=fun g=>h.cells (g:=g)
 obtain⟨n,k⟩:=h;rcases k with⟨rfl,i⟩|⟨g,b,f,rfl,o,p,q,d,m,c⟩
 ·have:acc=[]:=List.eq_nil_of_length_eq_zero i;subst this;exact run_convert_bytes_nil (P:=P) (w:=w) src e hs he 0 0 dst hd
 ·refine run_convert_bytes_back w src dst e (OK g 0) b acc hs he hd ?_;intro j l;exact a g rfl j _ (by simp[Lib.byteCells,l])
theorem Qbn (x:Int) (h0:0<=x) (h1:x<=255):((UInt8.ofNat x.toNat).toNat:Int)=x:=by
 simp;omega
theorem Ur (w:World) (c:Int) (h0:0<=c) (h1:c<=255):(w.alloc (.cells #[.int .u8 c] 5)).ownsRow w.heap.size 5 1 (.slice (some (OK w.heap.size 0)) 1 1) 1 (Lib.byteCells [UInt8.ofNat c.toNat]):=by
 have h:(w.alloc (.cells #[.int .u8 c] 5)).ownsRow w.heap.size 5 1 (.slice (some (OK w.heap.size 0)) 1 1) 1 [.int .u8 c]:=⟨rfl,.inr ⟨w.heap.size,1,#[.int .u8 c],rfl,Nat.le_refl _,Cf w _,Nat.le_refl _,by decide,rfl,rfl⟩⟩;simp only[Lib.byteCells,List.map_cons,List.map_nil,Qbn c h0 h1];exact h
theorem Qa0 {w:World} {B:Nat} {v:Value} {acc:List UInt8} (h:w.ownsRow B 5 1 v acc.length (Lib.byteCells acc)):(convert 22 9 v).run prog w = .ok (.string ⟨acc.toArray⟩) w :=
 Qic underlying22 underlying5 underlying9 h
theorem S2 (w:World) (c:Int) (h0:0<=c) (h1:c<=255):(convert 22 9 (.slice (some (OK w.heap.size 0)) 1 1)).run prog (w.alloc (.cells #[.int .u8 c] 5)) = .ok (.string ⟨#[UInt8.ofNat c.toNat]⟩) (w.alloc (.cells #[.int .u8 c] 5)) :=
 Qa0 (acc:=[UInt8.ofNat c.toNat]) (Ur w c h0 h1)
theorem Qkx {w w':World} (c:Int) (h0:0<=c) (h1:c<=255) (hb:Below (w.alloc (.cells #[.int .u8 c] 5)).heap.size (w.alloc (.cells #[.int .u8 c] 5)) w'):(convert 22 9 (.slice (some (OK w.heap.size 0)) 1 1)).run prog w' = .ok (.string ⟨#[UInt8.ofNat c.toNat]⟩) w' :=
 Qa0 (acc:=[UInt8.ofNat c.toNat]) (My (Ur w c h0 h1) hb)
theorem Yt (n:Nat) (w:World) (h:n < 10) :
  Calls prog 99 #[.int .u64 (n:Int)] w fun e w'=>e = .returned (.string ⟨(Lib.decDigits n).toArray⟩)/\Below w.heap.size w w':=by
 rw[Lib.decDigits_one h];have a:=S2 w (48+(n:Int)) OC OC;rw[show (48+(n:Int)).toNat=48+n by omega]at a;generalize UInt8.ofNat (48+n)=b at *;go_enter func99,ntmps99;go_wp2;go_ret;exact⟨rfl,OP w _⟩
theorem Qf8 {w w0 w1:World} (h:Below w.heap.size w w0) (hb:Below w0.heap.size w0 w1):Below w.heap.size w w1:=h.trans (hb.mono h.size)
theorem DdPriDx139 {P:Prop} (h:P:=by
 refine hK.out _ _ trivial (fun hHeld => ?_)
 clear hK
 try dsimp only[Act.put]
 refine Tk 9 (.string (ds++⟨#[b]⟩)) ?_
 simp[Act.put]
 refine Tk 10 (.string (ds++⟨#[b]⟩)) ?_
 simp[Act.put]
 refine wpAnyH_done OE ?_ _
 go_wp2
 go_ret
 exact⟨rfl,Qf8 ((OO _).drew.alloc ON _) a⟩
 ):P:=h
theorem Wx (n:Nat) (w:World) (h:¬ n < 10) (hn:n < 18446744073709551616) (ds:ByteArray) (hds:ds.size<=30) (b:UInt8) (HB:Hid (UInt8.ofNat (48+n % 10)=b))
  (ih:Hid (∀ w:World,Calls prog 99 #[.int .u64 ((n:Int) / 10)] w fun e w'=>e = .returned (.string ds)/\Below w.heap.size w w')) :
  Calls prog 99 #[.int .u64 (n:Int)] w fun e w'=>e = .returned (.string (ds++⟨#[UInt8.ofNat (48+n % 10)]⟩))/\Below w.heap.size w w':=by
 have f:0<=48+(n:Int) % 10:=OC
 have g:48+(n:Int) % 10<=255:=OC
 have k:(48+(n:Int) % 10).toNat=48+n % 10:=OC
 go_enter func99,ntmps99;have o:ds.size<=9223372036854775806:=OC
 rw[HB.out];have p:IntKind.u64.wrap ((n:Int) / 10)=(n:Int) / 10:=by rw[Jf];omega
 have q:(n:Int).tmod 10=(n:Int) % 10:=Int.tmod_eq_emod_of_nonneg OC;have r:IntKind.u64.wrap (48+(n:Int) % 10)=48+(n:Int) % 10:=by rw[Jf];omega
 have s:IntKind.u8.wrap (48+(n:Int) % 10)=48+(n:Int) % 10:=by show _ % 256=_;omega
 have t:(48+(n:Int) % 10) % 256=48+(n:Int) % 10:=OC
 have u:(48+(n:Int) % 10) % 18446744073709551616=48+(n:Int) % 10:=OC
 have v:(n:Int) / 10 % 18446744073709551616=(n:Int) / 10:=OC
 have c:=S2 w.drew _ f g;rw[k,HB.out]at c;have l:(convert 22 9 (.slice (some (OK w.heap.size 0)) 1 1)).run prog (w.alloc (.cells #[.int .u8 (48+(n:Int) % 10)] 5)).drew = .ok (.string ⟨#[b]⟩) (w.alloc (.cells #[.int .u8 (48+(n:Int) % 10)] 5)).drew:=c;go_wp2_with fail;refine wp_region_held_drew (S:=fun _=>True) OE trivial (fun hHeld => ?_);refine Tk 0 (.int .u64 (n:Int)) ?_;try dsimp only[Act.put]
 refine Tk 1 (.int .u64 ((n:Int) / 10)) ?_;try dsimp only[Act.put]
 refine Tk 3 (.int .u64 (n:Int)) ?_;try dsimp only[Act.put]
 refine Tk 4 (.int .u64 ((n:Int) % 10)) ?_;try dsimp only[Act.put]
 refine Tk 5 (.int .u64 (48+(n:Int) % 10)) ?_;try dsimp only[Act.put]
 refine Tk 6 (.int .u8 (48+(n:Int) % 10)) ?_;try dsimp only[Act.put]
 refine wpAnyH_ready (rs:=[2,7]) OE OF ?_;refine AllReadyH.cons rfl (fun K hK => ?_) (AllReadyH.cons rfl (fun K hK => ?_) AllReadyH.nil)
 ·go_simp;(go_at_call 99;(refine(ih.out _).mono ?_;rintro e j ⟨rfl,a⟩));have i:=S2 j _ f g;rw[k,HB.out]at i;go_wp2;refine hK.out _ _ trivial (fun hHeld => ?_);clear hK;try dsimp only[Act.put]
  refine wpAnyH_ready (rs:=[7]) OE OF ?_;refine AllReadyH.cons rfl (fun K hK => ?_) AllReadyH.nil;go_simp;refine hK.out _ _ trivial (fun hHeld => ?_);clear hK;try dsimp only[Act.put]
  refine wpAnyH_ready (rs:=[8]) OE OF ?_;refine AllReadyH.cons rfl (fun K hK => ?_) AllReadyH.nil;go_simp;refine hK.out _ _ trivial (fun hHeld => ?_);clear hK;try dsimp only[Act.put]
  refine Tk 9 (.string (ds++⟨#[b]⟩)) ?_;simp[Act.put];refine Tk 10 (.string (ds++⟨#[b]⟩)) ?_;simp[Act.put];refine wpAnyH_done OE ?_ _;go_wp2;go_ret;exact⟨rfl,(Qf8 (OO _).drew a).alloc (by have:=a.size;simpa using this) _⟩
 ·go_simp;refine hK.out _ _ trivial (fun hHeld => ?_);clear hK;try dsimp only[Act.put]
  refine wpAnyH_ready (rs:=[2,8]) OE OF ?_;refine AllReadyH.cons rfl (fun K hK => ?_) (AllReadyH.cons rfl (fun K hK => ?_) AllReadyH.nil)
  ·go_simp;(go_at_call 99;(refine(ih.out _).mono ?_;rintro e j ⟨rfl,a⟩));have d:=Qkx (w:=w.drew) _ f g a;rw[k,HB.out]at d;have m:(convert 22 9 (.slice (some (OK w.heap.size 0)) 1 1)).run prog j = .ok (.string ⟨#[b]⟩) j:=d;go_wp2;refine hK.out _ _ trivial (fun hHeld => ?_);clear hK;try dsimp only[Act.put]
   refine wpAnyH_ready (rs:=[8]) OE OF ?_;refine AllReadyH.cons rfl (fun K hK => ?_) AllReadyH.nil;go_simp;exact DdPriDx139
  ·go_simp;refine hK.out _ _ trivial (fun hHeld => ?_);clear hK;try dsimp only[Act.put]
   refine wpAnyH_ready (rs:=[2]) OE OF ?_;refine AllReadyH.cons rfl (fun K hK => ?_) AllReadyH.nil;go_simp;(go_at_call 99;(refine(ih.out _).mono ?_;rintro e j ⟨rfl,a⟩));go_wp2;exact DdPriDx139
theorem Qd1 : ∀ (d n:Nat),n < 10 ^ (d+1)->(Lib.decDigits n).length<=d+1
 | 0,n,h=>by rw[Lib.decDigits_one (by simpa using h)];simp
 | d+1,n,h=>by
  by_cases h1:n < 10
  ·rw[Lib.decDigits_one h1];simp
  ·rw[Lib.decDigits,dif_neg h1]
   have:=Qd1 d (n / 10) (by rw[Nat.pow_succ]at h;omega)
   simp;omega
theorem S3 (n:Nat) (h:n < 18446744073709551616):(Lib.decDigits n).length<=20:=Qd1 19 n OC
theorem Qkw (l:List UInt8) (b:UInt8):(⟨l.toArray⟩:ByteArray)++⟨#[b]⟩=⟨(l++[b]).toArray⟩:=by
 apply ByteArray.ext;simp
theorem Qv : ∀ (n:Nat) (_:n < 18446744073709551616) (w:World),
  Calls prog 99 #[.int .u64 (n:Int)] w fun e w'=>e = .returned (.string ⟨(Lib.decDigits n).toArray⟩)/\Below w.heap.size w w':=by
 intro n;induction n using Nat.strongRecOn with
 | _ n ih =>
  intro a w;by_cases h:n < 10
  ·exact Yt n w h
  ·have:=Wx n w h a ⟨(Lib.decDigits (n / 10)).toArray⟩ (by have:=S3 (n / 10) OC;simp[ByteArray.size];omega) _ rfl (fun w=>by have:=ih (n / 10) OC OC w;simpa using this);rw[Lib.decDigits,dif_neg h,<- Qkw];exact this
theorem Tc (x:Int) (h0:0<=x) (h1:x < 18446744073709551616) (w:World) :
  Calls prog 99 #[.int .u64 x] w fun e w'=>e = .returned (.string ⟨(Lib.decDigits x.toNat).toArray⟩)/\Below w.heap.size w w':=by
 have:=Qv x.toNat OC w;rwa [show ((x.toNat:Nat):Int)=x by omega]at this
def Qm3 (w:World) (k:Nat):Prop := ∀ cur t fr,w.heap[k]? = some (.cells cur t fr)->t≠81/\t≠131/\t≠162
structure Ak (B:Nat) (w w':World):Prop where
 os:w'.os=w.os
 tape:w'.tape=w.tape
 output:w'.output=w.output
 size:w.heap.size<=w'.heap.size
 keep:∀ k,k < w.heap.size->k < B\/Qm3 w k->w'.heap[k]? = w.heap[k]?
theorem Bg.w {B:Nat} {w w':World} (h:Bg B w w'):Ak B w w':=⟨h.os,h.tape,h.output,h.size,fun k hk hp=>h.keep k hk (hp.imp id (fun hq cur t fr hc=>⟨(hq cur t fr hc).1,(hq cur t fr hc).2.1⟩))⟩
theorem Ak.refl (B:Nat) (w:World):Ak B w w:=⟨rfl,rfl,rfl,Nat.le_refl _,fun _ _ _=>rfl⟩
theorem Ak.trans {B:Nat} {a b c:World} (h:Ak B a b) (k:Ak B b c):Ak B a c :=
 ⟨k.os.trans h.os,k.tape.trans h.tape,k.output.trans h.output,Nat.le_trans h.size k.size,fun i hi hp=>by
  have e:=h.keep i hi hp
  refine(k.keep i (Nat.lt_of_lt_of_le hi h.size) (hp.imp id (fun hq cur t fr hc=>hq cur t fr (e ▸ hc)))).trans e⟩
theorem Ak.of_below {B:Nat} {w w':World} (h:Below w.heap.size w w'):Ak B w w':=⟨h.os,h.tape,h.output,h.size,fun k hk _=>h.block k hk⟩
theorem Ak.alloc {B:Nat} {w w':World} (h:Ak B w w') (o:Obj):Ak B w (w'.alloc o):=h.trans (Ak.of_below (OP w' o))
theorem Ak.drew {B:Nat} {w w':World} (h:Ak B w w'):Ak B w w'.drew:=⟨h.os,h.tape,h.output,h.size,h.keep⟩
theorem Ak.row {B A:Nat} {w w':World} (h:Ak B w w') {e size n:Nat} {v:Value} {xs:List Value} (hr:w.ownsRow A e size v n xs) (he:e≠81/\e≠131/\e≠162):w'.ownsRow A e size v n xs :=
 B1 hr (fun k hk _ hl=>h.keep k hl (.inr (fun cur t fr hc=>by obtain⟨b,a⟩:=(A8 hr hk).2;rw[a]at hc;injection hc with hc;injection hc with _ hc _;rw[<- hc];exact he)))
theorem As.fw {A B:Nat} {w w':World} {v:Value} {K:Nat} (h:As A w v K) (hf:Ak B w w'):As A w' v K:=by
 obtain⟨l,a,b,c⟩:=h;exact⟨l,a,b,hf.row c OD⟩
theorem Vz.fw {B:Nat} {w w':World} {fv:Value} {F:List Ca} (h:Vz B w fv F) (hf:Ak B w w'):Vz B w' fv F:=⟨hf.row h.row OD,fun s hs=>hf.row (h.par s hs) OD,h.bd⟩
theorem Ak.grown {B:Nat} {V w w':World} (h:Ak B V w) {A n:Nat} {v:Value} {xs:List Value} (ho:w.ownsRow A 62 6 v n xs) (hA:V.heap.size<=A) (hg:w.grownBy w' v.ownBlock):Ak B V w' :=
 ⟨hg.os.trans h.os,hg.tape.trans h.tape,hg.output.trans h.output,Nat.le_trans h.size hg.size,fun k hk hp=>(hg.block k (Nat.lt_of_lt_of_le hk h.size) (fun e=>by have:=(A8 ho e.symm).1.1;omega)).trans (h.keep k hk hp)⟩
theorem Aw.putW {B g R P P':Nat} {w:World} {nv:Value} {nl:List (ByteArray × Int)} {fv:Value} {F:List Ca} {ret loops count size:Int} (h:Aw B g R P w nv nl fv F ret loops count size) (hP:P<=P') (k:Nat) (x:Value) {ret' loops' count' size':Int} (he:(#[.pointer (some (OK R 0)),nv,fv,.int .i64 ret,.int .i64 loops,.int .i64 count,.int .i64 size]:Array Value).setIfInBounds k x = #[.pointer (some (OK R 0)),nv,fv,.int .i64 ret',.int .i64 loops',.int .i64 count',.int .i64 size']) (hb:Hs ret'/\(0<=loops'/\loops'<=P')/\(0<=count'/\count'<=P')/\(-(P':Int)<=size'/\size'<=P')) :
  Aw B g R P' (w.setCell (OK g k) x) nv nl fv F ret' loops' count' size'/\Ak B w (w.setCell (OK g k) x) :=
 ⟨(h.put hP k x he hb).1,(h.put hP k x he hb).2.w⟩
theorem Ow {B g R P:Nat} {w:World} {nv:Value} {nl:List (ByteArray × Int)} {fv:Value} {F:List Ca} {ret loops count size:Int} (h:Aw B g R P w nv nl fv F ret loops count size) (n:Int) (h1:1<=n) (h2:n<=1000000000) (hP:P<=1000000000) :
  Calls prog 26 #[.pointer (some (OK R 0)),.int .i64 n] w fun e w' => ∃ v:Nat,e = .returned (.int .i64 (v:Int))/\(v:Int) < n/\Aw B g R (P+1) w' nv nl fv F ret loops count size/\Ak B w w' :=
 (Bn h n h1 h2 hP).mono fun _ _ ⟨v,he,hv,hs,hf⟩=>⟨v,he,hv,hs,hf.w⟩
def Qff (B g R P K:Nat) (w:World) (nv:Value) (nl:List (ByteArray × Int)) (fv:Value) (F:List Ca) (ret loops count:Int) (e:Ending) (w':World):Prop := ∃ a n c size,e = .returned (.slice a n c)/\As w.heap.size w' (.slice a n c) K/\Aw B g R P w' nv nl fv F ret loops count size/\Ak B w w'
def Th (B g R:Nat) (d:Nat):Prop := ∀ (P:Nat) (w:World) (nv:Value) (nl:List (ByteArray × Int)) (fv:Value) (F:List Ca) (ret loops count size:Int) (t:Int),Aw B g R P w nv nl fv F ret loops count size->P+Bm d<=700000000->Calls prog 101 #[.pointer (some (OK g 0)),.int .i64 t,.int .i64 (d:Int)] w (Qff B g R (P+Bm d) (Bm d) w nv nl fv F ret loops count)
theorem Ot (B g R:Nat) (d:Nat):Th B g R d:=fun P w nv nl fv F ret loops count size t hs hP =>
 (L7 B g R d P w nv nl fv F ret loops count size t hs hP).mono fun _ _ ⟨a,n,c,s,he,hr,hs,hf⟩=>⟨a,n,c,s,he,hr,hs,hf.w⟩
end Go.Proofs.YtjlaedokfbcbpaaGreatDoor
