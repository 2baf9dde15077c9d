import Derived.Test.YtahibkjkpmdhgaaGreatDoorKTk
import Derived.Test.YtahibkjkpmdhgaaGreatDoorKCdT
set_option maxRecDepth 100000
set_option maxHeartbeats 4000000
namespace Go.Proofs.YtahibkjkpmdhgaaGreatDoor
open Go.RowKit
theorem Wi (c:List Af) (f:Af) (at':Nat) (hat:at' < f.ins.length) (s:List Int) (ca ia sa:Option Addr) (cc ic sc:Nat) (pv:Value) (hcl:c.length<=60) (hil:f.ins.length<=50000) (hsl:s.length<=200) (hsf:(s.length:Int)=f.slots) (hpl:∀ g ∈ c,g.params.length<=8) (hok:Aq c f f.ins[at']=true) (w:World) (hC:Al w.heap.size w (.slice ca c.length cc) c) (hI:Ba w.heap.size w (.slice ia f.ins.length ic) f.ins) (hS:Ac w.heap.size w (.slice sa s.length sc) s) :
  Calls Tryz.prog 85 #[.agg #[.slice ca c.length cc],Bp f pv (.slice ia f.ins.length ic),.int .i64 (at':Int),Ah 1 (.slice sa s.length sc) (.slice none 0 0)] w fun e w'=>(∃ v,e = .returned v/\A9 w'.heap.size w' v (Bi c f f.ins[at'] at' s []))/\OH w w':=by
 obtain⟨D,rfl,ap,d⟩:∃ D,ia=some (OI D 0)/\D < w.heap.size/\∀ j,j < 4->w.cell? (OI D (at' * 4+j))=(G9 f.ins[at'])[j]?:=by
  obtain⟨a',cp,cs,hc⟩:=hI;injection cs with e1;subst e1;exact hc at' hat
 have aj:∀ B Z,Ac B Z (.slice none 0 0) []:=fun B Z=>⟨none,0,rfl,fun i hi=>by simp at hi⟩
 obtain⟨x,hx⟩:∃ x,f.ins[at']=x:=⟨_,rfl⟩;rw[hx]at d hok |-
 clear hx;obtain⟨Y1,a7⟩:∃ Y,w.alloc (.cells #[.slice ca c.length cc] 59)=Y:=⟨_,rfl⟩;have bo:OH w Y1:=by rw[<- a7];exact Ao w _
 have ck:Y1.heap.size=w.heap.size+1:=by rw[<- a7];exact World.size_alloc _ _
 have av:Y1.heap[w.heap.size]? = some (.cells #[.slice ca c.length cc] 59):=by rw[<- a7];exact Ae w _
 obtain⟨Y2,am⟩:∃ Y,Y1.alloc (.cells #[.string f.name,pv,.int .i64 f.result,.int .i64 f.slots,.slice (some (OI D 0)) f.ins.length ic] 130)=Y:=⟨_,rfl⟩;have bp:OH w Y2:=by rw[<- am];exact Ab bo _
 have cl:Y2.heap.size=w.heap.size+2:=by rw[<- am,World.size_alloc];omega
 have aw:Y2.heap[w.heap.size]? = some (.cells #[.slice ca c.length cc] 59):=by rw[<- am];exact Ak _ av
 have ax:Y2.heap[w.heap.size+1]? = some (.cells #[.string f.name,pv,.int .i64 f.result,.int .i64 f.slots,.slice (some (OI D 0)) f.ins.length ic] 130):=by rw[<- am,<- ck];exact Ae _ _
 clear av;obtain⟨Y3,af⟩:∃ Y,Y2.alloc (.cells #[.int .i64 1,.slice sa s.length sc,.slice none 0 0] 126)=Y:=⟨_,rfl⟩;have bq:OH w Y3:=by rw[<- af];exact Ab bp _
 have cm:Y3.heap.size=w.heap.size+3:=by rw[<- af,World.size_alloc];omega
 have ay:Y3.heap[w.heap.size]? = some (.cells #[.slice ca c.length cc] 59):=by rw[<- af];exact Ak _ aw
 have az:Y3.heap[w.heap.size+1]? = some (.cells #[.string f.name,pv,.int .i64 f.result,.int .i64 f.slots,.slice (some (OI D 0)) f.ins.length ic] 130):=by rw[<- af];exact Ak _ ax
 have a0:Y3.heap[w.heap.size+2]? = some (.cells #[.int .i64 1,.slice sa s.length sc,.slice none 0 0] 126):=by rw[<- af,<- cl];exact Ae _ _
 clear aw ax;obtain⟨y,N⟩:∃ Y,Y3.alloc (.cells #[.int .i64 0,.slice none 0 0,.slice none 0 0] 126)=Y:=⟨_,rfl⟩;have O:OH w y:=by rw[<- N];exact Ab bq _
 have cn:y.heap.size=w.heap.size+4:=by rw[<- N,World.size_alloc];omega
 have ak:y.heap[w.heap.size]? = some (.cells #[.slice ca c.length cc] 59):=by rw[<- N];exact Ak _ ay
 have r:y.heap[w.heap.size+1]? = some (.cells #[.string f.name,pv,.int .i64 f.result,.int .i64 f.slots,.slice (some (OI D 0)) f.ins.length ic] 130):=by rw[<- N];exact Ak _ az
 have G:y.heap[w.heap.size+2]? = some (.cells #[.int .i64 1,.slice sa s.length sc,.slice none 0 0] 126):=by rw[<- N];exact Ak _ a0
 have H:y.heap[w.heap.size+3]? = some (.cells #[.int .i64 0,.slice none 0 0,.slice none 0 0] 126):=by rw[<- N,<- cm];exact Ae _ _
 clear ay az a0;have c7:y.cell? (OK w 0)=some (.slice ca c.length cc):=by rw[Lib.cell_of_heap ak];rfl
 have c8:y.cell? (OJ w 1 0)=some (.string f.name):=by rw[Lib.cell_of_heap r];rfl
 have c9:y.cell? (OJ w 1 1)=some (pv):=by rw[Lib.cell_of_heap r];rfl
 have da:y.cell? (OJ w 1 2)=some (.int .i64 f.result):=by rw[Lib.cell_of_heap r];rfl
 have db:y.cell? (OJ w 1 3)=some (.int .i64 f.slots):=by rw[Lib.cell_of_heap r];rfl
 have dc:y.cell? (OJ w 1 4)=some (.slice (some (OI D 0)) f.ins.length ic):=by rw[Lib.cell_of_heap r];rfl
 have dd:y.cell? (OJ w 2 0)=some (.int .i64 1):=by rw[Lib.cell_of_heap G];rfl
 have de:y.cell? (OJ w 2 1)=some (.slice sa s.length sc):=by rw[Lib.cell_of_heap G];rfl
 have df:y.cell? (OJ w 2 2)=some (.slice none 0 0):=by rw[Lib.cell_of_heap G];rfl
 have dg:y.cell? (OJ w 3 0)=some (.int .i64 0):=by rw[Lib.cell_of_heap H];rfl
 have dh:y.cell? (OJ w 3 1)=some (.slice none 0 0):=by rw[Lib.cell_of_heap H];rfl
 have di:y.cell? (OJ w 3 2)=some (.slice none 0 0):=by rw[Lib.cell_of_heap H];rfl
 clear bo bp bq;have i0:=d 0 Ou;have i1:=d 1 Ou;have i2:=d 2 Ou;have i3:=d 3 Ou;simp only[G9,Nat.add_zero,List.getElem?_cons_zero,List.getElem?_cons_succ]at i0 i1 i2 i3;have j0:=(O.cell (p:=(OI D (at' * 4))) ap).trans i0;have j1:=(O.cell (p:=(OI D (at' * 4+1))) ap).trans i1;have j2:=(O.cell (p:=(OI D (at' * 4+2))) ap).trans i2;have j3:=(O.cell (p:=(OI D (at' * 4+3))) ap).trans i3;obtain⟨Y5,an⟩:∃ Y,y.alloc (.cells #[.int .i64 x.op,.int .i64 x.a,.int .i64 x.n,.string x.text] 107)=Y:=⟨_,rfl⟩;have br:OH w Y5:=by rw[<- an];exact Ab O _
 have co:Y5.heap.size=w.heap.size+5:=by rw[<- an,World.size_alloc];omega
 have bz:∀ g,g < w.heap.size+4->Y5.heap[g]? = y.heap[g]?:=fun g hg=>by rw[<- an];exact(Ao y _).block g Ou
 have a2:Y5.heap[w.heap.size+4]? = some (.cells #[.int .i64 x.op,.int .i64 x.a,.int .i64 x.n,.string x.text] 107):=by rw[<- an,<- cn];exact Ae _ _
 obtain⟨R,ao⟩:∃ Y,Y5.alloc (.cells #[.int .i64 0,.slice none 0 0,.slice none 0 0] 126)=Y:=⟨_,rfl⟩;have bs:OH w R:=by rw[<- ao];exact Ab br _
 have cq:R.heap.size=w.heap.size+6:=by rw[<- ao,World.size_alloc];omega
 have a9:∀ g,g < w.heap.size+5->R.heap[g]? = Y5.heap[g]?:=fun g hg=>by rw[<- ao];exact(Ao Y5 _).block g Ou
 have k:R.heap[w.heap.size+5]? = some (.cells #[.int .i64 0,.slice none 0 0,.slice none 0 0] 126):=by rw[<- ao,<- co];exact Ae _ _
 have n0:R.cell? (OJ w 5 0)=some (.int .i64 0):=by rw[Lib.cell_of_heap k];rfl
 have n1:R.cell? (OJ w 5 1)=some (.slice none 0 0):=by rw[Lib.cell_of_heap k];rfl
 have n2:R.cell? (OJ w 5 2)=some (.slice none 0 0):=by rw[Lib.cell_of_heap k];rfl
 have m0:R.frozen? (OJ w 5 0)=false:=by simp[World.frozen?,k]
 have m1:R.frozen? (OJ w 5 1)=false:=by simp[World.frozen?,k]
 have m2:R.frozen? (OJ w 5 2)=false:=by simp[World.frozen?,k]
 obtain⟨W,hW⟩:∃ W,(((R.setCell (OJ w 5 0) (.int .i64 2)).setCell (OJ w 5 1) (.slice none 0 0)).setCell (OJ w 5 2) (.slice none 0 0))=W:=⟨_,rfl⟩;have ai:OH w W:=by rw[<- hW];exact Ad (Ad (Ad bs 5 0 _) 5 1 _) 5 2 _
 have dx:W.heap.size=w.heap.size+6:=by rw[<- hW];simp[cq]
 have Q:Es f x (.slice ca c.length cc) pv (.slice (some (OI D 0)) f.ins.length ic) (.slice sa s.length sc) (.slice none 0 0) w.heap.size W:=by
  have b0:∀ g,g < w.heap.size+5->W.heap[g]? = R.heap[g]?:=fun g hg=>by
   rw[<- hW,Below.heap_setCell _ _ _ _ (by show g≠w.heap.size+5;omega),Below.heap_setCell _ _ _ _ (by show g≠w.heap.size+5;omega),Below.heap_setCell _ _ _ _ (by show g≠w.heap.size+5;omega)]
  have aq:∀ g,g < w.heap.size+4->W.heap[g]? = y.heap[g]?:=fun g hg=>(b0 g Ou).trans ((a9 g Ou).trans (bz g hg))
  refine⟨(aq _ Ou).trans ak,(aq _ Ou).trans r,(aq _ Ou).trans G,(aq _ Ou).trans H,(b0 _ Ou).trans ((a9 _ Ou).trans a2), ?_⟩;rw[<- hW];exact heap_setCell_same _ _ _ _ _ _ (heap_setCell_same _ _ _ _ _ _ (heap_setCell_same _ _ _ _ _ _ k))
 have b5:Hid (Al W.heap.size W (.slice ca c.length cc) c):=Al.mono (hC.below ai) Ou;have cd:Hid (Ac W.heap.size W (.slice sa s.length sc) s):=(hS.below ai).mono Ou;have b7:Hid (Ac W.heap.size W (.slice none 0 0) []):=aj _ W;obtain⟨⟨tk,L,b2⟩,J⟩:∃ g,Hid (Ag c f x s []=g):=⟨_,(rfl:Ag c f x s []=_)⟩;have a4:Hid (Calls Tryz.prog 114 #[.agg #[.slice ca c.length cc],.agg #[.string f.name,pv,.int .i64 f.result,.int .i64 f.slots,.slice (some (OI D 0)) f.ins.length ic],.agg #[.int .i64 x.op,.int .i64 x.a,.int .i64 x.n,.string x.text],.agg #[.int .i64 1,.slice sa s.length sc,.slice none 0 0]] W fun e w'=>(∃ v,e = .returned (.tuple #[.int .i64 (tk:Int),v,.bool b2])/\Ac w'.heap.size w' v L)/\OH W w'):=by
  have h:=P7 c f x s [] ca (some (OI D 0)) sa none cc ic sc 0 pv hcl hil hsl Ov Ov (.inl rfl) hsf hpl hok W b5.out cd.out b7.out;unfold Au at h;rw[J.out]at h;exact h
 have bh:Hid (Ac w.heap.size w (.slice sa s.length sc) s):=hS;have be:Hid (Ac w.heap.size w (.slice none 0 0) []):=aj _ _;clear hS;clear hC hI d i0 i1 i2 i3 br bs bz a9 ak r G H a2 k O;have dj:(at':Int) < (f.ins.length:Int):=Ou
 have dv:=Q.c0;obtain⟨cv,cw,cx,cy,cz⟩:=Q.fs;have c4:=Q.s0;have c5:=Q.s1;have c6:=Q.s2;have c0:=Q.i0;have c1:=Q.i1;have c2:=Q.i2;have c3:=Q.i3;unfold Bp Ah;go_enter Tryz.func85,Tryz.ntmps85;have bx:=Lw hok;have dn:=O9 hok;cases b2 with
 | false =>
  have HL:Hid (Bi c f x at' s [] = .clash):=Kd J.out (.inl rfl);go_wp2_with (first|(go_at_call 114;refine a4.out.mono ?_;rintro e w7 ⟨⟨v,rfl,hv⟩,A⟩;have b:=(Q.below A Ou);have n:=ai.trans (A.mono Ou);have s2:=b.s2;have y0:=b.i0;have y1:=b.i1;have y2:=b.i2;have y3:=b.i3;obtain⟨⟨r0,r1,r2⟩,g0,g1,g2⟩:=b.r;obtain⟨aa,ab,ac⟩:=b.b));exact bodyPost_ret (v:=Ah 2 (.slice none 0 0) (.slice none 0 0)) (by simp[results,Tryz.results85,go_sem,r0,r1,r2,Ah]) rfl ⟨⟨_,rfl,by rw[HL.out];rfl⟩,Ad (Ad (Ad n 3 0 _) 3 1 _) 3 2 _⟩
 | true =>
  by_cases htk:0 < tk
  ·have HL:Hid (Bi c f x at' s [] = .clash):=Kd J.out (.inr htk);have dp:(0:Int) < (tk:Int):=Ou;go_wp2_with (first|(go_at_call 114;refine a4.out.mono ?_;rintro e w7 ⟨⟨v,rfl,hv⟩,A⟩;have b:=(Q.below A Ou);have n:=ai.trans (A.mono Ou);have s2:=b.s2;have y0:=b.i0;have y1:=b.i1;have y2:=b.i2;have y3:=b.i3;obtain⟨⟨r0,r1,r2⟩,g0,g1,g2⟩:=b.r;obtain⟨aa,ab,ac⟩:=b.b));exact bodyPost_ret (v:=Ah 2 (.slice none 0 0) (.slice none 0 0)) (by simp[results,Tryz.results85,go_sem,r0,r1,r2,Ah]) rfl ⟨⟨_,rfl,by rw[HL.out];rfl⟩,Ad (Ad (Ad n 3 0 _) 3 1 _) 3 2 _⟩
  ·have b1:tk=0:=Ou;subst b1;have bj:Hid (0<=([]:List Int).length):=(by decide:0<=([]:List Int).length);clear htk;go_wp2_with (first|(go_at_call 114;refine a4.out.mono ?_;rintro e w7 ⟨⟨v,rfl,hv⟩,A⟩;have b:=(Q.below A Ou);have n:=ai.trans (A.mono Ou);have s2:=b.s2;have y0:=b.i0;have y1:=b.i1;have y2:=b.i2;have y3:=b.i3;obtain⟨⟨r0,r1,r2⟩,g0,g1,g2⟩:=b.r;obtain⟨aa,ab,ac⟩:=b.b)|(go_at_call 112;refine(Sb x at' Ou (fun h=>(bx h).1) w7).mono ?_;rintro e w8 ⟨gv,rfl,bv,ah⟩));obtain⟨E,T⟩:∃ g,Hid (A5 x at'=g):=⟨_,(rfl:A5 x at'=_)⟩;have dl:E.length<=2:=(by rw[<- T.out];exact Nq x at');obtain⟨ag,cg,rfl,b6⟩:∃ ag cg,gv = .slice ag E.length cg/\Hid (∀ j (hj:j < E.length),∃ g o,ag=some (OI g o)/\w8.cell? (OI g (o+j))=some (.int .i64 ((E[j]:Nat):Int))):=by
    obtain⟨ag,cg,e,hc⟩:=bv;rw[T.out]at e hc;refine⟨ag,cg,by rw[e];simp[Ct],fun j hj => ?_⟩;obtain⟨g,o,e1,_,h2⟩:=hc j (by simpa[Ct]using hj);exact⟨g,o,e1,by rw[h2];simp[Ct]⟩
   have b4:Hid (Es f x (.slice ca c.length cc) pv (.slice (some (OI D 0)) f.ins.length ic) (.slice sa s.length sc) (.slice none 0 0) w.heap.size w8):=b.below ah b.size;have S:Hid (OH w w8):=n.trans (ah.mono n.size);have cb:Hid (Ac w8.heap.size w8 v L):=(hv.below ah).mono ah.size;have du:Hid (Ac w.heap.size w8 (.slice sa s.length sc) s):=(bh.out).below S.out;have ds:Hid (Ac w.heap.size w8 (.slice none 0 0) []):=(be.out).below S.out;clear bv hv b n ah A s2 y0 y1 y2 y3 r0 r1 r2 g0 g1 g2 aa ab ac;go_loopw [15] (fun t wr => ∃ j q:Nat,j<=E.length/\t = .int .i64 (j:Int)/\wr=w8.drewN q/\∀ u (hu:u < E.length),u < j->E[u] < f.ins.length) (fun t _=>E.length - (intOf t).toNat);case atStart=>exact⟨0,0,by omega,rfl,rfl,fun u hu h=>Ou⟩
   case round =>
    obtain⟨j,q,hj,rfl,hq,hu⟩:=hrel;have HQ:Hid (wr=w8.drewN q):=hq;have I:Hid (Es f x (.slice ca c.length cc) pv (.slice (some (OI D 0)) f.ins.length ic) (.slice sa s.length sc) (.slice none 0 0) w.heap.size wr):=(by rw[hq];exact b4.out.kept (fun g _=>rfl));have m:Hid (OH w wr):=(by rw[hq];exact B9 _ S.out);clear hq;have z4:=I.out.f4;by_cases hlt:j < E.length
    ·obtain⟨gg,og,rfl,d8⟩:=b6.out j hlt;have d0:wr.cell? (OI gg (og+j))=some (.int .i64 ((E[j]:Nat):Int)):=(by rw[HQ.out];exact d8);by_cases hin:E[j] < f.ins.length
     ·have HU:Hid (∀ u (hu:u < E.length),u < j+1->E[u] < f.ins.length):=fun u hul h=>by
       by_cases e:u=j
       ·subst e;exact hin
       ·exact hu u hul Ou
      have bw:((E[j]:Nat):Int) < (f.ins.length:Int):=Ou;clear hu d8 hin;generalize E[j]=zz at *;go_wp2_with fail;go_quiet (fail);go_wp2_with fail;go_roundw;case rel=>exact⟨j+1,_,by omega,by go_num,by rw[HQ.out,World.drewN_drewN],HU.out⟩
      case measure=>simp[intOf];omega
     ·have HL:Hid (Bi c f x at' s [] = .clash):=Pa (j:=j) J.out bj.out (by rw[T.out];exact hlt) (by simp only[T.out];omega);have bw:¬ ((E[j]:Nat):Int) < (f.ins.length:Int):=Ou;obtain⟨⟨r0,r1,r2⟩,g0,g1,g2⟩:=I.out.r;obtain⟨aa,ab,ac⟩:=I.out.b;clear hu d8 hin;generalize E[j]=zz at *;go_wp2_with fail;go_quiet (fail);go_wp2_with fail;exact bodyPost_ret (v:=Ah 2 (.slice none 0 0) (.slice none 0 0)) (by simp[results,Tryz.results85,go_sem,r0,r1,r2,Ah]) rfl ⟨⟨_,rfl,by rw[HL.out];rfl⟩,Ad (Ad (Ad (B9 _ m.out) 3 0 _) 3 1 _) 3 2 _⟩
    ·have b3:Hid (∀ u (hu:u < (A5 x at').length),(A5 x at')[u] < f.ins.length):=fun u hul=>by
      simp only[T.out]at hul |-
      exact hu u hul Ou
     clear hu;have dk:¬ (j:Int) < (E.length:Int):=Ou;obtain⟨i0,a8,bb,bc,bd⟩:=Jy;have dm:L.length<=1:=(by have h:=O7 c f x s [];rw[J.out]at h;exact h);have HD:Hid (w.heap.size+6<=wr.heap.size):=I.out.size;obtain⟨V1,bl⟩:∃ V,wr.alloc (.cells #[] 3)=V:=⟨_,rfl⟩;have bf:Hid (V1.ownsRow wr.heap.size 3 1 (.slice (some (OK wr 0)) 0 0) 0 (Ar [])):=(by rw[Hid,<- bl];exact In wr _ (Nat.le_refl _) _);have F:OH wr V1:=(by rw[<- bl];exact Ao wr _);have bi:Hid (Ac w.heap.size V1 (.slice sa s.length sc) s):=bh.out.below (m.out.trans (F.mono m.out.size));have dq:=(I.out.below F HD.out).s1;have b9:Hid (Ac wr.heap.size wr v L):=(by rw[Hid,HQ.out];exact cb.out);have dt:Hid (Ac wr.heap.size wr (.slice none 0 0) []):=Ac.mono (be.out.below m.out) m.out.size;have cj:0+([]:List Int).length+L.length<=1048576:=OD;have b8:=(show Hid _ from Qb J.out bj.out b3.out);have ce:¬ (600:Int) < ((L.length:Nat):Int):=Ou;have a5:¬ 600 < L.length:=Ou;have h3:¬ x.op=3:=fun h3=>by
      have h:=J.out;unfold Ag at h;rw[if_neg Ou,if_neg Ou,if_pos (.inl h3)]at h;simp at h
     have dw:(x.op == 3)=false:=(by simp[h3]);have HL:Hid (Bi c f x at' s [] = .known s L):=by
      rw[Hid,b8.out,if_neg (by simpa using a5),if_neg h3];simp
     clear h3;go_wp2_with (first|(at_builtin;refine Bm rfl _ _ 124 rfl wr.heap.size 3 i0 (.int .i64 0) Tryz.underlying124 a8 bb bc bd rfl (.slice (some (OK wr 0)) 0 0) 0 [] rfl bf.out w.heap.size (.slice sa s.length sc) rfl s bi.out Ou F.size ?_;intro v1 P K ci;rw[Nat.zero_add,List.nil_append]at K;obtain⟨a1,z,cr⟩:=Cp K;subst cr;have ch:=C0 F ci F.size (fun g hg=>Bu bf.out hg);obtain⟨V2,cf⟩:∃ V,P.alloc (.cells #[.int .i64 1,.slice a1 s.length z,.slice none 0 0] 126)=V:=⟨_,rfl⟩;have bk:=(show Ec wr P.heap.size s (.slice a1 s.length z) (.slice none 0 0) V2 from(by rw[<- cf];exact Ec.new ch K));obtain⟨⟨t0,t1,t2⟩,u0,u1,u2⟩:=bk.o;obtain⟨U,bm⟩:∃ V,V2.setCell (OK P 2) (.slice none 0 0)=V:=⟨_,rfl⟩;have au:=(show Ec wr P.heap.size s (.slice a1 s.length z) (.slice none 0 0) U from(by rw[<- bm];exact bk.set _));obtain⟨V3,bn⟩:∃ V,U.alloc (.cells #[] 3)=V:=⟨_,rfl⟩;have a6:=(show Ec wr P.heap.size s (.slice a1 s.length z) (.slice none 0 0) V3 from(by rw[<- bn];exact au.alloc _));have dr:=(I.out.below a6.since HD.out).s2;have bg:=(show Hid (V3.ownsRow (P.heap.size+1) 3 1 (.slice (some (OK U 0)) 0 0) 0 (Ar [])) from(by rw[Hid,<- bn];exact In U _ au.lt _)))|(at_builtin;refine Bm rfl _ _ 124 rfl (P.heap.size+1) 3 i0 (.int .i64 0) Tryz.underlying124 a8 bb bc bd rfl (.slice (some (OK U 0)) 0 0) 0 [] rfl bg.out wr.heap.size (.slice none 0 0) rfl [] (aj _ _) Ov a6.lt ?_;intro v2 dy C bt;rw[List.nil_append]at C;have ae:=a6.grown bt (fun g hg=>Bu bg.out Ou))|(at_builtin;refine Bm rfl _ _ 124 rfl (P.heap.size+1) 3 i0 (.int .i64 0) Tryz.underlying124 a8 bb bc bd rfl v2 (0+([]:List Int).length) [] rfl C wr.heap.size v rfl L (b9.out.below ae.since) cj ae.lt ?_;intro v3 cu l bu;simp only[List.length_nil,Nat.zero_add,Nat.add_zero,List.nil_append]at l;obtain⟨a3,M,ct⟩:=Cp l;subst ct;have ar:=ae.grown bu (fun g hg=>Bu C Ou);obtain⟨⟨m0,m1,m2⟩,n0,n1,n2⟩:=ar.o;obtain⟨X,hX⟩:∃ V,cu.setCell (OK P 2) (.slice a3 (L.length) M)=V:=⟨_,rfl⟩;have al:=(show Ec wr P.heap.size s (.slice a1 s.length z) (.slice a3 (L.length) M) X from(by rw[<- hX];exact ar.set _));have ba:=(show X.ownsRow (P.heap.size+1) 3 1 (.slice a3 (L.length) M) (L.length) (Ar (L)) from(by rw[<- hX];exact ownsRow_setCell_other (a:=(OK P 2)) l (Bu l (by show P.heap.size < _;omega)) _));obtain⟨⟨x0,x1,x2⟩,-,-,-⟩:=al.o;have ad:=I.out.below al.since HD.out;have z0:=ad.i0;have z1:=ad.i1;have z2:=ad.s2;obtain⟨aa,ab,ac⟩:=ad.b;obtain⟨⟨r0,r1,r2⟩,g0,g1,g2⟩:=ad.r));refine bodyPost_ret (v:=Ah 1 (.slice a1 s.length z) (.slice a3 L.length M)) (by simp[results,Tryz.results85,go_sem,r0,r1,r2,Ah]) rfl ⟨⟨_,rfl, ?_⟩,Ad (Ad (Ad (m.out.trans (al.since.mono m.out.size)) 3 0 _) 3 1 _) 3 2 _⟩;rw[HL.out];exact al.done ba (w.heap.size+3) (by have:=HD.out;omega) _ _ _
def H7 : Am->Prop
 | .known _ k=>k.length<=600
 | _=>True
theorem Xb (c:List Af) (f:Af) (i:Az) (u:Nat) (s k:List Int):H7 (Bi c f i u s k):=by
 unfold Bi;split
 ·trivial
 ·split
  ·trivial
  ·split
   ·trivial
   ·rename_i h;exact Nat.le_of_not_lt h
theorem Wj (c:List Af) (f:Af) (u:Nat):∀ a,H7 (Cq c f u a)
 | .none=>trivial
 | .known s k=>Xb c f _ u s k
 | .clash=>trivial
theorem Qbn : ∀ {a b:Am},H7 a->H7 b->H7 (Bb a b)
 | .none,.none,_,_=>trivial
 | .none,.known _ _,_,h=>h
 | .none,.clash,_,_=>trivial
 | .known _ _,.none,h,_=>h
 | .known _ _,.clash,_,_=>trivial
 | .clash,.none,_,_=>trivial
 | .clash,.known _ _,_,_=>trivial
 | .clash,.clash,_,_=>trivial
 | .known s k,.known s' k',h,_=>by
  rw[Bb]
  by_cases e:k=k'
  ·rw[if_pos e];exact h
  ·rw[if_neg e];trivial
theorem Ox (c:List Af) (f:Af) (at':Nat) (hat:at' < f.ins.length) (ca ia:Option Addr) (cc ic:Nat) (pv sv:Value) (sh:Am) (hcl:c.length<=60) (hil:f.ins.length<=50000) (hsl:0<=f.slots) (hsl2:f.slots<=200) (hpl:∀ g ∈ c,g.params.length<=8) (hok:Aq c f f.ins[at']=true) (hlen:Dv f.slots.toNat sh) (hstk:H7 sh) (w:World) (hC:Al w.heap.size w (.slice ca c.length cc) c) (hI:Ba w.heap.size w (.slice ia f.ins.length ic) f.ins) (hS:A9 w.heap.size w sv sh) :
  Calls Tryz.prog 85 #[.agg #[.slice ca c.length cc],Bp f pv (.slice ia f.ins.length ic),.int .i64 (at':Int),sv] w fun e w'=>(∃ v,e = .returned v/\A9 w'.heap.size w' v (Cq c f at' sh))/\OH w w':=by
 cases sh with
 | none=>rw[show sv=_ from hS];exact Oy c f at' hat hil _ pv _ _ ia ic 0 Ov w hI
 | clash=>rw[show sv=_ from hS];exact Oy c f at' hat hil _ pv _ _ ia ic 2 Ov w hI
 | known s k =>
  obtain⟨h,i,o,m,rfl,d,b,hs,l,_,_⟩:=hS;have n:s.length=f.slots.toNat:=hlen;have a:k.length<=600:=hstk;have e:Cq c f at' (.known s k)=Bi c f f.ins[at'] at' s k:=by
   show Bi c f (f.ins.getD at' C3) at' s k=_
   rw[List.getD_eq_getElem?_getD,List.getElem?_eq_getElem hat];rfl
  rw[e];rcases b with⟨rfl,rfl⟩|⟨g,rfl⟩
  ·have j:k=[]:=List.eq_nil_of_length_eq_zero Ou;subst j;exact Wi c f at' hat s ca ia h cc ic i pv hcl hil Ou Ou hpl hok w hC hI hs
  ·exact S8 c f at' hat s k ca ia h cc ic i g m pv hcl hil Ou a d Ou hpl hok w hC hI hs l
theorem Sd (m:Nat) (hm:m<=200) (a b:Am) (va vb:Value) (ha:Dv m a) (hb:Dv m b) (hsa:H7 a) (hsb:H7 b) (w:World) (hA:A9 w.heap.size w va a) (hB:A9 w.heap.size w vb b) :
  Calls Tryz.prog 113 #[va,vb] w fun e w'=>(∃ v,e = .returned (.tuple #[v,.bool (decide (Bb a b≠a))])/\A9 w'.heap.size w' v (Bb a b))/\OH w w':=by
 have c:∀ {r:Am} {v:Value} {q:Bool} (hq:decide (r≠a)=q) (C:A9 w.heap.size w v r) (h:Calls Tryz.prog 113 #[va,vb] w fun e w'=>e = .returned (.tuple #[v,.bool q])/\OH w w'),Calls Tryz.prog 113 #[va,vb] w fun e w'=>(∃ v,e = .returned (.tuple #[v,.bool (decide (r≠a))])/\A9 w'.heap.size w' v r)/\OH w w':=fun hq C h =>
  h.mono (fun e w' ⟨p,j⟩=>⟨⟨_,by rw[hq];exact p,(C.below j).mono j.size⟩,j⟩)
 cases a with
 | none =>
  have g:va=_:=hA;cases b with
  | none =>
   have f:vb=_:=hB;refine c (r:=.none) (q:=false) OB hA ?_;rw[g,f];exact Qdf _ _ _ _ _ _ _ _ _ _ _ _ w
  | clash =>
   have f:vb=_:=hB;refine c (r:=.clash) (q:=true) OB hB ?_;rw[g,f];exact Qdh _ _ _ _ _ _ _ _ _ _ _ _ w
  | known s k =>
   refine c (r:=.known s k) (q:=true) OB hB ?_;obtain⟨n,E,i,D,rfl,_⟩:=hB;rw[g];exact Qdg _ _ _ _ _ _ _ _ _ _ _ _ w
 | clash =>
  have g:va=_:=hA;cases b with
  | none =>
   have f:vb=_:=hB;refine c (r:=.clash) (q:=false) OB hA ?_;rw[g,f];exact Qdk _ _ _ _ _ _ _ _ _ _ _ _ w
  | clash =>
   have f:vb=_:=hB;refine c (r:=.clash) (q:=false) OB hA ?_;rw[g,f];exact Qdm _ _ _ _ _ _ _ _ _ _ _ _ w
  | known s k =>
   refine c (r:=.clash) (q:=false) OB hA ?_;obtain⟨n,E,i,D,rfl,_⟩:=hB;rw[g];exact Qdl _ _ _ _ _ _ _ _ _ _ _ _ w
 | known s k =>
  cases b with
  | none =>
   have f:vb=_:=hB;refine c (r:=.known s k) (q:=false) OB hA ?_;obtain⟨n,E,i,D,rfl,_⟩:=hA;rw[f];exact Qdi _ _ _ _ _ _ _ _ _ _ _ _ w
  | clash =>
   have f:vb=_:=hB;refine c (r:=.clash) (q:=true) OB hB ?_;obtain⟨n,E,i,D,rfl,_⟩:=hA;rw[f];exact Qdj _ _ _ _ _ _ _ _ _ _ _ _ w
  | known t l =>
   have p:s.length=m:=ha;have j:t.length=m:=hb;have S:k.length<=600:=hsa;have T:l.length<=600:=hsb;obtain⟨n,G,i,u,rfl,A,z,hs,y,_,B⟩:=hA;obtain⟨N,H,M,I,rfl,_,_,L,K,_,_⟩:=hB;by_cases e:k=l
   ·have x:Bb (.known s k) (.known t l) = .known (Be s t) k:=(by rw[Bb,if_pos e]);rw[x];refine(Qdn s t k l (p.trans j.symm) Ou Ou Ou n i N M G u H I w hs L y K e).mono ?_;rintro O w' ⟨C,rfl,R,o,d⟩;have Q:decide (Am.known (Be s t) k ≠ .known s k)=decide (Be s t≠s):=OB;rw[Q];obtain⟨F,J,rfl,P⟩:=R;exact⟨⟨_,rfl,F,J,i,u,rfl,A,z,⟨F,J,rfl,P⟩,(y.below d).mono d.size,o,(B.below d).keep (fun _ _=>rfl) d.size⟩,d⟩
   ·have x:Bb (.known s k) (.known t l) = .clash:=(by rw[Bb,if_neg e]);rw[x];refine(Qdo s t k l (p.trans j.symm) Ou Ou Ou n i N M G u H I w hs L y K e).mono ?_;rintro O w' ⟨rfl,d⟩;exact⟨⟨_,by simp,rfl⟩,d⟩
end Go.Proofs.YtahibkjkpmdhgaaGreatDoor
