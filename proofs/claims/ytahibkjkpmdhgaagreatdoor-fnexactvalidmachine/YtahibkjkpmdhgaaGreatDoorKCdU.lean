import Derived.Test.YtahibkjkpmdhgaaGreatDoorKCdT
set_option maxRecDepth 100000
set_option maxHeartbeats 4000000
namespace Go.Proofs.YtahibkjkpmdhgaaGreatDoor
open Go.RowKit
theorem Tg (c:List Ae) (f:Ae) (at':Nat) (hat:at' < f.ins.length) (s:List Int) (ca ia sa:Option Addr) (cc ic sc:Nat) (pv:Value) (hcl:c.length<=60) (hil:f.ins.length<=50000) (hsl:s.length<=200) (hsf:(s.length:Int)=f.slots) (hpl:∀ g ∈ c,g.params.length<=8) (hok:Ar c f f.ins[at']=true) (w:World) (hC:An w.heap.size w (.slice ca c.length cc) c) (hI:Bb w.heap.size w (.slice ia f.ins.length ic) f.ins) (hS:Ab w.heap.size w (.slice sa s.length sc) s) :
  Calls Tryz.prog 85 #[.agg #[.slice ca c.length cc],Ax f pv (.slice ia f.ins.length ic),.int .i64 (at':Int),Ah 1 (.slice sa s.length sc) (.slice none 0 0)] w fun e w'=>(∃ v,e = .returned v/\Ba w'.heap.size w' v (Bj c f f.ins[at'] at' s []))/\Below w.heap.size w w':=by
 obtain⟨D,rfl,ap,d⟩:∃ D,ia=some ⟨D,0,none⟩/\D < w.heap.size/\∀ j,j < 4->w.cell? ⟨D,at' * 4+j,none⟩=(Gl f.ins[at'])[j]?:=by
  obtain⟨a',cp,cs,hc⟩:=hI;injection cs with e1;subst e1;exact hc at' hat
 have aj:∀ B Z,Ab B Z (.slice none 0 0) []:=fun B Z=>⟨none,0,rfl,fun i hi=>by simp at hi⟩
 obtain⟨x,hx⟩:∃ x,f.ins[at']=x:=⟨_,rfl⟩;rw[hx]at d hok |-
 clear hx;obtain⟨Y1,a7⟩:∃ Y,w.alloc (.cells #[.slice ca c.length cc] 59)=Y:=⟨_,rfl⟩;have bo:Below w.heap.size w Y1:=by rw[<- a7];exact Au w _
 have ck:Y1.heap.size=w.heap.size+1:=by rw[<- a7];exact World.size_alloc _ _
 have av:Y1.heap[w.heap.size]? = some (.cells #[.slice ca c.length cc] 59):=by rw[<- a7];exact Af w _
 obtain⟨Y2,am⟩:∃ Y,Y1.alloc (.cells #[.string f.name,pv,.int .i64 f.result,.int .i64 f.slots,.slice (some ⟨D,0,none⟩) f.ins.length ic] 130)=Y:=⟨_,rfl⟩;have bp:Below w.heap.size w Y2:=by rw[<- am];exact Ac bo _
 have cl:Y2.heap.size=w.heap.size+2:=by rw[<- am,World.size_alloc];omega
 have aw:Y2.heap[w.heap.size]? = some (.cells #[.slice ca c.length cc] 59):=by rw[<- am];exact Am _ av
 have ax:Y2.heap[w.heap.size+1]? = some (.cells #[.string f.name,pv,.int .i64 f.result,.int .i64 f.slots,.slice (some ⟨D,0,none⟩) f.ins.length ic] 130):=by rw[<- am,<- ck];exact Af _ _
 clear av;obtain⟨Y3,af⟩:∃ Y,Y2.alloc (.cells #[.int .i64 1,.slice sa s.length sc,.slice none 0 0] 126)=Y:=⟨_,rfl⟩;have bq:Below w.heap.size w Y3:=by rw[<- af];exact Ac bp _
 have cm:Y3.heap.size=w.heap.size+3:=by rw[<- af,World.size_alloc];omega
 have ay:Y3.heap[w.heap.size]? = some (.cells #[.slice ca c.length cc] 59):=by rw[<- af];exact Am _ aw
 have az:Y3.heap[w.heap.size+1]? = some (.cells #[.string f.name,pv,.int .i64 f.result,.int .i64 f.slots,.slice (some ⟨D,0,none⟩) f.ins.length ic] 130):=by rw[<- af];exact Am _ ax
 have a0:Y3.heap[w.heap.size+2]? = some (.cells #[.int .i64 1,.slice sa s.length sc,.slice none 0 0] 126):=by rw[<- af,<- cl];exact Af _ _
 clear aw ax;obtain⟨y,N⟩:∃ Y,Y3.alloc (.cells #[.int .i64 0,.slice none 0 0,.slice none 0 0] 126)=Y:=⟨_,rfl⟩;have O:Below w.heap.size w y:=by rw[<- N];exact Ac bq _
 have cn:y.heap.size=w.heap.size+4:=by rw[<- N,World.size_alloc];omega
 have ak:y.heap[w.heap.size]? = some (.cells #[.slice ca c.length cc] 59):=by rw[<- N];exact Am _ ay
 have r:y.heap[w.heap.size+1]? = some (.cells #[.string f.name,pv,.int .i64 f.result,.int .i64 f.slots,.slice (some ⟨D,0,none⟩) f.ins.length ic] 130):=by rw[<- N];exact Am _ az
 have G:y.heap[w.heap.size+2]? = some (.cells #[.int .i64 1,.slice sa s.length sc,.slice none 0 0] 126):=by rw[<- N];exact Am _ a0
 have H:y.heap[w.heap.size+3]? = some (.cells #[.int .i64 0,.slice none 0 0,.slice none 0 0] 126):=by rw[<- N,<- cm];exact Af _ _
 clear ay az a0;have c7:y.cell? ⟨w.heap.size,0,none⟩=some (.slice ca c.length cc):=by rw[Lib.cell_of_heap ak];rfl
 have c8:y.cell? ⟨w.heap.size+1,0,none⟩=some (.string f.name):=by rw[Lib.cell_of_heap r];rfl
 have c9:y.cell? ⟨w.heap.size+1,1,none⟩=some (pv):=by rw[Lib.cell_of_heap r];rfl
 have da:y.cell? ⟨w.heap.size+1,2,none⟩=some (.int .i64 f.result):=by rw[Lib.cell_of_heap r];rfl
 have db:y.cell? ⟨w.heap.size+1,3,none⟩=some (.int .i64 f.slots):=by rw[Lib.cell_of_heap r];rfl
 have dc:y.cell? ⟨w.heap.size+1,4,none⟩=some (.slice (some ⟨D,0,none⟩) f.ins.length ic):=by rw[Lib.cell_of_heap r];rfl
 have dd:y.cell? ⟨w.heap.size+2,0,none⟩=some (.int .i64 1):=by rw[Lib.cell_of_heap G];rfl
 have de:y.cell? ⟨w.heap.size+2,1,none⟩=some (.slice sa s.length sc):=by rw[Lib.cell_of_heap G];rfl
 have df:y.cell? ⟨w.heap.size+2,2,none⟩=some (.slice none 0 0):=by rw[Lib.cell_of_heap G];rfl
 have dg:y.cell? ⟨w.heap.size+3,0,none⟩=some (.int .i64 0):=by rw[Lib.cell_of_heap H];rfl
 have dh:y.cell? ⟨w.heap.size+3,1,none⟩=some (.slice none 0 0):=by rw[Lib.cell_of_heap H];rfl
 have di:y.cell? ⟨w.heap.size+3,2,none⟩=some (.slice none 0 0):=by rw[Lib.cell_of_heap H];rfl
 clear bo bp bq;have i0:=d 0 (by omega);have i1:=d 1 (by omega);have i2:=d 2 (by omega);have i3:=d 3 (by omega);simp only[Gl,Nat.add_zero,List.getElem?_cons_zero,List.getElem?_cons_succ]at i0 i1 i2 i3;have j0:=(O.cell (p:=⟨D,at' * 4,none⟩) ap).trans i0;have j1:=(O.cell (p:=⟨D,at' * 4+1,none⟩) ap).trans i1;have j2:=(O.cell (p:=⟨D,at' * 4+2,none⟩) ap).trans i2;have j3:=(O.cell (p:=⟨D,at' * 4+3,none⟩) ap).trans i3;obtain⟨Y5,an⟩:∃ Y,y.alloc (.cells #[.int .i64 x.op,.int .i64 x.a,.int .i64 x.n,.string x.text] 107)=Y:=⟨_,rfl⟩;have br:Below w.heap.size w Y5:=by rw[<- an];exact Ac O _
 have co:Y5.heap.size=w.heap.size+5:=by rw[<- an,World.size_alloc];omega
 have bz:∀ g,g < w.heap.size+4->Y5.heap[g]? = y.heap[g]?:=fun g hg=>by rw[<- an];exact(Au y _).block g (by omega)
 have a2:Y5.heap[w.heap.size+4]? = some (.cells #[.int .i64 x.op,.int .i64 x.a,.int .i64 x.n,.string x.text] 107):=by rw[<- an,<- cn];exact Af _ _
 obtain⟨R,ao⟩:∃ Y,Y5.alloc (.cells #[.int .i64 0,.slice none 0 0,.slice none 0 0] 126)=Y:=⟨_,rfl⟩;have bs:Below w.heap.size w R:=by rw[<- ao];exact Ac br _
 have cq:R.heap.size=w.heap.size+6:=by rw[<- ao,World.size_alloc];omega
 have a9:∀ g,g < w.heap.size+5->R.heap[g]? = Y5.heap[g]?:=fun g hg=>by rw[<- ao];exact(Au Y5 _).block g (by omega)
 have k:R.heap[w.heap.size+5]? = some (.cells #[.int .i64 0,.slice none 0 0,.slice none 0 0] 126):=by rw[<- ao,<- co];exact Af _ _
 have n0:R.cell? ⟨w.heap.size+5,0,none⟩=some (.int .i64 0):=by rw[Lib.cell_of_heap k];rfl
 have n1:R.cell? ⟨w.heap.size+5,1,none⟩=some (.slice none 0 0):=by rw[Lib.cell_of_heap k];rfl
 have n2:R.cell? ⟨w.heap.size+5,2,none⟩=some (.slice none 0 0):=by rw[Lib.cell_of_heap k];rfl
 have m0:R.frozen? ⟨w.heap.size+5,0,none⟩=false:=by simp[World.frozen?,k]
 have m1:R.frozen? ⟨w.heap.size+5,1,none⟩=false:=by simp[World.frozen?,k]
 have m2:R.frozen? ⟨w.heap.size+5,2,none⟩=false:=by simp[World.frozen?,k]
 obtain⟨W,hW⟩:∃ W,(((R.setCell ⟨w.heap.size+5,0,none⟩ (.int .i64 2)).setCell ⟨w.heap.size+5,1,none⟩ (.slice none 0 0)).setCell ⟨w.heap.size+5,2,none⟩ (.slice none 0 0))=W:=⟨_,rfl⟩;have ai:Below w.heap.size w W:=by rw[<- hW];exact Ad (Ad (Ad bs 5 0 _) 5 1 _) 5 2 _
 have dx:W.heap.size=w.heap.size+6:=by rw[<- hW];simp[cq]
 have Q:Ee f x (.slice ca c.length cc) pv (.slice (some ⟨D,0,none⟩) f.ins.length ic) (.slice sa s.length sc) (.slice none 0 0) w.heap.size W:=by
  have b0:∀ g,g < w.heap.size+5->W.heap[g]? = R.heap[g]?:=fun g hg=>by
   rw[<- hW,Below.heap_setCell _ _ _ _ (by show g≠w.heap.size+5;omega),Below.heap_setCell _ _ _ _ (by show g≠w.heap.size+5;omega),Below.heap_setCell _ _ _ _ (by show g≠w.heap.size+5;omega)]
  have aq:∀ g,g < w.heap.size+4->W.heap[g]? = y.heap[g]?:=fun g hg=>(b0 g (by omega)).trans ((a9 g (by omega)).trans (bz g hg))
  refine⟨(aq _ (by omega)).trans ak,(aq _ (by omega)).trans r,(aq _ (by omega)).trans G,(aq _ (by omega)).trans H,(b0 _ (by omega)).trans ((a9 _ (by omega)).trans a2), ?_⟩;rw[<- hW];exact heap_setCell_same _ _ _ _ _ _ (heap_setCell_same _ _ _ _ _ _ (heap_setCell_same _ _ _ _ _ _ k))
 have b5:Hid (An W.heap.size W (.slice ca c.length cc) c):=An.mono (hC.below ai) (by omega);have cd:Hid (Ab W.heap.size W (.slice sa s.length sc) s):=(hS.below ai).mono (by omega);have b7:Hid (Ab W.heap.size W (.slice none 0 0) []):=aj _ W;obtain⟨⟨tk,L,b2⟩,J⟩:∃ g,Hid (Ag c f x s []=g):=⟨_,(rfl:Ag c f x s []=_)⟩;have a4:Hid (Calls Tryz.prog 114 #[.agg #[.slice ca c.length cc],.agg #[.string f.name,pv,.int .i64 f.result,.int .i64 f.slots,.slice (some ⟨D,0,none⟩) f.ins.length ic],.agg #[.int .i64 x.op,.int .i64 x.a,.int .i64 x.n,.string x.text],.agg #[.int .i64 1,.slice sa s.length sc,.slice none 0 0]] W fun e w'=>(∃ v,e = .returned (.tuple #[.int .i64 (tk:Int),v,.bool b2])/\Ab w'.heap.size w' v L)/\Below W.heap.size W w'):=by
  have h:=N6 c f x s [] ca (some ⟨D,0,none⟩) sa none cc ic sc 0 pv hcl hil hsl (by decide) (by decide) (.inl rfl) hsf hpl hok W b5.out cd.out b7.out;unfold Ai at h;rw[J.out]at h;exact h
 have bh:Hid (Ab w.heap.size w (.slice sa s.length sc) s):=hS;have be:Hid (Ab w.heap.size w (.slice none 0 0) []):=aj _ _;clear hS;clear hC hI d i0 i1 i2 i3 br bs bz a9 ak r G H a2 k O;have dj:(at':Int) < (f.ins.length:Int):=by omega
 have dv:=Q.c0;obtain⟨cv,cw,cx,cy,cz⟩:=Q.fs;have c4:=Q.s0;have c5:=Q.s1;have c6:=Q.s2;have c0:=Q.i0;have c1:=Q.i1;have c2:=Q.i2;have c3:=Q.i3;unfold Ax Ah;go_enter Tryz.func85,Tryz.ntmps85;have bx:=Km hok;have dn:=Nb hok;cases b2 with
 | false =>
  have HL:Hid (Bj c f x at' s [] = .clash):=Je J.out (.inl rfl);go_wp2_with (first|(go_at_call 114;refine a4.out.mono ?_;rintro e w7 ⟨⟨v,rfl,hv⟩,A⟩;have b:=(Q.below A (by omega));have n:=ai.trans (A.mono (by omega));have s2:=b.s2;have y0:=b.i0;have y1:=b.i1;have y2:=b.i2;have y3:=b.i3;obtain⟨⟨r0,r1,r2⟩,g0,g1,g2⟩:=b.r;obtain⟨aa,ab,ac⟩:=b.b));exact bodyPost_ret (v:=Ah 2 (.slice none 0 0) (.slice none 0 0)) (by simp[results,Tryz.results85,go_sem,r0,r1,r2,Ah]) rfl ⟨⟨_,rfl,by rw[HL.out];rfl⟩,Ad (Ad (Ad n 3 0 _) 3 1 _) 3 2 _⟩
 | true =>
  by_cases htk:0 < tk
  ·have HL:Hid (Bj c f x at' s [] = .clash):=Je J.out (.inr htk);have dp:(0:Int) < (tk:Int):=(by omega);go_wp2_with (first|(go_at_call 114;refine a4.out.mono ?_;rintro e w7 ⟨⟨v,rfl,hv⟩,A⟩;have b:=(Q.below A (by omega));have n:=ai.trans (A.mono (by omega));have s2:=b.s2;have y0:=b.i0;have y1:=b.i1;have y2:=b.i2;have y3:=b.i3;obtain⟨⟨r0,r1,r2⟩,g0,g1,g2⟩:=b.r;obtain⟨aa,ab,ac⟩:=b.b));exact bodyPost_ret (v:=Ah 2 (.slice none 0 0) (.slice none 0 0)) (by simp[results,Tryz.results85,go_sem,r0,r1,r2,Ah]) rfl ⟨⟨_,rfl,by rw[HL.out];rfl⟩,Ad (Ad (Ad n 3 0 _) 3 1 _) 3 2 _⟩
  ·have b1:tk=0:=(by omega);subst b1;have bj:Hid (0<=([]:List Int).length):=(by decide:0<=([]:List Int).length);clear htk;go_wp2_with (first|(go_at_call 114;refine a4.out.mono ?_;rintro e w7 ⟨⟨v,rfl,hv⟩,A⟩;have b:=(Q.below A (by omega));have n:=ai.trans (A.mono (by omega));have s2:=b.s2;have y0:=b.i0;have y1:=b.i1;have y2:=b.i2;have y3:=b.i3;obtain⟨⟨r0,r1,r2⟩,g0,g1,g2⟩:=b.r;obtain⟨aa,ab,ac⟩:=b.b)|(go_at_call 112;refine(Pu x at' (by omega) (fun h=>(bx h).1) w7).mono ?_;rintro e w8 ⟨gv,rfl,bv,ah⟩));obtain⟨E,T⟩:∃ g,Hid (A5 x at'=g):=⟨_,(rfl:A5 x at'=_)⟩;have dl:E.length<=2:=(by rw[<- T.out];exact L7 x at');obtain⟨ag,cg,rfl,b6⟩:∃ ag cg,gv = .slice ag E.length cg/\Hid (∀ j (hj:j < E.length),∃ g o,ag=some ⟨g,o,none⟩/\w8.cell? ⟨g,o+j,none⟩=some (.int .i64 ((E[j]:Nat):Int))):=by
    obtain⟨ag,cg,e,hc⟩:=bv;rw[T.out]at e hc;refine⟨ag,cg,by rw[e];simp[Cn],fun j hj => ?_⟩;obtain⟨g,o,e1,_,h2⟩:=hc j (by simpa[Cn]using hj);exact⟨g,o,e1,by rw[h2];simp[Cn]⟩
   have b4:Hid (Ee f x (.slice ca c.length cc) pv (.slice (some ⟨D,0,none⟩) f.ins.length ic) (.slice sa s.length sc) (.slice none 0 0) w.heap.size w8):=b.below ah b.size;have S:Hid (Below w.heap.size w w8):=n.trans (ah.mono n.size);have cb:Hid (Ab w8.heap.size w8 v L):=(hv.below ah).mono ah.size;have du:Hid (Ab w.heap.size w8 (.slice sa s.length sc) s):=(bh.out).below S.out;have ds:Hid (Ab w.heap.size w8 (.slice none 0 0) []):=(be.out).below S.out;clear bv hv b n ah A s2 y0 y1 y2 y3 r0 r1 r2 g0 g1 g2 aa ab ac;go_loopw [15] (fun t wr => ∃ j q:Nat,j<=E.length/\t = .int .i64 (j:Int)/\wr=w8.drewN q/\∀ u (hu:u < E.length),u < j->E[u] < f.ins.length) (fun t _=>E.length - (intOf t).toNat);case atStart=>exact⟨0,0,by omega,rfl,rfl,fun u hu h=>by omega⟩
   case round =>
    obtain⟨j,q,hj,rfl,hq,hu⟩:=hrel;have HQ:Hid (wr=w8.drewN q):=hq;have I:Hid (Ee f x (.slice ca c.length cc) pv (.slice (some ⟨D,0,none⟩) f.ins.length ic) (.slice sa s.length sc) (.slice none 0 0) w.heap.size wr):=(by rw[hq];exact b4.out.kept (fun g _=>rfl));have m:Hid (Below w.heap.size w wr):=(by rw[hq];exact B5 _ S.out);clear hq;have z4:=I.out.f4;by_cases hlt:j < E.length
    ·obtain⟨gg,og,rfl,d8⟩:=b6.out j hlt;have d0:wr.cell? ⟨gg,og+j,none⟩=some (.int .i64 ((E[j]:Nat):Int)):=(by rw[HQ.out];exact d8);by_cases hin:E[j] < f.ins.length
     ·have HU:Hid (∀ u (hu:u < E.length),u < j+1->E[u] < f.ins.length):=fun u hul h=>by
       by_cases e:u=j
       ·subst e;exact hin
       ·exact hu u hul (by omega)
      have bw:((E[j]:Nat):Int) < (f.ins.length:Int):=(by omega);clear hu d8 hin;generalize E[j]=zz at *;go_wp2_with fail;go_quiet (fail);go_wp2_with fail;go_roundw;case rel=>exact⟨j+1,_,by omega,by go_num,by rw[HQ.out,World.drewN_drewN],HU.out⟩
      case measure=>simp[intOf];omega
     ·have HL:Hid (Bj c f x at' s [] = .clash):=Nc (j:=j) J.out bj.out (by rw[T.out];exact hlt) (by simp only[T.out];omega);have bw:¬ ((E[j]:Nat):Int) < (f.ins.length:Int):=(by omega);obtain⟨⟨r0,r1,r2⟩,g0,g1,g2⟩:=I.out.r;obtain⟨aa,ab,ac⟩:=I.out.b;clear hu d8 hin;generalize E[j]=zz at *;go_wp2_with fail;go_quiet (fail);go_wp2_with fail;exact bodyPost_ret (v:=Ah 2 (.slice none 0 0) (.slice none 0 0)) (by simp[results,Tryz.results85,go_sem,r0,r1,r2,Ah]) rfl ⟨⟨_,rfl,by rw[HL.out];rfl⟩,Ad (Ad (Ad (B5 _ m.out) 3 0 _) 3 1 _) 3 2 _⟩
    ·have b3:Hid (∀ u (hu:u < (A5 x at').length),(A5 x at')[u] < f.ins.length):=fun u hul=>by
      simp only[T.out]at hul |-
      exact hu u hul (by omega)
     clear hu;have dk:¬ (j:Int) < (E.length:Int):=(by omega);obtain⟨i0,a8,bb,bc,bd⟩:=I0;have dm:L.length<=1:=(by have h:=M9 c f x s [];rw[J.out]at h;exact h);have HD:Hid (w.heap.size+6<=wr.heap.size):=I.out.size;obtain⟨V1,bl⟩:∃ V,wr.alloc (.cells #[] 3)=V:=⟨_,rfl⟩;have bf:Hid (V1.ownsRow wr.heap.size 3 1 (.slice (some ⟨wr.heap.size,0,none⟩) 0 0) 0 (As [])):=(by rw[Hid,<- bl];exact Hw wr _ (Nat.le_refl _) _);have F:Below wr.heap.size wr V1:=(by rw[<- bl];exact Au wr _);have bi:Hid (Ab w.heap.size V1 (.slice sa s.length sc) s):=bh.out.below (m.out.trans (F.mono m.out.size));have dq:=(I.out.below F HD.out).s1;have b9:Hid (Ab wr.heap.size wr v L):=(by rw[Hid,HQ.out];exact cb.out);have dt:Hid (Ab wr.heap.size wr (.slice none 0 0) []):=Ab.mono (be.out.below m.out) m.out.size;have cj:0+([]:List Int).length+L.length<=1048576:=(by simp;omega);have b8:=(show Hid _ from Oa J.out bj.out b3.out);have ce:¬ (600:Int) < ((L.length:Nat):Int):=(by omega);have a5:¬ 600 < L.length:=(by omega);have h3:¬ x.op=3:=fun h3=>by
      have h:=J.out;unfold Ag at h;rw[if_neg (by omega),if_neg (by omega),if_pos (.inl h3)]at h;simp at h
     have dw:(x.op == 3)=false:=(by simp[h3]);have HL:Hid (Bj c f x at' s [] = .known s L):=by
      rw[Hid,b8.out,if_neg (by simpa using a5),if_neg h3];simp
     clear h3;go_wp2_with (first|(at_builtin;refine Bn rfl _ _ 124 rfl wr.heap.size 3 i0 (.int .i64 0) Tryz.underlying124 a8 bb bc bd rfl (.slice (some ⟨wr.heap.size,0,none⟩) 0 0) 0 [] rfl bf.out w.heap.size (.slice sa s.length sc) rfl s bi.out (by omega) F.size ?_;intro v1 P K ci;rw[Nat.zero_add,List.nil_append]at K;obtain⟨a1,z,cr⟩:=C9 K;subst cr;have ch:=Cr F ci F.size (fun g hg=>Bt bf.out hg);obtain⟨V2,cf⟩:∃ V,P.alloc (.cells #[.int .i64 1,.slice a1 s.length z,.slice none 0 0] 126)=V:=⟨_,rfl⟩;have bk:=(show Dv wr P.heap.size s (.slice a1 s.length z) (.slice none 0 0) V2 from(by rw[<- cf];exact Dv.new ch K));obtain⟨⟨t0,t1,t2⟩,u0,u1,u2⟩:=bk.o;obtain⟨U,bm⟩:∃ V,V2.setCell ⟨P.heap.size,2,none⟩ (.slice none 0 0)=V:=⟨_,rfl⟩;have au:=(show Dv wr P.heap.size s (.slice a1 s.length z) (.slice none 0 0) U from(by rw[<- bm];exact bk.set _));obtain⟨V3,bn⟩:∃ V,U.alloc (.cells #[] 3)=V:=⟨_,rfl⟩;have a6:=(show Dv wr P.heap.size s (.slice a1 s.length z) (.slice none 0 0) V3 from(by rw[<- bn];exact au.alloc _));have dr:=(I.out.below a6.since HD.out).s2;have bg:=(show Hid (V3.ownsRow (P.heap.size+1) 3 1 (.slice (some ⟨U.heap.size,0,none⟩) 0 0) 0 (As [])) from(by rw[Hid,<- bn];exact Hw U _ au.lt _)))|(at_builtin;refine Bn rfl _ _ 124 rfl (P.heap.size+1) 3 i0 (.int .i64 0) Tryz.underlying124 a8 bb bc bd rfl (.slice (some ⟨U.heap.size,0,none⟩) 0 0) 0 [] rfl bg.out wr.heap.size (.slice none 0 0) rfl [] (aj _ _) (by decide) a6.lt ?_;intro v2 dy C bt;rw[List.nil_append]at C;have ae:=a6.grown bt (fun g hg=>Bt bg.out (by omega)))|(at_builtin;refine Bn rfl _ _ 124 rfl (P.heap.size+1) 3 i0 (.int .i64 0) Tryz.underlying124 a8 bb bc bd rfl v2 (0+([]:List Int).length) [] rfl C wr.heap.size v rfl L (b9.out.below ae.since) cj ae.lt ?_;intro v3 cu l bu;simp only[List.length_nil,Nat.zero_add,Nat.add_zero,List.nil_append]at l;obtain⟨a3,M,ct⟩:=C9 l;subst ct;have ar:=ae.grown bu (fun g hg=>Bt C (by omega));obtain⟨⟨m0,m1,m2⟩,n0,n1,n2⟩:=ar.o;obtain⟨X,hX⟩:∃ V,cu.setCell ⟨P.heap.size,2,none⟩ (.slice a3 (L.length) M)=V:=⟨_,rfl⟩;have al:=(show Dv wr P.heap.size s (.slice a1 s.length z) (.slice a3 (L.length) M) X from(by rw[<- hX];exact ar.set _));have ba:=(show X.ownsRow (P.heap.size+1) 3 1 (.slice a3 (L.length) M) (L.length) (As (L)) from(by rw[<- hX];exact ownsRow_setCell_other (a:=⟨P.heap.size,2,none⟩) l (Bt l (by show P.heap.size < _;omega)) _));obtain⟨⟨x0,x1,x2⟩,-,-,-⟩:=al.o;have ad:=I.out.below al.since HD.out;have z0:=ad.i0;have z1:=ad.i1;have z2:=ad.s2;obtain⟨aa,ab,ac⟩:=ad.b;obtain⟨⟨r0,r1,r2⟩,g0,g1,g2⟩:=ad.r));refine bodyPost_ret (v:=Ah 1 (.slice a1 s.length z) (.slice a3 L.length M)) (by simp[results,Tryz.results85,go_sem,r0,r1,r2,Ah]) rfl ⟨⟨_,rfl, ?_⟩,Ad (Ad (Ad (m.out.trans (al.since.mono m.out.size)) 3 0 _) 3 1 _) 3 2 _⟩;rw[HL.out];exact al.done ba (w.heap.size+3) (by have:=HD.out;omega) _ _ _
def Hj : Ao->Prop
 | .known _ k=>k.length<=600
 | _=>True
theorem T9 (c:List Ae) (f:Ae) (i:Ay) (u:Nat) (s k:List Int):Hj (Bj c f i u s k):=by
 unfold Bj;split
 ·trivial
 ·split
  ·trivial
  ·split
   ·trivial
   ·rename_i h;exact Nat.le_of_not_lt h
theorem Th (c:List Ae) (f:Ae) (u:Nat):∀ a,Hj (Ck c f u a)
 | .none=>trivial
 | .known s k=>T9 c f _ u s k
 | .clash=>trivial
theorem Yq : ∀ {a b:Ao},Hj a->Hj b->Hj (Bc a b)
 | .none,.none,_,_=>trivial
 | .none,.known _ _,_,h=>h
 | .none,.clash,_,_=>trivial
 | .known _ _,.none,h,_=>h
 | .known _ _,.clash,_,_=>trivial
 | .clash,.none,_,_=>trivial
 | .clash,.known _ _,_,_=>trivial
 | .clash,.clash,_,_=>trivial
 | .known s k,.known s' k',h,_=>by
  rw[Bc]
  by_cases e:k=k'
  ·rw[if_pos e];exact h
  ·rw[if_neg e];trivial
theorem M5 (c:List Ae) (f:Ae) (at':Nat) (hat:at' < f.ins.length) (ca ia:Option Addr) (cc ic:Nat) (pv sv:Value) (sh:Ao) (hcl:c.length<=60) (hil:f.ins.length<=50000) (hsl:0<=f.slots) (hsl2:f.slots<=200) (hpl:∀ g ∈ c,g.params.length<=8) (hok:Ar c f f.ins[at']=true) (hlen:Di f.slots.toNat sh) (hstk:Hj sh) (w:World) (hC:An w.heap.size w (.slice ca c.length cc) c) (hI:Bb w.heap.size w (.slice ia f.ins.length ic) f.ins) (hS:Ba w.heap.size w sv sh) :
  Calls Tryz.prog 85 #[.agg #[.slice ca c.length cc],Ax f pv (.slice ia f.ins.length ic),.int .i64 (at':Int),sv] w fun e w'=>(∃ v,e = .returned v/\Ba w'.heap.size w' v (Ck c f at' sh))/\Below w.heap.size w w':=by
 cases sh with
 | none=>rw[show sv=_ from hS];exact M6 c f at' hat hil _ pv _ _ ia ic 0 (by decide) w hI
 | clash=>rw[show sv=_ from hS];exact M6 c f at' hat hil _ pv _ _ ia ic 2 (by decide) w hI
 | known s k =>
  obtain⟨h,i,o,m,rfl,d,b,hs,l,_,_⟩:=hS;have n:s.length=f.slots.toNat:=hlen;have a:k.length<=600:=hstk;have e:Ck c f at' (.known s k)=Bj c f f.ins[at'] at' s k:=by
   show Bj c f (f.ins.getD at' Cv) at' s k=_
   rw[List.getD_eq_getElem?_getD,List.getElem?_eq_getElem hat];rfl
  rw[e];rcases b with⟨rfl,rfl⟩|⟨g,rfl⟩
  ·have j:k=[]:=List.eq_nil_of_length_eq_zero (by omega);subst j;exact Tg c f at' hat s ca ia h cc ic i pv hcl hil (by omega) (by omega) hpl hok w hC hI hs
  ·exact Ql c f at' hat s k ca ia h cc ic i g m pv hcl hil (by omega) a d (by omega) hpl hok w hC hI hs l
theorem Pw (m:Nat) (hm:m<=200) (a b:Ao) (va vb:Value) (ha:Di m a) (hb:Di m b) (hsa:Hj a) (hsb:Hj b) (w:World) (hA:Ba w.heap.size w va a) (hB:Ba w.heap.size w vb b) :
  Calls Tryz.prog 113 #[va,vb] w fun e w'=>(∃ v,e = .returned (.tuple #[v,.bool (decide (Bc a b≠a))])/\Ba w'.heap.size w' v (Bc a b))/\Below w.heap.size w w':=by
 have c:∀ {r:Ao} {v:Value} {q:Bool} (hq:decide (r≠a)=q) (C:Ba w.heap.size w v r) (h:Calls Tryz.prog 113 #[va,vb] w fun e w'=>e = .returned (.tuple #[v,.bool q])/\Below w.heap.size w w'),Calls Tryz.prog 113 #[va,vb] w fun e w'=>(∃ v,e = .returned (.tuple #[v,.bool (decide (r≠a))])/\Ba w'.heap.size w' v r)/\Below w.heap.size w w':=fun hq C h =>
  h.mono (fun e w' ⟨p,j⟩=>⟨⟨_,by rw[hq];exact p,(C.below j).mono j.size⟩,j⟩)
 cases a with
 | none =>
  have g:va=_:=hA;cases b with
  | none =>
   have f:vb=_:=hB;refine c (r:=.none) (q:=false) (by simp) hA ?_;rw[g,f];exact Qaa _ _ _ _ _ _ _ _ _ _ _ _ w
  | clash =>
   have f:vb=_:=hB;refine c (r:=.clash) (q:=true) (by simp) hB ?_;rw[g,f];exact Qac _ _ _ _ _ _ _ _ _ _ _ _ w
  | known s k =>
   refine c (r:=.known s k) (q:=true) (by simp) hB ?_;obtain⟨n,E,i,D,rfl,_⟩:=hB;rw[g];exact Qab _ _ _ _ _ _ _ _ _ _ _ _ w
 | clash =>
  have g:va=_:=hA;cases b with
  | none =>
   have f:vb=_:=hB;refine c (r:=.clash) (q:=false) (by simp) hA ?_;rw[g,f];exact Qaf _ _ _ _ _ _ _ _ _ _ _ _ w
  | clash =>
   have f:vb=_:=hB;refine c (r:=.clash) (q:=false) (by simp) hA ?_;rw[g,f];exact Qah _ _ _ _ _ _ _ _ _ _ _ _ w
  | known s k =>
   refine c (r:=.clash) (q:=false) (by simp) hA ?_;obtain⟨n,E,i,D,rfl,_⟩:=hB;rw[g];exact Qag _ _ _ _ _ _ _ _ _ _ _ _ w
 | known s k =>
  cases b with
  | none =>
   have f:vb=_:=hB;refine c (r:=.known s k) (q:=false) (by simp) hA ?_;obtain⟨n,E,i,D,rfl,_⟩:=hA;rw[f];exact Qad _ _ _ _ _ _ _ _ _ _ _ _ w
  | clash =>
   have f:vb=_:=hB;refine c (r:=.clash) (q:=true) (by simp) hB ?_;obtain⟨n,E,i,D,rfl,_⟩:=hA;rw[f];exact Qae _ _ _ _ _ _ _ _ _ _ _ _ w
  | known t l =>
   have p:s.length=m:=ha;have j:t.length=m:=hb;have S:k.length<=600:=hsa;have T:l.length<=600:=hsb;obtain⟨n,G,i,u,rfl,A,z,hs,y,_,B⟩:=hA;obtain⟨N,H,M,I,rfl,_,_,L,K,_,_⟩:=hB;by_cases e:k=l
   ·have x:Bc (.known s k) (.known t l) = .known (Bg s t) k:=(by rw[Bc,if_pos e]);rw[x];refine(Qai s t k l (p.trans j.symm) (by omega) (by omega) (by omega) n i N M G u H I w hs L y K e).mono ?_;rintro O w' ⟨C,rfl,R,o,d⟩;have Q:decide (Ao.known (Bg s t) k ≠ .known s k)=decide (Bg s t≠s):=(by simp);rw[Q];obtain⟨F,J,rfl,P⟩:=R;exact⟨⟨_,rfl,F,J,i,u,rfl,A,z,⟨F,J,rfl,P⟩,(y.below d).mono d.size,o,(B.below d).keep (fun _ _=>rfl) d.size⟩,d⟩
   ·have x:Bc (.known s k) (.known t l) = .clash:=(by rw[Bc,if_neg e]);rw[x];refine(Qaj s t k l (p.trans j.symm) (by omega) (by omega) (by omega) n i N M G u H I w hs L y K e).mono ?_;rintro O w' ⟨rfl,d⟩;exact⟨⟨_,by simp,rfl⟩,d⟩
end Go.Proofs.YtahibkjkpmdhgaaGreatDoor
