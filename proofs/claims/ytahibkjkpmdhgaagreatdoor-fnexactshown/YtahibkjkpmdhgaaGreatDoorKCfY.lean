import Derived.Test.YtahibkjkpmdhgaaGreatDoorKCfT
import Derived.Test.YtahibkjkpmdhgaaGreatDoorKCdYA
set_option maxRecDepth 100000
set_option maxHeartbeats 4000000
namespace Go.Proofs.YtahibkjkpmdhgaaGreatDoor
open Go.RowKit
def F4 (c:List Af) (f:Af) (D:Nat) (w:World) (e:Ending) (w':World):Prop :=
 ∃ (B g gl:Nat) (ca ia:Option Addr) (cc ic lc:Nat) (pv:Value) (X:List Am) (W:List Int) (wa:Option Addr) (wc:Nat),e = .returned (.pointer (some (OI g 0)))/\Ei B g gl c f ca ia cc ic lc pv X W wa wc w'/\(D<=B/\Ba D w' (.slice ia f.ins.length ic) f.ins)/\Al D w' (.slice ca c.length cc) c/\Cr c f X/\(∀ u,Dn (Ai X u))/\OH w w'
theorem Qb2 (c:List Af) (fk:Nat) (hfk:fk < c.length) (f:Af) (hf:c[fk]=f) (ca:Option Addr) (cc:Nat) (hfn:Bz c fk f=true) (hR:Kl c f) (w:World) (D:Nat) (hD:D<=w.heap.size) (hCD:Al D w (.slice ca c.length cc) c) (hT:B3 w) (hW:Cw w) :
  Calls Tryz.prog 96 #[.agg #[.slice ca c.length cc],.int .i64 (fk:Int)] w (F4 c f D w):=by
 obtain⟨b1,b2,b3,b4,b5,b6,-,-,-⟩:=F5 hfn;have co:f ∈ c:=by rw[<- hf];exact List.getElem_mem hfk
 obtain⟨o,ec,F,H,ia,E,ev,bc,d0,d1,d2,d3,d4,bk,az⟩:=hCD.fn fk hfk;injection ev with ev1 ev2 ev3;subst ev1 ev3;rw[hf]at d0 d1 d2 d3 d4 bk az;have aj:o < w.heap.size:=Nat.lt_of_lt_of_le bc hD;have hC:=Al.mono hCD hD;have hP:=bk.mono hD;have hI:=Ba.mono az hD;obtain⟨r,rfl⟩:∃ r,ia=some (OI r 0):=by
  obtain⟨a',cp,e,h⟩:=hI;injection e with e1;subst e1;obtain⟨g,M,_⟩:=h 0 Ou;exact⟨g,M⟩
 have HC:Hid (Al w.heap.size w (.slice (some (OI o 0)) c.length cc) c):=hC;have HP:Hid (Ac w.heap.size w (.slice F f.params.length H) f.params):=hP;have HI:Hid (Ba w.heap.size w (.slice (some (OI r 0)) f.ins.length E) f.ins):=hI;have cz:Hid (Al D w (.slice (some (OI o 0)) c.length cc) c):=hCD;have c2:Hid (Ba D w (.slice (some (OI r 0)) f.ins.length E) f.ins):=az;have bh:Hid (D<=w.heap.size):=hD;clear hC hP hI hf ev2 hCD az bk bc hD;obtain⟨Y1,a4⟩:∃ Y,w.alloc (.cells #[.slice (some (OI o 0)) c.length cc] 59)=Y:=⟨_,rfl⟩;have S:OH w Y1:=by rw[<- a4];exact Ao w _
 have cr:Y1.heap.size=w.heap.size+1:=by rw[<- a4];exact World.size_alloc _ _
 have am:Y1.heap[w.heap.size]? = some (.cells #[.slice (some (OI o 0)) c.length cc] 59):=by rw[<- a4];exact Ae w _
 have b8:Y1.cell? (OI w.heap.size 0)=some (.slice (some (OI o 0)) c.length cc):=by rw[Lib.cell_of_heap am];rfl
 have e0:=(S.cell (p:=(OI o (fk * 5))) aj).trans d0;have e1:=(S.cell (p:=(OI o (fk * 5+1))) aj).trans d1;have e2:=(S.cell (p:=(OI o (fk * 5+2))) aj).trans d2;have e3:=(S.cell (p:=(OI o (fk * 5+3))) aj).trans d3;have e4:=(S.cell (p:=(OI o (fk * 5+4))) aj).trans d4;obtain⟨A,ah⟩:∃ Y,Y1.alloc (.cells #[.string f.name,.slice F f.params.length H,.int .i64 f.result,.int .i64 f.slots,.slice (some (OI r 0)) f.ins.length E] 130)=Y:=⟨_,rfl⟩;have ab:OH w A:=by rw[<- ah];exact Ab S _
 have cs:A.heap.size=w.heap.size+2:=by rw[<- ah,World.size_alloc];omega
 have an:A.heap[w.heap.size]? = some (.cells #[.slice (some (OI o 0)) c.length cc] 59):=by rw[<- ah];exact Ak _ am
 have B:A.heap[w.heap.size+1]? = some (.cells #[.string f.name,.slice F f.params.length H,.int .i64 f.result,.int .i64 f.slots,.slice (some (OI r 0)) f.ins.length E] 130):=by rw[<- ah,<- cr];exact Ae _ _
 have b9:A.cell? (OI w.heap.size 0)=some (.slice (some (OI o 0)) c.length cc):=by rw[Lib.cell_of_heap an];rfl
 have q0:A.cell? (OI (w.heap.size+1) 0)=some (.string f.name):=by rw[Lib.cell_of_heap B];rfl
 have q1:A.cell? (OI (w.heap.size+1) 1)=some (.slice F f.params.length H):=by rw[Lib.cell_of_heap B];rfl
 have q2:A.cell? (OI (w.heap.size+1) 2)=some (.int .i64 f.result):=by rw[Lib.cell_of_heap B];rfl
 have q3:A.cell? (OI (w.heap.size+1) 3)=some (.int .i64 f.slots):=by rw[Lib.cell_of_heap B];rfl
 have q4:A.cell? (OI (w.heap.size+1) 4)=some (.slice (some (OI r 0)) f.ins.length E):=by rw[Lib.cell_of_heap B];rfl
 have d5:(fk:Int) < (c.length:Int):=Ou
 clear d0 d1 d2 d3 d4 am;obtain⟨i0,dc,dq,dr,ds⟩:=Qdu;obtain⟨i3,dd,dt,du,dv⟩:=Qbp;have HS:Hid (∀ W,OH A W->W.cell? (OI w.heap.size 0)=some (.slice (some (OI o 0)) c.length cc)/\W.cell? (OI (w.heap.size+1) 0)=some (.string f.name)/\W.cell? (OI (w.heap.size+1) 1)=some (.slice F f.params.length H)/\W.cell? (OI (w.heap.size+1) 2)=some (.int .i64 f.result)/\W.cell? (OI (w.heap.size+1) 3)=some (.int .i64 f.slots)/\W.cell? (OI (w.heap.size+1) 4)=some (.slice (some (OI r 0)) f.ins.length E)):=fun W hW=>by
  have r0:=(hW.block w.heap.size Ou).trans an;have r1:=(hW.block (w.heap.size+1) Ou).trans B;exact⟨by rw[Lib.cell_of_heap r0];rfl,by rw[Lib.cell_of_heap r1];rfl,by rw[Lib.cell_of_heap r1];rfl,by rw[Lib.cell_of_heap r1];rfl,by rw[Lib.cell_of_heap r1];rfl,by rw[Lib.cell_of_heap r1];rfl⟩
 obtain⟨mc,cn⟩:∃ m,madeCells (Value.agg #[.int .i64 0,.string ⟨#[]⟩,.string ⟨#[]⟩]).cells (f.ins.length * 3)=m:=⟨_,rfl⟩;have dk:∀ W:World,(Instr.makeSlice 146 (.int .i64 (f.ins.length:Int)) (.int .i64 (f.ins.length:Int))).run Tryz.prog W = .ok (.slice (some (OI W.heap.size 0)) f.ins.length f.ins.length) (W.alloc (.cells mc 150)):=fun W=>by
  have h:=run_make (P:=Tryz.prog) W 146 150 i3 _ Tryz.underlying146 dd dt .i64 .i64 f.ins.length f.ins.length Ou (Int.le_refl _) (by rw[dv];omega) Ou;simp only[Int.toNat_natCast,du]at h;rw[cn]at h;exact h
 obtain⟨mb,bd⟩:∃ m,madeCells (Value.int .u8 0).cells (f.slots.toNat * 1)=m:=⟨_,rfl⟩;have dj:∀ W:World,(Instr.makeSlice 159 (.int .i64 f.slots) (.int .i64 f.slots)).run Tryz.prog W = .ok (.slice (some (OI W.heap.size 0)) f.slots.toNat f.slots.toNat) (W.alloc (.cells mb 5)):=fun W=>by
  have h:=run_make (P:=Tryz.prog) W 159 5 i0 _ Tryz.underlying159 dc dq .i64 .i64 f.slots f.slots Ou (Int.le_refl _) (by rw[ds];omega) Ou;rw[dr,bd]at h;exact h
 go_enter Tryz.func96,Tryz.ntmps96;go_wp2_with fail;first|(go_region_held3 (fun W=>W.cell? (OI w.heap.size 0)=some (.slice (some (OI o 0)) c.length cc)/\W.cell? (OI (w.heap.size+1) 0)=some (.string f.name)/\W.cell? (OI (w.heap.size+1) 1)=some (.slice F f.params.length H)/\W.cell? (OI (w.heap.size+1) 2)=some (.int .i64 f.result)/\W.cell? (OI (w.heap.size+1) 3)=some (.int .i64 f.slots)/\W.cell? (OI (w.heap.size+1) 4)=some (.slice (some (OI r 0)) f.ins.length E)) (exact HS.out _ (by repeat' (first|exact Below.refl _ _|apply Below.drew|refine Below.alloc ?_ ?_ _|refine Below.setCell ?_ ?_ _|exact Nat.le_refl _|(simp;done)|(simp;omega)))) (fail))|fail
 obtain⟨s,aa⟩:∃ V,((A.alloc (.cells mc 150)).alloc (.cells #[.slice (some (OI o 0)) c.length cc,.string f.name,.slice F f.params.length H,.int .i64 f.result,.int .i64 f.slots,.slice (some (OI r 0)) f.ins.length E,.slice (some (OI (w.heap.size+2) 0)) f.ins.length f.ins.length,.slice none 0 0] 148)).drew=V:=⟨_,rfl⟩;rw[aa];obtain⟨y,cg⟩:∃ b,w.heap.size+2+1=b:=⟨_,rfl⟩;rw[cg];have ai:OH A s:=by rw[<- aa];exact(Ka A _ _).drew
 have be:s.heap.size=w.heap.size+4:=by
  rw[<- aa];show ((A.alloc _).alloc _).heap.size=_
  rw[World.size_alloc,World.size_alloc];omega
 have ao:s.heap[w.heap.size+2]? = some (.cells mc 150 (0,0)):=by
  rw[<- aa,<- cs];exact Ak _ (Ae A _)
 have bf:s.heap[w.heap.size+3]? = some (.cells #[.slice (some (OI o 0)) c.length cc,.string f.name,.slice F f.params.length H,.int .i64 f.result,.int .i64 f.slots,.slice (some (OI r 0)) f.ins.length E,.slice (some (OI (w.heap.size+2) 0)) f.ins.length f.ins.length,.slice none 0 0] 148 (0,0)):=by
  have e:w.heap.size+3=(A.alloc (.cells mc 150)).heap.size:=by rw[World.size_alloc];omega
  rw[<- aa,e];exact Ae _ _
 obtain⟨-,-,s1,-,s3,s4⟩:=HS.out s ai;clear aa;go_wp2_with fail;obtain⟨V1,a2⟩:∃ V,s.alloc (.cells mb 5)=V:=⟨_,rfl⟩;have bx:Hid (∀ j,j < f.slots.toNat->V1.cell? (OI (w.heap.size+4) j)=some (.int .u8 0)/\V1.frozen? (OI (w.heap.size+4) j)=false):=fun j hj=>by
  have h:V1.heap[w.heap.size+4]? = some (.cells mb 5 (0,0)):=by rw[<- a2,<- be];exact Ae _ _
  refine⟨by rw[Lib.cell_of_heap h,<- bd];exact Qbs _ j hj,by simp[World.frozen?,h]⟩
 have br:Hid (OH s V1):=by rw[Hid,<- a2];exact Ao s _
 rw[a2];have a8:Hid (∀ t ∈ f.params,1<=t/\t<=10):=(hR.fns f co).2;have l:Hid (OH w A/\A.heap.size=w.heap.size+2/\OH A s/\s.heap.size=w.heap.size+4):=⟨ab,cs,ai,be⟩;have bw:Hid (s.heap[w.heap.size+2]? = some (.cells mc 150 (0,0))/\s.heap[y]? = some (.cells #[.slice (some (OI o 0)) c.length cc,.string f.name,.slice F f.params.length H,.int .i64 f.result,.int .i64 f.slots,.slice (some (OI r 0)) f.ins.length E,.slice (some (OI (w.heap.size+2) 0)) f.ins.length f.ins.length,.slice none 0 0] 148 (0,0))):=⟨ao,by rw[<- cg];exact bf⟩;clear a2 ao bf ai S cr a4 ah an B b8 b9 e0 e1 e2 e3 e4 q0 q1 q2 q3 q4 s1 s3 s4 dk dj;have d8:0<=f.slots:=Ou
 go_loopw [34] (fun t wr => ∃ i:Nat,i<=f.params.length/\t = .int .i64 (i:Int)/\OH s wr/\Hid (∀ j,j < f.slots.toNat->wr.cell? (OI (w.heap.size+4) j)=some (.int .u8 (if j < i then f.params.getD j 0 else 0))/\wr.frozen? (OI (w.heap.size+4) j)=false)) (fun t _=>f.params.length - (intOf t).toNat);case atStart=>exact⟨0,by omega,rfl,br.out,fun j hj=>by rw[if_neg Ou];exact bx.out j hj⟩
 case round =>
  obtain⟨i,hi,rfl,Q,ap⟩:=hrel;by_cases hlt:i < f.params.length
  ·have ak:(i:Int) < (f.params.length:Int):=Ou;have de:i < f.slots.toNat:=Ou;have d6:(i:Int) < ((f.slots.toNat:Nat):Int):=Ou;obtain⟨c0,f0⟩:=ap.out i de;rw[if_neg Ou]at c0;have T:OH w wr:=l.out.1.trans ((l.out.2.2.1.trans (Q.mono l.out.2.2.1.size)).mono l.out.1.size);obtain⟨gp,op,cq,eg,bq⟩:∃ gp op,F=some (OI gp op)/\gp < w.heap.size/\wr.cell? (OI gp (op+i))=some (.int .i64 f.params[i]):=by
    obtain⟨a',cp,e,h⟩:=HP.out.below T;injection e with e1;subst e1;exact h i hlt
   have eb:Hid (F=some (OI gp op)):=cq;have dl:=a8.out _ (List.getElem_mem hlt);obtain⟨z,hz⟩:∃ z,f.params[i]=z:=⟨_,rfl⟩;rw[hz]at bq dl;have c4:Hid (∀ j,j < f.slots.toNat->(wr.setCell (OI (w.heap.size+4) i) (.int .u8 z)).cell? (OI (w.heap.size+4) j)=some (.int .u8 (if j < i+1 then f.params.getD j 0 else 0))/\(wr.setCell (OI (w.heap.size+4) i) (.int .u8 z)).frozen? (OI (w.heap.size+4) j)=false):=fun j hj=>by
    obtain⟨M,h2⟩:=ap.out j hj;refine⟨?_,by rw[World.frozen?_setCell];exact h2⟩;by_cases e:j=i
    ·subst e;rw[if_pos Ou,World.cell?_setCell_same (w:=wr) (h:=c0),List.getD_eq_getElem?_getD,List.getElem?_eq_getElem hlt,hz];rfl
    ·rw[World.cell?_setCell_other (w:=wr) (h:=(by intro h;injection h with _ h;exact e h.symm))];by_cases e2:j < i
     ·rw[if_pos Ou];rw[if_pos e2]at M;exact M
     ·rw[if_neg Ou];rw[if_neg e2]at M;exact M
   clear hz;have en:IntKind.u8.wrap z=z:=(by rw[IntKind.wrap_u8];omega);subst cq;go_wp2_with fail;go_roundw;case rel=>exact⟨i+1,by omega,by go_num,Q.setCell (p:=(OI (w.heap.size+4) i)) (by show s.heap.size<=_;rw[l.out.2.2.2];exact Nat.le_refl _) _,c4.out⟩
   case measure=>simp[intOf];omega
  ·have ak:¬ (i:Int) < (f.params.length:Int):=Ou;have ck:i=f.params.length:=Ou;have ar:Hid ((B4 f).length=f.slots.toNat):=D1 f b6;have ax:Hid (F6 (B4 f)):=Ta a8.out;have bm:=run_convert_bytes_back (P:=Tryz.prog) wr 159 9 5 (OI (w.heap.size+4) 0) f.slots.toNat ((B4 f).map (fun z=>UInt8.ofNat z.toNat)) Tryz.underlying159 Tryz.underlying5 Tryz.underlying9 (fun j hj=>by
    have bo:j < (B4 f).length:=by simpa using hj
    have M:=(ap.out j (by rw[<- ar.out];exact bo)).1
    rw[ck,<- Yw,List.getD_eq_getElem?_getD,List.getElem?_eq_getElem bo]at M
    have ek:=ax.out _ (List.getElem_mem bo)
    have e:(((((B4 f).map (fun z=>UInt8.ofNat z.toNat))[j]'hj).toNat:Nat):Int)=(B4 f)[j]:=by
     rw[List.getElem_map,UInt8.toNat_ofNat'];omega
    rw[e]
    by_cases j0:j=0
    ·subst j0;simpa[Addr.add]using M
    ·simpa[Addr.add,j0]using M)
   rw[List.length_map,ar.out]at bm;obtain⟨cy,al⟩:∃ x,Bt (B4 f)=x:=⟨_,rfl⟩;have ch:(convert 159 9 (.slice (some (OI (w.heap.size+4) 0)) f.slots.toNat f.slots.toNat)).run Tryz.prog wr = .ok (.string cy) wr:=(by rw[<- al];exact bm);have bs:Hid (Below (w.heap.size+2) s wr/\s.heap.size<=wr.heap.size):=⟨Q.mono (by rw[l.out.2.2.2];omega),Q.size⟩;have bz:Hid (∀ U,OH wr U->Ei (w.heap.size+2) y (w.heap.size+2) c f (some (OI o 0)) (some (OI r 0)) cc E f.ins.length (.slice F f.params.length H) (List.replicate f.ins.length .none) [] none 0 U):=fun U hU=>by
    have hv:=l.out.2.2.2;have hz:=Q.size;have r0:=(hU.block (w.heap.size+2) Ou).trans ((Q.block (w.heap.size+2) Ou).trans bw.out.1);have r1:=(hU.block y Ou).trans ((Q.block y Ou).trans bw.out.2);refine⟨by omega,Nat.le_refl _,by omega,by have:=hU.size;omega,⟨r1⟩, ?_,List.length_replicate,World.ownsRow_nil U _ _ _,by simp[Value.ownBlock],by simp[Value.ownBlock]⟩;rw[<- cn]at r0;exact Ce.made r0
   have q:Hid (Calls Tryz.prog 127 #[.pointer (some (OI y 0)),.int .i64 0,.agg #[.int .i64 1,.string cy,.string ⟨#[]⟩]] wr (Ml (w.heap.size+2) y (w.heap.size+2) c f (some (OI o 0)) (some (OI r 0)) cc E f.ins.length (.slice F f.params.length H) (List.replicate f.ins.length .none) [] 0 (Bb .none (.known (B4 f) [])) (Bb .none (.known (B4 f) []) ≠ .none) none wr)):=by
    have h:=Rx (Cc c f).m (by show (B4 f).length<=200;rw[ar.out];omega) _ _ _ c f hR.il _ _ _ _ _ _ _ _ _ _ wr (bz.out wr (Below.refl _ _)) 0 Ou .none (.known (B4 f) []) (by rw[List.getElem_replicate]) OB trivial rfl trivial ⟨ax.out,fun t ht=>by simp at ht⟩ (fun i j M=>by simp at M) OB;rw[Hh]at h;rw[<- al];exact h
   clear bm ap Q;go_wp2_with (first|(go_at_call 127;refine q.out.mono ?_;rintro e w1 ⟨W1,dw,dy,rfl,O,ag,bb,-,cm,-⟩));have c8:Hid (Qf2 (w.heap.size+2) y (w.heap.size+2) c f (some (OI o 0)) (some (OI r 0)) cc E f.ins.length (.slice F f.params.length H) s w1):=by
    refine⟨_,W1,dw,dy,O, ?_,bb,fun u => ?_,bs.out.1.trans ag⟩
    ·exact P4.start (Cc c f) (by simp[Cc]) (by show 0 < f.ins.length;omega) (fun v=>by rw[cm v];simp[Bb])
    ·refine Rz (fun u=>by rw[Pl];trivial) ?_ (by rw[List.length_replicate];omega) u;exact⟨ax.out,fun t ht=>by simp at ht,by simp⟩
   clear O ag bb cm q bz ar ax bs bx br ch al ck;go_loopw [] (fun wr2=>Qf2 (w.heap.size+2) y (w.heap.size+2) c f (some (OI o 0)) (some (OI r 0)) cc E f.ins.length (.slice F f.params.length H) s wr2) (fun wr2=>Uu (Cc c f) y (w.heap.size+2) wr2);case atStart=>exact c8.out
   case round =>
    obtain⟨X,W,wa,wc,hS,hK,hD,hF,hB⟩:=hrel;have T:OH w wr:=l.out.1.trans ((l.out.2.2.1.trans (by rw[l.out.2.1];exact hB)).mono l.out.1.size);rcases List.eq_nil_or_concat W with a3|⟨L,z,a3⟩
    ·subst a3;have c7:=hS.tr.cells.2.2.2.2.2.2.2;simp only[List.length_nil]at c7;have bi:Hid (F4 c f D w (.returned (.pointer (some (OI y 0)))) wr):=⟨_,_,_,_,_,_,_,_,_,X,[],wa,wc,rfl,hS,⟨Nat.le_trans bh.out Ou,c2.out.below (T.mono bh.out)⟩,cz.out.below (T.mono bh.out),hK.fix,hF,T⟩;clear hS hK hD hF hB T;go_wp2_with fail;go_ret;exact bi.out
    ·rw[List.concat_eq_append]at a3;subst a3;obtain⟨i,rfl,C,-⟩:=hK.work z OB;replace C:i < f.ins.length:=C;obtain⟨-,cx,cf⟩:=hK.pop;have c3:Hid (Uu (Cc c f) y (w.heap.size+2) wr=Kw (Cc c f) X L+1):=by
      rw[Hid,Ya hS.lays hF hS.tr.cells.2.2.2.2.2.2.2];unfold Kw;simp[Nat.add_assoc]
     obtain⟨kw,dg,el,bj,c7,f7⟩:=hS.last;subst dg;have O:=hS.pop;have em:L.length+1<=50000:=by
      have h:=Ue (n:=f.ins.length) hD (fun v hv=>by obtain⟨u,e,hu,-⟩:=hK.work v hv;exact⟨u,e,hu⟩);have:=hR.il;simp at h;omega
     have cb:=Qar hD;obtain⟨I,a0⟩:∃ U,wr.setCell (OI y 7) (.slice (some (OI kw 0)) L.length wc)=U:=⟨_,rfl⟩;rw[a0]at O;have ag:Below (w.heap.size+2) s I:=(by rw[<- a0];exact hB.setCell (p:=(OI y 7)) (by show w.heap.size+2<=y;omega) _);have ay:Hid (∀ U,OH I U->Below (w.heap.size+2) s U/\OH w U):=fun U hU=>by
      have M:=ag.trans (hU.mono O.size);exact⟨M,l.out.1.trans ((l.out.2.2.1.trans (by rw[l.out.2.1];exact M)).mono l.out.1.size)⟩
     obtain⟨K,HK⟩:∃ K,Hid (Cq c f i (Ai X i)=K):=⟨_,(rfl:Cq c f i (Ai X i)=_)⟩;have a7:Hid (∀ u,Dv f.slots.toNat (Ai X u)):=fun u=>by
      have h:=hK.low.lens u;rw[<- D1 f b6];exact h
     have ae:Hid (∀ U,OH I U->Calls Tryz.prog 128 #[.pointer (some (OI y 0)),.int .i64 (i:Int)] U fun e w'=>e = .returned (.agg #[.int .i64 (D5 K),.string (Eu K),.string (Et K)])/\OH U w'):=fun U hU=>by
      obtain⟨-,R⟩:=ay.out U hU;have cl:i < X.length:=(by rw[hS.len];exact C);have h:=Sf c f hR i C X hS.len (Ai X i) (Ir cl).symm cx (hF i) (a7.out i) _ _ _ _ _ _ _ _ _ U ((O.below hU).leftIn (Ba.mono (HI.out.below R) Ou) (Al.mono (HC.out.below R) Ou) (hT.below R) (hW.below R) i);rw[HK.out,Hh]at h;exact h
     obtain⟨a,J⟩:∃ x,Hid (f.ins[i]=x):=⟨_,(rfl:f.ins[i]=_)⟩;have a5:=hR.ok i C;rw[J.out]at a5;have hA:=I4 a5;have hO:=Hs a5;have bu:Hid (∀ U,OH I U->Calls Tryz.prog 129 #[.agg #[.int .i64 a.op,.int .i64 a.a,.int .i64 a.n,.string a.text],.int .i64 (i:Int)] U fun e w' => ∃ v,e = .returned v/\Ac w'.heap.size w' v (Ct (A5 a i))/\OH U w'/\∀ k,v.ownBlock=some k->U.heap.size<=k):=fun U hU=>by
      obtain⟨-,R⟩:=ay.out U hU;exact Ww a i Ou Ou (by have:=hR.il;omega) (fun h=>(hA.2.2.2.2.2.2.2.1 h).1) U (hT.below R)
     have bt:Hid (∀ U,OH I U->U.cell? (OI (w.heap.size+1) 4)=some (.slice (some (OI r 0)) f.ins.length E)/\U.cell? (OI r (i * 4))=some (.int .i64 a.op)/\U.cell? (OI r (i * 4+1))=some (.int .i64 a.a)/\U.cell? (OI r (i * 4+2))=some (.int .i64 a.n)/\U.cell? (OI r (i * 4+3))=some (.string a.text)):=fun U hU=>by
      obtain⟨dm,R⟩:=ay.out U hU;obtain⟨-,-,-,-,-,s4⟩:=HS.out U (l.out.2.2.1.trans (by rw[l.out.2.1];exact dm));obtain⟨g2,e2,-,i0,i1,i2,i3⟩:=(HI.out.below R).cells i C;injection e2 with e2;injection e2 with e2;subst e2;rw[J.out]at i0 i1 i2 i3;exact⟨s4,i0,i1,i2,i3⟩
     have af:Hid (Ei (w.heap.size+2) y (w.heap.size+2) c f (some (OI o 0)) (some (OI r 0)) cc E f.ins.length (.slice F f.params.length H) X L (some (OI kw 0)) wc I):=O;have b7:Hid (M8 (Cc c f) X L i K (A5 a i) 0):=by
      have h:M8 (Cc c f) X L i (Cq c f i (Ai X i)) (A5 (f.ins.getD i C3) i) 0:=cf;rw[HK.out,List.getD_eq_getElem?_getD,List.getElem?_eq_getElem C]at h;rw[<- J.out];exact h
     have aq:Hid ((∀ u,Dn (Ai X u))/\Fa L):=⟨hF,cb⟩;have d7:(i:Int) < (f.ins.length:Int):=Ou;have ea:(L.length:Int)+1<=(wc:Int):=Ou;have d9:wrap64 ((L.length:Int)+1 - 1)=(L.length:Int):=(IntWalk.wrap64_in _ Ou).trans Ou;have ce:wr.setCell (OI y 7) (.slice (some (OI kw 0)) L.length wc)=I:=a0;clear hS hK hD hF hB T cf O ag hA hO a5 cx a0 cb;go_wp2_with (first
      | (go_at_call 128;refine(ae.out I (Below.refl _ _)).mono ?_;rintro e w2 ⟨rfl,ab⟩;obtain⟨U2,a1⟩:∃ U,w2.alloc (.cells #[.int .i64 (D5 K),.string (Eu K),.string (Et K)] 150)=U:=⟨_,rfl⟩;have G:OH I U2:=(by rw[<- a1];exact ab.alloc ab.size _);obtain⟨s4,i0,i1,i2,i3⟩:=bt.out U2 G;have av:Hid (U2.heap[w2.heap.size]? = some (.cells #[.int .i64 (D5 K),.string (Eu K),.string (Et K)] 150 (0,0))/\I.heap.size<=w2.heap.size/\w2.heap.size < U2.heap.size):=⟨by rw[<- a1];exact Ae _ _,ab.size,by rw[<- a1,World.size_alloc];omega⟩)
      | (go_at_call 129;refine(bu.out U2 G).mono ?_;rintro e w3 ⟨v,rfl,df,bl,cu⟩;obtain⟨va,vc,dp,ct⟩:=df;subst dp;have bv:Hid (Ac w3.heap.size w3 (.slice va (Ct (A5 a i)).length vc) (Ct (A5 a i))):=⟨va,vc,rfl,ct⟩;clear ct))
     have au:Hid (K ≠ .none/\Dn K):=by
      rw[Hid,<- HK.out];exact⟨Yt _ _ _ _,T7 hR C (aq.out.1 i) (a7.out i)⟩
     have c1:Hid (∀ z ∈ A5 a i,z<=f.ins.length):=by
      rw[Hid,<- J.out];exact Qda hR C
     have aw:Hid ((Ct (A5 a i)).length=(A5 a i).length):=(by rw[Hid];simp[Ct]);have b0:Hid (P2 (w.heap.size+2) y (w.heap.size+2) c f (some (OI o 0)) (some (OI r 0)) cc E f.ins.length (.slice F f.params.length H) s i K (A5 a i) (.slice va (Ct (A5 a i)).length vc) w2.heap.size (Kw (Cc c f) X L+1) 0 X L (some (OI kw 0)) wc w3):=by
      have ba:=G.trans (bl.mono G.size);have ef:=G.size;have ee:y < I.heap.size:=af.out.tr.lt;have ei:w.heap.size+2 < I.heap.size:=af.out.lays.lt;have ej:kw < I.heap.size:=L2 af.out.row rfl;refine⟨af.out.below ba,b7.out,aq.out.2,aq.out.1,(ay.out w3 ba).1,Nat.le_refl _,bv.out,fun j hj => ?_,(bl.block w2.heap.size av.out.2.2).trans av.out.1, ?_⟩
      ·have h:=cu j hj;refine⟨by omega,by omega,fun e => ?_⟩;have:kw=j:=(by simpa[Value.ownBlock]using e);omega
      ·have h:=av.out.2.1;refine⟨by omega,by omega,fun e => ?_⟩;have:kw=w2.heap.size:=(by simpa[Value.ownBlock]using e);omega
     clear bv cu bl G b7 af aq bt bu ae a1 ce s4 i0 i1 i2 i3 ab bj c7 f7 av;obtain⟨N,cd⟩:∃ n,(Ct (A5 a i)).length=n:=⟨_,rfl⟩;rw[cd]at b0 aw |-
     have ed:N<=2:=by
      rw[aw.out];unfold A5;repeat' split
      all_goals simp
     go_loopw [89] (fun t wr3 => ∃ (k:Nat) (X':List Am) (W':List Int) (ac:Option Addr) (ad:Nat),k<=N/\t = .int .i64 (k:Int)/\P2 (w.heap.size+2) y (w.heap.size+2) c f (some (OI o 0)) (some (OI r 0)) cc E f.ins.length (.slice F f.params.length H) s i K (A5 a i) (.slice va N vc) w2.heap.size (Kw (Cc c f) X L+1) k X' W' ac ad wr3) (fun t _=>N - (intOf t).toNat);case atStart=>exact⟨0,X,L,some (OI kw 0),wc,by omega,rfl,b0.out⟩
     case round =>
      obtain⟨k,X',W',ac,ad,hk,rfl,d⟩:=hrel;by_cases hlt:k < N
      ·have ak:(k:Int) < (N:Int):=Ou;have bp:k < (A5 a i).length:=(by rw[<- aw.out];exact hlt);obtain⟨gv,ov,dn,bn⟩:∃ gv ov,va=some (OI gv ov)/\wr.cell? (OI gv (ov+k))=some (.int .i64 ((A5 a i)[k]:Int)):=by
        obtain⟨a',cp,e,h⟩:=d.ints;injection e with e1;subst e1;obtain⟨g',o',M,-,h2⟩:=h k (by rw[cd];exact hlt);refine⟨g',o',M,h2.trans ?_⟩;simp[Ct]
       subst dn;obtain⟨to,Z⟩:∃ to,Hid ((A5 a i)[k]=to):=⟨_,(rfl:(A5 a i)[k]=_)⟩;rw[Z.out]at bn;have l0:wr.cell? (OI w2.heap.size 0)=some (.int .i64 (D5 K)):=(by rw[Lib.cell_of_heap d.left];rfl);have l1:wr.cell? (OI w2.heap.size 1)=some (.string (Eu K)):=(by rw[Lib.cell_of_heap d.left];rfl);have l2:wr.cell? (OI w2.heap.size 2)=some (.string (Et K)):=(by rw[Lib.cell_of_heap d.left];rfl);have a9:Hid (P2 (w.heap.size+2) y (w.heap.size+2) c f (some (OI o 0)) (some (OI r 0)) cc E f.ins.length (.slice F f.params.length H) s i K (A5 a i) (.slice (some (OI gv ov)) N vc) w2.heap.size (Kw (Cc c f) X L+1) k X' W' ac ad wr):=d;by_cases hto:to < f.ins.length
       ·have q:Hid (Calls Tryz.prog 127 #[.pointer (some (OI y 0)),.int .i64 (to:Int),.agg #[.int .i64 (D5 K),.string (Eu K),.string (Et K)]] wr (Ml (w.heap.size+2) y (w.heap.size+2) c f (some (OI o 0)) (some (OI r 0)) cc E f.ins.length (.slice F f.params.length H) X' W' to (Bb (Ai X' to) K) (Bb (Ai X' to) K≠Ai X' to) (Value.slice ac W'.length ad).ownBlock wr)):=by
         have hx:to < X'.length:=(by rw[d.st.len];exact hto);have cv:W'.length<=50000:=by
          have h:=Ue (n:=f.ins.length) d.dn (fun v hv=>by obtain⟨u,e,hu,-⟩:=d.wm.work v hv;exact⟨u,e,hu⟩);have:=hR.il;omega
         have h:=Rx (Cc c f).m (by show (B4 f).length<=200;rw[D1 f b6];omega) _ _ _ c f hR.il _ _ _ _ _ _ _ _ _ _ wr d.st to hto (Ai X' to) K (Ir hx).symm au.out.1 (d.wm.low.lens to) d.wm.blen (Jr (d.fine to)) (Jr au.out.2) d.dn cv;rw[Hh]at h;exact h
        have c6:Hid ((A5 a i)[k] < f.ins.length):=(by rw[Hid,Z.out];exact hto);clear d hto;go_wp2_with (first|(go_at_call 127;refine q.out.mono ?_;rintro e w4 ⟨W4,dx,dz,rfl,da,c9,ci,dh,di,cj⟩));go_roundw;case rel =>
         refine⟨k+1,_,W4,dx,dz,by omega,by go_num,a9.out.step bp c6.out au.out.1 au.out.2 ?_ c9 ci dh ?_ cj⟩
         ·rw[Z.out];exact da
         ·rw[Z.out];exact di
        case measure=>simp[intOf];omega
       ·have q:Hid (Calls Tryz.prog 127 #[.pointer (some (OI y 0)),.int .i64 (to:Int),.agg #[.int .i64 (D5 K),.string (Eu K),.string (Et K)]] wr fun e w'=>e = .returned (.tuple #[])/\OH wr w'):=by
         have eh:=c1.out to (by rw[<- Z.out];exact List.getElem_mem bp);have h:=Yu _ _ _ c f hR.il _ _ _ _ _ _ _ _ _ _ wr d.st to Ou K;rw[Hh]at h;exact h.mono (fun e w' h=>⟨h.1,h.2.2⟩)
        have c5:Hid (¬ (A5 a i)[k] < f.ins.length):=(by rw[Hid,Z.out];exact hto);clear d hto;go_wp2_with (first|(go_at_call 127;refine q.out.mono ?_;rintro e w4 ⟨rfl,db⟩));go_roundw;case rel=>exact⟨k+1,X',W',ac,ad,by omega,by go_num,a9.out.skip bp c5.out db⟩
        case measure=>simp[intOf];omega
      ·have ak:¬ (k:Int) < (N:Int):=Ou;have a6:Hid (Qf2 (w.heap.size+2) y (w.heap.size+2) c f (some (OI o 0)) (some (OI r 0)) cc E f.ins.length (.slice F f.params.length H) s wr/\Uu (Cc c f) y (w.heap.size+2) wr < Kw (Cc c f) X L+1):=by
        have eG:(Cc c f).goes i=A5 a i:=by
         show A5 (f.ins.getD i C3) i=_
         rw[List.getD_eq_getElem?_getD,List.getElem?_eq_getElem C,<- J.out];rfl
        have cw:=d.wm;rw[<- eG]at cw;refine⟨⟨X',W',ac,ad,d.st,cw.done (by rw[eG,<- aw.out];omega),d.dn,d.fine,d.since⟩, ?_⟩;rw[Ya d.st.lays d.fine d.st.tr.cells.2.2.2.2.2.2.2];have:=d.ms;omega
       clear d;go_wp2_with fail;go_roundw;case rel=>exact a6.out.1
       case measure=>rw[c3.out];exact a6.out.2
theorem F3.right {c:List Af} (h:F3 c) (k:Nat) (hk:k < c.length):Kl c c[k]:=by
 obtain⟨a,b,d,p,q,r,f,i,s⟩:=F5 (h.fns k hk);refine⟨h.len,d,h.pl,fun g hg => ?_,⟨f,i⟩,⟨a,b⟩,h.ins k hk⟩;obtain⟨j,o,rfl⟩:=List.getElem_of_mem hg;obtain⟨-,-,-,-,-,-,l,m,n⟩:=F5 (h.fns j o);exact⟨⟨l,m⟩,n⟩
theorem Xf {c:List Af} (h:(B8 c).1=0):B8 c=(0,0,0):=by
 unfold B8 at h |-
 by_cases h1:c.length=0\/60 < c.length
 ·rw[if_pos h1]at h;simp at h
 ·rw[if_neg h1]at h |-
  cases h2:Gz c c 0 with
  | some k=>rw[h2]at h;simp at h
  | none =>
   rw[h2]at h;cases h3:Du c c 0 with
   | some p=>rw[h3]at h;simp at h
   | none =>
    rw[h3]at h;by_cases h4:c.any A8=true
    ·simp only[if_pos h4]
    ·simp only[if_neg h4]at h;simp at h
def Ty (c:List Af) (XS:List (List Am)) (r:Int × Int × Int):Prop :=
  (∃ k u,∃ (h:k < c.length) (h':k < XS.length),u < c[k].ins.length/\B0 c c[k] XS[k] u=true/\(∀ j,j < u->B0 c c[k] XS[k] j=false) /\
        (∀ q (hq:q < k) j,j < (c[q]'Ou).ins.length->B0 c (c[q]'Ou) (XS[q]'Ou) j=false)/\r=(5,(k:Int),(u:Int))) \/
     ((∀ q (hq:q < c.length) (hq':q < XS.length) j,j < c[q].ins.length->B0 c c[q] XS[q] j=false)/\r=(0,0,0))
theorem Yr {c:List Af} {XS:List (List Am)} {r:Int × Int × Int} (hp:(B8 c).1=0) (hXL:XS.length=c.length) (hXS:∀ k (hk:k < c.length) (hk':k < XS.length),Cr c c[k] XS[k]) (h:Ty c XS r):Dj c r:=by
 unfold Dj;rw[if_neg (by simp[hp])];exact⟨XS,hXL,hXS,h⟩
end Go.Proofs.YtahibkjkpmdhgaaGreatDoor
