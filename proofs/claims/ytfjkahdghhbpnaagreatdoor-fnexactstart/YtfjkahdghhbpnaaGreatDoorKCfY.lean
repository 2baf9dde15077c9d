import Derived.Test.YtfjkahdghhbpnaaGreatDoorKCfX
set_option maxRecDepth 100000
set_option maxHeartbeats 4000000
namespace Go.Proofs.YtfjkahdghhbpnaaGreatDoor
open Go.RowKit
def Dr (c:List Ae) (f:Ae) (w:World) (e:Ending) (w':World):Prop :=
 ∃ (B g gl:Nat) (ca ia:Option Addr) (cc ic lc:Nat) (pv:Value) (X:List Ap) (W:List Int) (wa:Option Addr) (wc:Nat),e = .returned (.pointer (some ⟨g,0,none⟩))/\D1 B g gl c f ca ia cc ic lc pv X W wa wc w'/\Ba B w' (.slice ia f.ins.length ic) f.ins/\Ak B w' (.slice ca c.length cc) c/\Fc c f X/\(∀ u,Dn (Ao X u))/\Below w.heap.size w w'
theorem Vl (c:List Ae) (fk:Nat) (hfk:fk < c.length) (f:Ae) (hf:c[fk]=f) (ca:Option Addr) (cc:Nat) (hfn:Bw c fk f=true) (hR:Jn c f) (w:World) (hC:Ak w.heap.size w (.slice ca c.length cc) c) (hT:Cg w) (hW:Dj w) :
  Calls Tryz.prog 85 #[.agg #[.slice ca c.length cc],.int .i64 (fk:Int)] w (Dr c f w):=by
 obtain⟨b1,b2,b3,b4,b5,b6,-,-,-⟩:=Fk hfn
 have cj:f ∈ c:=by rw[<- hf];exact List.getElem_mem hfk
 obtain⟨s,d5,D,G,ia,F,ev,ai,d0,d1,d2,d3,d4,hP,hI⟩:=hC.fn fk hfk
 injection ev with ev1 ev2 ev3
 subst ev1 ev3
 rw[hf]at d0 d1 d2 d3 d4 hP hI
 obtain⟨y,rfl⟩:∃ y,ia=some ⟨y,0,none⟩:=by
  obtain⟨a',cp,e,h⟩:=hI
  injection e with e1
  subst e1
  obtain⟨g,L,_⟩:=h 0 (by omega)
  exact⟨g,L⟩
 have HC:Hid (Ak w.heap.size w (.slice (some ⟨s,0,none⟩) c.length cc) c):=hC
 have HP:Hid (Ab w.heap.size w (.slice D f.params.length G) f.params):=hP
 have HI:Hid (Ba w.heap.size w (.slice (some ⟨y,0,none⟩) f.ins.length F) f.ins):=hI
 clear hC hP hI hf ev2
 obtain⟨Y1,a2⟩:∃ Y,w.alloc (.cells #[.slice (some ⟨s,0,none⟩) c.length cc] 38)=Y:=⟨_,rfl⟩
 have R:Below w.heap.size w Y1:=by rw[<- a2];exact A5 w _
 have cl:Y1.heap.size=w.heap.size+1:=by rw[<- a2];exact World.size_alloc _ _
 have al:Y1.heap[w.heap.size]? = some (.cells #[.slice (some ⟨s,0,none⟩) c.length cc] 38):=by rw[<- a2];exact Ag w _
 have bw:Y1.cell? ⟨w.heap.size,0,none⟩=some (.slice (some ⟨s,0,none⟩) c.length cc):=by rw[Lib.cell_of_heap al];rfl
 have e0:=(R.cell (p:=⟨s,fk * 5,none⟩) ai).trans d0
 have e1:=(R.cell (p:=⟨s,fk * 5+1,none⟩) ai).trans d1
 have e2:=(R.cell (p:=⟨s,fk * 5+2,none⟩) ai).trans d2
 have e3:=(R.cell (p:=⟨s,fk * 5+3,none⟩) ai).trans d3
 have e4:=(R.cell (p:=⟨s,fk * 5+4,none⟩) ai).trans d4
 obtain⟨A,ag⟩:∃ Y,Y1.alloc (.cells #[.string f.name,.slice D f.params.length G,.int .i64 f.result,.int .i64 f.slots,.slice (some ⟨y,0,none⟩) f.ins.length F] 97)=Y:=⟨_,rfl⟩
 have aa:Below w.heap.size w A:=by rw[<- ag];exact Ac R _
 have cm:A.heap.size=w.heap.size+2:=by rw[<- ag,World.size_alloc];omega
 have am:A.heap[w.heap.size]? = some (.cells #[.slice (some ⟨s,0,none⟩) c.length cc] 38):=by rw[<- ag];exact Am _ al
 have B:A.heap[w.heap.size+1]? = some (.cells #[.string f.name,.slice D f.params.length G,.int .i64 f.result,.int .i64 f.slots,.slice (some ⟨y,0,none⟩) f.ins.length F] 97):=by rw[<- ag,<- cl];exact Ag _ _
 have bx:A.cell? ⟨w.heap.size,0,none⟩=some (.slice (some ⟨s,0,none⟩) c.length cc):=by rw[Lib.cell_of_heap am];rfl
 have q0:A.cell? ⟨w.heap.size+1,0,none⟩=some (.string f.name):=by rw[Lib.cell_of_heap B];rfl
 have q1:A.cell? ⟨w.heap.size+1,1,none⟩=some (.slice D f.params.length G):=by rw[Lib.cell_of_heap B];rfl
 have q2:A.cell? ⟨w.heap.size+1,2,none⟩=some (.int .i64 f.result):=by rw[Lib.cell_of_heap B];rfl
 have q3:A.cell? ⟨w.heap.size+1,3,none⟩=some (.int .i64 f.slots):=by rw[Lib.cell_of_heap B];rfl
 have q4:A.cell? ⟨w.heap.size+1,4,none⟩=some (.slice (some ⟨y,0,none⟩) f.ins.length F):=by rw[Lib.cell_of_heap B];rfl
 have dt:(fk:Int) < (c.length:Int):=by omega
 clear d0 d1 d2 d3 d4 al
 obtain⟨i0,c4,di,dj,dk⟩:=Qbo
 obtain⟨i3,c5,dl,dm,dn⟩:=Zy
 have HS:Hid (∀ W,Below A.heap.size A W->W.cell? ⟨w.heap.size,0,none⟩=some (.slice (some ⟨s,0,none⟩) c.length cc)/\W.cell? ⟨w.heap.size+1,0,none⟩=some (.string f.name)/\W.cell? ⟨w.heap.size+1,1,none⟩=some (.slice D f.params.length G)/\W.cell? ⟨w.heap.size+1,2,none⟩=some (.int .i64 f.result)/\W.cell? ⟨w.heap.size+1,3,none⟩=some (.int .i64 f.slots)/\W.cell? ⟨w.heap.size+1,4,none⟩=some (.slice (some ⟨y,0,none⟩) f.ins.length F)):=fun W hW=>by
  have r0:=(hW.block w.heap.size (by omega)).trans am
  have r1:=(hW.block (w.heap.size+1) (by omega)).trans B
  exact⟨by rw[Lib.cell_of_heap r0];rfl,by rw[Lib.cell_of_heap r1];rfl,by rw[Lib.cell_of_heap r1];rfl,by rw[Lib.cell_of_heap r1];rfl,by rw[Lib.cell_of_heap r1];rfl,by rw[Lib.cell_of_heap r1];rfl⟩
 obtain⟨mc,ci⟩:∃ m,madeCells (Value.agg #[.int .i64 0,.string ⟨#[]⟩,.string ⟨#[]⟩]).cells (f.ins.length * 3)=m:=⟨_,rfl⟩
 have dd:∀ W:World,(Instr.makeSlice 184 (.int .i64 (f.ins.length:Int)) (.int .i64 (f.ins.length:Int))).run Tryz.prog W = .ok (.slice (some ⟨W.heap.size,0,none⟩) f.ins.length f.ins.length) (W.alloc (.cells mc 189)):=fun W=>by
  have h:=run_make (P:=Tryz.prog) W 184 189 i3 _ Tryz.underlying184 c5 dl .i64 .i64 f.ins.length f.ins.length (by omega) (Int.le_refl _) (by rw[dn];omega) (by omega)
  simp only[Int.toNat_natCast,dm]at h
  rw[ci]at h
  exact h
 obtain⟨mb,ba⟩:∃ m,madeCells (Value.int .u8 0).cells (f.slots.toNat * 1)=m:=⟨_,rfl⟩
 have dc:∀ W:World,(Instr.makeSlice 167 (.int .i64 f.slots) (.int .i64 f.slots)).run Tryz.prog W = .ok (.slice (some ⟨W.heap.size,0,none⟩) f.slots.toNat f.slots.toNat) (W.alloc (.cells mb 5)):=fun W=>by
  have h:=run_make (P:=Tryz.prog) W 167 5 i0 _ Tryz.underlying167 c4 di .i64 .i64 f.slots f.slots (by omega) (Int.le_refl _) (by rw[dk];omega) (by omega)
  rw[dj,ba]at h
  exact h
 go_enter Tryz.func85,Tryz.ntmps85
 go_wp2_with fail
 first|(go_region_held3 (fun W=>W.cell? ⟨w.heap.size,0,none⟩=some (.slice (some ⟨s,0,none⟩) c.length cc)/\W.cell? ⟨w.heap.size+1,0,none⟩=some (.string f.name)/\W.cell? ⟨w.heap.size+1,1,none⟩=some (.slice D f.params.length G)/\W.cell? ⟨w.heap.size+1,2,none⟩=some (.int .i64 f.result)/\W.cell? ⟨w.heap.size+1,3,none⟩=some (.int .i64 f.slots)/\W.cell? ⟨w.heap.size+1,4,none⟩=some (.slice (some ⟨y,0,none⟩) f.ins.length F)) (exact HS.out _ (by repeat' (first|exact Below.refl _ _|apply Below.drew|refine Below.alloc ?_ ?_ _|refine Below.setCell ?_ ?_ _|exact Nat.le_refl _|(simp;done)|(simp;omega)))) (fail))|fail
 obtain⟨q,Z⟩:∃ V,((A.alloc (.cells mc 189)).alloc (.cells #[.slice (some ⟨s,0,none⟩) c.length cc,.string f.name,.slice D f.params.length G,.int .i64 f.result,.int .i64 f.slots,.slice (some ⟨y,0,none⟩) f.ins.length F,.slice (some ⟨w.heap.size+2,0,none⟩) f.ins.length f.ins.length,.slice none 0 0] 186)).drew=V:=⟨_,rfl⟩
 rw[Z]
 obtain⟨r,b9⟩:∃ b,w.heap.size+2+1=b:=⟨_,rfl⟩
 rw[b9]
 have ah:Below A.heap.size A q:=by rw[<- Z];exact(J7 A _ _).drew
 have bb:q.heap.size=w.heap.size+4:=by
  rw[<- Z]
  show ((A.alloc _).alloc _).heap.size=_
  rw[World.size_alloc,World.size_alloc];omega
 have an:q.heap[w.heap.size+2]? = some (.cells mc 189 (0,0)):=by
  rw[<- Z,<- cm]
  exact Am _ (Ag A _)
 have bc:q.heap[w.heap.size+3]? = some (.cells #[.slice (some ⟨s,0,none⟩) c.length cc,.string f.name,.slice D f.params.length G,.int .i64 f.result,.int .i64 f.slots,.slice (some ⟨y,0,none⟩) f.ins.length F,.slice (some ⟨w.heap.size+2,0,none⟩) f.ins.length f.ins.length,.slice none 0 0] 186 (0,0)):=by
  have e:w.heap.size+3=(A.alloc (.cells mc 189)).heap.size:=by rw[World.size_alloc];omega
  rw[<- Z,e]
  exact Ag _ _
 obtain⟨-,-,s1,-,s3,s4⟩:=HS.out q ah
 clear Z
 go_wp2_with fail
 obtain⟨V1,a0⟩:∃ V,q.alloc (.cells mb 5)=V:=⟨_,rfl⟩
 have bs:Hid (∀ j,j < f.slots.toNat->V1.cell? ⟨w.heap.size+4,j,none⟩=some (.int .u8 0)/\V1.frozen? ⟨w.heap.size+4,j,none⟩=false):=fun j hj=>by
  have h:V1.heap[w.heap.size+4]? = some (.cells mb 5 (0,0)):=by rw[<- a0,<- bb];exact Ag _ _
  refine⟨by rw[Lib.cell_of_heap h,<- ba];exact Z1 _ j hj,by simp[World.frozen?,h]⟩
 have bm:Hid (Below q.heap.size q V1):=by rw[Hid,<- a0];exact A5 q _
 rw[a0]
 have a6:Hid (∀ t ∈ f.params,1<=t/\t<=10):=(hR.fns f cj).2
 have l:Hid (Below w.heap.size w A/\A.heap.size=w.heap.size+2/\Below A.heap.size A q/\q.heap.size=w.heap.size+4):=⟨aa,cm,ah,bb⟩
 have br:Hid (q.heap[w.heap.size+2]? = some (.cells mc 189 (0,0))/\q.heap[r]? = some (.cells #[.slice (some ⟨s,0,none⟩) c.length cc,.string f.name,.slice D f.params.length G,.int .i64 f.result,.int .i64 f.slots,.slice (some ⟨y,0,none⟩) f.ins.length F,.slice (some ⟨w.heap.size+2,0,none⟩) f.ins.length f.ins.length,.slice none 0 0] 186 (0,0))):=⟨an,by rw[<- b9];exact bc⟩
 clear a0 an bc ah R cl a2 ag am B bw bx e0 e1 e2 e3 e4 q0 q1 q2 q3 q4 s1 s3 s4 dd dc
 have dw:0<=f.slots:=by omega
 go_loopw [34] (fun t wr => ∃ i:Nat,i<=f.params.length/\t = .int .i64 (i:Int)/\Below q.heap.size q wr/\Hid (∀ j,j < f.slots.toNat->wr.cell? ⟨w.heap.size+4,j,none⟩=some (.int .u8 (if j < i then f.params.getD j 0 else 0))/\wr.frozen? ⟨w.heap.size+4,j,none⟩=false)) (fun t _=>f.params.length - (intOf t).toNat)
 case atStart=>exact⟨0,by omega,rfl,bm.out,fun j hj=>by rw[if_neg (by omega)];exact bs.out j hj⟩
 case round =>
  obtain⟨i,hi,rfl,O,ao⟩:=hrel
  by_cases hlt:i < f.params.length
  ·have aj:(i:Int) < (f.params.length:Int):=by omega
   have c6:i < f.slots.toNat:=by omega
   have du:(i:Int) < ((f.slots.toNat:Nat):Int):=by omega
   obtain⟨c0,f0⟩:=ao.out i c6
   rw[if_neg (by omega)]at c0
   have S:Below w.heap.size w wr:=l.out.1.trans ((l.out.2.2.1.trans (O.mono l.out.2.2.1.size)).mono l.out.1.size)
   obtain⟨gp,op,ck,d9,bl⟩:∃ gp op,D=some ⟨gp,op,none⟩/\gp < w.heap.size/\wr.cell? ⟨gp,op+i,none⟩=some (.int .i64 f.params[i]):=by
    obtain⟨a',cp,e,h⟩:=HP.out.below S
    injection e with e1
    subst e1
    exact h i hlt
   have dz:Hid (D=some ⟨gp,op,none⟩):=ck
   have de:=a6.out _ (List.getElem_mem hlt)
   obtain⟨z,hz⟩:∃ z,f.params[i]=z:=⟨_,rfl⟩
   rw[hz]at bl de
   have cw:Hid (∀ j,j < f.slots.toNat->(wr.setCell ⟨w.heap.size+4,i,none⟩ (.int .u8 z)).cell? ⟨w.heap.size+4,j,none⟩=some (.int .u8 (if j < i+1 then f.params.getD j 0 else 0))/\(wr.setCell ⟨w.heap.size+4,i,none⟩ (.int .u8 z)).frozen? ⟨w.heap.size+4,j,none⟩=false):=fun j hj=>by
    obtain⟨L,h2⟩:=ao.out j hj
    refine⟨?_,by rw[World.frozen?_setCell];exact h2⟩
    by_cases e:j=i
    ·subst e
     rw[if_pos (by omega),World.cell?_setCell_same (w:=wr) (h:=c0),List.getD_eq_getElem?_getD,List.getElem?_eq_getElem hlt,hz];rfl
    ·rw[World.cell?_setCell_other (w:=wr) (h:=(by intro h;injection h with _ h;exact e h.symm))]
     by_cases e2:j < i
     ·rw[if_pos (by omega)];rw[if_pos e2]at L;exact L
     ·rw[if_neg (by omega)];rw[if_neg e2]at L;exact L
   clear hz
   have eg:IntKind.u8.wrap z=z:=by rw[IntKind.wrap_u8];omega
   subst ck
   go_wp2_with fail
   go_roundw
   case rel=>exact⟨i+1,by omega,by go_num,O.setCell (p:=⟨w.heap.size+4,i,none⟩) (by show q.heap.size<=_;rw[l.out.2.2.2];exact Nat.le_refl _) _,cw.out⟩
   case measure=>simp[intOf];omega
  ·have aj:¬ (i:Int) < (f.params.length:Int):=by omega
   have cf:i=f.params.length:=by omega
   have aq:Hid ((B8 f).length=f.slots.toNat):=E5 f b6
   have aw:Hid (Hh (B8 f)):=R1 a6.out
   have bh:=run_convert_bytes_back (P:=Tryz.prog) wr 167 9 5 ⟨w.heap.size+4,0,none⟩ f.slots.toNat ((B8 f).map (fun z=>UInt8.ofNat z.toNat)) Tryz.underlying167 Tryz.underlying5 Tryz.underlying9 (fun j hj=>by
    have bj:j < (B8 f).length:=by simpa using hj
    have L:=(ao.out j (by rw[<- aq.out];exact bj)).1
    rw[cf,<- Ws,List.getD_eq_getElem?_getD,List.getElem?_eq_getElem bj]at L
    have ed:=aw.out _ (List.getElem_mem bj)
    have e:(((((B8 f).map (fun z=>UInt8.ofNat z.toNat))[j]'hj).toNat:Nat):Int)=(B8 f)[j]:=by
     rw[List.getElem_map,UInt8.toNat_ofNat'];omega
    rw[e]
    by_cases j0:j=0
    ·subst j0;simpa[Addr.add]using L
    ·simpa[Addr.add,j0]using L)
   rw[List.length_map,aq.out]at bh
   obtain⟨ct,ak⟩:∃ x,Cl (B8 f)=x:=⟨_,rfl⟩
   have cb:(convert 167 9 (.slice (some ⟨w.heap.size+4,0,none⟩) f.slots.toNat f.slots.toNat)).run Tryz.prog wr = .ok (.string ct) wr:=by rw[<- ak];exact bh
   have bn:Hid (Below (w.heap.size+2) q wr/\q.heap.size<=wr.heap.size):=⟨O.mono (by rw[l.out.2.2.2];omega),O.size⟩
   have bt:Hid (∀ U,Below wr.heap.size wr U->D1 (w.heap.size+2) r (w.heap.size+2) c f (some ⟨s,0,none⟩) (some ⟨y,0,none⟩) cc F f.ins.length (.slice D f.params.length G) (List.replicate f.ins.length .none) [] none 0 U):=fun U hU=>by
    have hv:=l.out.2.2.2
    have hz:=O.size
    have r0:=(hU.block (w.heap.size+2) (by omega)).trans ((O.block (w.heap.size+2) (by omega)).trans br.out.1)
    have r1:=(hU.block r (by omega)).trans ((O.block r (by omega)).trans br.out.2)
    refine⟨by omega,Nat.le_refl _,by omega,by have:=hU.size;omega,⟨r1⟩, ?_,List.length_replicate,World.ownsRow_nil U _ _ _,by simp[Value.ownBlock],by simp[Value.ownBlock]⟩
    rw[<- ci]at r0
    exact Ci.made r0
   have o:Hid (Calls Tryz.prog 120 #[.pointer (some ⟨r,0,none⟩),.int .i64 0,.agg #[.int .i64 1,.string ct,.string ⟨#[]⟩]] wr (Ln (w.heap.size+2) r (w.heap.size+2) c f (some ⟨s,0,none⟩) (some ⟨y,0,none⟩) cc F f.ins.length (.slice D f.params.length G) (List.replicate f.ins.length .none) [] 0 (Bd .none (.known (B8 f) [])) (Bd .none (.known (B8 f) []) ≠ .none) none wr)):=by
    have h:=Qz (Ce c f).m (by show (B8 f).length<=200;rw[aq.out];omega) _ _ _ c f hR.il _ _ _ _ _ _ _ _ _ _ wr (bt.out wr (Below.refl _ _)) 0 (by omega) .none (.known (B8 f) []) (by rw[List.getElem_replicate]) (by simp) trivial rfl trivial ⟨aw.out,fun t ht=>by simp at ht⟩ (fun i j L=>by simp at L) (by simp)
    rw[Gn]at h
    rw[<- ak]
    exact h
   clear bh ao O
   go_wp2_with (first|(go_at_call 120;refine o.out.mono ?_;rintro e w1 ⟨W1,dp,dr,rfl,M,af,a9,-,ch,-⟩))
   have cz:Hid (Qdc (w.heap.size+2) r (w.heap.size+2) c f (some ⟨s,0,none⟩) (some ⟨y,0,none⟩) cc F f.ins.length (.slice D f.params.length G) q w1):=by
    refine⟨_,W1,dp,dr,M, ?_,a9,fun u => ?_,bn.out.1.trans af⟩
    ·exact Oq.start (Ce c f) (by simp[Ce]) (by show 0 < f.ins.length;omega) (fun v=>by rw[ch v];simp[Bd])
    ·refine Q1 (fun u=>by rw[N4];trivial) ?_ (by rw[List.length_replicate];omega) u
     exact⟨aw.out,fun t ht=>by simp at ht,by simp⟩
   clear M af a9 ch o bt aq aw bn bs bm cb ak cf
   go_loopw [] (fun wr2=>Qdc (w.heap.size+2) r (w.heap.size+2) c f (some ⟨s,0,none⟩) (some ⟨y,0,none⟩) cc F f.ins.length (.slice D f.params.length G) q wr2) (fun wr2=>Tm (Ce c f) r (w.heap.size+2) wr2)
   case atStart=>exact cz.out
   case round =>
    obtain⟨X,W,wa,wc,hS,hK,hD,hF,hB⟩:=hrel
    have S:Below w.heap.size w wr:=l.out.1.trans ((l.out.2.2.1.trans (by rw[l.out.2.1];exact hB)).mono l.out.1.size)
    rcases List.eq_nil_or_concat W with a1|⟨J,z,a1⟩
    ·subst a1
     have c7:=hS.tr.cells.2.2.2.2.2.2.2
     simp only[List.length_nil]at c7
     have bd:Hid (Dr c f w (.returned (.pointer (some ⟨r,0,none⟩))) wr):=⟨_,_,_,_,_,_,_,_,_,X,[],wa,wc,rfl,hS,Ba.mono (HI.out.below S) (by omega),Ak.mono (HC.out.below S) (by omega),hK.fix,hF,S⟩
     clear hS hK hD hF hB S
     go_wp2_with fail
     go_ret
     exact bd.out
    ·rw[List.concat_eq_append]at a1
     subst a1
     obtain⟨i,rfl,C,-⟩:=hK.work z (by simp)
     replace C:i < f.ins.length:=C
     obtain⟨-,cs,b8⟩:=hK.pop
     have cv:Hid (Tm (Ce c f) r (w.heap.size+2) wr=Jv (Ce c f) X J+1):=by
      rw[Hid,V9 hS.lays hF hS.tr.cells.2.2.2.2.2.2.2]
      unfold Jv
      simp[Nat.add_assoc]
     obtain⟨kw,c9,ee,be,c7,f7⟩:=hS.last
     subst c9
     have M:=hS.pop
     have ef:J.length+1<=50000:=by
      have h:=S6 (n:=f.ins.length) hD (fun v hv=>by obtain⟨u,e,hu,-⟩:=hK.work v hv;exact⟨u,e,hu⟩)
      have:=hR.il
      simp at h
      omega
     have bz:=Yv hD
     obtain⟨H,ay⟩:∃ U,wr.setCell ⟨r,7,none⟩ (.slice (some ⟨kw,0,none⟩) J.length wc)=U:=⟨_,rfl⟩
     rw[ay]at M
     have af:Below (w.heap.size+2) q H:=by rw[<- ay];exact hB.setCell (p:=⟨r,7,none⟩) (by show w.heap.size+2<=r;omega) _
     have ax:Hid (∀ U,Below H.heap.size H U->Below (w.heap.size+2) q U/\Below w.heap.size w U):=fun U hU=>by
      have L:=af.trans (hU.mono M.size)
      exact⟨L,l.out.1.trans ((l.out.2.2.1.trans (by rw[l.out.2.1];exact L)).mono l.out.1.size)⟩
     obtain⟨K,HK⟩:∃ K,Hid (Cm c f i (Ao X i)=K):=⟨_,(rfl:Cm c f i (Ao X i)=_)⟩
     have a5:Hid (∀ u,Dl f.slots.toNat (Ao X u)):=fun u=>by
      have h:=hK.low.lens u
      rw[<- E5 f b6]
      exact h
     have ad:Hid (∀ U,Below H.heap.size H U->Calls Tryz.prog 121 #[.pointer (some ⟨r,0,none⟩),.int .i64 (i:Int)] U fun e w'=>e = .returned (.agg #[.int .i64 (Eb K),.string (E7 K),.string (E6 K)])/\Below U.heap.size U w'):=fun U hU=>by
      obtain⟨-,Q⟩:=ax.out U hU
      have cg:i < X.length:=by rw[hS.len];exact C
      have h:=Ra c f hR i C X hS.len (Ao X i) (Hr cg).symm cs (hF i) (a5.out i) _ _ _ _ _ _ _ _ _ U ((M.below hU).leftIn (Ba.mono (HI.out.below Q) (by omega)) (Ak.mono (HC.out.below Q) (by omega)) (hT.below Q) (hW.below Q) i)
      rw[HK.out,Gn]at h
      exact h
     obtain⟨a,I⟩:∃ x,Hid (f.ins[i]=x):=⟨_,(rfl:f.ins[i]=_)⟩
     have a3:=hR.ok i C
     rw[I.out]at a3
     have hA:=Ka a3
     have hO:=Ht a3
     have bp:Hid (∀ U,Below H.heap.size H U->Calls Tryz.prog 122 #[.agg #[.int .i64 a.op,.int .i64 a.a,.int .i64 a.n,.string a.text],.int .i64 (i:Int)] U fun e w' => ∃ v,e = .returned v/\Ab w'.heap.size w' v (Co (A8 a i))/\Below U.heap.size U w'/\∀ k,v.ownBlock=some k->U.heap.size<=k):=fun U hU=>by
      obtain⟨-,Q⟩:=ax.out U hU
      exact Uy a i (by omega) (by omega) (by have:=hR.il;omega) (fun h=>(hA.2.2.2.2.2.2.2.1 h).1) U (hT.below Q)
     have bo:Hid (∀ U,Below H.heap.size H U->U.cell? ⟨w.heap.size+1,4,none⟩=some (.slice (some ⟨y,0,none⟩) f.ins.length F)/\U.cell? ⟨y,i * 4,none⟩=some (.int .i64 a.op)/\U.cell? ⟨y,i * 4+1,none⟩=some (.int .i64 a.a)/\U.cell? ⟨y,i * 4+2,none⟩=some (.int .i64 a.n)/\U.cell? ⟨y,i * 4+3,none⟩=some (.string a.text)):=fun U hU=>by
      obtain⟨df,Q⟩:=ax.out U hU
      obtain⟨-,-,-,-,-,s4⟩:=HS.out U (l.out.2.2.1.trans (by rw[l.out.2.1];exact df))
      obtain⟨g2,e2,-,i0,i1,i2,i3⟩:=(HI.out.below Q).cells i C
      injection e2 with e2
      injection e2 with e2
      subst e2
      rw[I.out]at i0 i1 i2 i3
      exact⟨s4,i0,i1,i2,i3⟩
     have ae:Hid (D1 (w.heap.size+2) r (w.heap.size+2) c f (some ⟨s,0,none⟩) (some ⟨y,0,none⟩) cc F f.ins.length (.slice D f.params.length G) X J (some ⟨kw,0,none⟩) wc H):=M
     have bv:Hid (L7 (Ce c f) X J i K (A8 a i) 0):=by
      have h:L7 (Ce c f) X J i (Cm c f i (Ao X i)) (A8 (f.ins.getD i H6) i) 0:=b8
      rw[HK.out,List.getD_eq_getElem?_getD,List.getElem?_eq_getElem C]at h
      rw[<- I.out]
      exact h
     have ap:Hid ((∀ u,Dn (Ao X u))/\Ej J):=⟨hF,bz⟩
     have dv:(i:Int) < (f.ins.length:Int):=by omega
     have dy:(J.length:Int)+1<=(wc:Int):=by omega
     have dx:wrap64 ((J.length:Int)+1 - 1)=(J.length:Int):=(IntWalk.wrap64_in _ (by omega)).trans (by omega)
     have b7:wr.setCell ⟨r,7,none⟩ (.slice (some ⟨kw,0,none⟩) J.length wc)=H:=ay
     clear hS hK hD hF hB S b8 M af hA hO a3 cs ay bz
     go_wp2_with (first
      | (go_at_call 121;refine(ad.out H (Below.refl _ _)).mono ?_;rintro e w2 ⟨rfl,aa⟩;obtain⟨U2,az⟩:∃ U,w2.alloc (.cells #[.int .i64 (Eb K),.string (E7 K),.string (E6 K)] 189)=U:=⟨_,rfl⟩;have E:Below H.heap.size H U2:=(by rw[<- az];exact aa.alloc aa.size _);obtain⟨s4,i0,i1,i2,i3⟩:=bo.out U2 E;have au:Hid (U2.heap[w2.heap.size]? = some (.cells #[.int .i64 (Eb K),.string (E7 K),.string (E6 K)] 189 (0,0))/\H.heap.size<=w2.heap.size/\w2.heap.size < U2.heap.size):=⟨by rw[<- az];exact Ag _ _,aa.size,by rw[<- az,World.size_alloc];omega⟩)
      | (go_at_call 122;refine(bp.out U2 E).mono ?_;rintro e w3 ⟨v,rfl,c8,bf,co⟩;obtain⟨va,vc,dh,cn⟩:=c8;subst dh;have bq:Hid (Ab w3.heap.size w3 (.slice va (Co (A8 a i)).length vc) (Co (A8 a i))):=⟨va,vc,rfl,cn⟩;clear cn))
     have ar:Hid (K ≠ .none/\Dn K):=by
      rw[Hid,<- HK.out]
      exact⟨Wn _ _ _ _,Sv hR C (ap.out.1 i) (a5.out i)⟩
     have cu:Hid (∀ z ∈ A8 a i,z<=f.ins.length):=by
      rw[Hid,<- I.out]
      exact Qa3 hR C
     have av:Hid ((Co (A8 a i)).length=(A8 a i).length):=by rw[Hid];simp[Co]
     have bu:Hid (Oo (w.heap.size+2) r (w.heap.size+2) c f (some ⟨s,0,none⟩) (some ⟨y,0,none⟩) cc F f.ins.length (.slice D f.params.length G) q i K (A8 a i) (.slice va (Co (A8 a i)).length vc) w2.heap.size (Jv (Ce c f) X J+1) 0 X J (some ⟨kw,0,none⟩) wc w3):=by
      have a8:=E.trans (bf.mono E.size)
      have d8:=E.size
      have d7:r < H.heap.size:=ae.out.tr.lt
      have eb:w.heap.size+2 < H.heap.size:=ae.out.lays.lt
      have ec:kw < H.heap.size:=K9 ae.out.row rfl
      refine⟨ae.out.below a8,bv.out,ap.out.2,ap.out.1,(ax.out w3 a8).1,Nat.le_refl _,bq.out,fun j hj => ?_,(bf.block w2.heap.size au.out.2.2).trans au.out.1, ?_⟩
      ·have h:=co j hj
       refine⟨by omega,by omega,fun e => ?_⟩
       have:kw=j:=by simpa[Value.ownBlock]using e
       omega
      ·have h:=au.out.2.1
       refine⟨by omega,by omega,fun e => ?_⟩
       have:kw=w2.heap.size:=by simpa[Value.ownBlock]using e
       omega
     clear bq co bf E bv ae ap bo bp ad az b7 s4 i0 i1 i2 i3 aa be c7 f7 au
     obtain⟨N,b0⟩:∃ n,(Co (A8 a i)).length=n:=⟨_,rfl⟩
     rw[b0]at bu av |-
     have d6:N<=2:=by
      rw[av.out]
      unfold A8
      repeat' split
      all_goals simp
     go_loopw [89] (fun t wr3 => ∃ (k:Nat) (X':List Ap) (W':List Int) (ab:Option Addr) (ac:Nat),k<=N/\t = .int .i64 (k:Int)/\Oo (w.heap.size+2) r (w.heap.size+2) c f (some ⟨s,0,none⟩) (some ⟨y,0,none⟩) cc F f.ins.length (.slice D f.params.length G) q i K (A8 a i) (.slice va N vc) w2.heap.size (Jv (Ce c f) X J+1) k X' W' ab ac wr3) (fun t _=>N - (intOf t).toNat)
     case atStart=>exact⟨0,X,J,some ⟨kw,0,none⟩,wc,by omega,rfl,bu.out⟩
     case round =>
      obtain⟨k,X',W',ab,ac,hk,rfl,d⟩:=hrel
      by_cases hlt:k < N
      ·have aj:(k:Int) < (N:Int):=by omega
       have bk:k < (A8 a i).length:=by rw[<- av.out];exact hlt
       obtain⟨gv,ov,dg,bi⟩:∃ gv ov,va=some ⟨gv,ov,none⟩/\wr.cell? ⟨gv,ov+k,none⟩=some (.int .i64 ((A8 a i)[k]:Int)):=by
        obtain⟨a',cp,e,h⟩:=d.ints
        injection e with e1
        subst e1
        obtain⟨g',o',L,-,h2⟩:=h k (by rw[b0];exact hlt)
        refine⟨g',o',L,h2.trans ?_⟩
        simp[Co]
       subst dg
       obtain⟨to,T⟩:∃ to,Hid ((A8 a i)[k]=to):=⟨_,(rfl:(A8 a i)[k]=_)⟩
       rw[T.out]at bi
       have l0:wr.cell? ⟨w2.heap.size,0,none⟩=some (.int .i64 (Eb K)):=by rw[Lib.cell_of_heap d.left];rfl
       have l1:wr.cell? ⟨w2.heap.size,1,none⟩=some (.string (E7 K)):=by rw[Lib.cell_of_heap d.left];rfl
       have l2:wr.cell? ⟨w2.heap.size,2,none⟩=some (.string (E6 K)):=by rw[Lib.cell_of_heap d.left];rfl
       have a7:Hid (Oo (w.heap.size+2) r (w.heap.size+2) c f (some ⟨s,0,none⟩) (some ⟨y,0,none⟩) cc F f.ins.length (.slice D f.params.length G) q i K (A8 a i) (.slice (some ⟨gv,ov,none⟩) N vc) w2.heap.size (Jv (Ce c f) X J+1) k X' W' ab ac wr):=d
       by_cases hto:to < f.ins.length
       ·have o:Hid (Calls Tryz.prog 120 #[.pointer (some ⟨r,0,none⟩),.int .i64 (to:Int),.agg #[.int .i64 (Eb K),.string (E7 K),.string (E6 K)]] wr (Ln (w.heap.size+2) r (w.heap.size+2) c f (some ⟨s,0,none⟩) (some ⟨y,0,none⟩) cc F f.ins.length (.slice D f.params.length G) X' W' to (Bd (Ao X' to) K) (Bd (Ao X' to) K≠Ao X' to) (Value.slice ab W'.length ac).ownBlock wr)):=by
         have hx:to < X'.length:=by rw[d.st.len];exact hto
         have cq:W'.length<=50000:=by
          have h:=S6 (n:=f.ins.length) d.dn (fun v hv=>by obtain⟨u,e,hu,-⟩:=d.wm.work v hv;exact⟨u,e,hu⟩)
          have:=hR.il
          omega
         have h:=Qz (Ce c f).m (by show (B8 f).length<=200;rw[E5 f b6];omega) _ _ _ c f hR.il _ _ _ _ _ _ _ _ _ _ wr d.st to hto (Ao X' to) K (Hr hx).symm ar.out.1 (d.wm.low.lens to) d.wm.blen (Io (d.fine to)) (Io ar.out.2) d.dn cq
         rw[Gn]at h
         exact h
        have cy:Hid ((A8 a i)[k] < f.ins.length):=by rw[Hid,T.out];exact hto
        clear d hto
        go_wp2_with (first|(go_at_call 120;refine o.out.mono ?_;rintro e w4 ⟨W4,dq,ds,rfl,c2,c1,cd,da,db,ce⟩))
        go_roundw
        case rel =>
         refine⟨k+1,_,W4,dq,ds,by omega,by go_num,a7.out.step bk cy.out ar.out.1 ar.out.2 ?_ c1 cd da ?_ ce⟩
         ·rw[T.out];exact c2
         ·rw[T.out];exact db
        case measure=>simp[intOf];omega
       ·have o:Hid (Calls Tryz.prog 120 #[.pointer (some ⟨r,0,none⟩),.int .i64 (to:Int),.agg #[.int .i64 (Eb K),.string (E7 K),.string (E6 K)]] wr fun e w'=>e = .returned (.tuple #[])/\Below wr.heap.size wr w'):=by
         have ea:=cu.out to (by rw[<- T.out];exact List.getElem_mem bk)
         have h:=Wp _ _ _ c f hR.il _ _ _ _ _ _ _ _ _ _ wr d.st to (by omega) K
         rw[Gn]at h
         exact h.mono (fun e w' h=>⟨h.1,h.2.2⟩)
        have cx:Hid (¬ (A8 a i)[k] < f.ins.length):=by rw[Hid,T.out];exact hto
        clear d hto
        go_wp2_with (first|(go_at_call 120;refine o.out.mono ?_;rintro e w4 ⟨rfl,c3⟩))
        go_roundw
        case rel=>exact⟨k+1,X',W',ab,ac,by omega,by go_num,a7.out.skip bk cx.out c3⟩
        case measure=>simp[intOf];omega
      ·have aj:¬ (k:Int) < (N:Int):=by omega
       have a4:Hid (Qdc (w.heap.size+2) r (w.heap.size+2) c f (some ⟨s,0,none⟩) (some ⟨y,0,none⟩) cc F f.ins.length (.slice D f.params.length G) q wr/\Tm (Ce c f) r (w.heap.size+2) wr < Jv (Ce c f) X J+1):=by
        have eG:(Ce c f).goes i=A8 a i:=by
         show A8 (f.ins.getD i H6) i=_
         rw[List.getD_eq_getElem?_getD,List.getElem?_eq_getElem C,<- I.out];rfl
        have cr:=d.wm
        rw[<- eG]at cr
        refine⟨⟨X',W',ab,ac,d.st,cr.done (by rw[eG,<- av.out];omega),d.dn,d.fine,d.since⟩, ?_⟩
        rw[V9 d.st.lays d.fine d.st.tr.cells.2.2.2.2.2.2.2]
        have:=d.ms
        omega
       clear d
       go_wp2_with fail
       go_roundw
       case rel=>exact a4.out.1
       case measure=>rw[cv.out];exact a4.out.2
end Go.Proofs.YtfjkahdghhbpnaaGreatDoor
