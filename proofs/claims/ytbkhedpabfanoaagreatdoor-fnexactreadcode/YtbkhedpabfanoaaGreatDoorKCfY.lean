import Derived.Test.YtbkhedpabfanoaaGreatDoorKCfX
namespace Go.Proofs.YtbkhedpabfanoaaGreatDoor
open Go.RowKit

def Cd.TracedPost (c:List Cd.Fn) (f:Cd.Fn) (w:World) (e:Ending) (w':World):Prop :=
  ∃ (B g gl:Nat) (ca ia:Option Addr) (cc ic lc:Nat) (pv:Value) (X:List Cd.Sh) (W:List Int) (wa:Option Addr) (wc:Nat),e = .returned (.pointer (some ⟨g,0,none⟩))∧Cd.TrSt B g gl c f ca ia cc ic lc pv X W wa wc w'∧Cd.InsAt B w' (.slice ia f.ins.length ic) f.ins∧Cd.CodeAt B w' (.slice ca c.length cc) c∧Cd.Least c f X∧(∀ u,Cd.fine (Cd.at' X u))∧Below w.heap.size w w'
set_option maxRecDepth 100000 in
set_option maxHeartbeats 4000000 in
theorem Cd.traced_any (c:List Cd.Fn) (fk:Nat) (hfk:fk < c.length) (f:Cd.Fn) (hf:c[fk]=f) (ca:Option Addr) (cc:Nat) (hfn:Cd.fnOk c fk f=true) (hR:Cd.Right c f) (w:World) (hC:Cd.CodeAt w.heap.size w (.slice ca c.length cc) c) (hT:Cd.InsTab w) (hW:Cd.WordTab w) :
    Calls Tryz.prog 73 #[.agg #[.slice ca c.length cc],.int .i64 (fk:Int)] w (Cd.TracedPost c f w):=by
  obtain ⟨b1,b2,b3,b4,b5,b6,-,-,-⟩:=Cd.fnOk_bd hfn
  have hmem:f ∈ c:=by rw [← hf];exact List.getElem_mem hfk
  obtain ⟨gc,cap,pa,pc,ia,ic,ev,hgc,d0,d1,d2,d3,d4,hP,hI⟩:=hC.fn fk hfk
  injection ev with ev1 ev2 ev3
  subst ev1 ev3
  rw [hf] at d0 d1 d2 d3 d4 hP hI
  obtain ⟨gi,rfl⟩:∃ gi,ia=some ⟨gi,0,none⟩:=by
    obtain ⟨a',cp,e,h⟩:=hI
    injection e with e1
    subst e1
    obtain ⟨g,h1,_⟩:=h 0 (by omega)
    exact ⟨g,h1⟩
  have HC:Hid (Cd.CodeAt w.heap.size w (.slice (some ⟨gc,0,none⟩) c.length cc) c):=hC
  have HP:Hid (Cd.IntsAt w.heap.size w (.slice pa f.params.length pc) f.params):=hP
  have HI:Hid (Cd.InsAt w.heap.size w (.slice (some ⟨gi,0,none⟩) f.ins.length ic) f.ins):=hI
  clear hC hP hI hf ev2
  obtain ⟨Y1,hY1⟩:∃ Y,w.alloc (.cells #[.slice (some ⟨gc,0,none⟩) c.length cc] 24)=Y:=⟨_,rfl⟩
  have hb1:Below w.heap.size w Y1:=by rw [← hY1];exact Cd.b1 w _
  have hs1:Y1.heap.size=w.heap.size+1:=by rw [← hY1];exact World.size_alloc _ _
  have p1_0:Y1.heap[w.heap.size]? = some (.cells #[.slice (some ⟨gc,0,none⟩) c.length cc] 24):=by rw [← hY1];exact Cd.new_at w _
  have c0_0:Y1.cell? ⟨w.heap.size,0,none⟩=some (.slice (some ⟨gc,0,none⟩) c.length cc):=by rw [Lib.cell_of_heap p1_0];rfl
  have e0:=(hb1.cell (p:=⟨gc,fk * 5,none⟩) hgc).trans d0
  have e1:=(hb1.cell (p:=⟨gc,fk * 5+1,none⟩) hgc).trans d1
  have e2:=(hb1.cell (p:=⟨gc,fk * 5+2,none⟩) hgc).trans d2
  have e3:=(hb1.cell (p:=⟨gc,fk * 5+3,none⟩) hgc).trans d3
  have e4:=(hb1.cell (p:=⟨gc,fk * 5+4,none⟩) hgc).trans d4
  obtain ⟨Y2,hY2⟩:∃ Y,Y1.alloc (.cells #[.string f.name,.slice pa f.params.length pc,.int .i64 f.result,.int .i64 f.slots,.slice (some ⟨gi,0,none⟩) f.ins.length ic] 37)=Y:=⟨_,rfl⟩
  have hb2:Below w.heap.size w Y2:=by rw [← hY2];exact Cd.Below.new hb1 _
  have hs2:Y2.heap.size=w.heap.size+2:=by rw [← hY2,World.size_alloc];omega
  have p2_0:Y2.heap[w.heap.size]? = some (.cells #[.slice (some ⟨gc,0,none⟩) c.length cc] 24):=by rw [← hY2];exact Cd.keepH _ p1_0
  have p2_1:Y2.heap[w.heap.size+1]? = some (.cells #[.string f.name,.slice pa f.params.length pc,.int .i64 f.result,.int .i64 f.slots,.slice (some ⟨gi,0,none⟩) f.ins.length ic] 37):=by rw [← hY2,← hs1];exact Cd.new_at _ _
  have c1_0:Y2.cell? ⟨w.heap.size,0,none⟩=some (.slice (some ⟨gc,0,none⟩) c.length cc):=by rw [Lib.cell_of_heap p2_0];rfl
  have q0:Y2.cell? ⟨w.heap.size+1,0,none⟩=some (.string f.name):=by rw [Lib.cell_of_heap p2_1];rfl
  have q1:Y2.cell? ⟨w.heap.size+1,1,none⟩=some (.slice pa f.params.length pc):=by rw [Lib.cell_of_heap p2_1];rfl
  have q2:Y2.cell? ⟨w.heap.size+1,2,none⟩=some (.int .i64 f.result):=by rw [Lib.cell_of_heap p2_1];rfl
  have q3:Y2.cell? ⟨w.heap.size+1,3,none⟩=some (.int .i64 f.slots):=by rw [Lib.cell_of_heap p2_1];rfl
  have q4:Y2.cell? ⟨w.heap.size+1,4,none⟩=some (.slice (some ⟨gi,0,none⟩) f.ins.length ic):=by rw [Lib.cell_of_heap p2_1];rfl
  have hfkI:(fk:Int) < (c.length:Int):=by omega
  clear d0 d1 d2 d3 d4 p1_0
  obtain ⟨i0,hi0,hz0,hz1,hz2⟩:=Cd.u8_info
  obtain ⟨i3,hi3,hz3,hz4,hz5⟩:=Cd.lay_info
  have HS:Hid (∀ W,Below Y2.heap.size Y2 W→W.cell? ⟨w.heap.size,0,none⟩=some (.slice (some ⟨gc,0,none⟩) c.length cc)∧W.cell? ⟨w.heap.size+1,0,none⟩=some (.string f.name)∧W.cell? ⟨w.heap.size+1,1,none⟩=some (.slice pa f.params.length pc)∧W.cell? ⟨w.heap.size+1,2,none⟩=some (.int .i64 f.result)∧W.cell? ⟨w.heap.size+1,3,none⟩=some (.int .i64 f.slots)∧W.cell? ⟨w.heap.size+1,4,none⟩=some (.slice (some ⟨gi,0,none⟩) f.ins.length ic)):=fun W hW=>by
    have r0:=(hW.block w.heap.size (by omega)).trans p2_0
    have r1:=(hW.block (w.heap.size+1) (by omega)).trans p2_1
    exact ⟨by rw [Lib.cell_of_heap r0];rfl,by rw [Lib.cell_of_heap r1];rfl,by rw [Lib.cell_of_heap r1];rfl,by rw [Lib.cell_of_heap r1];rfl,by rw [Lib.cell_of_heap r1];rfl,by rw [Lib.cell_of_heap r1];rfl⟩
  obtain ⟨mc,hmc⟩:∃ m,madeCells (Value.agg #[.int .i64 0,.string ⟨#[]⟩,.string ⟨#[]⟩]).cells (f.ins.length * 3)=m:=⟨_,rfl⟩
  have hmk:∀ W:World,(Instr.makeSlice 163 (.int .i64 (f.ins.length:Int)) (.int .i64 (f.ins.length:Int))).run Tryz.prog W = .ok (.slice (some ⟨W.heap.size,0,none⟩) f.ins.length f.ins.length) (W.alloc (.cells mc 168)):=fun W=>by
    have h:=run_make (P:=Tryz.prog) W 163 168 i3 _ Tryz.underlying163 hi3 hz3 .i64 .i64 f.ins.length f.ins.length (by omega) (Int.le_refl _) (by rw [hz5];omega) (by omega)
    simp only [Int.toNat_natCast,hz4] at h
    rw [hmc] at h
    exact h
  obtain ⟨mb,hmb0⟩:∃ m,madeCells (Value.int .u8 0).cells (f.slots.toNat * 1)=m:=⟨_,rfl⟩
  have hmb:∀ W:World,(Instr.makeSlice 57 (.int .i64 f.slots) (.int .i64 f.slots)).run Tryz.prog W = .ok (.slice (some ⟨W.heap.size,0,none⟩) f.slots.toNat f.slots.toNat) (W.alloc (.cells mb 5)):=fun W=>by
    have h:=run_make (P:=Tryz.prog) W 57 5 i0 _ Tryz.underlying57 hi0 hz0 .i64 .i64 f.slots f.slots (by omega) (Int.le_refl _) (by rw [hz2];omega) (by omega)
    rw [hz1,hmb0] at h
    exact h
  go_enter Tryz.func73,Tryz.ntmps73
  go_wp2_with fail
  first | (go_region_held3 (fun W=>W.cell? ⟨w.heap.size,0,none⟩=some (.slice (some ⟨gc,0,none⟩) c.length cc)∧W.cell? ⟨w.heap.size+1,0,none⟩=some (.string f.name)∧W.cell? ⟨w.heap.size+1,1,none⟩=some (.slice pa f.params.length pc)∧W.cell? ⟨w.heap.size+1,2,none⟩=some (.int .i64 f.result)∧W.cell? ⟨w.heap.size+1,3,none⟩=some (.int .i64 f.slots)∧W.cell? ⟨w.heap.size+1,4,none⟩=some (.slice (some ⟨gi,0,none⟩) f.ins.length ic)) (exact HS.out _ (by repeat' (first | exact Below.refl _ _ | apply Below.drew | refine Below.alloc ?_ ?_ _ | refine Below.setCell ?_ ?_ _ | exact Nat.le_refl _ | (simp;done) | (simp;omega)))) (fail)) | fail
  obtain ⟨V0,hV0⟩:∃ V,((Y2.alloc (.cells mc 168)).alloc (.cells #[.slice (some ⟨gc,0,none⟩) c.length cc,.string f.name,.slice pa f.params.length pc,.int .i64 f.result,.int .i64 f.slots,.slice (some ⟨gi,0,none⟩) f.ins.length ic,.slice (some ⟨w.heap.size+2,0,none⟩) f.ins.length f.ins.length,.slice none 0 0] 165)).drew=V:=⟨_,rfl⟩
  rw [hV0]
  obtain ⟨bg,hbg⟩:∃ b,w.heap.size+2+1=b:=⟨_,rfl⟩
  rw [hbg]
  have hbV0:Below Y2.heap.size Y2 V0:=by rw [← hV0];exact (Cd.b2 Y2 _ _).drew
  have hsV0:V0.heap.size=w.heap.size+4:=by
    rw [← hV0]
    show ((Y2.alloc _).alloc _).heap.size=_
    rw [World.size_alloc,World.size_alloc];omega
  have v_lay:V0.heap[w.heap.size+2]? = some (.cells mc 168 (0,0)):=by
    rw [← hV0,← hs2]
    exact Cd.keepH _ (Cd.new_at Y2 _)
  have v_tr:V0.heap[w.heap.size+3]? = some (.cells #[.slice (some ⟨gc,0,none⟩) c.length cc,.string f.name,.slice pa f.params.length pc,.int .i64 f.result,.int .i64 f.slots,.slice (some ⟨gi,0,none⟩) f.ins.length ic,.slice (some ⟨w.heap.size+2,0,none⟩) f.ins.length f.ins.length,.slice none 0 0] 165 (0,0)):=by
    have e:w.heap.size+3=(Y2.alloc (.cells mc 168)).heap.size:=by rw [World.size_alloc];omega
    rw [← hV0,e]
    exact Cd.new_at _ _
  obtain ⟨-,-,s1,-,s3,s4⟩:=HS.out V0 hbV0
  clear hV0
  go_wp2_with fail
  obtain ⟨V1,hV1⟩:∃ V,V0.alloc (.cells mb 5)=V:=⟨_,rfl⟩
  have HMB:Hid (∀ j,j < f.slots.toNat→V1.cell? ⟨w.heap.size+4,j,none⟩=some (.int .u8 0)∧V1.frozen? ⟨w.heap.size+4,j,none⟩=false):=fun j hj=>by
    have h:V1.heap[w.heap.size+4]? = some (.cells mb 5 (0,0)):=by rw [← hV1,← hsV0];exact Cd.new_at _ _
    refine ⟨by rw [Lib.cell_of_heap h,← hmb0];exact Cd.madeB_at _ j hj,by simp [World.frozen?,h]⟩
  have HB1:Hid (Below V0.heap.size V0 V1):=by rw [Hid,← hV1];exact Cd.b1 V0 _
  rw [hV1]
  have HPAR:Hid (∀ t ∈ f.params,1≤t∧t≤10):=(hR.fns f hmem).2
  have HYY:Hid (Below w.heap.size w Y2∧Y2.heap.size=w.heap.size+2∧Below Y2.heap.size Y2 V0∧V0.heap.size=w.heap.size+4):=⟨hb2,hs2,hbV0,hsV0⟩
  have HLT:Hid (V0.heap[w.heap.size+2]? = some (.cells mc 168 (0,0))∧V0.heap[bg]? = some (.cells #[.slice (some ⟨gc,0,none⟩) c.length cc,.string f.name,.slice pa f.params.length pc,.int .i64 f.result,.int .i64 f.slots,.slice (some ⟨gi,0,none⟩) f.ins.length ic,.slice (some ⟨w.heap.size+2,0,none⟩) f.ins.length f.ins.length,.slice none 0 0] 165 (0,0))):=⟨v_lay,by rw [← hbg];exact v_tr⟩
  clear hV1 v_lay v_tr hbV0 hb1 hs1 hY1 hY2 p2_0 p2_1 c0_0 c1_0 e0 e1 e2 e3 e4 q0 q1 q2 q3 q4 s1 s3 s4 hmk hmb
  have hsl0:0≤f.slots:=by omega
  go_loopw [34] (fun t wr => ∃ i:Nat,i≤f.params.length∧t = .int .i64 (i:Int)∧Below V0.heap.size V0 wr∧Hid (∀ j,j < f.slots.toNat→wr.cell? ⟨w.heap.size+4,j,none⟩=some (.int .u8 (if j < i then f.params.getD j 0 else 0))∧wr.frozen? ⟨w.heap.size+4,j,none⟩=false)) (fun t _=>f.params.length - (intOf t).toNat)
  case atStart=>exact ⟨0,by omega,rfl,HB1.out,fun j hj=>by rw [if_neg (by omega)];exact HMB.out j hj⟩
  case round =>
    obtain ⟨i,hi,rfl,hbr,HCS⟩:=hrel
    by_cases hlt:i < f.params.length
    · have hltI:(i:Int) < (f.params.length:Int):=by omega
      have hib:i < f.slots.toNat:=by omega
      have hibI:(i:Int) < ((f.slots.toNat:Nat):Int):=by omega
      obtain ⟨c0,f0⟩:=HCS.out i hib
      rw [if_neg (by omega)] at c0
      have hbw:Below w.heap.size w wr:=HYY.out.1.trans ((HYY.out.2.2.1.trans (hbr.mono HYY.out.2.2.1.size)).mono HYY.out.1.size)
      obtain ⟨gp,op,hpa,hgp,pcell⟩:∃ gp op,pa=some ⟨gp,op,none⟩∧gp < w.heap.size∧wr.cell? ⟨gp,op+i,none⟩=some (.int .i64 f.params[i]):=by
        obtain ⟨a',cp,e,h⟩:=HP.out.below hbw
        injection e with e1
        subst e1
        exact h i hlt
      have HPA:Hid (pa=some ⟨gp,op,none⟩):=hpa
      have hpm:=HPAR.out _ (List.getElem_mem hlt)
      obtain ⟨z,hz⟩:∃ z,f.params[i]=z:=⟨_,rfl⟩
      rw [hz] at pcell hpm
      have HNX:Hid (∀ j,j < f.slots.toNat→(wr.setCell ⟨w.heap.size+4,i,none⟩ (.int .u8 z)).cell? ⟨w.heap.size+4,j,none⟩=some (.int .u8 (if j < i+1 then f.params.getD j 0 else 0))∧(wr.setCell ⟨w.heap.size+4,i,none⟩ (.int .u8 z)).frozen? ⟨w.heap.size+4,j,none⟩=false):=fun j hj=>by
        obtain ⟨h1,h2⟩:=HCS.out j hj
        refine ⟨?_,by rw [World.frozen?_setCell];exact h2⟩
        by_cases e:j=i
        · subst e
          rw [if_pos (by omega),World.cell?_setCell_same (w:=wr) (h:=c0),List.getD_eq_getElem?_getD,List.getElem?_eq_getElem hlt,hz];rfl
        · rw [World.cell?_setCell_other (w:=wr) (h:=(by intro h;injection h with _ h;exact e h.symm))]
          by_cases e2:j < i
          · rw [if_pos (by omega)];rw [if_pos e2] at h1;exact h1
          · rw [if_neg (by omega)];rw [if_neg e2] at h1;exact h1
      clear hz
      have hwu:IntKind.u8.wrap z=z:=by rw [IntKind.wrap_u8];omega
      subst hpa
      go_wp2_with fail
      go_roundw
      case rel=>exact ⟨i+1,by omega,by go_num,hbr.setCell (p:=⟨w.heap.size+4,i,none⟩) (by show V0.heap.size≤_;rw [HYY.out.2.2.2];exact Nat.le_refl _) _,HNX.out⟩
      case measure=>simp [intOf];omega
    · have hltI:¬ (i:Int) < (f.params.length:Int):=by omega
      have hie:i=f.params.length:=by omega
      have HFL:Hid ((Cd.firstS f).length=f.slots.toNat):=Cd.firstS_len f b6
      have HSM:Hid (Cd.small (Cd.firstS f)):=Cd.firstS_small HPAR.out
      have hcb:=run_convert_bytes_back (P:=Tryz.prog) wr 57 9 5 ⟨w.heap.size+4,0,none⟩ f.slots.toNat ((Cd.firstS f).map (fun z=>UInt8.ofNat z.toNat)) Tryz.underlying57 Tryz.underlying5 Tryz.underlying9 (fun j hj=>by
        have hj2:j < (Cd.firstS f).length:=by simpa using hj
        have h1:=(HCS.out j (by rw [← HFL.out];exact hj2)).1
        rw [hie,← Cd.firstS_at,List.getD_eq_getElem?_getD,List.getElem?_eq_getElem hj2] at h1
        have hsm:=HSM.out _ (List.getElem_mem hj2)
        have e:(((((Cd.firstS f).map (fun z=>UInt8.ofNat z.toNat))[j]'hj).toNat:Nat):Int)=(Cd.firstS f)[j]:=by
          rw [List.getElem_map,UInt8.toNat_ofNat'];omega
        rw [e]
        by_cases j0:j=0
        · subst j0;simpa [Addr.add] using h1
        · simpa [Addr.add,j0] using h1)
      rw [List.length_map,HFL.out] at hcb
      obtain ⟨sb0,hsb0⟩:∃ x,Cd.bs (Cd.firstS f)=x:=⟨_,rfl⟩
      have hcb2:(convert 57 9 (.slice (some ⟨w.heap.size+4,0,none⟩) f.slots.toNat f.slots.toNat)).run Tryz.prog wr = .ok (.string sb0) wr:=by rw [← hsb0];exact hcb
      have HBW:Hid (Below (w.heap.size+2) V0 wr∧V0.heap.size≤wr.heap.size):=⟨hbr.mono (by rw [HYY.out.2.2.2];omega),hbr.size⟩
      have HST:Hid (∀ U,Below wr.heap.size wr U→Cd.TrSt (w.heap.size+2) bg (w.heap.size+2) c f (some ⟨gc,0,none⟩) (some ⟨gi,0,none⟩) cc ic f.ins.length (.slice pa f.params.length pc) (List.replicate f.ins.length .none) [] none 0 U):=fun U hU=>by
        have hv:=HYY.out.2.2.2
        have hz:=hbr.size
        have r0:=(hU.block (w.heap.size+2) (by omega)).trans ((hbr.block (w.heap.size+2) (by omega)).trans HLT.out.1)
        have r1:=(hU.block bg (by omega)).trans ((hbr.block bg (by omega)).trans HLT.out.2)
        refine ⟨by omega,Nat.le_refl _,by omega,by have:=hU.size;omega,⟨r1⟩, ?_,List.length_replicate,World.ownsRow_nil U _ _ _,by simp [Value.ownBlock],by simp [Value.ownBlock]⟩
        rw [← hmc] at r0
        exact Cd.LaysAt.made r0
      have HCOME:Hid (Calls Tryz.prog 91 #[.pointer (some ⟨bg,0,none⟩),.int .i64 0,.agg #[.int .i64 1,.string sb0,.string ⟨#[]⟩]] wr (Cd.ComesPost (w.heap.size+2) bg (w.heap.size+2) c f (some ⟨gc,0,none⟩) (some ⟨gi,0,none⟩) cc ic f.ins.length (.slice pa f.params.length pc) (List.replicate f.ins.length .none) [] 0 (Cd.join .none (.known (Cd.firstS f) [])) (Cd.join .none (.known (Cd.firstS f) []) ≠ .none) none wr)):=by
        have h:=Cd.comes_in (Cd.sys c f).m (by show (Cd.firstS f).length≤200;rw [HFL.out];omega) _ _ _ c f hR.il _ _ _ _ _ _ _ _ _ _ wr (HST.out wr (Below.refl _ _)) 0 (by omega) .none (.known (Cd.firstS f) []) (by rw [List.getElem_replicate]) (by simp) trivial rfl trivial ⟨HSM.out,fun t ht=>by simp at ht⟩ (fun i j h1=>by simp at h1) (by simp)
        rw [Cd.lay_is] at h
        rw [← hsb0]
        exact h
      clear hcb HCS hbr
      go_wp2_with (first | (go_at_call 91;refine HCOME.out.mono ?_;rintro e w1 ⟨W1,wa1,wc1,rfl,hS1,hB1,hdn1,-,hm1,-⟩))
      have HTW:Hid (Cd.Tw (w.heap.size+2) bg (w.heap.size+2) c f (some ⟨gc,0,none⟩) (some ⟨gi,0,none⟩) cc ic f.ins.length (.slice pa f.params.length pc) V0 w1):=by
        refine ⟨_,W1,wa1,wc1,hS1, ?_,hdn1,fun u => ?_,HBW.out.1.trans hB1⟩
        · exact Cd.Wk.start (Cd.sys c f) (by simp [Cd.sys]) (by show 0 < f.ins.length;omega) (fun v=>by rw [hm1 v];simp [Cd.join])
        · refine Cd.fine_set (fun u=>by rw [Cd.at_none];trivial) ?_ (by rw [List.length_replicate];omega) u
          exact ⟨HSM.out,fun t ht=>by simp at ht,by simp⟩
      clear hS1 hB1 hdn1 hm1 HCOME HST HFL HSM HBW HMB HB1 hcb2 hsb0 hie
      go_loopw [] (fun wr2=>Cd.Tw (w.heap.size+2) bg (w.heap.size+2) c f (some ⟨gc,0,none⟩) (some ⟨gi,0,none⟩) cc ic f.ins.length (.slice pa f.params.length pc) V0 wr2) (fun wr2=>Cd.msW (Cd.sys c f) bg (w.heap.size+2) wr2)
      case atStart=>exact HTW.out
      case round =>
        obtain ⟨X,W,wa,wc,hS,hK,hD,hF,hB⟩:=hrel
        have hbw:Below w.heap.size w wr:=HYY.out.1.trans ((HYY.out.2.2.1.trans (by rw [HYY.out.2.1];exact hB)).mono HYY.out.1.size)
        rcases List.eq_nil_or_concat W with hWL | ⟨W0,z,hWL⟩
        · subst hWL
          have c7:=hS.tr.cells.2.2.2.2.2.2.2
          simp only [List.length_nil] at c7
          have HPOST:Hid (Cd.TracedPost c f w (.returned (.pointer (some ⟨bg,0,none⟩))) wr):=⟨_,_,_,_,_,_,_,_,_,X,[],wa,wc,rfl,hS,Cd.InsAt.mono (HI.out.below hbw) (by omega),Cd.CodeAt.mono (HC.out.below hbw) (by omega),hK.fix,hF,hbw⟩
          clear hS hK hD hF hB hbw
          go_wp2_with fail
          go_ret
          exact HPOST.out
        · rw [List.concat_eq_append] at hWL
          subst hWL
          obtain ⟨i,rfl,hin,-⟩:=hK.work z (by simp)
          replace hin:i < f.ins.length:=hin
          obtain ⟨-,hxn,hWm⟩:=hK.pop
          have HMS:Hid (Cd.msW (Cd.sys c f) bg (w.heap.size+2) wr=Cd.ms (Cd.sys c f) X W0+1):=by
            rw [Hid,Cd.msW_is hS.lays hF hS.tr.cells.2.2.2.2.2.2.2]
            unfold Cd.ms
            simp [Nat.add_assoc]
          obtain ⟨kw,hkw,hwc,clast,c7,f7⟩:=hS.last
          subst hkw
          have hS1:=hS.pop
          have hwl:W0.length+1≤50000:=by
            have h:=Cd.down_le (n:=f.ins.length) hD (fun v hv=>by obtain ⟨u,e,hu,-⟩:=hK.work v hv;exact ⟨u,e,hu⟩)
            have:=hR.il
            simp at h
            omega
          have hD1:=Cd.down_cut hD
          obtain ⟨U1,hU1⟩:∃ U,wr.setCell ⟨bg,7,none⟩ (.slice (some ⟨kw,0,none⟩) W0.length wc)=U:=⟨_,rfl⟩
          rw [hU1] at hS1
          have hB1:Below (w.heap.size+2) V0 U1:=by rw [← hU1];exact hB.setCell (p:=⟨bg,7,none⟩) (by show w.heap.size+2≤bg;omega) _
          have HWU:Hid (∀ U,Below U1.heap.size U1 U→Below (w.heap.size+2) V0 U∧Below w.heap.size w U):=fun U hU=>by
            have h1:=hB1.trans (hU.mono hS1.size)
            exact ⟨h1,HYY.out.1.trans ((HYY.out.2.2.1.trans (by rw [HYY.out.2.1];exact h1)).mono HYY.out.1.size)⟩
          obtain ⟨K,HK⟩:∃ K,Hid (Cd.behind c f i (Cd.at' X i)=K):=⟨_,(rfl:Cd.behind c f i (Cd.at' X i)=_)⟩
          have HLEN:Hid (∀ u,Cd.len f.slots.toNat (Cd.at' X u)):=fun u=>by
            have h:=hK.low.lens u
            rw [← Cd.firstS_len f b6]
            exact h
          have HLEFT:Hid (∀ U,Below U1.heap.size U1 U→Calls Tryz.prog 92 #[.pointer (some ⟨bg,0,none⟩),.int .i64 (i:Int)] U fun e w'=>e = .returned (.agg #[.int .i64 (Cd.st K),.string (Cd.sb K),.string (Cd.kb K)])∧Below U.heap.size U w'):=fun U hU=>by
            obtain ⟨-,hwU⟩:=HWU.out U hU
            have hin2:i < X.length:=by rw [hS.len];exact hin
            have h:=Cd.left_any c f hR i hin X hS.len (Cd.at' X i) (Cd.at_get hin2).symm hxn (hF i) (HLEN.out i) _ _ _ _ _ _ _ _ _ U ((hS1.below hU).leftIn (Cd.InsAt.mono (HI.out.below hwU) (by omega)) (Cd.CodeAt.mono (HC.out.below hwU) (by omega)) (hT.below hwU) (hW.below hwU) i)
            rw [HK.out,Cd.lay_is] at h
            exact h
          obtain ⟨ins,HINS⟩:∃ x,Hid (f.ins[i]=x):=⟨_,(rfl:f.ins[i]=_)⟩
          have hok:=hR.ok i hin
          rw [HINS.out] at hok
          have hA:=Cd.insA hok
          have hO:=Cd.insOk_in hok
          have HGO:Hid (∀ U,Below U1.heap.size U1 U→Calls Tryz.prog 93 #[.agg #[.int .i64 ins.op,.int .i64 ins.a,.int .i64 ins.n,.string ins.text],.int .i64 (i:Int)] U fun e w' => ∃ v,e = .returned v∧Cd.IntsAt w'.heap.size w' v (Cd.nats (Cd.goes ins i))∧Below U.heap.size U w'∧∀ k,v.ownBlock=some k→U.heap.size≤k):=fun U hU=>by
            obtain ⟨-,hwU⟩:=HWU.out U hU
            exact Cd.goesOn_new ins i (by omega) (by omega) (by have:=hR.il;omega) (fun h=>(hA.2.2.2.2.2.2.2.1 h).1) U (hT.below hwU)
          have HCI:Hid (∀ U,Below U1.heap.size U1 U→U.cell? ⟨w.heap.size+1,4,none⟩=some (.slice (some ⟨gi,0,none⟩) f.ins.length ic)∧U.cell? ⟨gi,i * 4,none⟩=some (.int .i64 ins.op)∧U.cell? ⟨gi,i * 4+1,none⟩=some (.int .i64 ins.a)∧U.cell? ⟨gi,i * 4+2,none⟩=some (.int .i64 ins.n)∧U.cell? ⟨gi,i * 4+3,none⟩=some (.string ins.text)):=fun U hU=>by
            obtain ⟨hvU,hwU⟩:=HWU.out U hU
            obtain ⟨-,-,-,-,-,s4⟩:=HS.out U (HYY.out.2.2.1.trans (by rw [HYY.out.2.1];exact hvU))
            obtain ⟨g2,e2,-,i0,i1,i2,i3⟩:=(HI.out.below hwU).cells i hin
            injection e2 with e2
            injection e2 with e2
            subst e2
            rw [HINS.out] at i0 i1 i2 i3
            exact ⟨s4,i0,i1,i2,i3⟩
          have HS1:Hid (Cd.TrSt (w.heap.size+2) bg (w.heap.size+2) c f (some ⟨gc,0,none⟩) (some ⟨gi,0,none⟩) cc ic f.ins.length (.slice pa f.params.length pc) X W0 (some ⟨kw,0,none⟩) wc U1):=hS1
          have HWM:Hid (Cd.Wm (Cd.sys c f) X W0 i K (Cd.goes ins i) 0):=by
            have h:Cd.Wm (Cd.sys c f) X W0 i (Cd.behind c f i (Cd.at' X i)) (Cd.goes (f.ins.getD i Cd.noIns) i) 0:=hWm
            rw [HK.out,List.getD_eq_getElem?_getD,List.getElem?_eq_getElem hin] at h
            rw [← HINS.out]
            exact h
          have HFD:Hid ((∀ u,Cd.fine (Cd.at' X u))∧Cd.down W0):=⟨hF,hD1⟩
          have hinI:(i:Int) < (f.ins.length:Int):=by omega
          have hwcI:(W0.length:Int)+1≤(wc:Int):=by omega
          have hw64:wrap64 ((W0.length:Int)+1 - 1)=(W0.length:Int):=(IntWalk.wrap64_in _ (by omega)).trans (by omega)
          have hU1':wr.setCell ⟨bg,7,none⟩ (.slice (some ⟨kw,0,none⟩) W0.length wc)=U1:=hU1
          clear hS hK hD hF hB hbw hWm hS1 hB1 hA hO hok hxn hU1 hD1
          go_wp2_with (first
            | (go_at_call 92;refine (HLEFT.out U1 (Below.refl _ _)).mono ?_;rintro e w2 ⟨rfl,hb2⟩;obtain ⟨U2,hU2⟩:∃ U,w2.alloc (.cells #[.int .i64 (Cd.st K),.string (Cd.sb K),.string (Cd.kb K)] 168)=U:=⟨_,rfl⟩;have hbU2:Below U1.heap.size U1 U2:=(by rw [← hU2];exact hb2.alloc hb2.size _);obtain ⟨s4,i0,i1,i2,i3⟩:=HCI.out U2 hbU2;have HLB:Hid (U2.heap[w2.heap.size]? = some (.cells #[.int .i64 (Cd.st K),.string (Cd.sb K),.string (Cd.kb K)] 168 (0,0))∧U1.heap.size≤w2.heap.size∧w2.heap.size < U2.heap.size):=⟨by rw [← hU2];exact Cd.new_at _ _,hb2.size,by rw [← hU2,World.size_alloc];omega⟩)
            | (go_at_call 93;refine (HGO.out U2 hbU2).mono ?_;rintro e w3 ⟨v,rfl,hiv,hb3,hvn⟩;obtain ⟨va,vc,hve,hvc⟩:=hiv;subst hve;have HIV:Hid (Cd.IntsAt w3.heap.size w3 (.slice va (Cd.nats (Cd.goes ins i)).length vc) (Cd.nats (Cd.goes ins i))):=⟨va,vc,rfl,hvc⟩;clear hvc))
          have HKN:Hid (K ≠ .none∧Cd.fine K):=by
            rw [Hid,← HK.out]
            exact ⟨Cd.behind_ne _ _ _ _,Cd.behind_fine hR hin (HFD.out.1 i) (HLEN.out i)⟩
          have HGL:Hid (∀ z ∈ Cd.goes ins i,z≤f.ins.length):=by
            rw [Hid,← HINS.out]
            exact Cd.goes_le hR hin
          have HNL:Hid ((Cd.nats (Cd.goes ins i)).length=(Cd.goes ins i).length):=by rw [Hid];simp [Cd.nats]
          have HTV:Hid (Cd.Tv (w.heap.size+2) bg (w.heap.size+2) c f (some ⟨gc,0,none⟩) (some ⟨gi,0,none⟩) cc ic f.ins.length (.slice pa f.params.length pc) V0 i K (Cd.goes ins i) (.slice va (Cd.nats (Cd.goes ins i)).length vc) w2.heap.size (Cd.ms (Cd.sys c f) X W0+1) 0 X W0 (some ⟨kw,0,none⟩) wc w3):=by
            have hb13:=hbU2.trans (hb3.mono hbU2.size)
            have hbs:=hbU2.size
            have hbl:bg < U1.heap.size:=HS1.out.tr.lt
            have hll:w.heap.size+2 < U1.heap.size:=HS1.out.lays.lt
            have hrl:kw < U1.heap.size:=Cd.row_lt HS1.out.row rfl
            refine ⟨HS1.out.below hb13,HWM.out,HFD.out.2,HFD.out.1,(HWU.out w3 hb13).1,Nat.le_refl _,HIV.out,fun j hj => ?_,(hb3.block w2.heap.size HLB.out.2.2).trans HLB.out.1, ?_⟩
            · have h:=hvn j hj
              refine ⟨by omega,by omega,fun e => ?_⟩
              have:kw=j:=by simpa [Value.ownBlock] using e
              omega
            · have h:=HLB.out.2.1
              refine ⟨by omega,by omega,fun e => ?_⟩
              have:kw=w2.heap.size:=by simpa [Value.ownBlock] using e
              omega
          clear HIV hvn hb3 hbU2 HWM HS1 HFD HCI HGO HLEFT hU2 hU1' s4 i0 i1 i2 i3 hb2 clast c7 f7 HLB
          obtain ⟨N,hNe⟩:∃ n,(Cd.nats (Cd.goes ins i)).length=n:=⟨_,rfl⟩
          rw [hNe] at HTV HNL ⊢
          have hN2:N≤2:=by
            rw [HNL.out]
            unfold Cd.goes
            repeat' split
            all_goals simp
          go_loopw [89] (fun t wr3 => ∃ (k:Nat) (X':List Cd.Sh) (W':List Int) (wa':Option Addr) (wc':Nat),k≤N∧t = .int .i64 (k:Int)∧Cd.Tv (w.heap.size+2) bg (w.heap.size+2) c f (some ⟨gc,0,none⟩) (some ⟨gi,0,none⟩) cc ic f.ins.length (.slice pa f.params.length pc) V0 i K (Cd.goes ins i) (.slice va N vc) w2.heap.size (Cd.ms (Cd.sys c f) X W0+1) k X' W' wa' wc' wr3) (fun t _=>N - (intOf t).toNat)
          case atStart=>exact ⟨0,X,W0,some ⟨kw,0,none⟩,wc,by omega,rfl,HTV.out⟩
          case round =>
            obtain ⟨k,X',W',wa',wc',hk,rfl,hTv⟩:=hrel
            by_cases hlt:k < N
            · have hltI:(k:Int) < (N:Int):=by omega
              have hkG:k < (Cd.goes ins i).length:=by rw [← HNL.out];exact hlt
              obtain ⟨gv,ov,hva,hcell⟩:∃ gv ov,va=some ⟨gv,ov,none⟩∧wr.cell? ⟨gv,ov+k,none⟩=some (.int .i64 ((Cd.goes ins i)[k]:Int)):=by
                obtain ⟨a',cp,e,h⟩:=hTv.ints
                injection e with e1
                subst e1
                obtain ⟨g',o',h1,-,h2⟩:=h k (by rw [hNe];exact hlt)
                refine ⟨g',o',h1,h2.trans ?_⟩
                simp [Cd.nats]
              subst hva
              obtain ⟨to,HTO⟩:∃ to,Hid ((Cd.goes ins i)[k]=to):=⟨_,(rfl:(Cd.goes ins i)[k]=_)⟩
              rw [HTO.out] at hcell
              have l0:wr.cell? ⟨w2.heap.size,0,none⟩=some (.int .i64 (Cd.st K)):=by rw [Lib.cell_of_heap hTv.left];rfl
              have l1:wr.cell? ⟨w2.heap.size,1,none⟩=some (.string (Cd.sb K)):=by rw [Lib.cell_of_heap hTv.left];rfl
              have l2:wr.cell? ⟨w2.heap.size,2,none⟩=some (.string (Cd.kb K)):=by rw [Lib.cell_of_heap hTv.left];rfl
              have HTV2:Hid (Cd.Tv (w.heap.size+2) bg (w.heap.size+2) c f (some ⟨gc,0,none⟩) (some ⟨gi,0,none⟩) cc ic f.ins.length (.slice pa f.params.length pc) V0 i K (Cd.goes ins i) (.slice (some ⟨gv,ov,none⟩) N vc) w2.heap.size (Cd.ms (Cd.sys c f) X W0+1) k X' W' wa' wc' wr):=hTv
              by_cases hto:to < f.ins.length
              · have HCOME:Hid (Calls Tryz.prog 91 #[.pointer (some ⟨bg,0,none⟩),.int .i64 (to:Int),.agg #[.int .i64 (Cd.st K),.string (Cd.sb K),.string (Cd.kb K)]] wr (Cd.ComesPost (w.heap.size+2) bg (w.heap.size+2) c f (some ⟨gc,0,none⟩) (some ⟨gi,0,none⟩) cc ic f.ins.length (.slice pa f.params.length pc) X' W' to (Cd.join (Cd.at' X' to) K) (Cd.join (Cd.at' X' to) K≠Cd.at' X' to) (Value.slice wa' W'.length wc').ownBlock wr)):=by
                  have hx:to < X'.length:=by rw [hTv.st.len];exact hto
                  have hwl':W'.length≤50000:=by
                    have h:=Cd.down_le (n:=f.ins.length) hTv.dn (fun v hv=>by obtain ⟨u,e,hu,-⟩:=hTv.wm.work v hv;exact ⟨u,e,hu⟩)
                    have:=hR.il
                    omega
                  have h:=Cd.comes_in (Cd.sys c f).m (by show (Cd.firstS f).length≤200;rw [Cd.firstS_len f b6];omega) _ _ _ c f hR.il _ _ _ _ _ _ _ _ _ _ wr hTv.st to hto (Cd.at' X' to) K (Cd.at_get hx).symm HKN.out.1 (hTv.wm.low.lens to) hTv.wm.blen (Cd.fine_small (hTv.fine to)) (Cd.fine_small HKN.out.2) hTv.dn hwl'
                  rw [Cd.lay_is] at h
                  exact h
                have HTL:Hid ((Cd.goes ins i)[k] < f.ins.length):=by rw [Hid,HTO.out];exact hto
                clear hTv hto
                go_wp2_with (first | (go_at_call 91;refine HCOME.out.mono ?_;rintro e w4 ⟨W4,wa4,wc4,rfl,hS4,hB4,hdn4,hl4,hm4,hfr4⟩))
                go_roundw
                case rel =>
                  refine ⟨k+1,_,W4,wa4,wc4,by omega,by go_num,HTV2.out.step hkG HTL.out HKN.out.1 HKN.out.2 ?_ hB4 hdn4 hl4 ?_ hfr4⟩
                  · rw [HTO.out];exact hS4
                  · rw [HTO.out];exact hm4
                case measure=>simp [intOf];omega
              · have HCOME:Hid (Calls Tryz.prog 91 #[.pointer (some ⟨bg,0,none⟩),.int .i64 (to:Int),.agg #[.int .i64 (Cd.st K),.string (Cd.sb K),.string (Cd.kb K)]] wr fun e w'=>e = .returned (.tuple #[])∧Below wr.heap.size wr w'):=by
                  have hle:=HGL.out to (by rw [← HTO.out];exact List.getElem_mem hkG)
                  have h:=Cd.comes_out _ _ _ c f hR.il _ _ _ _ _ _ _ _ _ _ wr hTv.st to (by omega) K
                  rw [Cd.lay_is] at h
                  exact h.mono (fun e w' h=>⟨h.1,h.2.2⟩)
                have HSK:Hid (¬ (Cd.goes ins i)[k] < f.ins.length):=by rw [Hid,HTO.out];exact hto
                clear hTv hto
                go_wp2_with (first | (go_at_call 91;refine HCOME.out.mono ?_;rintro e w4 ⟨rfl,hb4⟩))
                go_roundw
                case rel=>exact ⟨k+1,X',W',wa',wc',by omega,by go_num,HTV2.out.skip hkG HSK.out hb4⟩
                case measure=>simp [intOf];omega
            · have hltI:¬ (k:Int) < (N:Int):=by omega
              have HEND:Hid (Cd.Tw (w.heap.size+2) bg (w.heap.size+2) c f (some ⟨gc,0,none⟩) (some ⟨gi,0,none⟩) cc ic f.ins.length (.slice pa f.params.length pc) V0 wr∧Cd.msW (Cd.sys c f) bg (w.heap.size+2) wr < Cd.ms (Cd.sys c f) X W0+1):=by
                have eG:(Cd.sys c f).goes i=Cd.goes ins i:=by
                  show Cd.goes (f.ins.getD i Cd.noIns) i=_
                  rw [List.getD_eq_getElem?_getD,List.getElem?_eq_getElem hin,← HINS.out];rfl
                have hwm:=hTv.wm
                rw [← eG] at hwm
                refine ⟨⟨X',W',wa',wc',hTv.st,hwm.done (by rw [eG,← HNL.out];omega),hTv.dn,hTv.fine,hTv.since⟩, ?_⟩
                rw [Cd.msW_is hTv.st.lays hTv.fine hTv.st.tr.cells.2.2.2.2.2.2.2]
                have:=hTv.ms
                omega
              clear hTv
              go_wp2_with fail
              go_roundw
              case rel=>exact HEND.out.1
              case measure=>rw [HMS.out];exact HEND.out.2
end Go.Proofs.YtbkhedpabfanoaaGreatDoor
