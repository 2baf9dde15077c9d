import Derived.Test.YtbkhedpabfanoaaGreatDoorKCdT
namespace Go.Proofs.YtbkhedpabfanoaaGreatDoor
open Go.RowKit

set_option maxRecDepth 100000 in
set_option maxHeartbeats 4000000 in
theorem Cd.behind_nil (c:List Cd.Fn) (f:Cd.Fn) (at':Nat) (hat:at' < f.ins.length) (s:List Int) (ca ia sa:Option Addr) (cc ic sc:Nat) (pv:Value) (hcl:c.length≤60) (hil:f.ins.length≤50000) (hsl:s.length≤200) (hsf:(s.length:Int)=f.slots) (hpl:∀ g ∈ c,g.params.length≤8) (hok:Cd.insOk c f f.ins[at']=true) (w:World) (hC:Cd.CodeAt w.heap.size w (.slice ca c.length cc) c) (hI:Cd.InsAt w.heap.size w (.slice ia f.ins.length ic) f.ins) (hS:Cd.IntsAt w.heap.size w (.slice sa s.length sc) s) :
    Calls Tryz.prog 49 #[.agg #[.slice ca c.length cc],Cd.fnV f pv (.slice ia f.ins.length ic),.int .i64 (at':Int),Cd.shV 1 (.slice sa s.length sc) (.slice none 0 0)] w fun e w'=>(∃ v,e = .returned v∧Cd.ShAt w'.heap.size w' v (Cd.leaves c f f.ins[at'] at' s []))∧Below w.heap.size w w':=by
  obtain ⟨gi,rfl,hgi,hcell⟩:∃ gi,ia=some ⟨gi,0,none⟩∧gi < w.heap.size∧∀ j,j < 4→w.cell? ⟨gi,at' * 4+j,none⟩=(Cd.insC f.ins[at'])[j]?:=by
    obtain ⟨a',cp,hv2,hc⟩:=hI
    injection hv2 with e1
    subst e1
    exact hc at' hat
  have hnil:∀ B Z,Cd.IntsAt B Z (.slice none 0 0) []:=fun B Z=>⟨none,0,rfl,fun i hi=>by simp at hi⟩
  obtain ⟨x,hx⟩:∃ x,f.ins[at']=x:=⟨_,rfl⟩
  rw [hx] at hcell hok ⊢
  clear hx
  obtain ⟨Y1,hY1⟩:∃ Y,w.alloc (.cells #[.slice ca c.length cc] 24)=Y:=⟨_,rfl⟩
  have hb1:Below w.heap.size w Y1:=by rw [← hY1];exact Cd.b1 w _
  have hs1:Y1.heap.size=w.heap.size+1:=by rw [← hY1];exact World.size_alloc _ _
  have p1_0:Y1.heap[w.heap.size]? = some (.cells #[.slice ca c.length cc] 24):=by rw [← hY1];exact Cd.new_at w _
  obtain ⟨Y2,hY2⟩:∃ Y,Y1.alloc (.cells #[.string f.name,pv,.int .i64 f.result,.int .i64 f.slots,.slice (some ⟨gi,0,none⟩) f.ins.length ic] 37)=Y:=⟨_,rfl⟩
  have hb2:Below w.heap.size w Y2:=by rw [← hY2];exact Cd.Below.new hb1 _
  have hs2:Y2.heap.size=w.heap.size+2:=by rw [← hY2,World.size_alloc];omega
  have p2_0:Y2.heap[w.heap.size]? = some (.cells #[.slice ca c.length cc] 24):=by rw [← hY2];exact Cd.keepH _ p1_0
  have p2_1:Y2.heap[w.heap.size+1]? = some (.cells #[.string f.name,pv,.int .i64 f.result,.int .i64 f.slots,.slice (some ⟨gi,0,none⟩) f.ins.length ic] 37):=by rw [← hY2,← hs1];exact Cd.new_at _ _
  clear p1_0
  obtain ⟨Y3,hY3⟩:∃ Y,Y2.alloc (.cells #[.int .i64 1,.slice sa s.length sc,.slice none 0 0] 110)=Y:=⟨_,rfl⟩
  have hb3:Below w.heap.size w Y3:=by rw [← hY3];exact Cd.Below.new hb2 _
  have hs3:Y3.heap.size=w.heap.size+3:=by rw [← hY3,World.size_alloc];omega
  have p3_0:Y3.heap[w.heap.size]? = some (.cells #[.slice ca c.length cc] 24):=by rw [← hY3];exact Cd.keepH _ p2_0
  have p3_1:Y3.heap[w.heap.size+1]? = some (.cells #[.string f.name,pv,.int .i64 f.result,.int .i64 f.slots,.slice (some ⟨gi,0,none⟩) f.ins.length ic] 37):=by rw [← hY3];exact Cd.keepH _ p2_1
  have p3_2:Y3.heap[w.heap.size+2]? = some (.cells #[.int .i64 1,.slice sa s.length sc,.slice none 0 0] 110):=by rw [← hY3,← hs2];exact Cd.new_at _ _
  clear p2_0 p2_1
  obtain ⟨Y4,hY4⟩:∃ Y,Y3.alloc (.cells #[.int .i64 0,.slice none 0 0,.slice none 0 0] 110)=Y:=⟨_,rfl⟩
  have hb4:Below w.heap.size w Y4:=by rw [← hY4];exact Cd.Below.new hb3 _
  have hs4:Y4.heap.size=w.heap.size+4:=by rw [← hY4,World.size_alloc];omega
  have p4_0:Y4.heap[w.heap.size]? = some (.cells #[.slice ca c.length cc] 24):=by rw [← hY4];exact Cd.keepH _ p3_0
  have p4_1:Y4.heap[w.heap.size+1]? = some (.cells #[.string f.name,pv,.int .i64 f.result,.int .i64 f.slots,.slice (some ⟨gi,0,none⟩) f.ins.length ic] 37):=by rw [← hY4];exact Cd.keepH _ p3_1
  have p4_2:Y4.heap[w.heap.size+2]? = some (.cells #[.int .i64 1,.slice sa s.length sc,.slice none 0 0] 110):=by rw [← hY4];exact Cd.keepH _ p3_2
  have p4_3:Y4.heap[w.heap.size+3]? = some (.cells #[.int .i64 0,.slice none 0 0,.slice none 0 0] 110):=by rw [← hY4,← hs3];exact Cd.new_at _ _
  clear p3_0 p3_1 p3_2
  have c0_0:Y4.cell? ⟨w.heap.size,0,none⟩=some (.slice ca c.length cc):=by rw [Lib.cell_of_heap p4_0];rfl
  have c1_0:Y4.cell? ⟨w.heap.size+1,0,none⟩=some (.string f.name):=by rw [Lib.cell_of_heap p4_1];rfl
  have c1_1:Y4.cell? ⟨w.heap.size+1,1,none⟩=some (pv):=by rw [Lib.cell_of_heap p4_1];rfl
  have c1_2:Y4.cell? ⟨w.heap.size+1,2,none⟩=some (.int .i64 f.result):=by rw [Lib.cell_of_heap p4_1];rfl
  have c1_3:Y4.cell? ⟨w.heap.size+1,3,none⟩=some (.int .i64 f.slots):=by rw [Lib.cell_of_heap p4_1];rfl
  have c1_4:Y4.cell? ⟨w.heap.size+1,4,none⟩=some (.slice (some ⟨gi,0,none⟩) f.ins.length ic):=by rw [Lib.cell_of_heap p4_1];rfl
  have c2_0:Y4.cell? ⟨w.heap.size+2,0,none⟩=some (.int .i64 1):=by rw [Lib.cell_of_heap p4_2];rfl
  have c2_1:Y4.cell? ⟨w.heap.size+2,1,none⟩=some (.slice sa s.length sc):=by rw [Lib.cell_of_heap p4_2];rfl
  have c2_2:Y4.cell? ⟨w.heap.size+2,2,none⟩=some (.slice none 0 0):=by rw [Lib.cell_of_heap p4_2];rfl
  have c3_0:Y4.cell? ⟨w.heap.size+3,0,none⟩=some (.int .i64 0):=by rw [Lib.cell_of_heap p4_3];rfl
  have c3_1:Y4.cell? ⟨w.heap.size+3,1,none⟩=some (.slice none 0 0):=by rw [Lib.cell_of_heap p4_3];rfl
  have c3_2:Y4.cell? ⟨w.heap.size+3,2,none⟩=some (.slice none 0 0):=by rw [Lib.cell_of_heap p4_3];rfl
  clear hb1 hb2 hb3
  have i0:=hcell 0 (by omega);have i1:=hcell 1 (by omega);have i2:=hcell 2 (by omega);have i3:=hcell 3 (by omega)
  simp only [Cd.insC,Nat.add_zero,List.getElem?_cons_zero,List.getElem?_cons_succ] at i0 i1 i2 i3
  have j0:=(hb4.cell (p:=⟨gi,at' * 4,none⟩) hgi).trans i0
  have j1:=(hb4.cell (p:=⟨gi,at' * 4+1,none⟩) hgi).trans i1
  have j2:=(hb4.cell (p:=⟨gi,at' * 4+2,none⟩) hgi).trans i2
  have j3:=(hb4.cell (p:=⟨gi,at' * 4+3,none⟩) hgi).trans i3
  obtain ⟨Y5,hY5⟩:∃ Y,Y4.alloc (.cells #[.int .i64 x.op,.int .i64 x.a,.int .i64 x.n,.string x.text] 54)=Y:=⟨_,rfl⟩
  have hb5:Below w.heap.size w Y5:=by rw [← hY5];exact Cd.Below.new hb4 _
  have hs5:Y5.heap.size=w.heap.size+5:=by rw [← hY5,World.size_alloc];omega
  have hk5:∀ g,g < w.heap.size+4→Y5.heap[g]? = Y4.heap[g]?:=fun g hg=>by rw [← hY5];exact (Cd.b1 Y4 _).block g (by omega)
  have p5_4:Y5.heap[w.heap.size+4]? = some (.cells #[.int .i64 x.op,.int .i64 x.a,.int .i64 x.n,.string x.text] 54):=by rw [← hY5,← hs4];exact Cd.new_at _ _
  obtain ⟨Y6,hY6⟩:∃ Y,Y5.alloc (.cells #[.int .i64 0,.slice none 0 0,.slice none 0 0] 110)=Y:=⟨_,rfl⟩
  have hb6:Below w.heap.size w Y6:=by rw [← hY6];exact Cd.Below.new hb5 _
  have hs6:Y6.heap.size=w.heap.size+6:=by rw [← hY6,World.size_alloc];omega
  have hk6:∀ g,g < w.heap.size+5→Y6.heap[g]? = Y5.heap[g]?:=fun g hg=>by rw [← hY6];exact (Cd.b1 Y5 _).block g (by omega)
  have p6_5:Y6.heap[w.heap.size+5]? = some (.cells #[.int .i64 0,.slice none 0 0,.slice none 0 0] 110):=by rw [← hY6,← hs5];exact Cd.new_at _ _
  have n0:Y6.cell? ⟨w.heap.size+5,0,none⟩=some (.int .i64 0):=by rw [Lib.cell_of_heap p6_5];rfl
  have n1:Y6.cell? ⟨w.heap.size+5,1,none⟩=some (.slice none 0 0):=by rw [Lib.cell_of_heap p6_5];rfl
  have n2:Y6.cell? ⟨w.heap.size+5,2,none⟩=some (.slice none 0 0):=by rw [Lib.cell_of_heap p6_5];rfl
  have m0:Y6.frozen? ⟨w.heap.size+5,0,none⟩=false:=by simp [World.frozen?,p6_5]
  have m1:Y6.frozen? ⟨w.heap.size+5,1,none⟩=false:=by simp [World.frozen?,p6_5]
  have m2:Y6.frozen? ⟨w.heap.size+5,2,none⟩=false:=by simp [World.frozen?,p6_5]
  obtain ⟨W,hW⟩:∃ W,(((Y6.setCell ⟨w.heap.size+5,0,none⟩ (.int .i64 2)).setCell ⟨w.heap.size+5,1,none⟩ (.slice none 0 0)).setCell ⟨w.heap.size+5,2,none⟩ (.slice none 0 0))=W:=⟨_,rfl⟩
  have hbW:Below w.heap.size w W:=by rw [← hW];exact Cd.Below.set (Cd.Below.set (Cd.Below.set hb6 5 0 _) 5 1 _) 5 2 _
  have hsW:W.heap.size=w.heap.size+6:=by rw [← hW];simp [hs6]
  have HW:Cd.Bh f x (.slice ca c.length cc) pv (.slice (some ⟨gi,0,none⟩) f.ins.length ic) (.slice sa s.length sc) (.slice none 0 0) w.heap.size W:=by
    have hkW:∀ g,g < w.heap.size+5→W.heap[g]? = Y6.heap[g]?:=fun g hg=>by
      rw [← hW,Below.heap_setCell _ _ _ _ (by show g≠w.heap.size+5;omega),Below.heap_setCell _ _ _ _ (by show g≠w.heap.size+5;omega),Below.heap_setCell _ _ _ _ (by show g≠w.heap.size+5;omega)]
    have hk4:∀ g,g < w.heap.size+4→W.heap[g]? = Y4.heap[g]?:=fun g hg=>(hkW g (by omega)).trans ((hk6 g (by omega)).trans (hk5 g hg))
    refine ⟨(hk4 _ (by omega)).trans p4_0,(hk4 _ (by omega)).trans p4_1,(hk4 _ (by omega)).trans p4_2,(hk4 _ (by omega)).trans p4_3,(hkW _ (by omega)).trans ((hk6 _ (by omega)).trans p5_4), ?_⟩
    rw [← hW]
    exact heap_setCell_same _ _ _ _ _ _ (heap_setCell_same _ _ _ _ _ _ (heap_setCell_same _ _ _ _ _ _ p6_5))
  have HC6:Hid (Cd.CodeAt W.heap.size W (.slice ca c.length cc) c):=Cd.CodeAt.mono (hC.below hbW) (by omega)
  have HS6:Hid (Cd.IntsAt W.heap.size W (.slice sa s.length sc) s):=(hS.below hbW).mono (by omega)
  have HK6:Hid (Cd.IntsAt W.heap.size W (.slice none 0 0) []):=hnil _ W
  obtain ⟨⟨tk,ps,okb⟩,HGE⟩:∃ g,Hid (Cd.gives c f x s []=g):=⟨_,(rfl:Cd.gives c f x s []=_)⟩
  have HG0:Hid (Calls Tryz.prog 65 #[.agg #[.slice ca c.length cc],.agg #[.string f.name,pv,.int .i64 f.result,.int .i64 f.slots,.slice (some ⟨gi,0,none⟩) f.ins.length ic],.agg #[.int .i64 x.op,.int .i64 x.a,.int .i64 x.n,.string x.text],.agg #[.int .i64 1,.slice sa s.length sc,.slice none 0 0]] W fun e w'=>(∃ v,e = .returned (.tuple #[.int .i64 (tk:Int),v,.bool okb])∧Cd.IntsAt w'.heap.size w' v ps)∧Below W.heap.size W w'):=by
    have h:=Cd.gives_any c f x s [] ca (some ⟨gi,0,none⟩) sa none cc ic sc 0 pv hcl hil hsl (by decide) (by decide) (.inl rfl) hsf hpl hok W HC6.out HS6.out HK6.out
    unfold Cd.GivesIs at h
    rw [HGE.out] at h
    exact h
  have HS0:Hid (Cd.IntsAt w.heap.size w (.slice sa s.length sc) s):=hS
  have HK0:Hid (Cd.IntsAt w.heap.size w (.slice none 0 0) []):=hnil _ _
  clear hS
  clear hC hI hcell i0 i1 i2 i3 hb5 hb6 hk5 hk6 p4_0 p4_1 p4_2 p4_3 p5_4 p6_5 hb4
  have hatI:(at':Int) < (f.ins.length:Int):=by omega
  have HWc:=HW.c0;obtain ⟨HWf0,HWf1,HWf2,HWf3,HWf4⟩:=HW.fs;have HWs0:=HW.s0;have HWs1:=HW.s1;have HWs2:=HW.s2;have HWi0:=HW.i0;have HWi1:=HW.i1;have HWi2:=HW.i2;have HWi3:=HW.i3
  unfold Cd.fnV Cd.shV
  go_enter Tryz.func49,Tryz.ntmps49
  have hjmp:=Cd.insOk_jump hok
  have hslt:=Cd.insOk_slot hok
  cases okb with
  | false =>
    have HL:Hid (Cd.leaves c f x at' s [] = .clash):=Cd.leaves_no HGE.out (.inl rfl)
    go_wp2_with (first | (go_at_call 65;refine HG0.out.mono ?_;rintro e w7 ⟨⟨v,rfl,hv⟩,hb7⟩;have hB7:=(HW.below hb7 (by omega));have hbw7:=hbW.trans (hb7.mono (by omega));have s2:=hB7.s2;have y0:=hB7.i0;have y1:=hB7.i1;have y2:=hB7.i2;have y3:=hB7.i3;obtain ⟨⟨r0,r1,r2⟩,g0,g1,g2⟩:=hB7.r;obtain ⟨bb0,bb1,bb2⟩:=hB7.b))
    exact bodyPost_ret (v:=Cd.shV 2 (.slice none 0 0) (.slice none 0 0)) (by simp [results,Tryz.results49,go_sem,r0,r1,r2,Cd.shV]) rfl ⟨⟨_,rfl,by rw [HL.out];rfl⟩,Cd.Below.set (Cd.Below.set (Cd.Below.set hbw7 3 0 _) 3 1 _) 3 2 _⟩
  | true =>
    by_cases htk:0 < tk
    · have HL:Hid (Cd.leaves c f x at' s [] = .clash):=Cd.leaves_no HGE.out (.inr htk)
      have htkI:(0:Int) < (tk:Int):=by omega
      go_wp2_with (first | (go_at_call 65;refine HG0.out.mono ?_;rintro e w7 ⟨⟨v,rfl,hv⟩,hb7⟩;have hB7:=(HW.below hb7 (by omega));have hbw7:=hbW.trans (hb7.mono (by omega));have s2:=hB7.s2;have y0:=hB7.i0;have y1:=hB7.i1;have y2:=hB7.i2;have y3:=hB7.i3;obtain ⟨⟨r0,r1,r2⟩,g0,g1,g2⟩:=hB7.r;obtain ⟨bb0,bb1,bb2⟩:=hB7.b))
      exact bodyPost_ret (v:=Cd.shV 2 (.slice none 0 0) (.slice none 0 0)) (by simp [results,Tryz.results49,go_sem,r0,r1,r2,Cd.shV]) rfl ⟨⟨_,rfl,by rw [HL.out];rfl⟩,Cd.Below.set (Cd.Below.set (Cd.Below.set hbw7 3 0 _) 3 1 _) 3 2 _⟩
    · have htk0:tk=0:=by omega
      subst htk0
      have HTK:Hid (0≤([]:List Int).length):=(by decide:0≤([]:List Int).length)
      clear htk
      go_wp2_with (first | (go_at_call 65;refine HG0.out.mono ?_;rintro e w7 ⟨⟨v,rfl,hv⟩,hb7⟩;have hB7:=(HW.below hb7 (by omega));have hbw7:=hbW.trans (hb7.mono (by omega));have s2:=hB7.s2;have y0:=hB7.i0;have y1:=hB7.i1;have y2:=hB7.i2;have y3:=hB7.i3;obtain ⟨⟨r0,r1,r2⟩,g0,g1,g2⟩:=hB7.r;obtain ⟨bb0,bb1,bb2⟩:=hB7.b) | (go_at_call 63;refine (Cd.goes_any x at' (by omega) (fun h=>(hjmp h).1) w7).mono ?_;rintro e w8 ⟨gv,rfl,hgv,hb8⟩))
      obtain ⟨gl,HGL⟩:∃ g,Hid (Cd.goes x at'=g):=⟨_,(rfl:Cd.goes x at'=_)⟩
      have hgl2:gl.length≤2:=by rw [← HGL.out];exact Cd.goes_len x at'
      obtain ⟨ag,cg,rfl,HGC⟩:∃ ag cg,gv = .slice ag gl.length cg∧Hid (∀ j (hj:j < gl.length),∃ g o,ag=some ⟨g,o,none⟩∧w8.cell? ⟨g,o+j,none⟩=some (.int .i64 ((gl[j]:Nat):Int))):=by
        obtain ⟨ag,cg,e,hc⟩:=hgv
        rw [HGL.out] at e hc
        refine ⟨ag,cg,by rw [e];simp [Cd.nats],fun j hj => ?_⟩
        obtain ⟨g,o,e1,_,h2⟩:=hc j (by simpa [Cd.nats] using hj)
        exact ⟨g,o,e1,by rw [h2];simp [Cd.nats]⟩
      have HB8:Hid (Cd.Bh f x (.slice ca c.length cc) pv (.slice (some ⟨gi,0,none⟩) f.ins.length ic) (.slice sa s.length sc) (.slice none 0 0) w.heap.size w8):=hB7.below hb8 hB7.size
      have HBW8:Hid (Below w.heap.size w w8):=hbw7.trans (hb8.mono hbw7.size)
      have HPS:Hid (Cd.IntsAt w8.heap.size w8 v ps):=(hv.below hb8).mono hb8.size
      have HS8:Hid (Cd.IntsAt w.heap.size w8 (.slice sa s.length sc) s):=(HS0.out).below HBW8.out
      have HK8:Hid (Cd.IntsAt w.heap.size w8 (.slice none 0 0) []):=(HK0.out).below HBW8.out
      clear hgv hv hB7 hbw7 hb8 hb7 s2 y0 y1 y2 y3 r0 r1 r2 g0 g1 g2 bb0 bb1 bb2
      go_loopw [15] (fun t wr => ∃ j q:Nat,j≤gl.length∧t = .int .i64 (j:Int)∧wr=w8.drewN q∧∀ u (hu:u < gl.length),u < j→gl[u] < f.ins.length) (fun t _=>gl.length - (intOf t).toNat)
      case atStart=>exact ⟨0,0,by omega,rfl,rfl,fun u hu h=>by omega⟩
      case round =>
        obtain ⟨j,q,hj,rfl,hq,hu⟩:=hrel
        have HQ:Hid (wr=w8.drewN q):=hq
        have HBR:Hid (Cd.Bh f x (.slice ca c.length cc) pv (.slice (some ⟨gi,0,none⟩) f.ins.length ic) (.slice sa s.length sc) (.slice none 0 0) w.heap.size wr):=by rw [hq];exact HB8.out.kept (fun g _=>rfl)
        have HBWR:Hid (Below w.heap.size w wr):=by rw [hq];exact Cd.belowD _ HBW8.out
        clear hq
        have z4:=HBR.out.f4
        by_cases hlt:j < gl.length
        · obtain ⟨gg,og,rfl,d8⟩:=HGC.out j hlt
          have d0:wr.cell? ⟨gg,og+j,none⟩=some (.int .i64 ((gl[j]:Nat):Int)):=by rw [HQ.out];exact d8
          by_cases hin:gl[j] < f.ins.length
          · have HU:Hid (∀ u (hu:u < gl.length),u < j+1→gl[u] < f.ins.length):=fun u hul h=>by
              by_cases e:u=j
              · subst e;exact hin
              · exact hu u hul (by omega)
            have hinI:((gl[j]:Nat):Int) < (f.ins.length:Int):=by omega
            clear hu d8 hin
            generalize gl[j]=zz at *
            go_wp2_with fail
            go_quiet (fail)
            go_wp2_with fail
            go_roundw
            case rel=>exact ⟨j+1,_,by omega,by go_num,by rw [HQ.out,World.drewN_drewN],HU.out⟩
            case measure=>simp [intOf];omega
          · have HL:Hid (Cd.leaves c f x at' s [] = .clash):=Cd.leaves_out (j:=j) HGE.out HTK.out (by rw [HGL.out];exact hlt) (by simp only [HGL.out];omega)
            have hinI:¬ ((gl[j]:Nat):Int) < (f.ins.length:Int):=by omega
            obtain ⟨⟨r0,r1,r2⟩,g0,g1,g2⟩:=HBR.out.r;obtain ⟨bb0,bb1,bb2⟩:=HBR.out.b
            clear hu d8 hin
            generalize gl[j]=zz at *
            go_wp2_with fail
            go_quiet (fail)
            go_wp2_with fail
            exact bodyPost_ret (v:=Cd.shV 2 (.slice none 0 0) (.slice none 0 0)) (by simp [results,Tryz.results49,go_sem,r0,r1,r2,Cd.shV]) rfl ⟨⟨_,rfl,by rw [HL.out];rfl⟩,Cd.Below.set (Cd.Below.set (Cd.Below.set (Cd.belowD _ HBWR.out) 3 0 _) 3 1 _) 3 2 _⟩
        · have HAL:Hid (∀ u (hu:u < (Cd.goes x at').length),(Cd.goes x at')[u] < f.ins.length):=fun u hul=>by
            simp only [HGL.out] at hul ⊢
            exact hu u hul (by omega)
          clear hu
          have hgeI:¬ (j:Int) < (gl.length:Int):=by omega
          obtain ⟨i0,hi0,hz0,hz1,hz2⟩:=Cd.int_info
          have hps1:ps.length≤1:=by have h:=Cd.gives_puts c f x s [];rw [HGE.out] at h;exact h
          have HD:Hid (w.heap.size+6≤wr.heap.size):=HBR.out.size
          obtain ⟨V1,hV1⟩:∃ V,wr.alloc (.cells #[] 3)=V:=⟨_,rfl⟩
          have HO1:Hid (V1.ownsRow wr.heap.size 3 1 (.slice (some ⟨wr.heap.size,0,none⟩) 0 0) 0 (Cd.ints [])):=by rw [Hid,← hV1];exact Cd.own_new wr _ (Nat.le_refl _) _
          have hbV1:Below wr.heap.size wr V1:=by rw [← hV1];exact Cd.b1 wr _
          have HSV1:Hid (Cd.IntsAt w.heap.size V1 (.slice sa s.length sc) s):=HS0.out.below (HBWR.out.trans (hbV1.mono HBWR.out.size))
          have s1V1:=(HBR.out.below hbV1 HD.out).s1
          have HPR:Hid (Cd.IntsAt wr.heap.size wr v ps):=by rw [Hid,HQ.out];exact HPS.out
          have HKR:Hid (Cd.IntsAt wr.heap.size wr (.slice none 0 0) []):=Cd.IntsAt.mono (HK0.out.below HBWR.out) HBWR.out.size
          have hn3:0+([]:List Int).length+ps.length≤1048576:=by simp;omega
          have HLI:=(show Hid _ from Cd.leaves_in HGE.out HTK.out HAL.out)
          have h600I:¬ (600:Int) < ((ps.length:Nat):Int):=by omega
          have h600N:¬ 600 < ps.length:=by omega
          have h3:¬ x.op=3:=fun h3=>by
            have h:=HGE.out
            unfold Cd.gives at h
            rw [if_neg (by omega),if_neg (by omega),if_pos (.inl h3)] at h
            simp at h
          have h3b:(x.op == 3)=false:=by simp [h3]
          have HL:Hid (Cd.leaves c f x at' s [] = .known s ps):=by
            rw [Hid,HLI.out,if_neg (by simpa using h600N),if_neg h3];simp
          clear h3
          go_wp2_with (first | (at_builtin;refine Cd.wp_append_ints rfl _ _ 34 rfl wr.heap.size 3 i0 (.int .i64 0) Tryz.underlying34 hi0 hz0 hz1 hz2 rfl (.slice (some ⟨wr.heap.size,0,none⟩) 0 0) 0 [] rfl HO1.out w.heap.size (.slice sa s.length sc) rfl s HSV1.out (by omega) hbV1.size ?_;intro v1 w9 hown9 hg9;rw [Nat.zero_add,List.nil_append] at hown9;obtain ⟨a1,cap1,hv1⟩:=Cd.rowLen hown9;subst hv1;have hb9:=Cd.Below.grown hbV1 hg9 hbV1.size (fun g hg=>Cd.rowBlk HO1.out hg);obtain ⟨V2,hV2⟩:∃ V,w9.alloc (.cells #[.int .i64 1,.slice a1 s.length cap1,.slice none 0 0] 110)=V:=⟨_,rfl⟩;have hO2:=(show Cd.Bo wr w9.heap.size s (.slice a1 s.length cap1) (.slice none 0 0) V2 from (by rw [← hV2];exact Cd.Bo.new hb9 hown9));obtain ⟨⟨t0,t1,t2⟩,u0,u1,u2⟩:=hO2.o;obtain ⟨V2s,hV2s⟩:∃ V,V2.setCell ⟨w9.heap.size,2,none⟩ (.slice none 0 0)=V:=⟨_,rfl⟩;have hO2s:=(show Cd.Bo wr w9.heap.size s (.slice a1 s.length cap1) (.slice none 0 0) V2s from (by rw [← hV2s];exact hO2.set _));obtain ⟨V3,hV3⟩:∃ V,V2s.alloc (.cells #[] 3)=V:=⟨_,rfl⟩;have hO3:=(show Cd.Bo wr w9.heap.size s (.slice a1 s.length cap1) (.slice none 0 0) V3 from (by rw [← hV3];exact hO2s.alloc _));have s2V3:=(HBR.out.below hO3.since HD.out).s2;have HO3:=(show Hid (V3.ownsRow (w9.heap.size+1) 3 1 (.slice (some ⟨V2s.heap.size,0,none⟩) 0 0) 0 (Cd.ints [])) from (by rw [Hid,← hV3];exact Cd.own_new V2s _ hO2s.lt _))) | (at_builtin;refine Cd.wp_append_ints rfl _ _ 34 rfl (w9.heap.size+1) 3 i0 (.int .i64 0) Tryz.underlying34 hi0 hz0 hz1 hz2 rfl (.slice (some ⟨V2s.heap.size,0,none⟩) 0 0) 0 [] rfl HO3.out wr.heap.size (.slice none 0 0) rfl [] (hnil _ _) (by decide) hO3.lt ?_;intro v2 w10 hown10 hg10;rw [List.nil_append] at hown10;have hO10:=hO3.grown hg10 (fun g hg=>Cd.rowBlk HO3.out (by omega))) | (at_builtin;refine Cd.wp_append_ints rfl _ _ 34 rfl (w9.heap.size+1) 3 i0 (.int .i64 0) Tryz.underlying34 hi0 hz0 hz1 hz2 rfl v2 (0+([]:List Int).length) [] rfl hown10 wr.heap.size v rfl ps (HPR.out.below hO10.since) hn3 hO10.lt ?_;intro v3 w11 hown11 hg11;simp only [List.length_nil,Nat.zero_add,Nat.add_zero,List.nil_append] at hown11;obtain ⟨a3,cap3,hv3⟩:=Cd.rowLen hown11;subst hv3;have hO11:=hO10.grown hg11 (fun g hg=>Cd.rowBlk hown10 (by omega));obtain ⟨⟨m0,m1,m2⟩,n0,n1,n2⟩:=hO11.o;obtain ⟨X,hX⟩:∃ V,w11.setCell ⟨w9.heap.size,2,none⟩ (.slice a3 (ps.length) cap3)=V:=⟨_,rfl⟩;have hOX:=(show Cd.Bo wr w9.heap.size s (.slice a1 s.length cap1) (.slice a3 (ps.length) cap3) X from (by rw [← hX];exact hO11.set _));have hownX:=(show X.ownsRow (w9.heap.size+1) 3 1 (.slice a3 (ps.length) cap3) (ps.length) (Cd.ints (ps)) from (by rw [← hX];exact ownsRow_setCell_other (a:=⟨w9.heap.size,2,none⟩) hown11 (Cd.rowBlk hown11 (by show w9.heap.size < _;omega)) _));obtain ⟨⟨x0,x1,x2⟩,-,-,-⟩:=hOX.o;have hBX:=HBR.out.below hOX.since HD.out;have z0:=hBX.i0;have z1:=hBX.i1;have z2:=hBX.s2;obtain ⟨bb0,bb1,bb2⟩:=hBX.b;obtain ⟨⟨r0,r1,r2⟩,g0,g1,g2⟩:=hBX.r))
          refine bodyPost_ret (v:=Cd.shV 1 (.slice a1 s.length cap1) (.slice a3 ps.length cap3)) (by simp [results,Tryz.results49,go_sem,r0,r1,r2,Cd.shV]) rfl ⟨⟨_,rfl, ?_⟩,Cd.Below.set (Cd.Below.set (Cd.Below.set (HBWR.out.trans (hOX.since.mono HBWR.out.size)) 3 0 _) 3 1 _) 3 2 _⟩
          rw [HL.out]
          exact hOX.done hownX (w.heap.size+3) (by have:=HD.out;omega) _ _ _
end Go.Proofs.YtbkhedpabfanoaaGreatDoor
namespace Go.Proofs.YtbkhedpabfanoaaGreatDoor
open Go.RowKit

def Cd.stk : Cd.Sh→Prop
  | .known _ k=>k.length≤600
  | _=>True
theorem Cd.leaves_stk (c:List Cd.Fn) (f:Cd.Fn) (i:Cd.Ins) (u:Nat) (s k:List Int):Cd.stk (Cd.leaves c f i u s k):=by
  unfold Cd.leaves
  split
  · trivial
  · split
    · trivial
    · split
      · trivial
      · rename_i h;exact Nat.le_of_not_lt h
theorem Cd.behind_stk (c:List Cd.Fn) (f:Cd.Fn) (u:Nat):∀ a,Cd.stk (Cd.behind c f u a)
  | .none=>trivial
  | .known s k=>Cd.leaves_stk c f _ u s k
  | .clash=>trivial
theorem Cd.join_stk : ∀ {a b:Cd.Sh},Cd.stk a→Cd.stk b→Cd.stk (Cd.join a b)
  | .none,.none,_,_=>trivial
  | .none,.known _ _,_,h=>h
  | .none,.clash,_,_=>trivial
  | .known _ _,.none,h,_=>h
  | .known _ _,.clash,_,_=>trivial
  | .clash,.none,_,_=>trivial
  | .clash,.known _ _,_,_=>trivial
  | .clash,.clash,_,_=>trivial
  | .known s k,.known s' k',h,_=>by
    rw [Cd.join]
    by_cases e:k=k'
    · rw [if_pos e];exact h
    · rw [if_neg e];trivial
theorem Cd.behind_any (c:List Cd.Fn) (f:Cd.Fn) (at':Nat) (hat:at' < f.ins.length) (ca ia:Option Addr) (cc ic:Nat) (pv sv:Value) (sh:Cd.Sh) (hcl:c.length≤60) (hil:f.ins.length≤50000) (hsl:0≤f.slots) (hsl2:f.slots≤200) (hpl:∀ g ∈ c,g.params.length≤8) (hok:Cd.insOk c f f.ins[at']=true) (hlen:Cd.len f.slots.toNat sh) (hstk:Cd.stk sh) (w:World) (hC:Cd.CodeAt w.heap.size w (.slice ca c.length cc) c) (hI:Cd.InsAt w.heap.size w (.slice ia f.ins.length ic) f.ins) (hS:Cd.ShAt w.heap.size w sv sh) :
    Calls Tryz.prog 49 #[.agg #[.slice ca c.length cc],Cd.fnV f pv (.slice ia f.ins.length ic),.int .i64 (at':Int),sv] w fun e w'=>(∃ v,e = .returned v∧Cd.ShAt w'.heap.size w' v (Cd.behind c f at' sh))∧Below w.heap.size w w':=by
  cases sh with
  | none=>rw [show sv=_ from hS];exact Cd.behind_bad c f at' hat hil _ pv _ _ ia ic 0 (by decide) w hI
  | clash=>rw [show sv=_ from hS];exact Cd.behind_bad c f at' hat hil _ pv _ _ ia ic 2 (by decide) w hI
  | known s k =>
    obtain ⟨sa,sc,ka,kc,rfl,hkc,hka,hs,hk,_,_⟩:=hS
    have hl:s.length=f.slots.toNat:=hlen
    have hk6:k.length≤600:=hstk
    have e:Cd.behind c f at' (.known s k)=Cd.leaves c f f.ins[at'] at' s k:=by
      show Cd.leaves c f (f.ins.getD at' Cd.noIns) at' s k=_
      rw [List.getD_eq_getElem?_getD,List.getElem?_eq_getElem hat];rfl
    rw [e]
    rcases hka with ⟨rfl,rfl⟩ | ⟨g,rfl⟩
    · have h0:k=[]:=List.eq_nil_of_length_eq_zero (by omega)
      subst h0
      exact Cd.behind_nil c f at' hat s ca ia sa cc ic sc pv hcl hil (by omega) (by omega) hpl hok w hC hI hs
    · exact Cd.behind_known c f at' hat s k ca ia sa cc ic sc g kc pv hcl hil (by omega) hk6 hkc (by omega) hpl hok w hC hI hs hk
theorem Cd.join_any (m:Nat) (hm:m≤200) (a b:Cd.Sh) (va vb:Value) (ha:Cd.len m a) (hb:Cd.len m b) (hsa:Cd.stk a) (hsb:Cd.stk b) (w:World) (hA:Cd.ShAt w.heap.size w va a) (hB:Cd.ShAt w.heap.size w vb b) :
    Calls Tryz.prog 64 #[va,vb] w fun e w'=>(∃ v,e = .returned (.tuple #[v,.bool (decide (Cd.join a b≠a))])∧Cd.ShAt w'.heap.size w' v (Cd.join a b))∧Below w.heap.size w w':=by
  have fin:∀ {r:Cd.Sh} {v:Value} {q:Bool} (hq:decide (r≠a)=q) (hv:Cd.ShAt w.heap.size w v r) (h:Calls Tryz.prog 64 #[va,vb] w fun e w'=>e = .returned (.tuple #[v,.bool q])∧Below w.heap.size w w'),Calls Tryz.prog 64 #[va,vb] w fun e w'=>(∃ v,e = .returned (.tuple #[v,.bool (decide (r≠a))])∧Cd.ShAt w'.heap.size w' v r)∧Below w.heap.size w w':=fun hq hv h =>
    h.mono (fun e w' ⟨h1,h2⟩=>⟨⟨_,by rw [hq];exact h1,(hv.below h2).mono h2.size⟩,h2⟩)
  cases a with
  | none =>
    have ea:va=_:=hA
    cases b with
    | none =>
      have eb:vb=_:=hB
      refine fin (r:=.none) (q:=false) (by simp) hA ?_
      rw [ea,eb];exact Cd.join_00 _ _ _ _ _ _ _ _ _ _ _ _ w
    | clash =>
      have eb:vb=_:=hB
      refine fin (r:=.clash) (q:=true) (by simp) hB ?_
      rw [ea,eb];exact Cd.join_02 _ _ _ _ _ _ _ _ _ _ _ _ w
    | known s k =>
      refine fin (r:=.known s k) (q:=true) (by simp) hB ?_
      obtain ⟨sa,sc,ka,kc,rfl,_⟩:=hB
      rw [ea];exact Cd.join_01 _ _ _ _ _ _ _ _ _ _ _ _ w
  | clash =>
    have ea:va=_:=hA
    cases b with
    | none =>
      have eb:vb=_:=hB
      refine fin (r:=.clash) (q:=false) (by simp) hA ?_
      rw [ea,eb];exact Cd.join_20 _ _ _ _ _ _ _ _ _ _ _ _ w
    | clash =>
      have eb:vb=_:=hB
      refine fin (r:=.clash) (q:=false) (by simp) hA ?_
      rw [ea,eb];exact Cd.join_22 _ _ _ _ _ _ _ _ _ _ _ _ w
    | known s k =>
      refine fin (r:=.clash) (q:=false) (by simp) hA ?_
      obtain ⟨sa,sc,ka,kc,rfl,_⟩:=hB
      rw [ea];exact Cd.join_21 _ _ _ _ _ _ _ _ _ _ _ _ w
  | known s k =>
    cases b with
    | none =>
      have eb:vb=_:=hB
      refine fin (r:=.known s k) (q:=false) (by simp) hA ?_
      obtain ⟨sa,sc,ka,kc,rfl,_⟩:=hA
      rw [eb];exact Cd.join_10 _ _ _ _ _ _ _ _ _ _ _ _ w
    | clash =>
      have eb:vb=_:=hB
      refine fin (r:=.clash) (q:=true) (by simp) hB ?_
      obtain ⟨sa,sc,ka,kc,rfl,_⟩:=hA
      rw [eb];exact Cd.join_12 _ _ _ _ _ _ _ _ _ _ _ _ w
    | known t l =>
      have h1:s.length=m:=ha
      have h2:t.length=m:=hb
      have h3:k.length≤600:=hsa
      have h4:l.length≤600:=hsb
      obtain ⟨sa,c1,ka,c2,rfl,hkc,hka,hs,hk,_,hty⟩:=hA
      obtain ⟨sb,c3,kb,c4,rfl,_,_,ht,hl,_,_⟩:=hB
      by_cases e:k=l
      · have ej:Cd.join (.known s k) (.known t l) = .known (Cd.agree s t) k:=by rw [Cd.join,if_pos e]
        rw [ej]
        refine (Cd.join_ok s t k l (h1.trans h2.symm) (by omega) (by omega) (by omega) sa ka sb kb c1 c2 c3 c4 w hs ht hk hl e).mono ?_
        rintro e1 w' ⟨hv,rfl,hi,hty2,hbw⟩
        have hd:decide (Cd.Sh.known (Cd.agree s t) k ≠ .known s k)=decide (Cd.agree s t≠s):=by simp
        rw [hd]
        obtain ⟨ah,ch,rfl,hc⟩:=hi
        exact ⟨⟨_,rfl,ah,ch,ka,c2,rfl,hkc,hka,⟨ah,ch,rfl,hc⟩,(hk.below hbw).mono hbw.size,hty2,(hty.below hbw).keep (fun _ _=>rfl) hbw.size⟩,hbw⟩
      · have ej:Cd.join (.known s k) (.known t l) = .clash:=by rw [Cd.join,if_neg e]
        rw [ej]
        refine (Cd.join_st s t k l (h1.trans h2.symm) (by omega) (by omega) (by omega) sa ka sb kb c1 c2 c3 c4 w hs ht hk hl e).mono ?_
        rintro e1 w' ⟨rfl,hbw⟩
        exact ⟨⟨_,by simp,rfl⟩,hbw⟩
end Go.Proofs.YtbkhedpabfanoaaGreatDoor
