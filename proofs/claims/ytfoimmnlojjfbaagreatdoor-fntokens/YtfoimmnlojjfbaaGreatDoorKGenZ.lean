import Derived.Test.YtfoimmnlojjfbaaGreatDoorKTk
import Derived.Test.YtfoimmnlojjfbaaGreatDoorKGenXa
set_option maxRecDepth 100000
set_option maxHeartbeats 8000000
namespace Go.Proofs.YtfoimmnlojjfbaaGreatDoor
open Go.RowKit
theorem Gn.fn_any (B g R n:Nat) (HSM:Hid (Gn.SomeIs B g R n)) (d:Int) (hd : -1≤d) (hdn:d.toNat=n) (nm:ByteArray) (pv:Value) (ps:List Int) (res:Int) {P:Nat} {w:World} {nv:Value} {nl:List (ByteArray × Int)} {fv:Value} {F:List Gn.Sg} {ret loops count size:Int} (h:Gn.St B g R P w nv nl fv F ret loops count size) (hpar:w.ownsRow B 3 1 pv ps.length (Gn.intCs ps)) (hnm:nm.size≤30) (hpl:ps.length≤3) (hres:Gn.ty res) (hpt:∀ t ∈ ps,Gn.ty t) (hP:P+7 * Gn.mb n≤700000000) :
    Calls Tryz.prog 82 #[.pointer (some ⟨g,0,none⟩),.agg #[.string nm,pv,.int .i64 res],.int .i64 d] w (Gn.FPost B g R (P+7 * Gn.mb n) (7 * Gn.mb n) w fv F res):=by
  have HE2:Hid (Gn.ExprIs B g R 2):=Gn.expr_any B g R 2
  have e2:Gn.eb 2=2500:=rfl
  have HDN:Hid (d.toNat=n):=hdn
  have hmp:=Gn.mb_pos n
  have hgw:g < w.heap.size:=(Array.getElem?_eq_some_iff.1 h.box).1
  obtain ⟨pa,pc,rfl⟩:=Gn.rowLen hpar
  obtain ⟨m,HPL⟩:∃ m,Hid (ps.length=m):=⟨_,(rfl:ps.length=_)⟩
  rw [HPL.out] at hpar hpl
  rw [HPL.out]
  have HPT:Hid (∀ t ∈ ps,Gn.ty t):=hpt
  obtain ⟨V0,hV0⟩:∃ V,w.alloc (.cells #[.string nm,.slice pa m pc,.int .i64 res] 124)=V:=⟨_,rfl⟩
  have hb0:Below w.heap.size w V0:=Gn.below_new hV0
  have HBF:Hid (V0.heap[w.heap.size]? = some (.cells #[.string nm,.slice pa m pc,.int .i64 res] 124)):=by rw [Hid,← hV0];exact World.alloc_heap_new w _
  have hs0:=h.below hb0
  have HPA:Hid (V0.ownsRow B 3 1 (.slice pa m pc) m (Gn.intCs ps)):=Gn.own_keep hpar (fun k _ _ hl=>hb0.block k hl)
  obtain ⟨V0a,hV0a⟩:∃ V,V0.alloc (.cells #[] 140)=V:=⟨_,rfl⟩
  have hs0a:=hs0.below (Gn.below_new hV0a)
  have c1:=hs0a.cells.2.1
  have f1:=hs0a.froz 1
  obtain ⟨hs1,hf1⟩:=hs0.clear
  rw [hV0a] at hs1 hf1
  obtain ⟨V1,hV1⟩:∃ V,V0a.setCell ⟨g,1,none⟩ (.slice (some ⟨V0.heap.size,0,none⟩) 0 0)=V:=⟨_,rfl⟩
  rw [hV1] at hs1 hf1
  have c3:=hs1.cells.2.2.2.1
  have f3:=hs1.froz 3
  have b3:=hf1.blk HBF.out (by decide)
  have c3r:V1.cell? ⟨w.heap.size,2,none⟩=some (.int .i64 res):=by rw [Lib.cell_of_heap b3];rfl
  obtain ⟨hs2,hf2⟩:=hs1.setRet res hres
  obtain ⟨V2,hV2⟩:∃ V,V1.setCell ⟨g,3,none⟩ (.int .i64 res)=V:=⟨_,rfl⟩
  rw [hV2] at hs2 hf2
  have c4:=hs2.cells.2.2.2.2.1
  have f4:=hs2.froz 4
  obtain ⟨hs3,hf3⟩:=hs2.setLoops
  obtain ⟨V3,hV3⟩:∃ V,V2.setCell ⟨g,4,none⟩ (.int .i64 0)=V:=⟨_,rfl⟩
  rw [hV3] at hs3 hf3
  obtain ⟨V4,hV4⟩:∃ V,V3.alloc (.cells #[] 106)=V:=⟨_,rfl⟩
  have hb4:Below V3.heap.size V3 V4:=Gn.below_new hV4
  have HR4:Hid (Gn.Row V3.heap.size V4 (.slice (some ⟨V3.heap.size,0,none⟩) 0 0) 0):=by rw [Hid,← hV4];exact Gn.empty_row V3
  have HS4:Hid (Gn.St B g R P V4 (.slice (some ⟨V0.heap.size,0,none⟩) 0 0) [] fv F res 0 count size):=hs3.below hb4
  have HF4:Hid (Gn.Fw B V0 V4):=((hf1.trans hf2).trans hf3).trans (Gn.Fw.of_below hb4)
  have hz3:V0.heap.size≤V3.heap.size:=((hf1.trans hf2).trans hf3).size
  have hz4:V3.heap.size≤V4.heap.size:=hb4.size
  have HF34:Hid (Gn.Fw B V3 V4):=Gn.Fw.of_below hb4
  have HF0:Hid (Gn.Fw B w V0):=Gn.Fw.of_below hb0
  clear h hpar hdn hs0 hs0a hs1 hs2 hs3 hf1 hf2 hf3 b3 hb0 hb4 hpt
  go_enter Tryz.func82,Tryz.ntmps82
  go_wp2_with fail
  go_loopw [7,8] (fun o i wr => ∃ (j:Int) (oa:Option Addr) (on oc:Nat) (nv':Value) (nl':List (ByteArray × Int)),(0≤j∧j≤(m:Int))∧i = .int .i64 j∧o = .slice oa on oc∧Gn.Row V3.heap.size wr (.slice oa on oc) j.toNat∧Gn.St B g R (P+j.toNat) wr nv' nl' fv F res 0 count size∧Gn.Fw B V0 wr∧Gn.Fw B V3 wr) (fun _ i _=>m - (intOf i).toNat)
  case atStart=>exact ⟨0,_,_,_,_,_,⟨by decide,by omega⟩,rfl,rfl,HR4.out,HS4.out,HF4.out,HF34.out⟩
  case round =>
    obtain ⟨j,oa,on,oc,nv',nl',hj,rfl,rfl,hro,hs,hf,hf3⟩:=hrel
    obtain ⟨k,hk⟩:∃ k,j.toNat=k:=⟨_,rfl⟩
    rw [hk] at hro hs
    have hz:=hf3.size
    have hbf:=hf.blk HBF.out (by decide)
    have d0:wr.cell? ⟨w.heap.size,0,none⟩=some (.string nm):=by rw [Lib.cell_of_heap hbf];rfl
    have d1:wr.cell? ⟨w.heap.size,1,none⟩=some (.slice pa m pc):=by rw [Lib.cell_of_heap hbf];rfl
    have d2:wr.cell? ⟨w.heap.size,2,none⟩=some (.int .i64 res):=by rw [Lib.cell_of_heap hbf];rfl
    by_cases hkm2:k < m
    · have hlt:j < (m:Int):=by omega
      have hkl:k < ps.length:=by rw [HPL.out];exact hkm2
      obtain ⟨pb,rfl,-⟩:=Gn.int_cell (hf.row HPA.out (by decide)) HPL.out k hkm2
      obtain ⟨tk,HTK⟩:∃ t,Hid (ps[k]=t):=⟨_,(rfl:ps[k]=_)⟩
      have hty:Gn.ty tk:=by rw [← HTK.out];exact HPT.out _ (List.getElem_mem hkl)
      have hwk:=Gn.wrj hj hpl
      have k1:=hj.1
      have k2:=Gn.j_hi hj hpl
      go_wp2_with (first
        | (go_at_call 18;refine (Gn.dec_any j k1 k2 wr).mono ?_;rintro e w1 ⟨t,rfl,ht,hb1⟩
           have hlim:=Gn.lim1 ht
           have hlim2:=Gn.lim2 ht
           obtain ⟨x,hx0⟩:∃ x,(⟨#[112]⟩:ByteArray)++t=x:=⟨_,rfl⟩
           have hx:=Gn.app_le hx0 rfl ht
           have hs1:=hs.below hb1
           have hf1:=hf.trans (Gn.Fw.of_below hb1)
           have hbf1:=hf1.blk HBF.out (by decide)
           have i1:w1.cell? ⟨w.heap.size,1,none⟩=some (.slice (some ⟨pb,0,none⟩) m pc):=by rw [Lib.cell_of_heap hbf1];rfl
           have i2:=Gn.int_at (hf1.row HPA.out (by decide)) HPL.out k hkm2 hkl HTK.out
           obtain ⟨V5,hV5⟩:∃ V,w1.alloc (.cells #[.int .i64 22,.int .i64 0,.int .i64 tk,.int .i64 0,.string x,.int .i64 0] 106)=V:=⟨_,rfl⟩
           have hb5:=Gn.below_new hV5
           have hn5:=Gn.node_new ⟨22,0,tk,0,x,0⟩ (Nat.le_trans hx (by decide)) hV5
           have hro5:=(hro.fw (Gn.Fw.of_below (B:=B) hb1)).fw (Gn.Fw.of_below (B:=B) hb5)
           have hs5:=hs1.below hb5
           have hf35:=(hf3.trans (Gn.Fw.of_below hb1)).trans (Gn.Fw.of_below hb5)
           have hf5:=hf1.trans (Gn.Fw.of_below hb5)
           have hz5:V3.heap.size≤V5.heap.size:=Nat.le_trans (Nat.le_trans hz hb1.size) hb5.size
           clear hs1 hf1 hbf1 hb5 hb1)
        | (at_builtin;refine Gn.wp_rows rfl _ _ rfl rfl rfl hro5 hn5 hz5 (Gn.k_one hkm2 hpl) ?_;intro a6 n6 c6 w6 hr6 hfr6 hst6
           have hs6:=hst6 _ _ _ _ _ _ _ _ _ _ _ _ (Nat.lt_of_lt_of_le hgw (Nat.le_trans HF0.out.size hz3)) hs5
           have hf6:=hfr6 B V0 hz3 hf5
           have hf36:=hfr6 B V3 (Nat.le_refl _) hf35
           clear hs5 hf5 hro5 hn5 hst6 hfr6 hf35 i1 i2 d0 d1 d2))
      have hbf6:=hf6.blk HBF.out (by decide)
      have j1:w6.cell? ⟨w.heap.size,1,none⟩=some (.slice (some ⟨pb,0,none⟩) m pc):=by rw [Lib.cell_of_heap hbf6];rfl
      have j2:=Gn.int_at (hf6.row HPA.out (by decide)) HPL.out k hkm2 hkl HTK.out
      have c1:=hs6.cells.2.1
      refine wp_region_held_drew (S:=(fun W=>W.cell? ⟨w.heap.size,1,none⟩=some (.slice (some ⟨pb,0,none⟩) m pc)∧W.cell? ⟨pb,k,none⟩=some (.int .i64 tk))) (by kernel_rfl) (⟨j1,j2⟩) (fun hHeld => ?_)
      refine Tk 0 (.pointer (some ⟨g,0,none⟩)) rfl ?_
      try simp [Act.put]
      refine Tk 1 (.pointer (some ⟨g,0,none⟩)) rfl ?_
      try simp [Act.put]
      refine Tk 2 (.pointer (some ⟨g,0,none⟩)) rfl ?_
      try simp [Act.put]
      refine Tk 3 (.pointer (some ⟨g,1,none⟩)) rfl ?_
      try simp [Act.put]
      refine Tk 5 (.string x) rfl ?_
      try simp [Act.put]
      refine Tk 6 (.pointer (some ⟨w.heap.size,1,none⟩)) rfl ?_
      try simp [Act.put]
      refine Tk 7 (.slice (some ⟨pb,0,none⟩) m pc) rfl ?_
      try simp [Act.put]
      refine Tk 8 (.int .i64 j) rfl ?_
      try simp [Act.put]
      refine Tk 9 (.pointer (some ⟨pb,k,none⟩)) rfl ?_
      try simp [Act.put]
      refine Tk 10 (.int .i64 tk) rfl ?_
      try simp [Act.put]
      refine Tk 11 (.agg #[.string x,.int .i64 tk]) rfl ?_
      try simp [Act.put]
      have c1d:w6.drew.cell? ⟨g,1,none⟩=some nv':=c1
      obtain ⟨V,hV⟩:∃ V,(w6.alloc (.cells #[.string x,.int .i64 tk] 140)).drew=V:=⟨_,rfl⟩
      have hbV:Below w6.heap.size w6 V:=by rw [← hV];exact ((Below.refl _ w6).alloc (Nat.le_refl _) _).drew
      have hxV:V.heap[w6.heap.size]? = some (.cells #[.string x,.int .i64 tk] 140):=by rw [← hV];exact World.alloc_heap_new w6 _
      have l1:V.cell? ⟨w.heap.size,1,none⟩=some (.slice (some ⟨pb,0,none⟩) m pc):=by rw [← hV];exact Gn.ca j1
      have l2:V.cell? ⟨pb,k,none⟩=some (.int .i64 tk):=by rw [← hV];exact Gn.ca j2
      have l3:V.cell? ⟨g,1,none⟩=some nv':=by rw [← hV];exact Gn.ca c1
      refine wpAnyH_ready (rs:=[4,12]) (by kernel_rfl) (by simp) ?_
      refine AllReadyH.cons rfl (fun KK hK => ?_) (AllReadyH.cons rfl (fun KK hK => ?_) AllReadyH.nil)
      · go_simp
        refine hK.out _ _ (hHeld) (fun hHeld => ?_)
        clear hK
        try simp [Act.put]
        refine wpAnyH_ready (rs:=[12]) (by kernel_rfl) (by simp) ?_
        refine AllReadyH.cons rfl (fun KK hK => ?_) AllReadyH.nil
        go_simp
        try rw [hV]
        refine hK.out _ _ (⟨l1,l2⟩) (fun hHeld => ?_)
        clear hK
        try simp [Act.put]
        refine wpAnyH_ready (rs:=[13]) (by kernel_rfl) (by simp) ?_
        refine AllReadyH.cons rfl (fun KK hK => ?_) AllReadyH.nil
        refine Gn.step_name rfl _ _ rfl hs6 x tk hx hty (Gn.p_le hkm2 hpl hP) hbV hxV rfl rfl ?_
        intro na c5 w7 hc7 hs7 hf7 hg7
        obtain ⟨y1,y2⟩:=hc7
        have hfa:=hf6.trans hg7
        have hfb:=hf6.trans hf7
        have m1:w7.cell? ⟨w.heap.size,1,none⟩=some (.slice (some ⟨pb,0,none⟩) m pc):=by rw [Lib.cell_of_heap (hfa.blk HBF.out (by decide))];rfl
        have m2:=Gn.int_at (hfa.row HPA.out (by decide)) HPL.out k hkm2 hkl HTK.out
        obtain ⟨V8,hV8⟩:∃ V,w7.setCell ⟨g,1,none⟩ (.slice na (nl'.length+1) c5)=V:=⟨_,rfl⟩
        rw [hV8] at hs7 hf7 hfb
        have o1:V8.cell? ⟨w.heap.size,1,none⟩=some (.slice (some ⟨pb,0,none⟩) m pc):=by rw [Lib.cell_of_heap (hfb.blk HBF.out (by decide))];rfl
        have o2:=Gn.int_at (hfb.row HPA.out (by decide)) HPL.out k hkm2 hkl HTK.out
        refine hK.out _ _ (⟨m1,m2⟩) (fun hHeld => ?_)
        clear hK
        try simp [Act.put]
        refine Tk 14 (.pointer (some ⟨g,0,none⟩)) rfl ?_
        try simp [Act.put]
        refine Tk 15 (.pointer (some ⟨g,1,none⟩)) rfl ?_
        try simp [Act.put]
        refine wpAnyH_ready (rs:=[16]) (by kernel_rfl) (by simp) ?_
        refine AllReadyH.cons rfl (fun KK hK => ?_) AllReadyH.nil
        go_simp
        try rw [hV8]
        refine hK.out _ _ (⟨o1,o2⟩) (fun hHeld => ?_)
        clear hK
        try simp [Act.put]
        refine wpAnyH_done (by kernel_rfl) ?_ _
        have hr8:=hr6.fw hf7
        have hf38:=hf36.trans hf7
        clear hHeld j1 j2 c1 c1d l1 l2 l3 hbV hxV hV m1 m2 o1 o2 y1 y2 hfa hg7 hbf6 hx0 hlim hlim2 hV5 hz5 hV8
        go_wp2_with fail
        go_roundw
        case rel=>exact ⟨j+1,a6,n6,c6,_,_,by omega,rfl,rfl,by rw [Gn.j_nx hj hk];exact hr8,by rw [Gn.j_nx hj hk];exact hs7,hfb,hf38⟩
        case measure=>simp [intOf];omega
      · go_simp
        try rw [hV]
        refine hK.out _ _ (⟨l1,l2⟩) (fun hHeld => ?_)
        clear hK
        try simp [Act.put]
        refine wpAnyH_ready (rs:=[4]) (by kernel_rfl) (by simp) ?_
        refine AllReadyH.cons rfl (fun KK hK => ?_) AllReadyH.nil
        go_simp
        refine hK.out _ _ (⟨l1,l2⟩) (fun hHeld => ?_)
        clear hK
        try simp [Act.put]
        refine wpAnyH_ready (rs:=[13]) (by kernel_rfl) (by simp) ?_
        refine AllReadyH.cons rfl (fun KK hK => ?_) AllReadyH.nil
        refine Gn.step_name rfl _ _ rfl hs6 x tk hx hty (Gn.p_le hkm2 hpl hP) hbV hxV rfl rfl ?_
        intro na c5 w7 hc7 hs7 hf7 hg7
        obtain ⟨y1,y2⟩:=hc7
        have hfa:=hf6.trans hg7
        have hfb:=hf6.trans hf7
        have m1:w7.cell? ⟨w.heap.size,1,none⟩=some (.slice (some ⟨pb,0,none⟩) m pc):=by rw [Lib.cell_of_heap (hfa.blk HBF.out (by decide))];rfl
        have m2:=Gn.int_at (hfa.row HPA.out (by decide)) HPL.out k hkm2 hkl HTK.out
        obtain ⟨V8,hV8⟩:∃ V,w7.setCell ⟨g,1,none⟩ (.slice na (nl'.length+1) c5)=V:=⟨_,rfl⟩
        rw [hV8] at hs7 hf7 hfb
        have o1:V8.cell? ⟨w.heap.size,1,none⟩=some (.slice (some ⟨pb,0,none⟩) m pc):=by rw [Lib.cell_of_heap (hfb.blk HBF.out (by decide))];rfl
        have o2:=Gn.int_at (hfb.row HPA.out (by decide)) HPL.out k hkm2 hkl HTK.out
        refine hK.out _ _ (⟨m1,m2⟩) (fun hHeld => ?_)
        clear hK
        try simp [Act.put]
        refine Tk 14 (.pointer (some ⟨g,0,none⟩)) rfl ?_
        try simp [Act.put]
        refine Tk 15 (.pointer (some ⟨g,1,none⟩)) rfl ?_
        try simp [Act.put]
        refine wpAnyH_ready (rs:=[16]) (by kernel_rfl) (by simp) ?_
        refine AllReadyH.cons rfl (fun KK hK => ?_) AllReadyH.nil
        go_simp
        try rw [hV8]
        refine hK.out _ _ (⟨o1,o2⟩) (fun hHeld => ?_)
        clear hK
        try simp [Act.put]
        refine wpAnyH_done (by kernel_rfl) ?_ _
        have hr8:=hr6.fw hf7
        have hf38:=hf36.trans hf7
        clear hHeld j1 j2 c1 c1d l1 l2 l3 hbV hxV hV m1 m2 o1 o2 y1 y2 hfa hg7 hbf6 hx0 hlim hlim2 hV5 hz5 hV8
        go_wp2_with fail
        go_roundw
        case rel=>exact ⟨j+1,a6,n6,c6,_,_,by omega,rfl,rfl,by rw [Gn.j_nx hj hk];exact hr8,by rw [Gn.j_nx hj hk];exact hs7,hfb,hf38⟩
        case measure=>simp [intOf];omega
    · have hlt:¬ j < (m:Int):=by omega
      have hk3:k≤3:=by omega
      have HWM:Hid (wrap64 ((m:Int)+1)=(m:Int)+1):=Gn.wrm hpl
      have t0:Gn.Mk:=trivial
      have hgr:g < wr.heap.size:=Nat.lt_of_lt_of_le hgw (Nat.le_trans (Nat.le_trans HF0.out.size hz3) hz)
      have hg3:g < V3.heap.size:=Nat.lt_of_lt_of_le hgw (Nat.le_trans HF0.out.size hz3)
      obtain ⟨Z,hZ⟩:∃ Z:Nat,Z=8000:=⟨_,rfl⟩
      obtain ⟨b1,b2,b3,b4,b5,b6,b8,b10,b11,b12,p1,p2,p3,q1,q2,q3,b13,b14,b15,r1⟩:=Gn.fn_bounds hk3 hP hmp hZ
      clear hZ
      go_wp2_with (first
    | (go_at_call 101
       have _t:=t0
       clear t0
       refine (HSM.out d hd HDN.out _ wr _ _ _ _ _ _ _ _ hs b1).mono ?_
       rintro e w1 ⟨a1,n1,c1,k1,nv1,nl1,cnt1,sz1,rfl,hk1,hr1,hs1,hn1,hfA⟩
       have t1:Gn.Mk:=trivial)
    | (go_at_call 101
       have _t:=t1
       clear t1
       refine (HSM.out d hd HDN.out _ w1 _ _ _ _ _ _ _ _ hs1 b2).mono ?_
       rintro e w2 ⟨a2,n2,c2,k2,nv2,nl2,cnt2,sz2,rfl,hk2,hr2,hs2,hn2,hfx⟩
       have hr1:=hr1.fw hfx
       have hfA:=hfA.trans hfx
       have hwk:=Gn.wrkk hk1 hk2
       have hwk1:=Gn.wrkk1 hk1 hk2
       have hzA:=hfA.size
       clear hs1 hn1 hn2
       have t2:Gn.Mk:=trivial)
    | (at_builtin
       have _t:=t2
       clear t2
       refine Gn.wp_rows rfl _ _ rfl rfl rfl hr1 hr2 hzA b3 ?_
       intro a3 n3 c3 w3 hr3 hfr3 hst3
       have hs3:=hst3 _ _ _ _ _ _ _ _ _ _ _ _ hgr hs2
       have hfA:=hfr3 B wr (Nat.le_refl _) hfA
       have hbf3:=(hf.trans hfA).blk HBF.out (by decide)
       have d2:w3.cell? ⟨w.heap.size,2,none⟩=some (.int .i64 res):=by rw [Lib.cell_of_heap hbf3];rfl
       have c0:=hs3.cells.1
       clear hs2 hr1 hr2 hst3 hfr3 hbf3
       have t3:Gn.Mk:=trivial
       by_cases hr0:res=0)
    | (go_at_call 8
       have _t:=t3
       clear t3
       refine (Gn.pickI hs3 5 (by decide) (by decide) b4).mono ?_
       rintro e w4 ⟨v,rfl,hv,hs4,hfx⟩
       have hr3:=hr3.fw hfx
       have hfA:=hfA.trans hfx
       clear hs3 c0 d2
       have t4:Gn.Mk:=trivial)
    | (go_at_call 102
       have _t:=t4
       clear t4
       refine (HE2.out _ w4 _ _ _ _ _ _ _ _ 1 hs4 (by rw [e2];exact b5)).mono ?_
       rintro e w5 ⟨a5,n5,c5,s5,rfl,hr5,hs5,hfx⟩
       rw [e2] at hr5 hs5
       have hr3:=hr3.fr hfx
       have fA5:=hfA.trans hfx.w
       have hz5:=fA5.size
       clear hs4 hfA
       have tA1:Gn.Mk:=trivial)
    | (go_at_call 103
       have _t:=tA1
       clear tA1
       refine (Gn.back_any hs5 b6).mono ?_
       rintro e w6 ⟨a6,n6,c6,s6,rfl,hr6,hs6,f6⟩
       obtain ⟨V6,hV6⟩:∃ V,w6.alloc (.cells #[.int .i64 21,.int .i64 0,.int .i64 0,.int .i64 0,.string ⟨#[]⟩,.int .i64 1] 106)=V:=⟨_,rfl⟩
       have hbv:=Gn.below_new hV6
       have hn6:=Gn.node_new ⟨21,0,0,0,⟨#[]⟩,1⟩ Gn.no_text hV6
       have hr6:=hr6.fw (Gn.Fw.of_below (B:=B) hbv)
       have hs6:=hs6.below hbv
       have f6:=f6.trans (Gn.Fw.of_below hbv)
       have hzz:=f6.size
       clear hs5 hbv
       have tA2:Gn.Mk:=trivial)
    | (at_builtin
       have _t:=tA2
       clear tA2
       refine Gn.wp_rows rfl _ _ rfl rfl rfl hr6 hn6 hzz (by decide) ?_
       intro a8 n8 c8 w8 hr8 hfr8 hst8
       have hs8:=hst8 _ _ _ _ _ _ _ _ _ _ _ _ (Nat.lt_of_lt_of_le hgr hz5) hs6
       have f58:=hfr8 B w5 (Nat.le_refl _) f6
       have hz8:=Nat.le_trans hz5 f58.size
       clear hs6 hr6 hn6 f6 hst8 hfr8 hzz
       have tA3:Gn.Mk:=trivial)
    | (go_at_call 103
       have _t:=tA3
       clear tA3
       refine (Gn.back_any hs8 b8).mono ?_
       rintro e w9 ⟨a9,n9,c9,s9,rfl,hr9,hs9,f9⟩
       obtain ⟨V9,hV9⟩:∃ V,w9.alloc (.cells #[.int .i64 21,.int .i64 0,.int .i64 0,.int .i64 0,.string ⟨#[]⟩,.int .i64 1] 106)=V:=⟨_,rfl⟩
       have hbv:=Gn.below_new hV9
       have hn9:=Gn.node_new ⟨21,0,0,0,⟨#[]⟩,1⟩ Gn.no_text hV9
       have hr9:=hr9.fw (Gn.Fw.of_below (B:=B) hbv)
       have hs9:=hs9.below hbv
       have f9:=f9.trans (Gn.Fw.of_below hbv)
       have hzz:=f9.size
       clear hs8 hbv
       have tA4:Gn.Mk:=trivial)
    | (at_builtin
       have _t:=tA4
       clear tA4
       refine Gn.wp_rows rfl _ _ rfl rfl rfl hr9 hn9 hzz (by decide) ?_
       intro a11 n11 c11 w11 hr11 hfr11 hst11
       have hs11:=hst11 _ _ _ _ _ _ _ _ _ _ _ _ (Nat.lt_of_lt_of_le hgr hz8) hs9
       have f811:=hfr11 B w8 (Nat.le_refl _) f9
       have hr5:=(hr5.fw f58).fw f811
       have hr8:=hr8.fw f811
       have hr3:=(hr3.fw f58).fw f811
       have hfA:=(fA5.trans f58).trans f811
       clear hs9 hr9 hn9 f9 hst11 hfr11 hzz fA5 f58 f811
       have tA5:Gn.Mk:=trivial)
    | (go_at_call 77
       have _t:=tA5
       clear tA5
       refine (Gn.over3s ⟨12,0,0,0,⟨#[]⟩,0⟩ Gn.no_text hr5 hr8 hr11 (by decide)).mono ?_
       rintro e w12 ⟨a12,n12,c12,rfl,hr12,hb12⟩
       have hs12:=hs11.below hb12
       have hr3:=hr3.fw (Gn.Fw.of_below (B:=B) hb12)
       have hfA:=hfA.trans (Gn.Fw.of_below hb12)
       have hzA:=hfA.size
       clear hs11 hr5 hr8 hr11 hb12
       have tA6:Gn.Mk:=trivial)
    | (at_builtin
       have _t:=tA6
       clear tA6
       refine Gn.wp_rows rfl _ _ rfl rfl rfl hr3 hr12 hzA b10 ?_
       intro a13 n13 c13 w13 hr13 hfr13 hst13
       have hsF:=(hst13 _ _ _ _ _ _ _ _ _ _ _ _ hgr hs12).mono p1
       have hfA:=hfr13 B wr (Nat.le_refl _) hfA
       have hrb:=hr13.mono (Nat.le_refl _) q1
       have hroF:=hro.fw hfA
       have hzF:V3.heap.size≤w13.heap.size:=Nat.le_trans hz hfA.size
       have hfF:=hf.trans hfA
       clear hs12 hr3 hr12 hst13 hfr13 hr13
       have f1:Gn.Mk:=trivial)
    | (go_at_call 103
       have _t:=t4
       clear t4
       refine (Gn.back_any hs4 b11).mono ?_
       rintro e w5 ⟨a5,n5,c5,s5,rfl,hr5,hs5,hfx⟩
       have hr3:=hr3.fw hfx
       have hfA:=hfA.trans hfx
       have hzA:=hfA.size
       clear hs4
       have tB1:Gn.Mk:=trivial)
    | (at_builtin
       have _t:=tB1
       clear tB1
       refine Gn.wp_rows rfl _ _ rfl rfl rfl hr3 hr5 hzA b12 ?_
       intro a13 n13 c13 w13 hr13 hfr13 hst13
       have hsF:=(hst13 _ _ _ _ _ _ _ _ _ _ _ _ hgr hs5).mono p2
       have hfA:=hfr13 B wr (Nat.le_refl _) hfA
       have hrb:=hr13.mono (Nat.le_refl _) q2
       have hroF:=hro.fw hfA
       have hzF:V3.heap.size≤w13.heap.size:=Nat.le_trans hz hfA.size
       have hfF:=hf.trans hfA
       clear hs5 hr3 hr5 hst13 hfr13 hr13
       have f1:Gn.Mk:=trivial)
    | (at_builtin
       have _t:=f1
       clear f1
       refine Gn.wp_rows rfl _ _ rfl rfl rfl hroF hrb hzF b13 ?_
       intro a14 n14 c14 w14 hr14 hfr14 hst14
       have hs14:=hst14 _ _ _ _ _ _ _ _ _ _ _ _ hg3 hsF
       have hf14:=hfr14 B V0 hz3 hfF
       obtain ⟨V14,hV14⟩:∃ V,w14.alloc (.cells #[.int .i64 21,.int .i64 0,.int .i64 0,.int .i64 0,.string ⟨#[]⟩,.int .i64 (k1+k2+1)] 106)=V:=⟨_,rfl⟩
       have hbv:=Gn.below_new hV14
       have hn14:=Gn.node_new ⟨21,0,0,0,⟨#[]⟩,k1+k2+1⟩ Gn.no_text hV14
       have hr14:=hr14.fw (Gn.Fw.of_below (B:=B) hbv)
       have hs14:=hs14.below hbv
       have hf14:=hf14.trans (Gn.Fw.of_below hbv)
       have hf314:=(hfr14 B V3 (Nat.le_refl _) (hf3.trans hfA)).trans (Gn.Fw.of_below hbv)
       have hz14:=hf314.size
       clear hsF hroF hrb hfF hst14 hfr14 hbv
       have f2:Gn.Mk:=trivial)
    | (at_builtin
       have _t:=t3
       clear t3
       have hsF:=hs3.mono p3
       have hrb:=hr3.mono (Nat.le_refl _) q3
       have hroF:=hro.fw hfA
       have hzF:V3.heap.size≤w3.heap.size:=Nat.le_trans hz hfA.size
       have hfF:=hf.trans hfA
       clear hs3 hr3
       refine Gn.wp_rows rfl _ _ rfl rfl rfl hroF hrb hzF b13 ?_
       intro a14 n14 c14 w14 hr14 hfr14 hst14
       have hs14:=hst14 _ _ _ _ _ _ _ _ _ _ _ _ hg3 hsF
       have hf14:=hfr14 B V0 hz3 hfF
       obtain ⟨V14,hV14⟩:∃ V,w14.alloc (.cells #[.int .i64 21,.int .i64 0,.int .i64 0,.int .i64 0,.string ⟨#[]⟩,.int .i64 (k1+k2)] 106)=V:=⟨_,rfl⟩
       have hbv:=Gn.below_new hV14
       have hn14:=Gn.node_new ⟨21,0,0,0,⟨#[]⟩,k1+k2⟩ Gn.no_text hV14
       have hr14:=hr14.fw (Gn.Fw.of_below (B:=B) hbv)
       have hs14:=hs14.below hbv
       have hf14:=hf14.trans (Gn.Fw.of_below hbv)
       have hf314:=(hfr14 B V3 (Nat.le_refl _) (hf3.trans hfA)).trans (Gn.Fw.of_below hbv)
       have hz14:=hf314.size
       clear hsF hroF hrb hfF hst14 hfr14 hbv
       have f2:Gn.Mk:=trivial)
    | (at_builtin
       have _t:=f2
       clear f2
       refine Gn.wp_rows rfl _ _ rfl rfl rfl hr14 hn14 hz14 b14 ?_
       intro a15 n15 c15 w15 hr15 hfr15 hst15
       have hs15:=hst15 _ _ _ _ _ _ _ _ _ _ _ _ hg3 hs14
       have hf15:=hfr15 B V0 hz3 hf14
       have hbf5:=hf15.blk HBF.out (by decide)
       have g0:w15.cell? ⟨w.heap.size,0,none⟩=some (.string nm):=by rw [Lib.cell_of_heap hbf5];rfl
       have g1:w15.cell? ⟨w.heap.size,1,none⟩=some (.slice pa m pc):=by rw [Lib.cell_of_heap hbf5];rfl
       have g2:w15.cell? ⟨w.heap.size,2,none⟩=some (.int .i64 res):=by rw [Lib.cell_of_heap hbf5];rfl
       have hz15:=(hfr15 B V3 (Nat.le_refl _) hf314).size
       clear hs14 hr14 hn14 hf14 hst15 hfr15 hbf5
       have f3:Gn.Mk:=trivial)
    | (at_builtin
       have _t:=f3
       clear f3
       refine Gn.wp_rows rfl _ _ rfl rfl rfl (hr15.fw (Gn.Fw.of_below (B:=B) (Gn.below_al w15 _))) (Gn.new_one w15 ⟨23,0,_,0,nm,_⟩ (Nat.le_trans hnm (by decide))) (Nat.le_trans hz15 (Gn.below_al w15 _).size) b15 ?_
       intro a16 n16 c16 w16 hr16 hfr16 hst16
       have hs16:=hst16 _ _ _ _ _ _ _ _ _ _ _ _ hg3 (hs15.below (Gn.below_al w15 _))
       have hf16:=hfr16 B V0 hz3 (hf15.trans (Gn.Fw.of_below (Gn.below_al w15 _)))
       clear hs15 hr15 hf15 hst16 hfr16))
      all_goals
        go_ret
        exact ⟨a16,n16,c16,_,_,_,_,rfl,hr16.mono (Nat.le_trans HF0.out.size hz3) r1,hs16,HF0.out.trans hf16⟩
end Go.Proofs.YtfoimmnlojjfbaaGreatDoor
