import Derived.Test.YtkikhpppkpelfaaGreatKTk
import Derived.Test.YtkikhpppkpelfaaGreatKGnG
set_option maxRecDepth 100000
set_option maxHeartbeats 8000000
namespace Go.Proofs.YtkikhpppkpelfaaGreat
open Go.RowKit
theorem Gn.wi60 {v:Int} (h:0≤v∧v < 2):IntKind.i64.wrap (60+v)=60+v:=(IntWalk.i64_left _).trans (IntWalk.wrap64_in _ (by omega))
theorem Gn.bd_cons {N:Nat} {L r:List Bx.Fl} {f:Bx.Fl} {t:ByteArray} (h:Gn.Bd N L) (hL:L=f::r) (ht:t.size≤20000):∀ d ∈ (⟨f.name,t⟩:Bx.Fl)::r,d.name.size≤100∧d.text.size≤20000:=fun d hd=>by
  rcases List.mem_cons.1 hd with rfl | hd
  · exact ⟨(h.2 f (by rw [hL];exact List.mem_cons_self)).1,ht⟩
  · exact h.2 d (by rw [hL];exact List.mem_cons_of_mem _ hd)
theorem Gn.two_of {L:List Bx.Fl} (h:1 < L.length):∃ f g r,L=f::g::r:=by
  match L,h with
  | f::g::r,_=>exact ⟨f,g,r,rfl⟩
theorem Gn.bd_two {N:Nat} {L r:List Bx.Fl} {f g:Bx.Fl} (h:Gn.Bd N L) (hL:L=f::g::r):(∀ d ∈ (⟨g.name,f.text⟩:Bx.Fl)::g::r,d.name.size≤100∧d.text.size≤20000)∧∀ d ∈ (⟨g.name,g.text⟩:Bx.Fl)::g::r,d.name.size≤100∧d.text.size≤20000:=by
  have hf:=h.2 f (by rw [hL];simp)
  have hg:=h.2 g (by rw [hL];simp)
  have hr:∀ d ∈ g::r,d.name.size≤100∧d.text.size≤20000:=fun d hd=>h.2 d (by rw [hL];exact List.mem_cons_of_mem _ hd)
  refine ⟨fun d hd => ?_,fun d hd => ?_⟩
  · rcases List.mem_cons.1 hd with rfl | hd
    · exact ⟨hg.1,hf.2⟩
    · exact hr d hd
  · rcases List.mem_cons.1 hd with rfl | hd
    · exact hg
    · exact hr d hd
theorem Gn.many57 (W:World):Calls Tryz.prog 17 #[.string ⟨#[122]⟩,.int .i64 57] W fun e w' => ∃ t:ByteArray,e = .returned (.string t)∧t.size=57∧Below W.heap.size W w':=by
  refine (l1Many_any ⟨#[122]⟩ 57 W (by decide) (by decide)).mono ?_
  rintro e w' ⟨t,he,ht,hb⟩
  exact ⟨t,he,by rw [ht];rfl,hb⟩
theorem Gn.conv_two {W:World} {b:Nat} {c d:Int} (hx:W.heap[b]? = some (.cells #[.int .u8 c,.int .u8 d] 5)) (h0:0≤c) (h1:c≤255) (h2:0≤d) (h3:d≤255):(convert 22 9 (.slice (some ⟨b,0,none⟩) 2 2)).run Tryz.prog W = .ok (.string ⟨#[UInt8.ofNat c.toNat,UInt8.ofNat d.toNat]⟩) W:=by
  have h:W.ownsRow b 5 1 (.slice (some ⟨b,0,none⟩) 2 2) 2 [.int .u8 c,.int .u8 d]:=⟨rfl,.inr ⟨b,2,#[.int .u8 c,.int .u8 d],rfl,Nat.le_refl _,hx,Nat.le_refl _,by decide,rfl,rfl⟩⟩
  exact Mill.conv_own (acc:=[UInt8.ofNat c.toNat,UInt8.ofNat d.toNat]) Tryz.underlying22 Tryz.underlying5 Tryz.underlying9 (by
    simp only [Lib.byteCells,List.map_cons,List.map_nil,Mill.ofNat_toNat c h0 h1,Mill.ofNat_toNat d h2 h3];exact h)
theorem Gn.rq_of {j:Int} (hj:0≤j∧j≤42):∃ r q:Int,(r=((j.toNat % 26:Nat):Int)∧q=((j.toNat / 26:Nat):Int))∧j.tmod 26=r∧j.tdiv 26=q∧0≤65+r∧65+r≤255∧0≤97+q∧97+q≤255∧IntKind.i64.wrap (65+r)=65+r∧IntKind.i64.wrap (97+q)=97+q∧IntKind.u8.wrap (65+r)=65+r∧IntKind.u8.wrap (97+q)=97+q∧IntKind.i64.wrap q=q:=by
  refine ⟨_,_,⟨rfl,rfl⟩, ?_, ?_,by omega,by omega,by omega,by omega,(IntWalk.i64_left _).trans (IntWalk.wrap64_in _ (by omega)),(IntWalk.i64_left _).trans (IntWalk.wrap64_in _ (by omega)), ?_, ?_, ?_⟩
  · rw [Int.tmod_eq_emod_of_nonneg hj.1];omega
  · rw [Int.tdiv_eq_ediv_of_nonneg hj.1];omega
  · rw [IntKind.wrap_u8];omega
  · rw [IntKind.wrap_u8];omega
  · exact (IntWalk.i64_left _).trans (IntWalk.wrap64_in _ (by omega))
theorem Gn.nm_j {j r q:Int} {tz:ByteArray} (hj:0≤j∧j≤42) (h:r=((j.toNat % 26:Nat):Int)∧q=((j.toNat / 26:Nat):Int)) (ht:tz.size=57):Gn.Nm j.toNat (⟨#[122]⟩++tz++⟨#[UInt8.ofNat (65+r).toNat,UInt8.ofNat (97+q).toNat]⟩):=by
  have e1:(65+r).toNat=65+j.toNat % 26:=by omega
  have e2:(97+q).toNat=97+j.toNat / 26:=by omega
  rw [e1,e2]
  exact Gn.Nm.of _ (by rw [ByteArray.size_append,ht];rfl)
theorem Gn.nm_sz {k:Nat} {x:ByteArray} (h:Gn.Nm k x):x.size≤100:=by rw [h.1];decide
theorem Gn.put_bd50 {L:List Bx.Fl} {x:ByteArray} (h:Gn.Bd 50 L) (hl:L.length≤40) (hx:x.size≤100):Gn.Bd 50 (Bx.put L ⟨x,⟨#[]⟩⟩):=⟨Nat.le_trans (Bx.put_len _) (by omega),fun d hd=>by
  rcases Bx.put_mem hd with rfl | hd
  · exact ⟨hx,show (⟨#[]⟩:ByteArray).size≤20000 by decide⟩
  · exact h.2 d hd⟩
theorem Gn.wr_42 {j:Int} (hj:0≤j∧j≤42):wrap64 (j+1)=j+1:=IntWalk.wrap64_in _ (by omega)
theorem Gn.j_s {j:Int} (hj:0≤j∧j≤42):(j+1).toNat=j.toNat+1:=by omega
theorem Gn.j600 {j:Int} (hj:0≤j∧j≤42):j.toNat < 600:=by omega
theorem Gn.j41 {j:Int} {l k:Nat} (hj:0≤j∧j≤42) (h:l≤40) (hl:l=k+j.toNat):j < 42:=by omega
theorem Gn.j42 {j:Int} {l k:Nat} (hj:0≤j∧j≤42) (h:l≤40) (hl:l=k+j.toNat):0≤j+1∧j+1≤42:=by omega
theorem Gn.nat4 {v:Nat} (h:(v:Int) < 4):v < 4:=by omega
theorem Gn.spoil_any : Gn.SpoilIs:=by
  intro R P w A0 pa pn pc Lp hex hP hrp hbp hsp
  show Calls Tryz.prog 14 #[.pointer (some ⟨R,0,none⟩),.agg #[.slice pa pn pc]] w (Gn.SqPost R P w)
  obtain ⟨p,hp,hrd⟩:=hex
  have hRw:=hrd.lt
  obtain ⟨Vb,hVb⟩:∃ V,w.alloc (.cells #[.slice pa pn pc] 25)=V:=⟨_,rfl⟩
  have hbb:=Gn.below_new hVb
  have hx3:Vb.heap[w.heap.size]? = some (.cells #[.slice pa pn pc] 25):=by rw [← hVb];exact World.alloc_heap_new w _
  obtain ⟨Vc,hVc⟩:∃ V,Vb.alloc (.cells #[.slice none 0 0] 25)=V:=⟨_,rfl⟩
  have hbc:=Gn.below_new hVc
  obtain ⟨bt,hbt0⟩:∃ b,Vb.heap.size=b:=⟨_,rfl⟩
  have hres:Vc.heap[bt]? = some (.cells #[.slice none 0 0] 25):=by rw [← hVc,← hbt0];exact World.alloc_heap_new Vb _
  obtain ⟨Vd,hVd⟩:∃ V,Vc.alloc (.cells #[] 36)=V:=⟨_,rfl⟩
  have hbd:=Gn.below_new hVd
  obtain ⟨A,hA0⟩:∃ b,Vc.heap.size=b:=⟨_,rfl⟩
  have rowE:Vd.ownsRow A 36 2 (.slice (some ⟨A,0,none⟩) 0 0) 0 (Bx.fCs []):=by rw [← hVd,← hA0];exact ⟨rfl,.inr ⟨Vc.heap.size,0,#[],rfl,Nat.le_refl _,World.alloc_heap_new Vc _,Nat.le_refl _,by unfold maxLen;omega,rfl,rfl⟩⟩
  have hbD:Below w.heap.size w Vd:=(hbb.trans (hbc.mono hbb.size)).trans (hbd.mono (Nat.le_trans hbb.size hbc.size))
  have rowP:=Gn.own_keep hrp (fun k _ _ hl=>hbD.block k hl)
  have hxD:Vd.heap[w.heap.size]? = some (.cells #[.slice pa pn pc] 25):=(hbd.block _ (Nat.lt_of_lt_of_le (Array.getElem?_eq_some_iff.1 hx3).1 hbc.size)).trans ((hbc.block _ (Array.getElem?_eq_some_iff.1 hx3).1).trans hx3)
  have y3:Vd.cell? ⟨w.heap.size,0,none⟩=some (.slice pa pn pc):=by rw [Lib.cell_of_heap hxD];rfl
  have hresD:Vd.heap[bt]? = some (.cells #[.slice none 0 0] 25):=(hbd.block _ (Array.getElem?_eq_some_iff.1 hres).1).trans hres
  have drD:Mill.Dr R p 0 w Vd:=(Mill.Dr.refl hrd).below hbD
  have hbt:w.heap.size≤bt:=by rw [← hbt0];exact hbb.size
  have hwA:w.heap.size≤A:=by rw [← hA0];exact Nat.le_trans hbb.size hbc.size
  have hRA:R < A:=Nat.lt_of_lt_of_le hRw hwA
  have hAV:A≤Vd.heap.size:=by rw [← hA0];exact hbd.size
  have hSl:Lp.length≤1000:=Nat.le_trans hbp.1 (by decide)
  have hp8:p≤800000000:=Nat.le_trans hp hP
  have t0:Gn.Mk:=trivial
  clear hbb hbc hbd hx3 hres hrp hxD hbD
  go_enter Tryz.func14,Tryz.ntmps14
  go_wp2_with (first
    | (at_builtin
       have _t:=t0
       clear t0
       refine Gn.wp_files rfl _ _ rfl rowE rowP hSl hAV rfl rfl ?_
       intro a5 c5 w5 row5 hg5
       have dr5:=Gn.Dr_grow drD rowE hwA hRA hg5
       have hres5:=(hg5.block bt (Array.getElem?_eq_some_iff.1 hresD).1 (fun e=>by
         obtain ⟨_,c1,hc1⟩:=Gn.row_type rowE e.symm
         rw [hresD] at hc1;injection hc1 with hc1;injection hc1 with _ hc1 _;exact absurd hc1 (by decide))).trans hresD
       obtain ⟨Ve,hVe⟩:∃ V,w5.alloc (.cells #[.slice a5 Lp.length c5] 25)=V:=⟨_,rfl⟩
       have hbe:=Gn.below_new hVe
       obtain ⟨bp,hbp0⟩:∃ b,w5.heap.size=b:=⟨_,rfl⟩
       have hxe:Ve.heap[bp]? = some (.cells #[.slice a5 Lp.length c5] 25):=by rw [← hVe,← hbp0];exact World.alloc_heap_new w5 _
       have hAb:A≤bp:=by rw [← hbp0];exact Nat.le_trans hAV hg5.size
       have hRb:=Nat.lt_of_lt_of_le hRA hAb
       have hwb:=Nat.le_trans hwA hAb
       have soE:Gn.So bt bp A 9 Ve (.slice a5 Lp.length c5) Lp:=⟨(hbe.block _ (Array.getElem?_eq_some_iff.1 hres5).1).trans hres5,hxe,Gn.own_keep row5 (fun k _ _ hl=>hbe.block k hl),hbp,Nat.ne_of_lt (by rw [← hbp0];exact (Array.getElem?_eq_some_iff.1 hres5).1)⟩
       have drE:=dr5.below hbe
       clear hres5 hresD rowE rowP drD dr5 row5 hg5 hbe hxe y3
       have t1:Gn.Mk:=trivial)
    | (go_at_call 13
       have _t:=t1
       clear t1
       refine (Gn.pickDI 5 drE (by omega) (by decide) (by decide)).mono ?_
       rintro e w6 ⟨k,rfl,hk,dr6,hb6⟩
       have so6:=soE.but drE hb6 hRA
       have yB:=so6.cell
       have yR:w6.cell? ⟨bt,0,none⟩=some (.slice none 0 0):=by rw [Lib.cell_of_heap so6.res];rfl
       have zR:w6.frozen? ⟨bt,0,none⟩=false:=by simp [World.frozen?,so6.res]
       have hT9:(w6.setCell ⟨bt,0,none⟩ (.slice a5 Lp.length c5)).cell? ⟨bt,0,none⟩=some (.slice a5 Lp.length c5):=by rw [Lib.cell_of_heap (Gn.set_same so6.res)];rfl
       clear soE drE hb6
       rcases Gn.k5 hk with ⟨rfl,m0⟩ | ⟨rfl,m1⟩ | ⟨rfl,m2⟩ | ⟨rfl,m3⟩ | ⟨rfl,m4⟩))
  all_goals first
    | exact bodyPost_ret (v:=.agg #[(.slice a5 Lp.length c5)]) (by simp [results,Tryz.results14,go_sem,hT9]) rfl (Gn.sp_end dr6 (by decide) hp hrd (so6.mono (by decide)) hbt hwA)
    | skip
  · clear yB yR zR hT9
    go_wp2_with (first
        | (go_at_call 13
           have _t:=m0
           clear m0
           refine (Gn.pickDI 2 dr6 (by omega) (by decide) (by decide)).mono ?_
           rintro e w7 ⟨v,rfl,hv,dr7,hb7⟩
           have SO7:Hid (Gn.So bt bp A 9 w7 (.slice a5 Lp.length c5) Lp):=so6.but dr6 hb7 hRA
           have DR7:Hid (Mill.Dr R p (0+1+1) w w7):=dr7
           have hwn:=Gn.wrc 40 hv (by decide)
           clear dr7 hb7 so6 dr6))
    go_loopw [7] (fun i wr => ∃ (j:Int) (vv:Value) (L:List Bx.Fl),(0≤j∧j≤42)∧i = .int .i64 j∧Gn.So bt bp A 50 wr vv L∧Bx.Up L∧Gn.Nz j.toNat L∧L.length=Lp.length+j.toNat∧Mill.Dr R p (0+1+1) w wr) (fun i _=>(42 - intOf i).toNat)
    case atStart=>exact ⟨0,_,Lp,by decide,rfl,SO7.out.mono (by decide),hsp.1,Gn.Nz.start hsp,rfl,DR7.out⟩
    case round =>
      obtain ⟨j,vv,L,hj,rfl,so,hu,hnz,hLl0,dr⟩:=hrel
      have HLL:Hid (L.length=Lp.length+j.toNat):=hLl0
      clear hLl0
      by_cases hlt:(L.length:Int) < 40+v
      · obtain ⟨va,vc,rfl⟩:=Gn.rowLen so.row
        have hL41:L.length≤40:=by omega
        have hj41:=Gn.j41 hj hL41 HLL.out
        have hL9:L.length≤1000:=Nat.le_trans hL41 (by decide)
        have yB:=so.cell
        have hwj:=Gn.wr_42 hj
        obtain ⟨r,q,hrq0,hr1,hq1,b1,b2,b3,b4,i1,i2,i3,i4,i5⟩:=Gn.rq_of hj
        have HRQ:Hid (r=((j.toNat % 26:Nat):Int)∧q=((j.toNat / 26:Nat):Int)):=hrq0
        clear hrq0
        have drd:=dr.below ((Below.refl _ wr).drew)
        have sod:=so.below ((Below.refl _ wr).drew)
        go_wp2_with fail
        refine wp_region_held_drew (S:=(fun _=>True)) (by kernel_rfl) (trivial) (fun hHeld => ?_)
        refine Tk 0 (.pointer (some ⟨bp,0,none⟩)) rfl ?_
        try simp [Act.put]
        refine Tk 4 (.int .i64 j) rfl ?_
        try simp [Act.put]
        refine Tk 5 (.int .i64 r) rfl ?_
        try simp [Act.put]
        refine Tk 6 (.int .i64 (65+r)) rfl ?_
        try simp [Act.put]
        refine Tk 7 (.int .u8 (65+r)) rfl ?_
        try simp [Act.put]
        refine Tk 8 (.int .i64 j) rfl ?_
        try simp [Act.put]
        refine Tk 9 (.int .i64 q) rfl ?_
        try simp [Act.put]
        refine Tk 10 (.int .i64 (97+q)) rfl ?_
        try simp [Act.put]
        refine Tk 11 (.int .u8 (97+q)) rfl ?_
        try simp [Act.put]
        refine wpAnyH_ready (rs:=[1,2,12]) (by kernel_rfl) (by simp) ?_
        refine AllReadyH.cons rfl (fun KK hK => ?_) (AllReadyH.cons rfl (fun KK hK => ?_) (AllReadyH.cons rfl (fun KK hK => ?_) AllReadyH.nil))
        · have yL1:=sod.cell
          go_simp
          refine hK.out _ _ (trivial) (fun hHeld => ?_)
          clear hK
          try simp [Act.put]
          refine wpAnyH_ready (rs:=[2,12]) (by kernel_rfl) (by simp) ?_
          refine AllReadyH.cons rfl (fun KK hK => ?_) (AllReadyH.cons rfl (fun KK hK => ?_) AllReadyH.nil)
          · go_simp
            refine (Gn.many57 wr.drew).mono ?_
            rintro e wb ⟨tz,rfl,htz,hbwb⟩
            have drwb:=drd.below hbwb
            have sowb:=sod.below hbwb
            go_wp2
            refine hK.out _ _ (trivial) (fun hHeld => ?_)
            clear hK
            try simp [Act.put]
            refine Tk 3 (.string (⟨#[122]⟩++tz)) rfl ?_
            try simp [Act.put]
            refine wpAnyH_ready (rs:=[12]) (by kernel_rfl) (by simp) ?_
            refine AllReadyH.cons rfl (fun KK hK => ?_) AllReadyH.nil
            go_simp
            obtain ⟨Va,hVa⟩:∃ V,wb.alloc (.cells #[.int .u8 (65+r),.int .u8 (97+q)] 5)=V:=⟨_,rfl⟩
            have hbVa:Below wb.heap.size wb Va:=Gn.below_new hVa
            have tabVa:Va.heap[wb.heap.size]? = some (.cells #[.int .u8 (65+r),.int .u8 (97+q)] 5):=by rw [← hVa];exact World.alloc_heap_new wb _
            have drVa:=drwb.below hbVa
            have soVa:=sowb.below hbVa
            try rw [hVa]
            refine hK.out _ _ (trivial) (fun hHeld => ?_)
            clear hK
            try simp [Act.put]
            refine wpAnyH_ready (rs:=[13]) (by kernel_rfl) (by simp) ?_
            refine AllReadyH.cons rfl (fun KK hK => ?_) AllReadyH.nil
            have hcv:=Gn.conv_two tabVa b1 b2 b3 b4
            go_simp
            refine hK.out _ _ (trivial) (fun hHeld => ?_)
            clear hK
            try simp [Act.put]
            refine Tk 14 (.string (⟨#[122]⟩++tz++⟨#[UInt8.ofNat (65+r).toNat,UInt8.ofNat (97+q).toNat]⟩)) rfl ?_
            try simp [Act.put]
            refine wpAnyH_ready (rs:=[15]) (by kernel_rfl) (by simp) ?_
            refine AllReadyH.cons rfl (fun KK hK => ?_) AllReadyH.nil
            go_simp
            have hnm:=Gn.nm_j hj HRQ.out htz
            refine (Bx.l6put_any L hu _ _ _ Va hL9 (Bx.own_off soVa.row)).mono ?_
            rintro e w8 ⟨a8,c8,rfl,ho8,hb8⟩
            have so8:=(soVa.below hb8).set (N':=50) (v':=.slice a8 (Bx.put L ⟨⟨#[122]⟩++tz++⟨#[UInt8.ofNat (65+r).toNat,UInt8.ofNat (97+q).toNat]⟩,⟨#[]⟩⟩).length c8) (L':=Bx.put L ⟨⟨#[122]⟩++tz++⟨#[UInt8.ofNat (65+r).toNat,UInt8.ofNat (97+q).toNat]⟩,⟨#[]⟩⟩) (Gn.own_mono ho8 (Nat.le_trans hAb (Nat.le_of_lt (Array.getElem?_eq_some_iff.1 soVa.box).1))) (Gn.put_bd50 so.bd hL41 (Gn.nm_sz hnm))
            have y8:=(soVa.below hb8).cell
            have z8:=(soVa.below hb8).froz
            have dr8:=Gn.Dr_set (i:=0) (v:=.slice a8 (Bx.put L ⟨⟨#[122]⟩++tz++⟨#[UInt8.ofNat (65+r).toNat,UInt8.ofNat (97+q).toNat]⟩,⟨#[]⟩⟩).length c8) (drVa.below hb8) hwb hRb
            obtain ⟨V9,hV9⟩:∃ V,w8.setCell ⟨bp,0,none⟩ (.slice a8 (Bx.put L ⟨⟨#[122]⟩++tz++⟨#[UInt8.ofNat (65+r).toNat,UInt8.ofNat (97+q).toNat]⟩,⟨#[]⟩⟩).length c8)=V:=⟨_,rfl⟩
            rw [hV9] at so8 dr8
            go_wp2
            refine hK.out _ _ (trivial) (fun hHeld => ?_)
            clear hK
            try simp [Act.put]
            refine Tk 16 (.pointer (some ⟨bp,0,none⟩)) rfl ?_
            try simp [Act.put]
            refine wpAnyH_ready (rs:=[17]) (by kernel_rfl) (by simp) ?_
            refine AllReadyH.cons rfl (fun KK hK => ?_) AllReadyH.nil
            go_simp
            try rw [hV9]
            refine hK.out _ _ (trivial) (fun hHeld => ?_)
            clear hK
            try simp [Act.put]
            refine wpAnyH_done (by kernel_rfl) ?_ _
            clear hHeld y8 z8 hV9
            go_wp2_with fail
            go_roundw
            case rel=>exact ⟨j+1,_,_,Gn.j42 hj hL41 HLL.out,rfl,so8,Bx.up_put hu _,by rw [Gn.j_s hj];exact hnz.put hnm,by rw [Gn.j_s hj,Gn.put_len_new (hnz.new (Gn.j600 hj) hnm),HLL.out];rfl,dr8⟩
            case measure=>simp [intOf];omega
          · go_simp
            obtain ⟨Va,hVa⟩:∃ V,(wr.alloc (.cells #[.int .u8 (65+r),.int .u8 (97+q)] 5)).drew=V:=⟨_,rfl⟩
            have hbVa:Below wr.heap.size wr Va:=by rw [← hVa];exact ((Below.refl _ wr).alloc (Nat.le_refl _) _).drew
            have tabVa:Va.heap[wr.heap.size]? = some (.cells #[.int .u8 (65+r),.int .u8 (97+q)] 5):=by rw [← hVa];exact World.alloc_heap_new wr _
            have drVa:=dr.below hbVa
            have soVa:=so.below hbVa
            try rw [hVa]
            refine hK.out _ _ (trivial) (fun hHeld => ?_)
            clear hK
            try simp [Act.put]
            refine wpAnyH_ready (rs:=[2,13]) (by kernel_rfl) (by simp) ?_
            refine AllReadyH.cons rfl (fun KK hK => ?_) (AllReadyH.cons rfl (fun KK hK => ?_) AllReadyH.nil)
            · go_simp
              refine (Gn.many57 Va).mono ?_
              rintro e wb ⟨tz,rfl,htz,hbwb⟩
              have drwb:=drVa.below hbwb
              have sowb:=soVa.below hbwb
              have tabwb:=(hbwb.block _ (Array.getElem?_eq_some_iff.1 tabVa).1).trans tabVa
              go_wp2
              refine hK.out _ _ (trivial) (fun hHeld => ?_)
              clear hK
              try simp [Act.put]
              refine Tk 3 (.string (⟨#[122]⟩++tz)) rfl ?_
              try simp [Act.put]
              refine wpAnyH_ready (rs:=[13]) (by kernel_rfl) (by simp) ?_
              refine AllReadyH.cons rfl (fun KK hK => ?_) AllReadyH.nil
              have hcv:=Gn.conv_two tabwb b1 b2 b3 b4
              go_simp
              refine hK.out _ _ (trivial) (fun hHeld => ?_)
              clear hK
              try simp [Act.put]
              refine Tk 14 (.string (⟨#[122]⟩++tz++⟨#[UInt8.ofNat (65+r).toNat,UInt8.ofNat (97+q).toNat]⟩)) rfl ?_
              try simp [Act.put]
              refine wpAnyH_ready (rs:=[15]) (by kernel_rfl) (by simp) ?_
              refine AllReadyH.cons rfl (fun KK hK => ?_) AllReadyH.nil
              go_simp
              have hnm:=Gn.nm_j hj HRQ.out htz
              refine (Bx.l6put_any L hu _ _ _ wb hL9 (Bx.own_off sowb.row)).mono ?_
              rintro e w8 ⟨a8,c8,rfl,ho8,hb8⟩
              have so8:=(sowb.below hb8).set (N':=50) (v':=.slice a8 (Bx.put L ⟨⟨#[122]⟩++tz++⟨#[UInt8.ofNat (65+r).toNat,UInt8.ofNat (97+q).toNat]⟩,⟨#[]⟩⟩).length c8) (L':=Bx.put L ⟨⟨#[122]⟩++tz++⟨#[UInt8.ofNat (65+r).toNat,UInt8.ofNat (97+q).toNat]⟩,⟨#[]⟩⟩) (Gn.own_mono ho8 (Nat.le_trans hAb (Nat.le_of_lt (Array.getElem?_eq_some_iff.1 sowb.box).1))) (Gn.put_bd50 so.bd hL41 (Gn.nm_sz hnm))
              have y8:=(sowb.below hb8).cell
              have z8:=(sowb.below hb8).froz
              have dr8:=Gn.Dr_set (i:=0) (v:=.slice a8 (Bx.put L ⟨⟨#[122]⟩++tz++⟨#[UInt8.ofNat (65+r).toNat,UInt8.ofNat (97+q).toNat]⟩,⟨#[]⟩⟩).length c8) (drwb.below hb8) hwb hRb
              obtain ⟨V9,hV9⟩:∃ V,w8.setCell ⟨bp,0,none⟩ (.slice a8 (Bx.put L ⟨⟨#[122]⟩++tz++⟨#[UInt8.ofNat (65+r).toNat,UInt8.ofNat (97+q).toNat]⟩,⟨#[]⟩⟩).length c8)=V:=⟨_,rfl⟩
              rw [hV9] at so8 dr8
              go_wp2
              refine hK.out _ _ (trivial) (fun hHeld => ?_)
              clear hK
              try simp [Act.put]
              refine Tk 16 (.pointer (some ⟨bp,0,none⟩)) rfl ?_
              try simp [Act.put]
              refine wpAnyH_ready (rs:=[17]) (by kernel_rfl) (by simp) ?_
              refine AllReadyH.cons rfl (fun KK hK => ?_) AllReadyH.nil
              go_simp
              try rw [hV9]
              refine hK.out _ _ (trivial) (fun hHeld => ?_)
              clear hK
              try simp [Act.put]
              refine wpAnyH_done (by kernel_rfl) ?_ _
              clear hHeld y8 z8 hV9
              go_wp2_with fail
              go_roundw
              case rel=>exact ⟨j+1,_,_,Gn.j42 hj hL41 HLL.out,rfl,so8,Bx.up_put hu _,by rw [Gn.j_s hj];exact hnz.put hnm,by rw [Gn.j_s hj,Gn.put_len_new (hnz.new (Gn.j600 hj) hnm),HLL.out];rfl,dr8⟩
              case measure=>simp [intOf];omega
            · have hcv:=Gn.conv_two tabVa b1 b2 b3 b4
              go_simp
              refine hK.out _ _ (trivial) (fun hHeld => ?_)
              clear hK
              try simp [Act.put]
              refine wpAnyH_ready (rs:=[2]) (by kernel_rfl) (by simp) ?_
              refine AllReadyH.cons rfl (fun KK hK => ?_) AllReadyH.nil
              go_simp
              refine (Gn.many57 Va).mono ?_
              rintro e wb ⟨tz,rfl,htz,hbwb⟩
              have drwb:=drVa.below hbwb
              have sowb:=soVa.below hbwb
              have tabwb:=(hbwb.block _ (Array.getElem?_eq_some_iff.1 tabVa).1).trans tabVa
              go_wp2
              refine hK.out _ _ (trivial) (fun hHeld => ?_)
              clear hK
              try simp [Act.put]
              refine Tk 3 (.string (⟨#[122]⟩++tz)) rfl ?_
              try simp [Act.put]
              refine Tk 14 (.string (⟨#[122]⟩++tz++⟨#[UInt8.ofNat (65+r).toNat,UInt8.ofNat (97+q).toNat]⟩)) rfl ?_
              try simp [Act.put]
              refine wpAnyH_ready (rs:=[15]) (by kernel_rfl) (by simp) ?_
              refine AllReadyH.cons rfl (fun KK hK => ?_) AllReadyH.nil
              go_simp
              have hnm:=Gn.nm_j hj HRQ.out htz
              refine (Bx.l6put_any L hu _ _ _ wb hL9 (Bx.own_off sowb.row)).mono ?_
              rintro e w8 ⟨a8,c8,rfl,ho8,hb8⟩
              have so8:=(sowb.below hb8).set (N':=50) (v':=.slice a8 (Bx.put L ⟨⟨#[122]⟩++tz++⟨#[UInt8.ofNat (65+r).toNat,UInt8.ofNat (97+q).toNat]⟩,⟨#[]⟩⟩).length c8) (L':=Bx.put L ⟨⟨#[122]⟩++tz++⟨#[UInt8.ofNat (65+r).toNat,UInt8.ofNat (97+q).toNat]⟩,⟨#[]⟩⟩) (Gn.own_mono ho8 (Nat.le_trans hAb (Nat.le_of_lt (Array.getElem?_eq_some_iff.1 sowb.box).1))) (Gn.put_bd50 so.bd hL41 (Gn.nm_sz hnm))
              have y8:=(sowb.below hb8).cell
              have z8:=(sowb.below hb8).froz
              have dr8:=Gn.Dr_set (i:=0) (v:=.slice a8 (Bx.put L ⟨⟨#[122]⟩++tz++⟨#[UInt8.ofNat (65+r).toNat,UInt8.ofNat (97+q).toNat]⟩,⟨#[]⟩⟩).length c8) (drwb.below hb8) hwb hRb
              obtain ⟨V9,hV9⟩:∃ V,w8.setCell ⟨bp,0,none⟩ (.slice a8 (Bx.put L ⟨⟨#[122]⟩++tz++⟨#[UInt8.ofNat (65+r).toNat,UInt8.ofNat (97+q).toNat]⟩,⟨#[]⟩⟩).length c8)=V:=⟨_,rfl⟩
              rw [hV9] at so8 dr8
              go_wp2
              refine hK.out _ _ (trivial) (fun hHeld => ?_)
              clear hK
              try simp [Act.put]
              refine Tk 16 (.pointer (some ⟨bp,0,none⟩)) rfl ?_
              try simp [Act.put]
              refine wpAnyH_ready (rs:=[17]) (by kernel_rfl) (by simp) ?_
              refine AllReadyH.cons rfl (fun KK hK => ?_) AllReadyH.nil
              go_simp
              try rw [hV9]
              refine hK.out _ _ (trivial) (fun hHeld => ?_)
              clear hK
              try simp [Act.put]
              refine wpAnyH_done (by kernel_rfl) ?_ _
              clear hHeld y8 z8 hV9
              go_wp2_with fail
              go_roundw
              case rel=>exact ⟨j+1,_,_,Gn.j42 hj hL41 HLL.out,rfl,so8,Bx.up_put hu _,by rw [Gn.j_s hj];exact hnz.put hnm,by rw [Gn.j_s hj,Gn.put_len_new (hnz.new (Gn.j600 hj) hnm),HLL.out];rfl,dr8⟩
              case measure=>simp [intOf];omega
        · go_simp
          refine (Gn.many57 wr.drew).mono ?_
          rintro e wb ⟨tz,rfl,htz,hbwb⟩
          have drwb:=drd.below hbwb
          have sowb:=sod.below hbwb
          go_wp2
          refine hK.out _ _ (trivial) (fun hHeld => ?_)
          clear hK
          try simp [Act.put]
          refine Tk 3 (.string (⟨#[122]⟩++tz)) rfl ?_
          try simp [Act.put]
          refine wpAnyH_ready (rs:=[1,12]) (by kernel_rfl) (by simp) ?_
          refine AllReadyH.cons rfl (fun KK hK => ?_) (AllReadyH.cons rfl (fun KK hK => ?_) AllReadyH.nil)
          · have yL1:=sowb.cell
            go_simp
            refine hK.out _ _ (trivial) (fun hHeld => ?_)
            clear hK
            try simp [Act.put]
            refine wpAnyH_ready (rs:=[12]) (by kernel_rfl) (by simp) ?_
            refine AllReadyH.cons rfl (fun KK hK => ?_) AllReadyH.nil
            go_simp
            obtain ⟨Va,hVa⟩:∃ V,wb.alloc (.cells #[.int .u8 (65+r),.int .u8 (97+q)] 5)=V:=⟨_,rfl⟩
            have hbVa:Below wb.heap.size wb Va:=Gn.below_new hVa
            have tabVa:Va.heap[wb.heap.size]? = some (.cells #[.int .u8 (65+r),.int .u8 (97+q)] 5):=by rw [← hVa];exact World.alloc_heap_new wb _
            have drVa:=drwb.below hbVa
            have soVa:=sowb.below hbVa
            try rw [hVa]
            refine hK.out _ _ (trivial) (fun hHeld => ?_)
            clear hK
            try simp [Act.put]
            refine wpAnyH_ready (rs:=[13]) (by kernel_rfl) (by simp) ?_
            refine AllReadyH.cons rfl (fun KK hK => ?_) AllReadyH.nil
            have hcv:=Gn.conv_two tabVa b1 b2 b3 b4
            go_simp
            refine hK.out _ _ (trivial) (fun hHeld => ?_)
            clear hK
            try simp [Act.put]
            refine Tk 14 (.string (⟨#[122]⟩++tz++⟨#[UInt8.ofNat (65+r).toNat,UInt8.ofNat (97+q).toNat]⟩)) rfl ?_
            try simp [Act.put]
            refine wpAnyH_ready (rs:=[15]) (by kernel_rfl) (by simp) ?_
            refine AllReadyH.cons rfl (fun KK hK => ?_) AllReadyH.nil
            go_simp
            have hnm:=Gn.nm_j hj HRQ.out htz
            refine (Bx.l6put_any L hu _ _ _ Va hL9 (Bx.own_off soVa.row)).mono ?_
            rintro e w8 ⟨a8,c8,rfl,ho8,hb8⟩
            have so8:=(soVa.below hb8).set (N':=50) (v':=.slice a8 (Bx.put L ⟨⟨#[122]⟩++tz++⟨#[UInt8.ofNat (65+r).toNat,UInt8.ofNat (97+q).toNat]⟩,⟨#[]⟩⟩).length c8) (L':=Bx.put L ⟨⟨#[122]⟩++tz++⟨#[UInt8.ofNat (65+r).toNat,UInt8.ofNat (97+q).toNat]⟩,⟨#[]⟩⟩) (Gn.own_mono ho8 (Nat.le_trans hAb (Nat.le_of_lt (Array.getElem?_eq_some_iff.1 soVa.box).1))) (Gn.put_bd50 so.bd hL41 (Gn.nm_sz hnm))
            have y8:=(soVa.below hb8).cell
            have z8:=(soVa.below hb8).froz
            have dr8:=Gn.Dr_set (i:=0) (v:=.slice a8 (Bx.put L ⟨⟨#[122]⟩++tz++⟨#[UInt8.ofNat (65+r).toNat,UInt8.ofNat (97+q).toNat]⟩,⟨#[]⟩⟩).length c8) (drVa.below hb8) hwb hRb
            obtain ⟨V9,hV9⟩:∃ V,w8.setCell ⟨bp,0,none⟩ (.slice a8 (Bx.put L ⟨⟨#[122]⟩++tz++⟨#[UInt8.ofNat (65+r).toNat,UInt8.ofNat (97+q).toNat]⟩,⟨#[]⟩⟩).length c8)=V:=⟨_,rfl⟩
            rw [hV9] at so8 dr8
            go_wp2
            refine hK.out _ _ (trivial) (fun hHeld => ?_)
            clear hK
            try simp [Act.put]
            refine Tk 16 (.pointer (some ⟨bp,0,none⟩)) rfl ?_
            try simp [Act.put]
            refine wpAnyH_ready (rs:=[17]) (by kernel_rfl) (by simp) ?_
            refine AllReadyH.cons rfl (fun KK hK => ?_) AllReadyH.nil
            go_simp
            try rw [hV9]
            refine hK.out _ _ (trivial) (fun hHeld => ?_)
            clear hK
            try simp [Act.put]
            refine wpAnyH_done (by kernel_rfl) ?_ _
            clear hHeld y8 z8 hV9
            go_wp2_with fail
            go_roundw
            case rel=>exact ⟨j+1,_,_,Gn.j42 hj hL41 HLL.out,rfl,so8,Bx.up_put hu _,by rw [Gn.j_s hj];exact hnz.put hnm,by rw [Gn.j_s hj,Gn.put_len_new (hnz.new (Gn.j600 hj) hnm),HLL.out];rfl,dr8⟩
            case measure=>simp [intOf];omega
          · go_simp
            obtain ⟨Va,hVa⟩:∃ V,wb.alloc (.cells #[.int .u8 (65+r),.int .u8 (97+q)] 5)=V:=⟨_,rfl⟩
            have hbVa:Below wb.heap.size wb Va:=Gn.below_new hVa
            have tabVa:Va.heap[wb.heap.size]? = some (.cells #[.int .u8 (65+r),.int .u8 (97+q)] 5):=by rw [← hVa];exact World.alloc_heap_new wb _
            have drVa:=drwb.below hbVa
            have soVa:=sowb.below hbVa
            try rw [hVa]
            refine hK.out _ _ (trivial) (fun hHeld => ?_)
            clear hK
            try simp [Act.put]
            refine wpAnyH_ready (rs:=[1,13]) (by kernel_rfl) (by simp) ?_
            refine AllReadyH.cons rfl (fun KK hK => ?_) (AllReadyH.cons rfl (fun KK hK => ?_) AllReadyH.nil)
            · have yL1:=soVa.cell
              go_simp
              refine hK.out _ _ (trivial) (fun hHeld => ?_)
              clear hK
              try simp [Act.put]
              refine wpAnyH_ready (rs:=[13]) (by kernel_rfl) (by simp) ?_
              refine AllReadyH.cons rfl (fun KK hK => ?_) AllReadyH.nil
              have hcv:=Gn.conv_two tabVa b1 b2 b3 b4
              go_simp
              refine hK.out _ _ (trivial) (fun hHeld => ?_)
              clear hK
              try simp [Act.put]
              refine Tk 14 (.string (⟨#[122]⟩++tz++⟨#[UInt8.ofNat (65+r).toNat,UInt8.ofNat (97+q).toNat]⟩)) rfl ?_
              try simp [Act.put]
              refine wpAnyH_ready (rs:=[15]) (by kernel_rfl) (by simp) ?_
              refine AllReadyH.cons rfl (fun KK hK => ?_) AllReadyH.nil
              go_simp
              have hnm:=Gn.nm_j hj HRQ.out htz
              refine (Bx.l6put_any L hu _ _ _ Va hL9 (Bx.own_off soVa.row)).mono ?_
              rintro e w8 ⟨a8,c8,rfl,ho8,hb8⟩
              have so8:=(soVa.below hb8).set (N':=50) (v':=.slice a8 (Bx.put L ⟨⟨#[122]⟩++tz++⟨#[UInt8.ofNat (65+r).toNat,UInt8.ofNat (97+q).toNat]⟩,⟨#[]⟩⟩).length c8) (L':=Bx.put L ⟨⟨#[122]⟩++tz++⟨#[UInt8.ofNat (65+r).toNat,UInt8.ofNat (97+q).toNat]⟩,⟨#[]⟩⟩) (Gn.own_mono ho8 (Nat.le_trans hAb (Nat.le_of_lt (Array.getElem?_eq_some_iff.1 soVa.box).1))) (Gn.put_bd50 so.bd hL41 (Gn.nm_sz hnm))
              have y8:=(soVa.below hb8).cell
              have z8:=(soVa.below hb8).froz
              have dr8:=Gn.Dr_set (i:=0) (v:=.slice a8 (Bx.put L ⟨⟨#[122]⟩++tz++⟨#[UInt8.ofNat (65+r).toNat,UInt8.ofNat (97+q).toNat]⟩,⟨#[]⟩⟩).length c8) (drVa.below hb8) hwb hRb
              obtain ⟨V9,hV9⟩:∃ V,w8.setCell ⟨bp,0,none⟩ (.slice a8 (Bx.put L ⟨⟨#[122]⟩++tz++⟨#[UInt8.ofNat (65+r).toNat,UInt8.ofNat (97+q).toNat]⟩,⟨#[]⟩⟩).length c8)=V:=⟨_,rfl⟩
              rw [hV9] at so8 dr8
              go_wp2
              refine hK.out _ _ (trivial) (fun hHeld => ?_)
              clear hK
              try simp [Act.put]
              refine Tk 16 (.pointer (some ⟨bp,0,none⟩)) rfl ?_
              try simp [Act.put]
              refine wpAnyH_ready (rs:=[17]) (by kernel_rfl) (by simp) ?_
              refine AllReadyH.cons rfl (fun KK hK => ?_) AllReadyH.nil
              go_simp
              try rw [hV9]
              refine hK.out _ _ (trivial) (fun hHeld => ?_)
              clear hK
              try simp [Act.put]
              refine wpAnyH_done (by kernel_rfl) ?_ _
              clear hHeld y8 z8 hV9
              go_wp2_with fail
              go_roundw
              case rel=>exact ⟨j+1,_,_,Gn.j42 hj hL41 HLL.out,rfl,so8,Bx.up_put hu _,by rw [Gn.j_s hj];exact hnz.put hnm,by rw [Gn.j_s hj,Gn.put_len_new (hnz.new (Gn.j600 hj) hnm),HLL.out];rfl,dr8⟩
              case measure=>simp [intOf];omega
            · have hcv:=Gn.conv_two tabVa b1 b2 b3 b4
              go_simp
              refine hK.out _ _ (trivial) (fun hHeld => ?_)
              clear hK
              try simp [Act.put]
              refine Tk 14 (.string (⟨#[122]⟩++tz++⟨#[UInt8.ofNat (65+r).toNat,UInt8.ofNat (97+q).toNat]⟩)) rfl ?_
              try simp [Act.put]
              refine wpAnyH_ready (rs:=[1]) (by kernel_rfl) (by simp) ?_
              refine AllReadyH.cons rfl (fun KK hK => ?_) AllReadyH.nil
              have yL1:=soVa.cell
              go_simp
              refine hK.out _ _ (trivial) (fun hHeld => ?_)
              clear hK
              try simp [Act.put]
              refine wpAnyH_ready (rs:=[15]) (by kernel_rfl) (by simp) ?_
              refine AllReadyH.cons rfl (fun KK hK => ?_) AllReadyH.nil
              go_simp
              have hnm:=Gn.nm_j hj HRQ.out htz
              refine (Bx.l6put_any L hu _ _ _ Va hL9 (Bx.own_off soVa.row)).mono ?_
              rintro e w8 ⟨a8,c8,rfl,ho8,hb8⟩
              have so8:=(soVa.below hb8).set (N':=50) (v':=.slice a8 (Bx.put L ⟨⟨#[122]⟩++tz++⟨#[UInt8.ofNat (65+r).toNat,UInt8.ofNat (97+q).toNat]⟩,⟨#[]⟩⟩).length c8) (L':=Bx.put L ⟨⟨#[122]⟩++tz++⟨#[UInt8.ofNat (65+r).toNat,UInt8.ofNat (97+q).toNat]⟩,⟨#[]⟩⟩) (Gn.own_mono ho8 (Nat.le_trans hAb (Nat.le_of_lt (Array.getElem?_eq_some_iff.1 soVa.box).1))) (Gn.put_bd50 so.bd hL41 (Gn.nm_sz hnm))
              have y8:=(soVa.below hb8).cell
              have z8:=(soVa.below hb8).froz
              have dr8:=Gn.Dr_set (i:=0) (v:=.slice a8 (Bx.put L ⟨⟨#[122]⟩++tz++⟨#[UInt8.ofNat (65+r).toNat,UInt8.ofNat (97+q).toNat]⟩,⟨#[]⟩⟩).length c8) (drVa.below hb8) hwb hRb
              obtain ⟨V9,hV9⟩:∃ V,w8.setCell ⟨bp,0,none⟩ (.slice a8 (Bx.put L ⟨⟨#[122]⟩++tz++⟨#[UInt8.ofNat (65+r).toNat,UInt8.ofNat (97+q).toNat]⟩,⟨#[]⟩⟩).length c8)=V:=⟨_,rfl⟩
              rw [hV9] at so8 dr8
              go_wp2
              refine hK.out _ _ (trivial) (fun hHeld => ?_)
              clear hK
              try simp [Act.put]
              refine Tk 16 (.pointer (some ⟨bp,0,none⟩)) rfl ?_
              try simp [Act.put]
              refine wpAnyH_ready (rs:=[17]) (by kernel_rfl) (by simp) ?_
              refine AllReadyH.cons rfl (fun KK hK => ?_) AllReadyH.nil
              go_simp
              try rw [hV9]
              refine hK.out _ _ (trivial) (fun hHeld => ?_)
              clear hK
              try simp [Act.put]
              refine wpAnyH_done (by kernel_rfl) ?_ _
              clear hHeld y8 z8 hV9
              go_wp2_with fail
              go_roundw
              case rel=>exact ⟨j+1,_,_,Gn.j42 hj hL41 HLL.out,rfl,so8,Bx.up_put hu _,by rw [Gn.j_s hj];exact hnz.put hnm,by rw [Gn.j_s hj,Gn.put_len_new (hnz.new (Gn.j600 hj) hnm),HLL.out];rfl,dr8⟩
              case measure=>simp [intOf];omega
        · go_simp
          obtain ⟨Va,hVa⟩:∃ V,(wr.alloc (.cells #[.int .u8 (65+r),.int .u8 (97+q)] 5)).drew=V:=⟨_,rfl⟩
          have hbVa:Below wr.heap.size wr Va:=by rw [← hVa];exact ((Below.refl _ wr).alloc (Nat.le_refl _) _).drew
          have tabVa:Va.heap[wr.heap.size]? = some (.cells #[.int .u8 (65+r),.int .u8 (97+q)] 5):=by rw [← hVa];exact World.alloc_heap_new wr _
          have drVa:=dr.below hbVa
          have soVa:=so.below hbVa
          try rw [hVa]
          refine hK.out _ _ (trivial) (fun hHeld => ?_)
          clear hK
          try simp [Act.put]
          refine wpAnyH_ready (rs:=[1,2,13]) (by kernel_rfl) (by simp) ?_
          refine AllReadyH.cons rfl (fun KK hK => ?_) (AllReadyH.cons rfl (fun KK hK => ?_) (AllReadyH.cons rfl (fun KK hK => ?_) AllReadyH.nil))
          · have yL1:=soVa.cell
            go_simp
            refine hK.out _ _ (trivial) (fun hHeld => ?_)
            clear hK
            try simp [Act.put]
            refine wpAnyH_ready (rs:=[2,13]) (by kernel_rfl) (by simp) ?_
            refine AllReadyH.cons rfl (fun KK hK => ?_) (AllReadyH.cons rfl (fun KK hK => ?_) AllReadyH.nil)
            · go_simp
              refine (Gn.many57 Va).mono ?_
              rintro e wb ⟨tz,rfl,htz,hbwb⟩
              have drwb:=drVa.below hbwb
              have sowb:=soVa.below hbwb
              have tabwb:=(hbwb.block _ (Array.getElem?_eq_some_iff.1 tabVa).1).trans tabVa
              go_wp2
              refine hK.out _ _ (trivial) (fun hHeld => ?_)
              clear hK
              try simp [Act.put]
              refine Tk 3 (.string (⟨#[122]⟩++tz)) rfl ?_
              try simp [Act.put]
              refine wpAnyH_ready (rs:=[13]) (by kernel_rfl) (by simp) ?_
              refine AllReadyH.cons rfl (fun KK hK => ?_) AllReadyH.nil
              have hcv:=Gn.conv_two tabwb b1 b2 b3 b4
              go_simp
              refine hK.out _ _ (trivial) (fun hHeld => ?_)
              clear hK
              try simp [Act.put]
              refine Tk 14 (.string (⟨#[122]⟩++tz++⟨#[UInt8.ofNat (65+r).toNat,UInt8.ofNat (97+q).toNat]⟩)) rfl ?_
              try simp [Act.put]
              refine wpAnyH_ready (rs:=[15]) (by kernel_rfl) (by simp) ?_
              refine AllReadyH.cons rfl (fun KK hK => ?_) AllReadyH.nil
              go_simp
              have hnm:=Gn.nm_j hj HRQ.out htz
              refine (Bx.l6put_any L hu _ _ _ wb hL9 (Bx.own_off sowb.row)).mono ?_
              rintro e w8 ⟨a8,c8,rfl,ho8,hb8⟩
              have so8:=(sowb.below hb8).set (N':=50) (v':=.slice a8 (Bx.put L ⟨⟨#[122]⟩++tz++⟨#[UInt8.ofNat (65+r).toNat,UInt8.ofNat (97+q).toNat]⟩,⟨#[]⟩⟩).length c8) (L':=Bx.put L ⟨⟨#[122]⟩++tz++⟨#[UInt8.ofNat (65+r).toNat,UInt8.ofNat (97+q).toNat]⟩,⟨#[]⟩⟩) (Gn.own_mono ho8 (Nat.le_trans hAb (Nat.le_of_lt (Array.getElem?_eq_some_iff.1 sowb.box).1))) (Gn.put_bd50 so.bd hL41 (Gn.nm_sz hnm))
              have y8:=(sowb.below hb8).cell
              have z8:=(sowb.below hb8).froz
              have dr8:=Gn.Dr_set (i:=0) (v:=.slice a8 (Bx.put L ⟨⟨#[122]⟩++tz++⟨#[UInt8.ofNat (65+r).toNat,UInt8.ofNat (97+q).toNat]⟩,⟨#[]⟩⟩).length c8) (drwb.below hb8) hwb hRb
              obtain ⟨V9,hV9⟩:∃ V,w8.setCell ⟨bp,0,none⟩ (.slice a8 (Bx.put L ⟨⟨#[122]⟩++tz++⟨#[UInt8.ofNat (65+r).toNat,UInt8.ofNat (97+q).toNat]⟩,⟨#[]⟩⟩).length c8)=V:=⟨_,rfl⟩
              rw [hV9] at so8 dr8
              go_wp2
              refine hK.out _ _ (trivial) (fun hHeld => ?_)
              clear hK
              try simp [Act.put]
              refine Tk 16 (.pointer (some ⟨bp,0,none⟩)) rfl ?_
              try simp [Act.put]
              refine wpAnyH_ready (rs:=[17]) (by kernel_rfl) (by simp) ?_
              refine AllReadyH.cons rfl (fun KK hK => ?_) AllReadyH.nil
              go_simp
              try rw [hV9]
              refine hK.out _ _ (trivial) (fun hHeld => ?_)
              clear hK
              try simp [Act.put]
              refine wpAnyH_done (by kernel_rfl) ?_ _
              clear hHeld y8 z8 hV9
              go_wp2_with fail
              go_roundw
              case rel=>exact ⟨j+1,_,_,Gn.j42 hj hL41 HLL.out,rfl,so8,Bx.up_put hu _,by rw [Gn.j_s hj];exact hnz.put hnm,by rw [Gn.j_s hj,Gn.put_len_new (hnz.new (Gn.j600 hj) hnm),HLL.out];rfl,dr8⟩
              case measure=>simp [intOf];omega
            · have hcv:=Gn.conv_two tabVa b1 b2 b3 b4
              go_simp
              refine hK.out _ _ (trivial) (fun hHeld => ?_)
              clear hK
              try simp [Act.put]
              refine wpAnyH_ready (rs:=[2]) (by kernel_rfl) (by simp) ?_
              refine AllReadyH.cons rfl (fun KK hK => ?_) AllReadyH.nil
              go_simp
              refine (Gn.many57 Va).mono ?_
              rintro e wb ⟨tz,rfl,htz,hbwb⟩
              have drwb:=drVa.below hbwb
              have sowb:=soVa.below hbwb
              have tabwb:=(hbwb.block _ (Array.getElem?_eq_some_iff.1 tabVa).1).trans tabVa
              go_wp2
              refine hK.out _ _ (trivial) (fun hHeld => ?_)
              clear hK
              try simp [Act.put]
              refine Tk 3 (.string (⟨#[122]⟩++tz)) rfl ?_
              try simp [Act.put]
              refine Tk 14 (.string (⟨#[122]⟩++tz++⟨#[UInt8.ofNat (65+r).toNat,UInt8.ofNat (97+q).toNat]⟩)) rfl ?_
              try simp [Act.put]
              refine wpAnyH_ready (rs:=[15]) (by kernel_rfl) (by simp) ?_
              refine AllReadyH.cons rfl (fun KK hK => ?_) AllReadyH.nil
              go_simp
              have hnm:=Gn.nm_j hj HRQ.out htz
              refine (Bx.l6put_any L hu _ _ _ wb hL9 (Bx.own_off sowb.row)).mono ?_
              rintro e w8 ⟨a8,c8,rfl,ho8,hb8⟩
              have so8:=(sowb.below hb8).set (N':=50) (v':=.slice a8 (Bx.put L ⟨⟨#[122]⟩++tz++⟨#[UInt8.ofNat (65+r).toNat,UInt8.ofNat (97+q).toNat]⟩,⟨#[]⟩⟩).length c8) (L':=Bx.put L ⟨⟨#[122]⟩++tz++⟨#[UInt8.ofNat (65+r).toNat,UInt8.ofNat (97+q).toNat]⟩,⟨#[]⟩⟩) (Gn.own_mono ho8 (Nat.le_trans hAb (Nat.le_of_lt (Array.getElem?_eq_some_iff.1 sowb.box).1))) (Gn.put_bd50 so.bd hL41 (Gn.nm_sz hnm))
              have y8:=(sowb.below hb8).cell
              have z8:=(sowb.below hb8).froz
              have dr8:=Gn.Dr_set (i:=0) (v:=.slice a8 (Bx.put L ⟨⟨#[122]⟩++tz++⟨#[UInt8.ofNat (65+r).toNat,UInt8.ofNat (97+q).toNat]⟩,⟨#[]⟩⟩).length c8) (drwb.below hb8) hwb hRb
              obtain ⟨V9,hV9⟩:∃ V,w8.setCell ⟨bp,0,none⟩ (.slice a8 (Bx.put L ⟨⟨#[122]⟩++tz++⟨#[UInt8.ofNat (65+r).toNat,UInt8.ofNat (97+q).toNat]⟩,⟨#[]⟩⟩).length c8)=V:=⟨_,rfl⟩
              rw [hV9] at so8 dr8
              go_wp2
              refine hK.out _ _ (trivial) (fun hHeld => ?_)
              clear hK
              try simp [Act.put]
              refine Tk 16 (.pointer (some ⟨bp,0,none⟩)) rfl ?_
              try simp [Act.put]
              refine wpAnyH_ready (rs:=[17]) (by kernel_rfl) (by simp) ?_
              refine AllReadyH.cons rfl (fun KK hK => ?_) AllReadyH.nil
              go_simp
              try rw [hV9]
              refine hK.out _ _ (trivial) (fun hHeld => ?_)
              clear hK
              try simp [Act.put]
              refine wpAnyH_done (by kernel_rfl) ?_ _
              clear hHeld y8 z8 hV9
              go_wp2_with fail
              go_roundw
              case rel=>exact ⟨j+1,_,_,Gn.j42 hj hL41 HLL.out,rfl,so8,Bx.up_put hu _,by rw [Gn.j_s hj];exact hnz.put hnm,by rw [Gn.j_s hj,Gn.put_len_new (hnz.new (Gn.j600 hj) hnm),HLL.out];rfl,dr8⟩
              case measure=>simp [intOf];omega
          · go_simp
            refine (Gn.many57 Va).mono ?_
            rintro e wb ⟨tz,rfl,htz,hbwb⟩
            have drwb:=drVa.below hbwb
            have sowb:=soVa.below hbwb
            have tabwb:=(hbwb.block _ (Array.getElem?_eq_some_iff.1 tabVa).1).trans tabVa
            go_wp2
            refine hK.out _ _ (trivial) (fun hHeld => ?_)
            clear hK
            try simp [Act.put]
            refine Tk 3 (.string (⟨#[122]⟩++tz)) rfl ?_
            try simp [Act.put]
            refine wpAnyH_ready (rs:=[1,13]) (by kernel_rfl) (by simp) ?_
            refine AllReadyH.cons rfl (fun KK hK => ?_) (AllReadyH.cons rfl (fun KK hK => ?_) AllReadyH.nil)
            · have yL1:=sowb.cell
              go_simp
              refine hK.out _ _ (trivial) (fun hHeld => ?_)
              clear hK
              try simp [Act.put]
              refine wpAnyH_ready (rs:=[13]) (by kernel_rfl) (by simp) ?_
              refine AllReadyH.cons rfl (fun KK hK => ?_) AllReadyH.nil
              have hcv:=Gn.conv_two tabwb b1 b2 b3 b4
              go_simp
              refine hK.out _ _ (trivial) (fun hHeld => ?_)
              clear hK
              try simp [Act.put]
              refine Tk 14 (.string (⟨#[122]⟩++tz++⟨#[UInt8.ofNat (65+r).toNat,UInt8.ofNat (97+q).toNat]⟩)) rfl ?_
              try simp [Act.put]
              refine wpAnyH_ready (rs:=[15]) (by kernel_rfl) (by simp) ?_
              refine AllReadyH.cons rfl (fun KK hK => ?_) AllReadyH.nil
              go_simp
              have hnm:=Gn.nm_j hj HRQ.out htz
              refine (Bx.l6put_any L hu _ _ _ wb hL9 (Bx.own_off sowb.row)).mono ?_
              rintro e w8 ⟨a8,c8,rfl,ho8,hb8⟩
              have so8:=(sowb.below hb8).set (N':=50) (v':=.slice a8 (Bx.put L ⟨⟨#[122]⟩++tz++⟨#[UInt8.ofNat (65+r).toNat,UInt8.ofNat (97+q).toNat]⟩,⟨#[]⟩⟩).length c8) (L':=Bx.put L ⟨⟨#[122]⟩++tz++⟨#[UInt8.ofNat (65+r).toNat,UInt8.ofNat (97+q).toNat]⟩,⟨#[]⟩⟩) (Gn.own_mono ho8 (Nat.le_trans hAb (Nat.le_of_lt (Array.getElem?_eq_some_iff.1 sowb.box).1))) (Gn.put_bd50 so.bd hL41 (Gn.nm_sz hnm))
              have y8:=(sowb.below hb8).cell
              have z8:=(sowb.below hb8).froz
              have dr8:=Gn.Dr_set (i:=0) (v:=.slice a8 (Bx.put L ⟨⟨#[122]⟩++tz++⟨#[UInt8.ofNat (65+r).toNat,UInt8.ofNat (97+q).toNat]⟩,⟨#[]⟩⟩).length c8) (drwb.below hb8) hwb hRb
              obtain ⟨V9,hV9⟩:∃ V,w8.setCell ⟨bp,0,none⟩ (.slice a8 (Bx.put L ⟨⟨#[122]⟩++tz++⟨#[UInt8.ofNat (65+r).toNat,UInt8.ofNat (97+q).toNat]⟩,⟨#[]⟩⟩).length c8)=V:=⟨_,rfl⟩
              rw [hV9] at so8 dr8
              go_wp2
              refine hK.out _ _ (trivial) (fun hHeld => ?_)
              clear hK
              try simp [Act.put]
              refine Tk 16 (.pointer (some ⟨bp,0,none⟩)) rfl ?_
              try simp [Act.put]
              refine wpAnyH_ready (rs:=[17]) (by kernel_rfl) (by simp) ?_
              refine AllReadyH.cons rfl (fun KK hK => ?_) AllReadyH.nil
              go_simp
              try rw [hV9]
              refine hK.out _ _ (trivial) (fun hHeld => ?_)
              clear hK
              try simp [Act.put]
              refine wpAnyH_done (by kernel_rfl) ?_ _
              clear hHeld y8 z8 hV9
              go_wp2_with fail
              go_roundw
              case rel=>exact ⟨j+1,_,_,Gn.j42 hj hL41 HLL.out,rfl,so8,Bx.up_put hu _,by rw [Gn.j_s hj];exact hnz.put hnm,by rw [Gn.j_s hj,Gn.put_len_new (hnz.new (Gn.j600 hj) hnm),HLL.out];rfl,dr8⟩
              case measure=>simp [intOf];omega
            · have hcv:=Gn.conv_two tabwb b1 b2 b3 b4
              go_simp
              refine hK.out _ _ (trivial) (fun hHeld => ?_)
              clear hK
              try simp [Act.put]
              refine Tk 14 (.string (⟨#[122]⟩++tz++⟨#[UInt8.ofNat (65+r).toNat,UInt8.ofNat (97+q).toNat]⟩)) rfl ?_
              try simp [Act.put]
              refine wpAnyH_ready (rs:=[1]) (by kernel_rfl) (by simp) ?_
              refine AllReadyH.cons rfl (fun KK hK => ?_) AllReadyH.nil
              have yL1:=sowb.cell
              go_simp
              refine hK.out _ _ (trivial) (fun hHeld => ?_)
              clear hK
              try simp [Act.put]
              refine wpAnyH_ready (rs:=[15]) (by kernel_rfl) (by simp) ?_
              refine AllReadyH.cons rfl (fun KK hK => ?_) AllReadyH.nil
              go_simp
              have hnm:=Gn.nm_j hj HRQ.out htz
              refine (Bx.l6put_any L hu _ _ _ wb hL9 (Bx.own_off sowb.row)).mono ?_
              rintro e w8 ⟨a8,c8,rfl,ho8,hb8⟩
              have so8:=(sowb.below hb8).set (N':=50) (v':=.slice a8 (Bx.put L ⟨⟨#[122]⟩++tz++⟨#[UInt8.ofNat (65+r).toNat,UInt8.ofNat (97+q).toNat]⟩,⟨#[]⟩⟩).length c8) (L':=Bx.put L ⟨⟨#[122]⟩++tz++⟨#[UInt8.ofNat (65+r).toNat,UInt8.ofNat (97+q).toNat]⟩,⟨#[]⟩⟩) (Gn.own_mono ho8 (Nat.le_trans hAb (Nat.le_of_lt (Array.getElem?_eq_some_iff.1 sowb.box).1))) (Gn.put_bd50 so.bd hL41 (Gn.nm_sz hnm))
              have y8:=(sowb.below hb8).cell
              have z8:=(sowb.below hb8).froz
              have dr8:=Gn.Dr_set (i:=0) (v:=.slice a8 (Bx.put L ⟨⟨#[122]⟩++tz++⟨#[UInt8.ofNat (65+r).toNat,UInt8.ofNat (97+q).toNat]⟩,⟨#[]⟩⟩).length c8) (drwb.below hb8) hwb hRb
              obtain ⟨V9,hV9⟩:∃ V,w8.setCell ⟨bp,0,none⟩ (.slice a8 (Bx.put L ⟨⟨#[122]⟩++tz++⟨#[UInt8.ofNat (65+r).toNat,UInt8.ofNat (97+q).toNat]⟩,⟨#[]⟩⟩).length c8)=V:=⟨_,rfl⟩
              rw [hV9] at so8 dr8
              go_wp2
              refine hK.out _ _ (trivial) (fun hHeld => ?_)
              clear hK
              try simp [Act.put]
              refine Tk 16 (.pointer (some ⟨bp,0,none⟩)) rfl ?_
              try simp [Act.put]
              refine wpAnyH_ready (rs:=[17]) (by kernel_rfl) (by simp) ?_
              refine AllReadyH.cons rfl (fun KK hK => ?_) AllReadyH.nil
              go_simp
              try rw [hV9]
              refine hK.out _ _ (trivial) (fun hHeld => ?_)
              clear hK
              try simp [Act.put]
              refine wpAnyH_done (by kernel_rfl) ?_ _
              clear hHeld y8 z8 hV9
              go_wp2_with fail
              go_roundw
              case rel=>exact ⟨j+1,_,_,Gn.j42 hj hL41 HLL.out,rfl,so8,Bx.up_put hu _,by rw [Gn.j_s hj];exact hnz.put hnm,by rw [Gn.j_s hj,Gn.put_len_new (hnz.new (Gn.j600 hj) hnm),HLL.out];rfl,dr8⟩
              case measure=>simp [intOf];omega
          · have hcv:=Gn.conv_two tabVa b1 b2 b3 b4
            go_simp
            refine hK.out _ _ (trivial) (fun hHeld => ?_)
            clear hK
            try simp [Act.put]
            refine wpAnyH_ready (rs:=[1,2]) (by kernel_rfl) (by simp) ?_
            refine AllReadyH.cons rfl (fun KK hK => ?_) (AllReadyH.cons rfl (fun KK hK => ?_) AllReadyH.nil)
            · have yL1:=soVa.cell
              go_simp
              refine hK.out _ _ (trivial) (fun hHeld => ?_)
              clear hK
              try simp [Act.put]
              refine wpAnyH_ready (rs:=[2]) (by kernel_rfl) (by simp) ?_
              refine AllReadyH.cons rfl (fun KK hK => ?_) AllReadyH.nil
              go_simp
              refine (Gn.many57 Va).mono ?_
              rintro e wb ⟨tz,rfl,htz,hbwb⟩
              have drwb:=drVa.below hbwb
              have sowb:=soVa.below hbwb
              have tabwb:=(hbwb.block _ (Array.getElem?_eq_some_iff.1 tabVa).1).trans tabVa
              go_wp2
              refine hK.out _ _ (trivial) (fun hHeld => ?_)
              clear hK
              try simp [Act.put]
              refine Tk 3 (.string (⟨#[122]⟩++tz)) rfl ?_
              try simp [Act.put]
              refine Tk 14 (.string (⟨#[122]⟩++tz++⟨#[UInt8.ofNat (65+r).toNat,UInt8.ofNat (97+q).toNat]⟩)) rfl ?_
              try simp [Act.put]
              refine wpAnyH_ready (rs:=[15]) (by kernel_rfl) (by simp) ?_
              refine AllReadyH.cons rfl (fun KK hK => ?_) AllReadyH.nil
              go_simp
              have hnm:=Gn.nm_j hj HRQ.out htz
              refine (Bx.l6put_any L hu _ _ _ wb hL9 (Bx.own_off sowb.row)).mono ?_
              rintro e w8 ⟨a8,c8,rfl,ho8,hb8⟩
              have so8:=(sowb.below hb8).set (N':=50) (v':=.slice a8 (Bx.put L ⟨⟨#[122]⟩++tz++⟨#[UInt8.ofNat (65+r).toNat,UInt8.ofNat (97+q).toNat]⟩,⟨#[]⟩⟩).length c8) (L':=Bx.put L ⟨⟨#[122]⟩++tz++⟨#[UInt8.ofNat (65+r).toNat,UInt8.ofNat (97+q).toNat]⟩,⟨#[]⟩⟩) (Gn.own_mono ho8 (Nat.le_trans hAb (Nat.le_of_lt (Array.getElem?_eq_some_iff.1 sowb.box).1))) (Gn.put_bd50 so.bd hL41 (Gn.nm_sz hnm))
              have y8:=(sowb.below hb8).cell
              have z8:=(sowb.below hb8).froz
              have dr8:=Gn.Dr_set (i:=0) (v:=.slice a8 (Bx.put L ⟨⟨#[122]⟩++tz++⟨#[UInt8.ofNat (65+r).toNat,UInt8.ofNat (97+q).toNat]⟩,⟨#[]⟩⟩).length c8) (drwb.below hb8) hwb hRb
              obtain ⟨V9,hV9⟩:∃ V,w8.setCell ⟨bp,0,none⟩ (.slice a8 (Bx.put L ⟨⟨#[122]⟩++tz++⟨#[UInt8.ofNat (65+r).toNat,UInt8.ofNat (97+q).toNat]⟩,⟨#[]⟩⟩).length c8)=V:=⟨_,rfl⟩
              rw [hV9] at so8 dr8
              go_wp2
              refine hK.out _ _ (trivial) (fun hHeld => ?_)
              clear hK
              try simp [Act.put]
              refine Tk 16 (.pointer (some ⟨bp,0,none⟩)) rfl ?_
              try simp [Act.put]
              refine wpAnyH_ready (rs:=[17]) (by kernel_rfl) (by simp) ?_
              refine AllReadyH.cons rfl (fun KK hK => ?_) AllReadyH.nil
              go_simp
              try rw [hV9]
              refine hK.out _ _ (trivial) (fun hHeld => ?_)
              clear hK
              try simp [Act.put]
              refine wpAnyH_done (by kernel_rfl) ?_ _
              clear hHeld y8 z8 hV9
              go_wp2_with fail
              go_roundw
              case rel=>exact ⟨j+1,_,_,Gn.j42 hj hL41 HLL.out,rfl,so8,Bx.up_put hu _,by rw [Gn.j_s hj];exact hnz.put hnm,by rw [Gn.j_s hj,Gn.put_len_new (hnz.new (Gn.j600 hj) hnm),HLL.out];rfl,dr8⟩
              case measure=>simp [intOf];omega
            · go_simp
              refine (Gn.many57 Va).mono ?_
              rintro e wb ⟨tz,rfl,htz,hbwb⟩
              have drwb:=drVa.below hbwb
              have sowb:=soVa.below hbwb
              have tabwb:=(hbwb.block _ (Array.getElem?_eq_some_iff.1 tabVa).1).trans tabVa
              go_wp2
              refine hK.out _ _ (trivial) (fun hHeld => ?_)
              clear hK
              try simp [Act.put]
              refine Tk 3 (.string (⟨#[122]⟩++tz)) rfl ?_
              try simp [Act.put]
              refine Tk 14 (.string (⟨#[122]⟩++tz++⟨#[UInt8.ofNat (65+r).toNat,UInt8.ofNat (97+q).toNat]⟩)) rfl ?_
              try simp [Act.put]
              refine wpAnyH_ready (rs:=[1]) (by kernel_rfl) (by simp) ?_
              refine AllReadyH.cons rfl (fun KK hK => ?_) AllReadyH.nil
              have yL1:=sowb.cell
              go_simp
              refine hK.out _ _ (trivial) (fun hHeld => ?_)
              clear hK
              try simp [Act.put]
              refine wpAnyH_ready (rs:=[15]) (by kernel_rfl) (by simp) ?_
              refine AllReadyH.cons rfl (fun KK hK => ?_) AllReadyH.nil
              go_simp
              have hnm:=Gn.nm_j hj HRQ.out htz
              refine (Bx.l6put_any L hu _ _ _ wb hL9 (Bx.own_off sowb.row)).mono ?_
              rintro e w8 ⟨a8,c8,rfl,ho8,hb8⟩
              have so8:=(sowb.below hb8).set (N':=50) (v':=.slice a8 (Bx.put L ⟨⟨#[122]⟩++tz++⟨#[UInt8.ofNat (65+r).toNat,UInt8.ofNat (97+q).toNat]⟩,⟨#[]⟩⟩).length c8) (L':=Bx.put L ⟨⟨#[122]⟩++tz++⟨#[UInt8.ofNat (65+r).toNat,UInt8.ofNat (97+q).toNat]⟩,⟨#[]⟩⟩) (Gn.own_mono ho8 (Nat.le_trans hAb (Nat.le_of_lt (Array.getElem?_eq_some_iff.1 sowb.box).1))) (Gn.put_bd50 so.bd hL41 (Gn.nm_sz hnm))
              have y8:=(sowb.below hb8).cell
              have z8:=(sowb.below hb8).froz
              have dr8:=Gn.Dr_set (i:=0) (v:=.slice a8 (Bx.put L ⟨⟨#[122]⟩++tz++⟨#[UInt8.ofNat (65+r).toNat,UInt8.ofNat (97+q).toNat]⟩,⟨#[]⟩⟩).length c8) (drwb.below hb8) hwb hRb
              obtain ⟨V9,hV9⟩:∃ V,w8.setCell ⟨bp,0,none⟩ (.slice a8 (Bx.put L ⟨⟨#[122]⟩++tz++⟨#[UInt8.ofNat (65+r).toNat,UInt8.ofNat (97+q).toNat]⟩,⟨#[]⟩⟩).length c8)=V:=⟨_,rfl⟩
              rw [hV9] at so8 dr8
              go_wp2
              refine hK.out _ _ (trivial) (fun hHeld => ?_)
              clear hK
              try simp [Act.put]
              refine Tk 16 (.pointer (some ⟨bp,0,none⟩)) rfl ?_
              try simp [Act.put]
              refine wpAnyH_ready (rs:=[17]) (by kernel_rfl) (by simp) ?_
              refine AllReadyH.cons rfl (fun KK hK => ?_) AllReadyH.nil
              go_simp
              try rw [hV9]
              refine hK.out _ _ (trivial) (fun hHeld => ?_)
              clear hK
              try simp [Act.put]
              refine wpAnyH_done (by kernel_rfl) ?_ _
              clear hHeld y8 z8 hV9
              go_wp2_with fail
              go_roundw
              case rel=>exact ⟨j+1,_,_,Gn.j42 hj hL41 HLL.out,rfl,so8,Bx.up_put hu _,by rw [Gn.j_s hj];exact hnz.put hnm,by rw [Gn.j_s hj,Gn.put_len_new (hnz.new (Gn.j600 hj) hnm),HLL.out];rfl,dr8⟩
              case measure=>simp [intOf];omega
      · obtain ⟨va,vc,rfl⟩:=Gn.rowLen so.row
        have yB:=so.cell
        have yR:wr.cell? ⟨bt,0,none⟩=some (.slice none 0 0):=by rw [Lib.cell_of_heap so.res];rfl
        have zR:wr.frozen? ⟨bt,0,none⟩=false:=by simp [World.frozen?,so.res]
        have hT9:(wr.setCell ⟨bt,0,none⟩ (.slice va L.length vc)).cell? ⟨bt,0,none⟩=some (.slice va L.length vc):=by rw [Lib.cell_of_heap (Gn.set_same so.res)];rfl
        go_wp2_with fail
        exact bodyPost_ret (v:=.agg #[(.slice va L.length vc)]) (by simp [results,Tryz.results14,go_sem,hT9]) rfl (Gn.sp_end dr (by decide) hp hrd (so.mono (by decide)) hbt hwA)
  · have dr6d:=dr6.below ((Below.refl _ w6).drew)
    have so6d:=so6.below ((Below.refl _ w6).drew)
    refine wp_region_held_drew (S:=(fun _=>True)) (by kernel_rfl) (trivial) (fun hHeld => ?_)
    refine Tk 0 (.pointer (some ⟨bp,0,none⟩)) rfl ?_
    try simp [Act.put]
    refine Tk 3 (.pointer (some ⟨R,0,none⟩)) rfl ?_
    try simp [Act.put]
    refine wpAnyH_ready (rs:=[1,2,4]) (by kernel_rfl) (by simp) ?_
    refine AllReadyH.cons rfl (fun KK hK => ?_) (AllReadyH.cons rfl (fun KK hK => ?_) (AllReadyH.cons rfl (fun KK hK => ?_) AllReadyH.nil))
    · have yL1:=so6d.cell
      go_simp
      refine hK.out _ _ (trivial) (fun hHeld => ?_)
      clear hK
      try simp [Act.put]
      refine wpAnyH_ready (rs:=[2,4]) (by kernel_rfl) (by simp) ?_
      refine AllReadyH.cons rfl (fun KK hK => ?_) (AllReadyH.cons rfl (fun KK hK => ?_) AllReadyH.nil)
      · go_simp
        obtain ⟨Va,hVa⟩:∃ V,(w6.alloc (.cells #[.string ⟨#[97]⟩,.string ⟨#[122,122]⟩,.string ⟨#[]⟩,.string ⟨#[120,32,121]⟩] 9)).drew=V:=⟨_,rfl⟩
        have hbVa:Below w6.heap.size w6 Va:=by rw [← hVa];exact ((Below.refl _ w6).alloc (Nat.le_refl _) _).drew
        have hxVa:Va.heap[w6.heap.size]? = some (.cells #[.string ⟨#[97]⟩,.string ⟨#[122,122]⟩,.string ⟨#[]⟩,.string ⟨#[120,32,121]⟩] 9):=by rw [← hVa];exact World.alloc_heap_new w6 _
        have drVa:=dr6.below hbVa
        have soVa:=so6.below hbVa
        try rw [hVa]
        refine hK.out _ _ (trivial) (fun hHeld => ?_)
        clear hK
        try simp [Act.put]
        refine wpAnyH_ready (rs:=[4]) (by kernel_rfl) (by simp) ?_
        refine AllReadyH.cons rfl (fun KK hK => ?_) AllReadyH.nil
        go_simp
        refine (pick_D 4 drVa (by omega) (by decide) (by decide)).mono ?_
        rintro e wb ⟨v4,rfl,hv4,drwb,hbwb⟩
        have sowb:=soVa.but drVa hbwb hRA
        have tabwb:=Gn.tab_but drVa hbwb hxVa (by decide)
        go_wp2
        refine hK.out _ _ (trivial) (fun hHeld => ?_)
        clear hK
        try simp [Act.put]
        refine Tk 5 (.pointer (some ⟨w6.heap.size,v4,none⟩)) rfl ?_
        try simp [Act.put]
        refine wpAnyH_ready (rs:=[6]) (by kernel_rfl) (by simp) ?_
        refine AllReadyH.cons rfl (fun KK hK => ?_) AllReadyH.nil
        obtain ⟨nm,hnc,hnm⟩:=Gn.stab (M:=3) tabwb (by decide) v4 (Gn.nat4 hv4)
        go_simp
        refine hK.out _ _ (trivial) (fun hHeld => ?_)
        clear hK
        try simp [Act.put]
        refine Tk 7 (.agg #[.string nm,.string ⟨#[]⟩]) rfl ?_
        try simp [Act.put]
        refine wpAnyH_ready (rs:=[8]) (by kernel_rfl) (by simp) ?_
        refine AllReadyH.cons rfl (fun KK hK => ?_) AllReadyH.nil
        go_simp
        obtain ⟨Ve2,hVe2⟩:∃ V,wb.alloc (.cells #[.string nm,.string ⟨#[]⟩] 36)=V:=⟨_,rfl⟩
        have hbVe2:Below wb.heap.size wb Ve2:=Gn.below_new hVe2
        have hxVe2:Ve2.heap[wb.heap.size]? = some (.cells #[.string nm,.string ⟨#[]⟩] 36):=by rw [← hVe2];exact World.alloc_heap_new wb _
        have drVe2:=drwb.below hbVe2
        have soVe2:=sowb.below hbVe2
        have tabVe2:=(hbVe2.block _ (Array.getElem?_eq_some_iff.1 tabwb).1).trans tabwb
        try rw [hVe2]
        refine hK.out _ _ (trivial) (fun hHeld => ?_)
        clear hK
        try simp [Act.put]
        refine wpAnyH_ready (rs:=[9]) (by kernel_rfl) (by simp) ?_
        refine AllReadyH.cons rfl (fun KK hK => ?_) AllReadyH.nil
        refine Gn.step_file rfl _ _ rfl soVe2.row hSl nm ⟨#[]⟩ hxVe2 (Nat.le_trans hAb (Nat.le_of_lt (Array.getElem?_eq_some_iff.1 soVe2.box).1)) rfl rfl ?_
        intro a8 c8 w8 row8 hg8
        obtain ⟨so8,y8,z8⟩:=soVe2.app (L':=Lp++[⟨nm,⟨#[]⟩⟩]) hg8 (by rw [Gn.len_app];exact row8) (soVe2.bd.app (Nat.le_trans hnm (by decide)) (by decide))
        have dr8:=Gn.Dr_set (i:=0) (v:=.slice a8 (Lp.length+1) c8) (Gn.Dr_grow drVe2 soVe2.row hwA hRA hg8) hwb hRb
        obtain ⟨V9,hV9⟩:∃ V,w8.setCell ⟨bp,0,none⟩ (.slice a8 (Lp.length+1) c8)=V:=⟨_,rfl⟩
        rw [hV9] at so8 dr8
        refine hK.out _ _ (trivial) (fun hHeld => ?_)
        clear hK
        try simp [Act.put]
        refine Tk 10 (.pointer (some ⟨bp,0,none⟩)) rfl ?_
        try simp [Act.put]
        refine wpAnyH_ready (rs:=[11]) (by kernel_rfl) (by simp) ?_
        refine AllReadyH.cons rfl (fun KK hK => ?_) AllReadyH.nil
        go_simp
        try rw [hV9]
        refine hK.out _ _ (trivial) (fun hHeld => ?_)
        clear hK
        try simp [Act.put]
        refine wpAnyH_done (by kernel_rfl) ?_ _
        clear hHeld yB yR zR hT9
        have yB:=so8.cell
        have yR:V9.cell? ⟨bt,0,none⟩=some (.slice none 0 0):=by rw [Lib.cell_of_heap so8.res];rfl
        have zR:V9.frozen? ⟨bt,0,none⟩=false:=by simp [World.frozen?,so8.res]
        have hT9:(V9.setCell ⟨bt,0,none⟩ (.slice a8 (Lp.length+1) c8)).cell? ⟨bt,0,none⟩=some (.slice a8 (Lp.length+1) c8):=by rw [Lib.cell_of_heap (Gn.set_same so8.res)];rfl
        go_wp2_with fail
        exact bodyPost_ret (v:=.agg #[(.slice a8 (Lp.length+1) c8)]) (by simp [results,Tryz.results14,go_sem,hT9]) rfl (Gn.sp_end dr8 (by decide) hp hrd (so8.mono (by decide)) hbt hwA)
      · go_simp
        refine (pick_D 4 dr6d (by omega) (by decide) (by decide)).mono ?_
        rintro e wb ⟨v4,rfl,hv4,drwb,hbwb⟩
        have sowb:=so6d.but dr6d hbwb hRA
        go_wp2
        refine hK.out _ _ (trivial) (fun hHeld => ?_)
        clear hK
        try simp [Act.put]
        refine wpAnyH_ready (rs:=[2]) (by kernel_rfl) (by simp) ?_
        refine AllReadyH.cons rfl (fun KK hK => ?_) AllReadyH.nil
        go_simp
        obtain ⟨Va,hVa⟩:∃ V,wb.alloc (.cells #[.string ⟨#[97]⟩,.string ⟨#[122,122]⟩,.string ⟨#[]⟩,.string ⟨#[120,32,121]⟩] 9)=V:=⟨_,rfl⟩
        have hbVa:Below wb.heap.size wb Va:=Gn.below_new hVa
        have hxVa:Va.heap[wb.heap.size]? = some (.cells #[.string ⟨#[97]⟩,.string ⟨#[122,122]⟩,.string ⟨#[]⟩,.string ⟨#[120,32,121]⟩] 9):=by rw [← hVa];exact World.alloc_heap_new wb _
        have drVa:=drwb.below hbVa
        have soVa:=sowb.below hbVa
        try rw [hVa]
        refine hK.out _ _ (trivial) (fun hHeld => ?_)
        clear hK
        try simp [Act.put]
        refine Tk 5 (.pointer (some ⟨wb.heap.size,v4,none⟩)) rfl ?_
        try simp [Act.put]
        refine wpAnyH_ready (rs:=[6]) (by kernel_rfl) (by simp) ?_
        refine AllReadyH.cons rfl (fun KK hK => ?_) AllReadyH.nil
        obtain ⟨nm,hnc,hnm⟩:=Gn.stab (M:=3) hxVa (by decide) v4 (Gn.nat4 hv4)
        go_simp
        refine hK.out _ _ (trivial) (fun hHeld => ?_)
        clear hK
        try simp [Act.put]
        refine Tk 7 (.agg #[.string nm,.string ⟨#[]⟩]) rfl ?_
        try simp [Act.put]
        refine wpAnyH_ready (rs:=[8]) (by kernel_rfl) (by simp) ?_
        refine AllReadyH.cons rfl (fun KK hK => ?_) AllReadyH.nil
        go_simp
        obtain ⟨Ve2,hVe2⟩:∃ V,Va.alloc (.cells #[.string nm,.string ⟨#[]⟩] 36)=V:=⟨_,rfl⟩
        have hbVe2:Below Va.heap.size Va Ve2:=Gn.below_new hVe2
        have hxVe2:Ve2.heap[Va.heap.size]? = some (.cells #[.string nm,.string ⟨#[]⟩] 36):=by rw [← hVe2];exact World.alloc_heap_new Va _
        have drVe2:=drVa.below hbVe2
        have soVe2:=soVa.below hbVe2
        have tabVe2:=(hbVe2.block _ (Array.getElem?_eq_some_iff.1 hxVa).1).trans hxVa
        try rw [hVe2]
        refine hK.out _ _ (trivial) (fun hHeld => ?_)
        clear hK
        try simp [Act.put]
        refine wpAnyH_ready (rs:=[9]) (by kernel_rfl) (by simp) ?_
        refine AllReadyH.cons rfl (fun KK hK => ?_) AllReadyH.nil
        refine Gn.step_file rfl _ _ rfl soVe2.row hSl nm ⟨#[]⟩ hxVe2 (Nat.le_trans hAb (Nat.le_of_lt (Array.getElem?_eq_some_iff.1 soVe2.box).1)) rfl rfl ?_
        intro a8 c8 w8 row8 hg8
        obtain ⟨so8,y8,z8⟩:=soVe2.app (L':=Lp++[⟨nm,⟨#[]⟩⟩]) hg8 (by rw [Gn.len_app];exact row8) (soVe2.bd.app (Nat.le_trans hnm (by decide)) (by decide))
        have dr8:=Gn.Dr_set (i:=0) (v:=.slice a8 (Lp.length+1) c8) (Gn.Dr_grow drVe2 soVe2.row hwA hRA hg8) hwb hRb
        obtain ⟨V9,hV9⟩:∃ V,w8.setCell ⟨bp,0,none⟩ (.slice a8 (Lp.length+1) c8)=V:=⟨_,rfl⟩
        rw [hV9] at so8 dr8
        refine hK.out _ _ (trivial) (fun hHeld => ?_)
        clear hK
        try simp [Act.put]
        refine Tk 10 (.pointer (some ⟨bp,0,none⟩)) rfl ?_
        try simp [Act.put]
        refine wpAnyH_ready (rs:=[11]) (by kernel_rfl) (by simp) ?_
        refine AllReadyH.cons rfl (fun KK hK => ?_) AllReadyH.nil
        go_simp
        try rw [hV9]
        refine hK.out _ _ (trivial) (fun hHeld => ?_)
        clear hK
        try simp [Act.put]
        refine wpAnyH_done (by kernel_rfl) ?_ _
        clear hHeld yB yR zR hT9
        have yB:=so8.cell
        have yR:V9.cell? ⟨bt,0,none⟩=some (.slice none 0 0):=by rw [Lib.cell_of_heap so8.res];rfl
        have zR:V9.frozen? ⟨bt,0,none⟩=false:=by simp [World.frozen?,so8.res]
        have hT9:(V9.setCell ⟨bt,0,none⟩ (.slice a8 (Lp.length+1) c8)).cell? ⟨bt,0,none⟩=some (.slice a8 (Lp.length+1) c8):=by rw [Lib.cell_of_heap (Gn.set_same so8.res)];rfl
        go_wp2_with fail
        exact bodyPost_ret (v:=.agg #[(.slice a8 (Lp.length+1) c8)]) (by simp [results,Tryz.results14,go_sem,hT9]) rfl (Gn.sp_end dr8 (by decide) hp hrd (so8.mono (by decide)) hbt hwA)
    · go_simp
      obtain ⟨Va,hVa⟩:∃ V,(w6.alloc (.cells #[.string ⟨#[97]⟩,.string ⟨#[122,122]⟩,.string ⟨#[]⟩,.string ⟨#[120,32,121]⟩] 9)).drew=V:=⟨_,rfl⟩
      have hbVa:Below w6.heap.size w6 Va:=by rw [← hVa];exact ((Below.refl _ w6).alloc (Nat.le_refl _) _).drew
      have hxVa:Va.heap[w6.heap.size]? = some (.cells #[.string ⟨#[97]⟩,.string ⟨#[122,122]⟩,.string ⟨#[]⟩,.string ⟨#[120,32,121]⟩] 9):=by rw [← hVa];exact World.alloc_heap_new w6 _
      have drVa:=dr6.below hbVa
      have soVa:=so6.below hbVa
      try rw [hVa]
      refine hK.out _ _ (trivial) (fun hHeld => ?_)
      clear hK
      try simp [Act.put]
      refine wpAnyH_ready (rs:=[1,4]) (by kernel_rfl) (by simp) ?_
      refine AllReadyH.cons rfl (fun KK hK => ?_) (AllReadyH.cons rfl (fun KK hK => ?_) AllReadyH.nil)
      · have yL1:=soVa.cell
        go_simp
        refine hK.out _ _ (trivial) (fun hHeld => ?_)
        clear hK
        try simp [Act.put]
        refine wpAnyH_ready (rs:=[4]) (by kernel_rfl) (by simp) ?_
        refine AllReadyH.cons rfl (fun KK hK => ?_) AllReadyH.nil
        go_simp
        refine (pick_D 4 drVa (by omega) (by decide) (by decide)).mono ?_
        rintro e wb ⟨v4,rfl,hv4,drwb,hbwb⟩
        have sowb:=soVa.but drVa hbwb hRA
        have tabwb:=Gn.tab_but drVa hbwb hxVa (by decide)
        go_wp2
        refine hK.out _ _ (trivial) (fun hHeld => ?_)
        clear hK
        try simp [Act.put]
        refine Tk 5 (.pointer (some ⟨w6.heap.size,v4,none⟩)) rfl ?_
        try simp [Act.put]
        refine wpAnyH_ready (rs:=[6]) (by kernel_rfl) (by simp) ?_
        refine AllReadyH.cons rfl (fun KK hK => ?_) AllReadyH.nil
        obtain ⟨nm,hnc,hnm⟩:=Gn.stab (M:=3) tabwb (by decide) v4 (Gn.nat4 hv4)
        go_simp
        refine hK.out _ _ (trivial) (fun hHeld => ?_)
        clear hK
        try simp [Act.put]
        refine Tk 7 (.agg #[.string nm,.string ⟨#[]⟩]) rfl ?_
        try simp [Act.put]
        refine wpAnyH_ready (rs:=[8]) (by kernel_rfl) (by simp) ?_
        refine AllReadyH.cons rfl (fun KK hK => ?_) AllReadyH.nil
        go_simp
        obtain ⟨Ve2,hVe2⟩:∃ V,wb.alloc (.cells #[.string nm,.string ⟨#[]⟩] 36)=V:=⟨_,rfl⟩
        have hbVe2:Below wb.heap.size wb Ve2:=Gn.below_new hVe2
        have hxVe2:Ve2.heap[wb.heap.size]? = some (.cells #[.string nm,.string ⟨#[]⟩] 36):=by rw [← hVe2];exact World.alloc_heap_new wb _
        have drVe2:=drwb.below hbVe2
        have soVe2:=sowb.below hbVe2
        have tabVe2:=(hbVe2.block _ (Array.getElem?_eq_some_iff.1 tabwb).1).trans tabwb
        try rw [hVe2]
        refine hK.out _ _ (trivial) (fun hHeld => ?_)
        clear hK
        try simp [Act.put]
        refine wpAnyH_ready (rs:=[9]) (by kernel_rfl) (by simp) ?_
        refine AllReadyH.cons rfl (fun KK hK => ?_) AllReadyH.nil
        refine Gn.step_file rfl _ _ rfl soVe2.row hSl nm ⟨#[]⟩ hxVe2 (Nat.le_trans hAb (Nat.le_of_lt (Array.getElem?_eq_some_iff.1 soVe2.box).1)) rfl rfl ?_
        intro a8 c8 w8 row8 hg8
        obtain ⟨so8,y8,z8⟩:=soVe2.app (L':=Lp++[⟨nm,⟨#[]⟩⟩]) hg8 (by rw [Gn.len_app];exact row8) (soVe2.bd.app (Nat.le_trans hnm (by decide)) (by decide))
        have dr8:=Gn.Dr_set (i:=0) (v:=.slice a8 (Lp.length+1) c8) (Gn.Dr_grow drVe2 soVe2.row hwA hRA hg8) hwb hRb
        obtain ⟨V9,hV9⟩:∃ V,w8.setCell ⟨bp,0,none⟩ (.slice a8 (Lp.length+1) c8)=V:=⟨_,rfl⟩
        rw [hV9] at so8 dr8
        refine hK.out _ _ (trivial) (fun hHeld => ?_)
        clear hK
        try simp [Act.put]
        refine Tk 10 (.pointer (some ⟨bp,0,none⟩)) rfl ?_
        try simp [Act.put]
        refine wpAnyH_ready (rs:=[11]) (by kernel_rfl) (by simp) ?_
        refine AllReadyH.cons rfl (fun KK hK => ?_) AllReadyH.nil
        go_simp
        try rw [hV9]
        refine hK.out _ _ (trivial) (fun hHeld => ?_)
        clear hK
        try simp [Act.put]
        refine wpAnyH_done (by kernel_rfl) ?_ _
        clear hHeld yB yR zR hT9
        have yB:=so8.cell
        have yR:V9.cell? ⟨bt,0,none⟩=some (.slice none 0 0):=by rw [Lib.cell_of_heap so8.res];rfl
        have zR:V9.frozen? ⟨bt,0,none⟩=false:=by simp [World.frozen?,so8.res]
        have hT9:(V9.setCell ⟨bt,0,none⟩ (.slice a8 (Lp.length+1) c8)).cell? ⟨bt,0,none⟩=some (.slice a8 (Lp.length+1) c8):=by rw [Lib.cell_of_heap (Gn.set_same so8.res)];rfl
        go_wp2_with fail
        exact bodyPost_ret (v:=.agg #[(.slice a8 (Lp.length+1) c8)]) (by simp [results,Tryz.results14,go_sem,hT9]) rfl (Gn.sp_end dr8 (by decide) hp hrd (so8.mono (by decide)) hbt hwA)
      · go_simp
        refine (pick_D 4 drVa (by omega) (by decide) (by decide)).mono ?_
        rintro e wb ⟨v4,rfl,hv4,drwb,hbwb⟩
        have sowb:=soVa.but drVa hbwb hRA
        have tabwb:=Gn.tab_but drVa hbwb hxVa (by decide)
        go_wp2
        refine hK.out _ _ (trivial) (fun hHeld => ?_)
        clear hK
        try simp [Act.put]
        refine Tk 5 (.pointer (some ⟨w6.heap.size,v4,none⟩)) rfl ?_
        try simp [Act.put]
        refine wpAnyH_ready (rs:=[1,6]) (by kernel_rfl) (by simp) ?_
        refine AllReadyH.cons rfl (fun KK hK => ?_) (AllReadyH.cons rfl (fun KK hK => ?_) AllReadyH.nil)
        · have yL1:=sowb.cell
          go_simp
          refine hK.out _ _ (trivial) (fun hHeld => ?_)
          clear hK
          try simp [Act.put]
          refine wpAnyH_ready (rs:=[6]) (by kernel_rfl) (by simp) ?_
          refine AllReadyH.cons rfl (fun KK hK => ?_) AllReadyH.nil
          obtain ⟨nm,hnc,hnm⟩:=Gn.stab (M:=3) tabwb (by decide) v4 (Gn.nat4 hv4)
          go_simp
          refine hK.out _ _ (trivial) (fun hHeld => ?_)
          clear hK
          try simp [Act.put]
          refine Tk 7 (.agg #[.string nm,.string ⟨#[]⟩]) rfl ?_
          try simp [Act.put]
          refine wpAnyH_ready (rs:=[8]) (by kernel_rfl) (by simp) ?_
          refine AllReadyH.cons rfl (fun KK hK => ?_) AllReadyH.nil
          go_simp
          obtain ⟨Ve2,hVe2⟩:∃ V,wb.alloc (.cells #[.string nm,.string ⟨#[]⟩] 36)=V:=⟨_,rfl⟩
          have hbVe2:Below wb.heap.size wb Ve2:=Gn.below_new hVe2
          have hxVe2:Ve2.heap[wb.heap.size]? = some (.cells #[.string nm,.string ⟨#[]⟩] 36):=by rw [← hVe2];exact World.alloc_heap_new wb _
          have drVe2:=drwb.below hbVe2
          have soVe2:=sowb.below hbVe2
          have tabVe2:=(hbVe2.block _ (Array.getElem?_eq_some_iff.1 tabwb).1).trans tabwb
          try rw [hVe2]
          refine hK.out _ _ (trivial) (fun hHeld => ?_)
          clear hK
          try simp [Act.put]
          refine wpAnyH_ready (rs:=[9]) (by kernel_rfl) (by simp) ?_
          refine AllReadyH.cons rfl (fun KK hK => ?_) AllReadyH.nil
          refine Gn.step_file rfl _ _ rfl soVe2.row hSl nm ⟨#[]⟩ hxVe2 (Nat.le_trans hAb (Nat.le_of_lt (Array.getElem?_eq_some_iff.1 soVe2.box).1)) rfl rfl ?_
          intro a8 c8 w8 row8 hg8
          obtain ⟨so8,y8,z8⟩:=soVe2.app (L':=Lp++[⟨nm,⟨#[]⟩⟩]) hg8 (by rw [Gn.len_app];exact row8) (soVe2.bd.app (Nat.le_trans hnm (by decide)) (by decide))
          have dr8:=Gn.Dr_set (i:=0) (v:=.slice a8 (Lp.length+1) c8) (Gn.Dr_grow drVe2 soVe2.row hwA hRA hg8) hwb hRb
          obtain ⟨V9,hV9⟩:∃ V,w8.setCell ⟨bp,0,none⟩ (.slice a8 (Lp.length+1) c8)=V:=⟨_,rfl⟩
          rw [hV9] at so8 dr8
          refine hK.out _ _ (trivial) (fun hHeld => ?_)
          clear hK
          try simp [Act.put]
          refine Tk 10 (.pointer (some ⟨bp,0,none⟩)) rfl ?_
          try simp [Act.put]
          refine wpAnyH_ready (rs:=[11]) (by kernel_rfl) (by simp) ?_
          refine AllReadyH.cons rfl (fun KK hK => ?_) AllReadyH.nil
          go_simp
          try rw [hV9]
          refine hK.out _ _ (trivial) (fun hHeld => ?_)
          clear hK
          try simp [Act.put]
          refine wpAnyH_done (by kernel_rfl) ?_ _
          clear hHeld yB yR zR hT9
          have yB:=so8.cell
          have yR:V9.cell? ⟨bt,0,none⟩=some (.slice none 0 0):=by rw [Lib.cell_of_heap so8.res];rfl
          have zR:V9.frozen? ⟨bt,0,none⟩=false:=by simp [World.frozen?,so8.res]
          have hT9:(V9.setCell ⟨bt,0,none⟩ (.slice a8 (Lp.length+1) c8)).cell? ⟨bt,0,none⟩=some (.slice a8 (Lp.length+1) c8):=by rw [Lib.cell_of_heap (Gn.set_same so8.res)];rfl
          go_wp2_with fail
          exact bodyPost_ret (v:=.agg #[(.slice a8 (Lp.length+1) c8)]) (by simp [results,Tryz.results14,go_sem,hT9]) rfl (Gn.sp_end dr8 (by decide) hp hrd (so8.mono (by decide)) hbt hwA)
        · obtain ⟨nm,hnc,hnm⟩:=Gn.stab (M:=3) tabwb (by decide) v4 (Gn.nat4 hv4)
          go_simp
          refine hK.out _ _ (trivial) (fun hHeld => ?_)
          clear hK
          try simp [Act.put]
          refine Tk 7 (.agg #[.string nm,.string ⟨#[]⟩]) rfl ?_
          try simp [Act.put]
          refine wpAnyH_ready (rs:=[1,8]) (by kernel_rfl) (by simp) ?_
          refine AllReadyH.cons rfl (fun KK hK => ?_) (AllReadyH.cons rfl (fun KK hK => ?_) AllReadyH.nil)
          · have yL1:=sowb.cell
            go_simp
            refine hK.out _ _ (trivial) (fun hHeld => ?_)
            clear hK
            try simp [Act.put]
            refine wpAnyH_ready (rs:=[8]) (by kernel_rfl) (by simp) ?_
            refine AllReadyH.cons rfl (fun KK hK => ?_) AllReadyH.nil
            go_simp
            obtain ⟨Ve2,hVe2⟩:∃ V,wb.alloc (.cells #[.string nm,.string ⟨#[]⟩] 36)=V:=⟨_,rfl⟩
            have hbVe2:Below wb.heap.size wb Ve2:=Gn.below_new hVe2
            have hxVe2:Ve2.heap[wb.heap.size]? = some (.cells #[.string nm,.string ⟨#[]⟩] 36):=by rw [← hVe2];exact World.alloc_heap_new wb _
            have drVe2:=drwb.below hbVe2
            have soVe2:=sowb.below hbVe2
            have tabVe2:=(hbVe2.block _ (Array.getElem?_eq_some_iff.1 tabwb).1).trans tabwb
            try rw [hVe2]
            refine hK.out _ _ (trivial) (fun hHeld => ?_)
            clear hK
            try simp [Act.put]
            refine wpAnyH_ready (rs:=[9]) (by kernel_rfl) (by simp) ?_
            refine AllReadyH.cons rfl (fun KK hK => ?_) AllReadyH.nil
            refine Gn.step_file rfl _ _ rfl soVe2.row hSl nm ⟨#[]⟩ hxVe2 (Nat.le_trans hAb (Nat.le_of_lt (Array.getElem?_eq_some_iff.1 soVe2.box).1)) rfl rfl ?_
            intro a8 c8 w8 row8 hg8
            obtain ⟨so8,y8,z8⟩:=soVe2.app (L':=Lp++[⟨nm,⟨#[]⟩⟩]) hg8 (by rw [Gn.len_app];exact row8) (soVe2.bd.app (Nat.le_trans hnm (by decide)) (by decide))
            have dr8:=Gn.Dr_set (i:=0) (v:=.slice a8 (Lp.length+1) c8) (Gn.Dr_grow drVe2 soVe2.row hwA hRA hg8) hwb hRb
            obtain ⟨V9,hV9⟩:∃ V,w8.setCell ⟨bp,0,none⟩ (.slice a8 (Lp.length+1) c8)=V:=⟨_,rfl⟩
            rw [hV9] at so8 dr8
            refine hK.out _ _ (trivial) (fun hHeld => ?_)
            clear hK
            try simp [Act.put]
            refine Tk 10 (.pointer (some ⟨bp,0,none⟩)) rfl ?_
            try simp [Act.put]
            refine wpAnyH_ready (rs:=[11]) (by kernel_rfl) (by simp) ?_
            refine AllReadyH.cons rfl (fun KK hK => ?_) AllReadyH.nil
            go_simp
            try rw [hV9]
            refine hK.out _ _ (trivial) (fun hHeld => ?_)
            clear hK
            try simp [Act.put]
            refine wpAnyH_done (by kernel_rfl) ?_ _
            clear hHeld yB yR zR hT9
            have yB:=so8.cell
            have yR:V9.cell? ⟨bt,0,none⟩=some (.slice none 0 0):=by rw [Lib.cell_of_heap so8.res];rfl
            have zR:V9.frozen? ⟨bt,0,none⟩=false:=by simp [World.frozen?,so8.res]
            have hT9:(V9.setCell ⟨bt,0,none⟩ (.slice a8 (Lp.length+1) c8)).cell? ⟨bt,0,none⟩=some (.slice a8 (Lp.length+1) c8):=by rw [Lib.cell_of_heap (Gn.set_same so8.res)];rfl
            go_wp2_with fail
            exact bodyPost_ret (v:=.agg #[(.slice a8 (Lp.length+1) c8)]) (by simp [results,Tryz.results14,go_sem,hT9]) rfl (Gn.sp_end dr8 (by decide) hp hrd (so8.mono (by decide)) hbt hwA)
          · go_simp
            obtain ⟨Ve2,hVe2⟩:∃ V,wb.alloc (.cells #[.string nm,.string ⟨#[]⟩] 36)=V:=⟨_,rfl⟩
            have hbVe2:Below wb.heap.size wb Ve2:=Gn.below_new hVe2
            have hxVe2:Ve2.heap[wb.heap.size]? = some (.cells #[.string nm,.string ⟨#[]⟩] 36):=by rw [← hVe2];exact World.alloc_heap_new wb _
            have drVe2:=drwb.below hbVe2
            have soVe2:=sowb.below hbVe2
            have tabVe2:=(hbVe2.block _ (Array.getElem?_eq_some_iff.1 tabwb).1).trans tabwb
            try rw [hVe2]
            refine hK.out _ _ (trivial) (fun hHeld => ?_)
            clear hK
            try simp [Act.put]
            refine wpAnyH_ready (rs:=[1]) (by kernel_rfl) (by simp) ?_
            refine AllReadyH.cons rfl (fun KK hK => ?_) AllReadyH.nil
            have yL1:=soVe2.cell
            go_simp
            refine hK.out _ _ (trivial) (fun hHeld => ?_)
            clear hK
            try simp [Act.put]
            refine wpAnyH_ready (rs:=[9]) (by kernel_rfl) (by simp) ?_
            refine AllReadyH.cons rfl (fun KK hK => ?_) AllReadyH.nil
            refine Gn.step_file rfl _ _ rfl soVe2.row hSl nm ⟨#[]⟩ hxVe2 (Nat.le_trans hAb (Nat.le_of_lt (Array.getElem?_eq_some_iff.1 soVe2.box).1)) rfl rfl ?_
            intro a8 c8 w8 row8 hg8
            obtain ⟨so8,y8,z8⟩:=soVe2.app (L':=Lp++[⟨nm,⟨#[]⟩⟩]) hg8 (by rw [Gn.len_app];exact row8) (soVe2.bd.app (Nat.le_trans hnm (by decide)) (by decide))
            have dr8:=Gn.Dr_set (i:=0) (v:=.slice a8 (Lp.length+1) c8) (Gn.Dr_grow drVe2 soVe2.row hwA hRA hg8) hwb hRb
            obtain ⟨V9,hV9⟩:∃ V,w8.setCell ⟨bp,0,none⟩ (.slice a8 (Lp.length+1) c8)=V:=⟨_,rfl⟩
            rw [hV9] at so8 dr8
            refine hK.out _ _ (trivial) (fun hHeld => ?_)
            clear hK
            try simp [Act.put]
            refine Tk 10 (.pointer (some ⟨bp,0,none⟩)) rfl ?_
            try simp [Act.put]
            refine wpAnyH_ready (rs:=[11]) (by kernel_rfl) (by simp) ?_
            refine AllReadyH.cons rfl (fun KK hK => ?_) AllReadyH.nil
            go_simp
            try rw [hV9]
            refine hK.out _ _ (trivial) (fun hHeld => ?_)
            clear hK
            try simp [Act.put]
            refine wpAnyH_done (by kernel_rfl) ?_ _
            clear hHeld yB yR zR hT9
            have yB:=so8.cell
            have yR:V9.cell? ⟨bt,0,none⟩=some (.slice none 0 0):=by rw [Lib.cell_of_heap so8.res];rfl
            have zR:V9.frozen? ⟨bt,0,none⟩=false:=by simp [World.frozen?,so8.res]
            have hT9:(V9.setCell ⟨bt,0,none⟩ (.slice a8 (Lp.length+1) c8)).cell? ⟨bt,0,none⟩=some (.slice a8 (Lp.length+1) c8):=by rw [Lib.cell_of_heap (Gn.set_same so8.res)];rfl
            go_wp2_with fail
            exact bodyPost_ret (v:=.agg #[(.slice a8 (Lp.length+1) c8)]) (by simp [results,Tryz.results14,go_sem,hT9]) rfl (Gn.sp_end dr8 (by decide) hp hrd (so8.mono (by decide)) hbt hwA)
    · go_simp
      refine (pick_D 4 dr6d (by omega) (by decide) (by decide)).mono ?_
      rintro e wb ⟨v4,rfl,hv4,drwb,hbwb⟩
      have sowb:=so6d.but dr6d hbwb hRA
      go_wp2
      refine hK.out _ _ (trivial) (fun hHeld => ?_)
      clear hK
      try simp [Act.put]
      refine wpAnyH_ready (rs:=[1,2]) (by kernel_rfl) (by simp) ?_
      refine AllReadyH.cons rfl (fun KK hK => ?_) (AllReadyH.cons rfl (fun KK hK => ?_) AllReadyH.nil)
      · have yL1:=sowb.cell
        go_simp
        refine hK.out _ _ (trivial) (fun hHeld => ?_)
        clear hK
        try simp [Act.put]
        refine wpAnyH_ready (rs:=[2]) (by kernel_rfl) (by simp) ?_
        refine AllReadyH.cons rfl (fun KK hK => ?_) AllReadyH.nil
        go_simp
        obtain ⟨Va,hVa⟩:∃ V,wb.alloc (.cells #[.string ⟨#[97]⟩,.string ⟨#[122,122]⟩,.string ⟨#[]⟩,.string ⟨#[120,32,121]⟩] 9)=V:=⟨_,rfl⟩
        have hbVa:Below wb.heap.size wb Va:=Gn.below_new hVa
        have hxVa:Va.heap[wb.heap.size]? = some (.cells #[.string ⟨#[97]⟩,.string ⟨#[122,122]⟩,.string ⟨#[]⟩,.string ⟨#[120,32,121]⟩] 9):=by rw [← hVa];exact World.alloc_heap_new wb _
        have drVa:=drwb.below hbVa
        have soVa:=sowb.below hbVa
        try rw [hVa]
        refine hK.out _ _ (trivial) (fun hHeld => ?_)
        clear hK
        try simp [Act.put]
        refine Tk 5 (.pointer (some ⟨wb.heap.size,v4,none⟩)) rfl ?_
        try simp [Act.put]
        refine wpAnyH_ready (rs:=[6]) (by kernel_rfl) (by simp) ?_
        refine AllReadyH.cons rfl (fun KK hK => ?_) AllReadyH.nil
        obtain ⟨nm,hnc,hnm⟩:=Gn.stab (M:=3) hxVa (by decide) v4 (Gn.nat4 hv4)
        go_simp
        refine hK.out _ _ (trivial) (fun hHeld => ?_)
        clear hK
        try simp [Act.put]
        refine Tk 7 (.agg #[.string nm,.string ⟨#[]⟩]) rfl ?_
        try simp [Act.put]
        refine wpAnyH_ready (rs:=[8]) (by kernel_rfl) (by simp) ?_
        refine AllReadyH.cons rfl (fun KK hK => ?_) AllReadyH.nil
        go_simp
        obtain ⟨Ve2,hVe2⟩:∃ V,Va.alloc (.cells #[.string nm,.string ⟨#[]⟩] 36)=V:=⟨_,rfl⟩
        have hbVe2:Below Va.heap.size Va Ve2:=Gn.below_new hVe2
        have hxVe2:Ve2.heap[Va.heap.size]? = some (.cells #[.string nm,.string ⟨#[]⟩] 36):=by rw [← hVe2];exact World.alloc_heap_new Va _
        have drVe2:=drVa.below hbVe2
        have soVe2:=soVa.below hbVe2
        have tabVe2:=(hbVe2.block _ (Array.getElem?_eq_some_iff.1 hxVa).1).trans hxVa
        try rw [hVe2]
        refine hK.out _ _ (trivial) (fun hHeld => ?_)
        clear hK
        try simp [Act.put]
        refine wpAnyH_ready (rs:=[9]) (by kernel_rfl) (by simp) ?_
        refine AllReadyH.cons rfl (fun KK hK => ?_) AllReadyH.nil
        refine Gn.step_file rfl _ _ rfl soVe2.row hSl nm ⟨#[]⟩ hxVe2 (Nat.le_trans hAb (Nat.le_of_lt (Array.getElem?_eq_some_iff.1 soVe2.box).1)) rfl rfl ?_
        intro a8 c8 w8 row8 hg8
        obtain ⟨so8,y8,z8⟩:=soVe2.app (L':=Lp++[⟨nm,⟨#[]⟩⟩]) hg8 (by rw [Gn.len_app];exact row8) (soVe2.bd.app (Nat.le_trans hnm (by decide)) (by decide))
        have dr8:=Gn.Dr_set (i:=0) (v:=.slice a8 (Lp.length+1) c8) (Gn.Dr_grow drVe2 soVe2.row hwA hRA hg8) hwb hRb
        obtain ⟨V9,hV9⟩:∃ V,w8.setCell ⟨bp,0,none⟩ (.slice a8 (Lp.length+1) c8)=V:=⟨_,rfl⟩
        rw [hV9] at so8 dr8
        refine hK.out _ _ (trivial) (fun hHeld => ?_)
        clear hK
        try simp [Act.put]
        refine Tk 10 (.pointer (some ⟨bp,0,none⟩)) rfl ?_
        try simp [Act.put]
        refine wpAnyH_ready (rs:=[11]) (by kernel_rfl) (by simp) ?_
        refine AllReadyH.cons rfl (fun KK hK => ?_) AllReadyH.nil
        go_simp
        try rw [hV9]
        refine hK.out _ _ (trivial) (fun hHeld => ?_)
        clear hK
        try simp [Act.put]
        refine wpAnyH_done (by kernel_rfl) ?_ _
        clear hHeld yB yR zR hT9
        have yB:=so8.cell
        have yR:V9.cell? ⟨bt,0,none⟩=some (.slice none 0 0):=by rw [Lib.cell_of_heap so8.res];rfl
        have zR:V9.frozen? ⟨bt,0,none⟩=false:=by simp [World.frozen?,so8.res]
        have hT9:(V9.setCell ⟨bt,0,none⟩ (.slice a8 (Lp.length+1) c8)).cell? ⟨bt,0,none⟩=some (.slice a8 (Lp.length+1) c8):=by rw [Lib.cell_of_heap (Gn.set_same so8.res)];rfl
        go_wp2_with fail
        exact bodyPost_ret (v:=.agg #[(.slice a8 (Lp.length+1) c8)]) (by simp [results,Tryz.results14,go_sem,hT9]) rfl (Gn.sp_end dr8 (by decide) hp hrd (so8.mono (by decide)) hbt hwA)
      · go_simp
        obtain ⟨Va,hVa⟩:∃ V,wb.alloc (.cells #[.string ⟨#[97]⟩,.string ⟨#[122,122]⟩,.string ⟨#[]⟩,.string ⟨#[120,32,121]⟩] 9)=V:=⟨_,rfl⟩
        have hbVa:Below wb.heap.size wb Va:=Gn.below_new hVa
        have hxVa:Va.heap[wb.heap.size]? = some (.cells #[.string ⟨#[97]⟩,.string ⟨#[122,122]⟩,.string ⟨#[]⟩,.string ⟨#[120,32,121]⟩] 9):=by rw [← hVa];exact World.alloc_heap_new wb _
        have drVa:=drwb.below hbVa
        have soVa:=sowb.below hbVa
        try rw [hVa]
        refine hK.out _ _ (trivial) (fun hHeld => ?_)
        clear hK
        try simp [Act.put]
        refine Tk 5 (.pointer (some ⟨wb.heap.size,v4,none⟩)) rfl ?_
        try simp [Act.put]
        refine wpAnyH_ready (rs:=[1,6]) (by kernel_rfl) (by simp) ?_
        refine AllReadyH.cons rfl (fun KK hK => ?_) (AllReadyH.cons rfl (fun KK hK => ?_) AllReadyH.nil)
        · have yL1:=soVa.cell
          go_simp
          refine hK.out _ _ (trivial) (fun hHeld => ?_)
          clear hK
          try simp [Act.put]
          refine wpAnyH_ready (rs:=[6]) (by kernel_rfl) (by simp) ?_
          refine AllReadyH.cons rfl (fun KK hK => ?_) AllReadyH.nil
          obtain ⟨nm,hnc,hnm⟩:=Gn.stab (M:=3) hxVa (by decide) v4 (Gn.nat4 hv4)
          go_simp
          refine hK.out _ _ (trivial) (fun hHeld => ?_)
          clear hK
          try simp [Act.put]
          refine Tk 7 (.agg #[.string nm,.string ⟨#[]⟩]) rfl ?_
          try simp [Act.put]
          refine wpAnyH_ready (rs:=[8]) (by kernel_rfl) (by simp) ?_
          refine AllReadyH.cons rfl (fun KK hK => ?_) AllReadyH.nil
          go_simp
          obtain ⟨Ve2,hVe2⟩:∃ V,Va.alloc (.cells #[.string nm,.string ⟨#[]⟩] 36)=V:=⟨_,rfl⟩
          have hbVe2:Below Va.heap.size Va Ve2:=Gn.below_new hVe2
          have hxVe2:Ve2.heap[Va.heap.size]? = some (.cells #[.string nm,.string ⟨#[]⟩] 36):=by rw [← hVe2];exact World.alloc_heap_new Va _
          have drVe2:=drVa.below hbVe2
          have soVe2:=soVa.below hbVe2
          have tabVe2:=(hbVe2.block _ (Array.getElem?_eq_some_iff.1 hxVa).1).trans hxVa
          try rw [hVe2]
          refine hK.out _ _ (trivial) (fun hHeld => ?_)
          clear hK
          try simp [Act.put]
          refine wpAnyH_ready (rs:=[9]) (by kernel_rfl) (by simp) ?_
          refine AllReadyH.cons rfl (fun KK hK => ?_) AllReadyH.nil
          refine Gn.step_file rfl _ _ rfl soVe2.row hSl nm ⟨#[]⟩ hxVe2 (Nat.le_trans hAb (Nat.le_of_lt (Array.getElem?_eq_some_iff.1 soVe2.box).1)) rfl rfl ?_
          intro a8 c8 w8 row8 hg8
          obtain ⟨so8,y8,z8⟩:=soVe2.app (L':=Lp++[⟨nm,⟨#[]⟩⟩]) hg8 (by rw [Gn.len_app];exact row8) (soVe2.bd.app (Nat.le_trans hnm (by decide)) (by decide))
          have dr8:=Gn.Dr_set (i:=0) (v:=.slice a8 (Lp.length+1) c8) (Gn.Dr_grow drVe2 soVe2.row hwA hRA hg8) hwb hRb
          obtain ⟨V9,hV9⟩:∃ V,w8.setCell ⟨bp,0,none⟩ (.slice a8 (Lp.length+1) c8)=V:=⟨_,rfl⟩
          rw [hV9] at so8 dr8
          refine hK.out _ _ (trivial) (fun hHeld => ?_)
          clear hK
          try simp [Act.put]
          refine Tk 10 (.pointer (some ⟨bp,0,none⟩)) rfl ?_
          try simp [Act.put]
          refine wpAnyH_ready (rs:=[11]) (by kernel_rfl) (by simp) ?_
          refine AllReadyH.cons rfl (fun KK hK => ?_) AllReadyH.nil
          go_simp
          try rw [hV9]
          refine hK.out _ _ (trivial) (fun hHeld => ?_)
          clear hK
          try simp [Act.put]
          refine wpAnyH_done (by kernel_rfl) ?_ _
          clear hHeld yB yR zR hT9
          have yB:=so8.cell
          have yR:V9.cell? ⟨bt,0,none⟩=some (.slice none 0 0):=by rw [Lib.cell_of_heap so8.res];rfl
          have zR:V9.frozen? ⟨bt,0,none⟩=false:=by simp [World.frozen?,so8.res]
          have hT9:(V9.setCell ⟨bt,0,none⟩ (.slice a8 (Lp.length+1) c8)).cell? ⟨bt,0,none⟩=some (.slice a8 (Lp.length+1) c8):=by rw [Lib.cell_of_heap (Gn.set_same so8.res)];rfl
          go_wp2_with fail
          exact bodyPost_ret (v:=.agg #[(.slice a8 (Lp.length+1) c8)]) (by simp [results,Tryz.results14,go_sem,hT9]) rfl (Gn.sp_end dr8 (by decide) hp hrd (so8.mono (by decide)) hbt hwA)
        · obtain ⟨nm,hnc,hnm⟩:=Gn.stab (M:=3) hxVa (by decide) v4 (Gn.nat4 hv4)
          go_simp
          refine hK.out _ _ (trivial) (fun hHeld => ?_)
          clear hK
          try simp [Act.put]
          refine Tk 7 (.agg #[.string nm,.string ⟨#[]⟩]) rfl ?_
          try simp [Act.put]
          refine wpAnyH_ready (rs:=[1,8]) (by kernel_rfl) (by simp) ?_
          refine AllReadyH.cons rfl (fun KK hK => ?_) (AllReadyH.cons rfl (fun KK hK => ?_) AllReadyH.nil)
          · have yL1:=soVa.cell
            go_simp
            refine hK.out _ _ (trivial) (fun hHeld => ?_)
            clear hK
            try simp [Act.put]
            refine wpAnyH_ready (rs:=[8]) (by kernel_rfl) (by simp) ?_
            refine AllReadyH.cons rfl (fun KK hK => ?_) AllReadyH.nil
            go_simp
            obtain ⟨Ve2,hVe2⟩:∃ V,Va.alloc (.cells #[.string nm,.string ⟨#[]⟩] 36)=V:=⟨_,rfl⟩
            have hbVe2:Below Va.heap.size Va Ve2:=Gn.below_new hVe2
            have hxVe2:Ve2.heap[Va.heap.size]? = some (.cells #[.string nm,.string ⟨#[]⟩] 36):=by rw [← hVe2];exact World.alloc_heap_new Va _
            have drVe2:=drVa.below hbVe2
            have soVe2:=soVa.below hbVe2
            have tabVe2:=(hbVe2.block _ (Array.getElem?_eq_some_iff.1 hxVa).1).trans hxVa
            try rw [hVe2]
            refine hK.out _ _ (trivial) (fun hHeld => ?_)
            clear hK
            try simp [Act.put]
            refine wpAnyH_ready (rs:=[9]) (by kernel_rfl) (by simp) ?_
            refine AllReadyH.cons rfl (fun KK hK => ?_) AllReadyH.nil
            refine Gn.step_file rfl _ _ rfl soVe2.row hSl nm ⟨#[]⟩ hxVe2 (Nat.le_trans hAb (Nat.le_of_lt (Array.getElem?_eq_some_iff.1 soVe2.box).1)) rfl rfl ?_
            intro a8 c8 w8 row8 hg8
            obtain ⟨so8,y8,z8⟩:=soVe2.app (L':=Lp++[⟨nm,⟨#[]⟩⟩]) hg8 (by rw [Gn.len_app];exact row8) (soVe2.bd.app (Nat.le_trans hnm (by decide)) (by decide))
            have dr8:=Gn.Dr_set (i:=0) (v:=.slice a8 (Lp.length+1) c8) (Gn.Dr_grow drVe2 soVe2.row hwA hRA hg8) hwb hRb
            obtain ⟨V9,hV9⟩:∃ V,w8.setCell ⟨bp,0,none⟩ (.slice a8 (Lp.length+1) c8)=V:=⟨_,rfl⟩
            rw [hV9] at so8 dr8
            refine hK.out _ _ (trivial) (fun hHeld => ?_)
            clear hK
            try simp [Act.put]
            refine Tk 10 (.pointer (some ⟨bp,0,none⟩)) rfl ?_
            try simp [Act.put]
            refine wpAnyH_ready (rs:=[11]) (by kernel_rfl) (by simp) ?_
            refine AllReadyH.cons rfl (fun KK hK => ?_) AllReadyH.nil
            go_simp
            try rw [hV9]
            refine hK.out _ _ (trivial) (fun hHeld => ?_)
            clear hK
            try simp [Act.put]
            refine wpAnyH_done (by kernel_rfl) ?_ _
            clear hHeld yB yR zR hT9
            have yB:=so8.cell
            have yR:V9.cell? ⟨bt,0,none⟩=some (.slice none 0 0):=by rw [Lib.cell_of_heap so8.res];rfl
            have zR:V9.frozen? ⟨bt,0,none⟩=false:=by simp [World.frozen?,so8.res]
            have hT9:(V9.setCell ⟨bt,0,none⟩ (.slice a8 (Lp.length+1) c8)).cell? ⟨bt,0,none⟩=some (.slice a8 (Lp.length+1) c8):=by rw [Lib.cell_of_heap (Gn.set_same so8.res)];rfl
            go_wp2_with fail
            exact bodyPost_ret (v:=.agg #[(.slice a8 (Lp.length+1) c8)]) (by simp [results,Tryz.results14,go_sem,hT9]) rfl (Gn.sp_end dr8 (by decide) hp hrd (so8.mono (by decide)) hbt hwA)
          · go_simp
            obtain ⟨Ve2,hVe2⟩:∃ V,Va.alloc (.cells #[.string nm,.string ⟨#[]⟩] 36)=V:=⟨_,rfl⟩
            have hbVe2:Below Va.heap.size Va Ve2:=Gn.below_new hVe2
            have hxVe2:Ve2.heap[Va.heap.size]? = some (.cells #[.string nm,.string ⟨#[]⟩] 36):=by rw [← hVe2];exact World.alloc_heap_new Va _
            have drVe2:=drVa.below hbVe2
            have soVe2:=soVa.below hbVe2
            have tabVe2:=(hbVe2.block _ (Array.getElem?_eq_some_iff.1 hxVa).1).trans hxVa
            try rw [hVe2]
            refine hK.out _ _ (trivial) (fun hHeld => ?_)
            clear hK
            try simp [Act.put]
            refine wpAnyH_ready (rs:=[1]) (by kernel_rfl) (by simp) ?_
            refine AllReadyH.cons rfl (fun KK hK => ?_) AllReadyH.nil
            have yL1:=soVe2.cell
            go_simp
            refine hK.out _ _ (trivial) (fun hHeld => ?_)
            clear hK
            try simp [Act.put]
            refine wpAnyH_ready (rs:=[9]) (by kernel_rfl) (by simp) ?_
            refine AllReadyH.cons rfl (fun KK hK => ?_) AllReadyH.nil
            refine Gn.step_file rfl _ _ rfl soVe2.row hSl nm ⟨#[]⟩ hxVe2 (Nat.le_trans hAb (Nat.le_of_lt (Array.getElem?_eq_some_iff.1 soVe2.box).1)) rfl rfl ?_
            intro a8 c8 w8 row8 hg8
            obtain ⟨so8,y8,z8⟩:=soVe2.app (L':=Lp++[⟨nm,⟨#[]⟩⟩]) hg8 (by rw [Gn.len_app];exact row8) (soVe2.bd.app (Nat.le_trans hnm (by decide)) (by decide))
            have dr8:=Gn.Dr_set (i:=0) (v:=.slice a8 (Lp.length+1) c8) (Gn.Dr_grow drVe2 soVe2.row hwA hRA hg8) hwb hRb
            obtain ⟨V9,hV9⟩:∃ V,w8.setCell ⟨bp,0,none⟩ (.slice a8 (Lp.length+1) c8)=V:=⟨_,rfl⟩
            rw [hV9] at so8 dr8
            refine hK.out _ _ (trivial) (fun hHeld => ?_)
            clear hK
            try simp [Act.put]
            refine Tk 10 (.pointer (some ⟨bp,0,none⟩)) rfl ?_
            try simp [Act.put]
            refine wpAnyH_ready (rs:=[11]) (by kernel_rfl) (by simp) ?_
            refine AllReadyH.cons rfl (fun KK hK => ?_) AllReadyH.nil
            go_simp
            try rw [hV9]
            refine hK.out _ _ (trivial) (fun hHeld => ?_)
            clear hK
            try simp [Act.put]
            refine wpAnyH_done (by kernel_rfl) ?_ _
            clear hHeld yB yR zR hT9
            have yB:=so8.cell
            have yR:V9.cell? ⟨bt,0,none⟩=some (.slice none 0 0):=by rw [Lib.cell_of_heap so8.res];rfl
            have zR:V9.frozen? ⟨bt,0,none⟩=false:=by simp [World.frozen?,so8.res]
            have hT9:(V9.setCell ⟨bt,0,none⟩ (.slice a8 (Lp.length+1) c8)).cell? ⟨bt,0,none⟩=some (.slice a8 (Lp.length+1) c8):=by rw [Lib.cell_of_heap (Gn.set_same so8.res)];rfl
            go_wp2_with fail
            exact bodyPost_ret (v:=.agg #[(.slice a8 (Lp.length+1) c8)]) (by simp [results,Tryz.results14,go_sem,hT9]) rfl (Gn.sp_end dr8 (by decide) hp hrd (so8.mono (by decide)) hbt hwA)
  · have hpos:0 < Lp.length:=by omega
    obtain ⟨f0,r0,hLp0⟩:=List.exists_cons_of_length_pos hpos
    have HLP:Hid (Lp=f0::r0):=hLp0
    clear hLp0
    obtain ⟨b,ha5,hob⟩:=Gn.row_blk so6.row hpos
    have hAbl:A≤b:=(Gn.row_type so6.row hob).1.1
    have hwbl:=Nat.le_trans hwA hAbl
    have hRbl:=Nat.lt_of_lt_of_le hRA hAbl
    have dr6d:=dr6.below ((Below.refl _ w6).drew)
    have so6d:=so6.below ((Below.refl _ w6).drew)
    refine wp_region_held_drew (S:=(fun _=>True)) (by kernel_rfl) (trivial) (fun hHeld => ?_)
    refine Tk 0 (.pointer (some ⟨bp,0,none⟩)) rfl ?_
    try simp [Act.put]
    refine Tk 2 (.pointer (some ⟨R,0,none⟩)) rfl ?_
    try simp [Act.put]
    refine wpAnyH_ready (rs:=[1,3]) (by kernel_rfl) (by simp) ?_
    refine AllReadyH.cons rfl (fun KK hK => ?_) (AllReadyH.cons rfl (fun KK hK => ?_) AllReadyH.nil)
    · have yL1:=so6d.cell
      go_simp
      refine hK.out _ _ (trivial) (fun hHeld => ?_)
      clear hK
      try simp [Act.put]
      refine wpAnyH_ready (rs:=[3]) (by kernel_rfl) (by simp) ?_
      refine AllReadyH.cons rfl (fun KK hK => ?_) AllReadyH.nil
      go_simp
      refine (Gn.pickDI 2 dr6d (by omega) (by decide) (by decide)).mono ?_
      rintro e wb ⟨v2,rfl,hv2,drwb,hbwb⟩
      have hwi:=Gn.wi3000 hv2
      have sowb:=so6d.but dr6d hbwb hRA
      go_wp2
      refine hK.out _ _ (trivial) (fun hHeld => ?_)
      clear hK
      try simp [Act.put]
      refine Tk 4 (.int .i64 (3000+v2)) rfl ?_
      try simp [Act.put]
      refine wpAnyH_ready (rs:=[5]) (by kernel_rfl) (by simp) ?_
      refine AllReadyH.cons rfl (fun KK hK => ?_) AllReadyH.nil
      go_simp
      refine (Gn.manyE ⟨#[112]⟩ (3000+v2) drwb (by decide) (by omega) (by omega)).mono ?_
      rintro e wd ⟨tx,rfl,htx,drwd,hbwd⟩
      have sowd:=sowb.but drwb hbwd hRA
      have hat:=sowd.at_ (i:=1) (u:=.string f0.text) hob (by rw [HLP.out];rfl)
      obtain ⟨y8,z8⟩:=hat
      have so9:=sowd.write (i:=1) (u:=.string tx) (L':=⟨f0.name,tx⟩::r0) hob (by rw [HLP.out];rfl) (by rw [HLP.out];rfl) (Gn.bd_cons sowd.bd HLP.out (Gn.many_3000 htx hv2))
      have dr9:=Gn.Dr_set (i:=1) (v:=.string tx) drwd hwbl hRbl
      obtain ⟨V9,hV9⟩:∃ V,wd.setCell ⟨b,1,none⟩ (.string tx)=V:=⟨_,rfl⟩
      rw [hV9] at so9 dr9
      go_wp2
      refine hK.out _ _ (trivial) (fun hHeld => ?_)
      clear hK
      try simp [Act.put]
      refine Tk 6 (.pointer (some ⟨b,0,none⟩)) rfl ?_
      try simp [Act.put]
      refine Tk 7 (.pointer (some ⟨b,1,none⟩)) rfl ?_
      try simp [Act.put]
      refine wpAnyH_ready (rs:=[8]) (by kernel_rfl) (by simp) ?_
      refine AllReadyH.cons rfl (fun KK hK => ?_) AllReadyH.nil
      go_simp
      try rw [hV9]
      refine hK.out _ _ (trivial) (fun hHeld => ?_)
      clear hK
      try simp [Act.put]
      refine wpAnyH_done (by kernel_rfl) ?_ _
      clear hHeld yB yR zR hT9 ha5
      have yB:=so9.cell
      have yR:V9.cell? ⟨bt,0,none⟩=some (.slice none 0 0):=by rw [Lib.cell_of_heap so9.res];rfl
      have zR:V9.frozen? ⟨bt,0,none⟩=false:=by simp [World.frozen?,so9.res]
      have hT9:(V9.setCell ⟨bt,0,none⟩ (.slice a5 Lp.length c5)).cell? ⟨bt,0,none⟩=some (.slice a5 Lp.length c5):=by rw [Lib.cell_of_heap (Gn.set_same so9.res)];rfl
      go_wp2_with fail
      exact bodyPost_ret (v:=.agg #[(.slice a5 Lp.length c5)]) (by simp [results,Tryz.results14,go_sem,hT9]) rfl (Gn.sp_end dr9 (by decide) hp hrd (so9.mono (by decide)) hbt hwA)
    · go_simp
      refine (Gn.pickDI 2 dr6d (by omega) (by decide) (by decide)).mono ?_
      rintro e wb ⟨v2,rfl,hv2,drwb,hbwb⟩
      have hwi:=Gn.wi3000 hv2
      have sowb:=so6d.but dr6d hbwb hRA
      go_wp2
      refine hK.out _ _ (trivial) (fun hHeld => ?_)
      clear hK
      try simp [Act.put]
      refine Tk 4 (.int .i64 (3000+v2)) rfl ?_
      try simp [Act.put]
      refine wpAnyH_ready (rs:=[1,5]) (by kernel_rfl) (by simp) ?_
      refine AllReadyH.cons rfl (fun KK hK => ?_) (AllReadyH.cons rfl (fun KK hK => ?_) AllReadyH.nil)
      · have yL1:=sowb.cell
        go_simp
        refine hK.out _ _ (trivial) (fun hHeld => ?_)
        clear hK
        try simp [Act.put]
        refine wpAnyH_ready (rs:=[5]) (by kernel_rfl) (by simp) ?_
        refine AllReadyH.cons rfl (fun KK hK => ?_) AllReadyH.nil
        go_simp
        refine (Gn.manyE ⟨#[112]⟩ (3000+v2) drwb (by decide) (by omega) (by omega)).mono ?_
        rintro e wd ⟨tx,rfl,htx,drwd,hbwd⟩
        have sowd:=sowb.but drwb hbwd hRA
        have hat:=sowd.at_ (i:=1) (u:=.string f0.text) hob (by rw [HLP.out];rfl)
        obtain ⟨y8,z8⟩:=hat
        have so9:=sowd.write (i:=1) (u:=.string tx) (L':=⟨f0.name,tx⟩::r0) hob (by rw [HLP.out];rfl) (by rw [HLP.out];rfl) (Gn.bd_cons sowd.bd HLP.out (Gn.many_3000 htx hv2))
        have dr9:=Gn.Dr_set (i:=1) (v:=.string tx) drwd hwbl hRbl
        obtain ⟨V9,hV9⟩:∃ V,wd.setCell ⟨b,1,none⟩ (.string tx)=V:=⟨_,rfl⟩
        rw [hV9] at so9 dr9
        go_wp2
        refine hK.out _ _ (trivial) (fun hHeld => ?_)
        clear hK
        try simp [Act.put]
        refine Tk 6 (.pointer (some ⟨b,0,none⟩)) rfl ?_
        try simp [Act.put]
        refine Tk 7 (.pointer (some ⟨b,1,none⟩)) rfl ?_
        try simp [Act.put]
        refine wpAnyH_ready (rs:=[8]) (by kernel_rfl) (by simp) ?_
        refine AllReadyH.cons rfl (fun KK hK => ?_) AllReadyH.nil
        go_simp
        try rw [hV9]
        refine hK.out _ _ (trivial) (fun hHeld => ?_)
        clear hK
        try simp [Act.put]
        refine wpAnyH_done (by kernel_rfl) ?_ _
        clear hHeld yB yR zR hT9 ha5
        have yB:=so9.cell
        have yR:V9.cell? ⟨bt,0,none⟩=some (.slice none 0 0):=by rw [Lib.cell_of_heap so9.res];rfl
        have zR:V9.frozen? ⟨bt,0,none⟩=false:=by simp [World.frozen?,so9.res]
        have hT9:(V9.setCell ⟨bt,0,none⟩ (.slice a5 Lp.length c5)).cell? ⟨bt,0,none⟩=some (.slice a5 Lp.length c5):=by rw [Lib.cell_of_heap (Gn.set_same so9.res)];rfl
        go_wp2_with fail
        exact bodyPost_ret (v:=.agg #[(.slice a5 Lp.length c5)]) (by simp [results,Tryz.results14,go_sem,hT9]) rfl (Gn.sp_end dr9 (by decide) hp hrd (so9.mono (by decide)) hbt hwA)
      · go_simp
        refine (Gn.manyE ⟨#[112]⟩ (3000+v2) drwb (by decide) (by omega) (by omega)).mono ?_
        rintro e wd ⟨tx,rfl,htx,drwd,hbwd⟩
        have sowd:=sowb.but drwb hbwd hRA
        have hat:=sowd.at_ (i:=1) (u:=.string f0.text) hob (by rw [HLP.out];rfl)
        obtain ⟨y8,z8⟩:=hat
        have so9:=sowd.write (i:=1) (u:=.string tx) (L':=⟨f0.name,tx⟩::r0) hob (by rw [HLP.out];rfl) (by rw [HLP.out];rfl) (Gn.bd_cons sowd.bd HLP.out (Gn.many_3000 htx hv2))
        have dr9:=Gn.Dr_set (i:=1) (v:=.string tx) drwd hwbl hRbl
        obtain ⟨V9,hV9⟩:∃ V,wd.setCell ⟨b,1,none⟩ (.string tx)=V:=⟨_,rfl⟩
        rw [hV9] at so9 dr9
        go_wp2
        refine hK.out _ _ (trivial) (fun hHeld => ?_)
        clear hK
        try simp [Act.put]
        refine wpAnyH_ready (rs:=[1]) (by kernel_rfl) (by simp) ?_
        refine AllReadyH.cons rfl (fun KK hK => ?_) AllReadyH.nil
        have yL1:=sowd.cell
        go_simp
        refine hK.out _ _ (trivial) (fun hHeld => ?_)
        clear hK
        try simp [Act.put]
        refine Tk 6 (.pointer (some ⟨b,0,none⟩)) rfl ?_
        try simp [Act.put]
        refine Tk 7 (.pointer (some ⟨b,1,none⟩)) rfl ?_
        try simp [Act.put]
        refine wpAnyH_ready (rs:=[8]) (by kernel_rfl) (by simp) ?_
        refine AllReadyH.cons rfl (fun KK hK => ?_) AllReadyH.nil
        go_simp
        try rw [hV9]
        refine hK.out _ _ (trivial) (fun hHeld => ?_)
        clear hK
        try simp [Act.put]
        refine wpAnyH_done (by kernel_rfl) ?_ _
        clear hHeld yB yR zR hT9 ha5
        have yB:=so9.cell
        have yR:V9.cell? ⟨bt,0,none⟩=some (.slice none 0 0):=by rw [Lib.cell_of_heap so9.res];rfl
        have zR:V9.frozen? ⟨bt,0,none⟩=false:=by simp [World.frozen?,so9.res]
        have hT9:(V9.setCell ⟨bt,0,none⟩ (.slice a5 Lp.length c5)).cell? ⟨bt,0,none⟩=some (.slice a5 Lp.length c5):=by rw [Lib.cell_of_heap (Gn.set_same so9.res)];rfl
        go_wp2_with fail
        exact bodyPost_ret (v:=.agg #[(.slice a5 Lp.length c5)]) (by simp [results,Tryz.results14,go_sem,hT9]) rfl (Gn.sp_end dr9 (by decide) hp hrd (so9.mono (by decide)) hbt hwA)
  · have dr6d:=dr6.below ((Below.refl _ w6).drew)
    have so6d:=so6.below ((Below.refl _ w6).drew)
    refine wp_region_held_drew (S:=(fun _=>True)) (by kernel_rfl) (trivial) (fun hHeld => ?_)
    refine Tk 0 (.pointer (some ⟨bp,0,none⟩)) rfl ?_
    try simp [Act.put]
    refine Tk 2 (.pointer (some ⟨R,0,none⟩)) rfl ?_
    try simp [Act.put]
    refine wpAnyH_ready (rs:=[1,3]) (by kernel_rfl) (by simp) ?_
    refine AllReadyH.cons rfl (fun KK hK => ?_) (AllReadyH.cons rfl (fun KK hK => ?_) AllReadyH.nil)
    · have yL1:=so6d.cell
      go_simp
      refine hK.out _ _ (trivial) (fun hHeld => ?_)
      clear hK
      try simp [Act.put]
      refine wpAnyH_ready (rs:=[3]) (by kernel_rfl) (by simp) ?_
      refine AllReadyH.cons rfl (fun KK hK => ?_) AllReadyH.nil
      go_simp
      refine (Gn.pickDI 2 dr6d (by omega) (by decide) (by decide)).mono ?_
      rintro e wb ⟨v2,rfl,hv2,drwb,hbwb⟩
      have hwi:=Gn.wi60 hv2
      have sowb:=so6d.but dr6d hbwb hRA
      go_wp2
      refine hK.out _ _ (trivial) (fun hHeld => ?_)
      clear hK
      try simp [Act.put]
      refine Tk 4 (.int .i64 (60+v2)) rfl ?_
      try simp [Act.put]
      refine wpAnyH_ready (rs:=[5]) (by kernel_rfl) (by simp) ?_
      refine AllReadyH.cons rfl (fun KK hK => ?_) AllReadyH.nil
      go_simp
      refine (Gn.manyE ⟨#[122]⟩ (60+v2) drwb (by decide) (by omega) (by omega)).mono ?_
      rintro e wd ⟨tx,rfl,htx,drwd,hbwd⟩
      have sowd:=sowb.but drwb hbwd hRA
      go_wp2
      refine hK.out _ _ (trivial) (fun hHeld => ?_)
      clear hK
      try simp [Act.put]
      refine Tk 6 (.agg #[.string tx,.string ⟨#[]⟩]) rfl ?_
      try simp [Act.put]
      refine wpAnyH_ready (rs:=[7]) (by kernel_rfl) (by simp) ?_
      refine AllReadyH.cons rfl (fun KK hK => ?_) AllReadyH.nil
      go_simp
      obtain ⟨Ve2,hVe2⟩:∃ V,wd.alloc (.cells #[.string tx,.string ⟨#[]⟩] 36)=V:=⟨_,rfl⟩
      have hbVe2:Below wd.heap.size wd Ve2:=Gn.below_new hVe2
      have hxVe2:Ve2.heap[wd.heap.size]? = some (.cells #[.string tx,.string ⟨#[]⟩] 36):=by rw [← hVe2];exact World.alloc_heap_new wd _
      have drVe2:=drwd.below hbVe2
      have soVe2:=sowd.below hbVe2
      try rw [hVe2]
      refine hK.out _ _ (trivial) (fun hHeld => ?_)
      clear hK
      try simp [Act.put]
      refine wpAnyH_ready (rs:=[8]) (by kernel_rfl) (by simp) ?_
      refine AllReadyH.cons rfl (fun KK hK => ?_) AllReadyH.nil
      refine Gn.step_file rfl _ _ rfl soVe2.row hSl tx ⟨#[]⟩ hxVe2 (Nat.le_trans hAb (Nat.le_of_lt (Array.getElem?_eq_some_iff.1 soVe2.box).1)) rfl rfl ?_
      intro a8 c8 w8 row8 hg8
      obtain ⟨so8,y8,z8⟩:=soVe2.app (L':=Lp++[⟨tx,⟨#[]⟩⟩]) hg8 (by rw [Gn.len_app];exact row8) (soVe2.bd.app (Gn.many_60 htx hv2) (by decide))
      have dr8:=Gn.Dr_set (i:=0) (v:=.slice a8 (Lp.length+1) c8) (Gn.Dr_grow drVe2 soVe2.row hwA hRA hg8) hwb hRb
      obtain ⟨V9,hV9⟩:∃ V,w8.setCell ⟨bp,0,none⟩ (.slice a8 (Lp.length+1) c8)=V:=⟨_,rfl⟩
      rw [hV9] at so8 dr8
      refine hK.out _ _ (trivial) (fun hHeld => ?_)
      clear hK
      try simp [Act.put]
      refine Tk 9 (.pointer (some ⟨bp,0,none⟩)) rfl ?_
      try simp [Act.put]
      refine wpAnyH_ready (rs:=[10]) (by kernel_rfl) (by simp) ?_
      refine AllReadyH.cons rfl (fun KK hK => ?_) AllReadyH.nil
      go_simp
      try rw [hV9]
      refine hK.out _ _ (trivial) (fun hHeld => ?_)
      clear hK
      try simp [Act.put]
      refine wpAnyH_done (by kernel_rfl) ?_ _
      clear hHeld yB yR zR hT9
      have yB:=so8.cell
      have yR:V9.cell? ⟨bt,0,none⟩=some (.slice none 0 0):=by rw [Lib.cell_of_heap so8.res];rfl
      have zR:V9.frozen? ⟨bt,0,none⟩=false:=by simp [World.frozen?,so8.res]
      have hT9:(V9.setCell ⟨bt,0,none⟩ (.slice a8 (Lp.length+1) c8)).cell? ⟨bt,0,none⟩=some (.slice a8 (Lp.length+1) c8):=by rw [Lib.cell_of_heap (Gn.set_same so8.res)];rfl
      go_wp2_with fail
      exact bodyPost_ret (v:=.agg #[(.slice a8 (Lp.length+1) c8)]) (by simp [results,Tryz.results14,go_sem,hT9]) rfl (Gn.sp_end dr8 (by decide) hp hrd (so8.mono (by decide)) hbt hwA)
    · go_simp
      refine (Gn.pickDI 2 dr6d (by omega) (by decide) (by decide)).mono ?_
      rintro e wb ⟨v2,rfl,hv2,drwb,hbwb⟩
      have hwi:=Gn.wi60 hv2
      have sowb:=so6d.but dr6d hbwb hRA
      go_wp2
      refine hK.out _ _ (trivial) (fun hHeld => ?_)
      clear hK
      try simp [Act.put]
      refine Tk 4 (.int .i64 (60+v2)) rfl ?_
      try simp [Act.put]
      refine wpAnyH_ready (rs:=[1,5]) (by kernel_rfl) (by simp) ?_
      refine AllReadyH.cons rfl (fun KK hK => ?_) (AllReadyH.cons rfl (fun KK hK => ?_) AllReadyH.nil)
      · have yL1:=sowb.cell
        go_simp
        refine hK.out _ _ (trivial) (fun hHeld => ?_)
        clear hK
        try simp [Act.put]
        refine wpAnyH_ready (rs:=[5]) (by kernel_rfl) (by simp) ?_
        refine AllReadyH.cons rfl (fun KK hK => ?_) AllReadyH.nil
        go_simp
        refine (Gn.manyE ⟨#[122]⟩ (60+v2) drwb (by decide) (by omega) (by omega)).mono ?_
        rintro e wd ⟨tx,rfl,htx,drwd,hbwd⟩
        have sowd:=sowb.but drwb hbwd hRA
        go_wp2
        refine hK.out _ _ (trivial) (fun hHeld => ?_)
        clear hK
        try simp [Act.put]
        refine Tk 6 (.agg #[.string tx,.string ⟨#[]⟩]) rfl ?_
        try simp [Act.put]
        refine wpAnyH_ready (rs:=[7]) (by kernel_rfl) (by simp) ?_
        refine AllReadyH.cons rfl (fun KK hK => ?_) AllReadyH.nil
        go_simp
        obtain ⟨Ve2,hVe2⟩:∃ V,wd.alloc (.cells #[.string tx,.string ⟨#[]⟩] 36)=V:=⟨_,rfl⟩
        have hbVe2:Below wd.heap.size wd Ve2:=Gn.below_new hVe2
        have hxVe2:Ve2.heap[wd.heap.size]? = some (.cells #[.string tx,.string ⟨#[]⟩] 36):=by rw [← hVe2];exact World.alloc_heap_new wd _
        have drVe2:=drwd.below hbVe2
        have soVe2:=sowd.below hbVe2
        try rw [hVe2]
        refine hK.out _ _ (trivial) (fun hHeld => ?_)
        clear hK
        try simp [Act.put]
        refine wpAnyH_ready (rs:=[8]) (by kernel_rfl) (by simp) ?_
        refine AllReadyH.cons rfl (fun KK hK => ?_) AllReadyH.nil
        refine Gn.step_file rfl _ _ rfl soVe2.row hSl tx ⟨#[]⟩ hxVe2 (Nat.le_trans hAb (Nat.le_of_lt (Array.getElem?_eq_some_iff.1 soVe2.box).1)) rfl rfl ?_
        intro a8 c8 w8 row8 hg8
        obtain ⟨so8,y8,z8⟩:=soVe2.app (L':=Lp++[⟨tx,⟨#[]⟩⟩]) hg8 (by rw [Gn.len_app];exact row8) (soVe2.bd.app (Gn.many_60 htx hv2) (by decide))
        have dr8:=Gn.Dr_set (i:=0) (v:=.slice a8 (Lp.length+1) c8) (Gn.Dr_grow drVe2 soVe2.row hwA hRA hg8) hwb hRb
        obtain ⟨V9,hV9⟩:∃ V,w8.setCell ⟨bp,0,none⟩ (.slice a8 (Lp.length+1) c8)=V:=⟨_,rfl⟩
        rw [hV9] at so8 dr8
        refine hK.out _ _ (trivial) (fun hHeld => ?_)
        clear hK
        try simp [Act.put]
        refine Tk 9 (.pointer (some ⟨bp,0,none⟩)) rfl ?_
        try simp [Act.put]
        refine wpAnyH_ready (rs:=[10]) (by kernel_rfl) (by simp) ?_
        refine AllReadyH.cons rfl (fun KK hK => ?_) AllReadyH.nil
        go_simp
        try rw [hV9]
        refine hK.out _ _ (trivial) (fun hHeld => ?_)
        clear hK
        try simp [Act.put]
        refine wpAnyH_done (by kernel_rfl) ?_ _
        clear hHeld yB yR zR hT9
        have yB:=so8.cell
        have yR:V9.cell? ⟨bt,0,none⟩=some (.slice none 0 0):=by rw [Lib.cell_of_heap so8.res];rfl
        have zR:V9.frozen? ⟨bt,0,none⟩=false:=by simp [World.frozen?,so8.res]
        have hT9:(V9.setCell ⟨bt,0,none⟩ (.slice a8 (Lp.length+1) c8)).cell? ⟨bt,0,none⟩=some (.slice a8 (Lp.length+1) c8):=by rw [Lib.cell_of_heap (Gn.set_same so8.res)];rfl
        go_wp2_with fail
        exact bodyPost_ret (v:=.agg #[(.slice a8 (Lp.length+1) c8)]) (by simp [results,Tryz.results14,go_sem,hT9]) rfl (Gn.sp_end dr8 (by decide) hp hrd (so8.mono (by decide)) hbt hwA)
      · go_simp
        refine (Gn.manyE ⟨#[122]⟩ (60+v2) drwb (by decide) (by omega) (by omega)).mono ?_
        rintro e wd ⟨tx,rfl,htx,drwd,hbwd⟩
        have sowd:=sowb.but drwb hbwd hRA
        go_wp2
        refine hK.out _ _ (trivial) (fun hHeld => ?_)
        clear hK
        try simp [Act.put]
        refine Tk 6 (.agg #[.string tx,.string ⟨#[]⟩]) rfl ?_
        try simp [Act.put]
        refine wpAnyH_ready (rs:=[1,7]) (by kernel_rfl) (by simp) ?_
        refine AllReadyH.cons rfl (fun KK hK => ?_) (AllReadyH.cons rfl (fun KK hK => ?_) AllReadyH.nil)
        · have yL1:=sowd.cell
          go_simp
          refine hK.out _ _ (trivial) (fun hHeld => ?_)
          clear hK
          try simp [Act.put]
          refine wpAnyH_ready (rs:=[7]) (by kernel_rfl) (by simp) ?_
          refine AllReadyH.cons rfl (fun KK hK => ?_) AllReadyH.nil
          go_simp
          obtain ⟨Ve2,hVe2⟩:∃ V,wd.alloc (.cells #[.string tx,.string ⟨#[]⟩] 36)=V:=⟨_,rfl⟩
          have hbVe2:Below wd.heap.size wd Ve2:=Gn.below_new hVe2
          have hxVe2:Ve2.heap[wd.heap.size]? = some (.cells #[.string tx,.string ⟨#[]⟩] 36):=by rw [← hVe2];exact World.alloc_heap_new wd _
          have drVe2:=drwd.below hbVe2
          have soVe2:=sowd.below hbVe2
          try rw [hVe2]
          refine hK.out _ _ (trivial) (fun hHeld => ?_)
          clear hK
          try simp [Act.put]
          refine wpAnyH_ready (rs:=[8]) (by kernel_rfl) (by simp) ?_
          refine AllReadyH.cons rfl (fun KK hK => ?_) AllReadyH.nil
          refine Gn.step_file rfl _ _ rfl soVe2.row hSl tx ⟨#[]⟩ hxVe2 (Nat.le_trans hAb (Nat.le_of_lt (Array.getElem?_eq_some_iff.1 soVe2.box).1)) rfl rfl ?_
          intro a8 c8 w8 row8 hg8
          obtain ⟨so8,y8,z8⟩:=soVe2.app (L':=Lp++[⟨tx,⟨#[]⟩⟩]) hg8 (by rw [Gn.len_app];exact row8) (soVe2.bd.app (Gn.many_60 htx hv2) (by decide))
          have dr8:=Gn.Dr_set (i:=0) (v:=.slice a8 (Lp.length+1) c8) (Gn.Dr_grow drVe2 soVe2.row hwA hRA hg8) hwb hRb
          obtain ⟨V9,hV9⟩:∃ V,w8.setCell ⟨bp,0,none⟩ (.slice a8 (Lp.length+1) c8)=V:=⟨_,rfl⟩
          rw [hV9] at so8 dr8
          refine hK.out _ _ (trivial) (fun hHeld => ?_)
          clear hK
          try simp [Act.put]
          refine Tk 9 (.pointer (some ⟨bp,0,none⟩)) rfl ?_
          try simp [Act.put]
          refine wpAnyH_ready (rs:=[10]) (by kernel_rfl) (by simp) ?_
          refine AllReadyH.cons rfl (fun KK hK => ?_) AllReadyH.nil
          go_simp
          try rw [hV9]
          refine hK.out _ _ (trivial) (fun hHeld => ?_)
          clear hK
          try simp [Act.put]
          refine wpAnyH_done (by kernel_rfl) ?_ _
          clear hHeld yB yR zR hT9
          have yB:=so8.cell
          have yR:V9.cell? ⟨bt,0,none⟩=some (.slice none 0 0):=by rw [Lib.cell_of_heap so8.res];rfl
          have zR:V9.frozen? ⟨bt,0,none⟩=false:=by simp [World.frozen?,so8.res]
          have hT9:(V9.setCell ⟨bt,0,none⟩ (.slice a8 (Lp.length+1) c8)).cell? ⟨bt,0,none⟩=some (.slice a8 (Lp.length+1) c8):=by rw [Lib.cell_of_heap (Gn.set_same so8.res)];rfl
          go_wp2_with fail
          exact bodyPost_ret (v:=.agg #[(.slice a8 (Lp.length+1) c8)]) (by simp [results,Tryz.results14,go_sem,hT9]) rfl (Gn.sp_end dr8 (by decide) hp hrd (so8.mono (by decide)) hbt hwA)
        · go_simp
          obtain ⟨Ve2,hVe2⟩:∃ V,wd.alloc (.cells #[.string tx,.string ⟨#[]⟩] 36)=V:=⟨_,rfl⟩
          have hbVe2:Below wd.heap.size wd Ve2:=Gn.below_new hVe2
          have hxVe2:Ve2.heap[wd.heap.size]? = some (.cells #[.string tx,.string ⟨#[]⟩] 36):=by rw [← hVe2];exact World.alloc_heap_new wd _
          have drVe2:=drwd.below hbVe2
          have soVe2:=sowd.below hbVe2
          try rw [hVe2]
          refine hK.out _ _ (trivial) (fun hHeld => ?_)
          clear hK
          try simp [Act.put]
          refine wpAnyH_ready (rs:=[1]) (by kernel_rfl) (by simp) ?_
          refine AllReadyH.cons rfl (fun KK hK => ?_) AllReadyH.nil
          have yL1:=soVe2.cell
          go_simp
          refine hK.out _ _ (trivial) (fun hHeld => ?_)
          clear hK
          try simp [Act.put]
          refine wpAnyH_ready (rs:=[8]) (by kernel_rfl) (by simp) ?_
          refine AllReadyH.cons rfl (fun KK hK => ?_) AllReadyH.nil
          refine Gn.step_file rfl _ _ rfl soVe2.row hSl tx ⟨#[]⟩ hxVe2 (Nat.le_trans hAb (Nat.le_of_lt (Array.getElem?_eq_some_iff.1 soVe2.box).1)) rfl rfl ?_
          intro a8 c8 w8 row8 hg8
          obtain ⟨so8,y8,z8⟩:=soVe2.app (L':=Lp++[⟨tx,⟨#[]⟩⟩]) hg8 (by rw [Gn.len_app];exact row8) (soVe2.bd.app (Gn.many_60 htx hv2) (by decide))
          have dr8:=Gn.Dr_set (i:=0) (v:=.slice a8 (Lp.length+1) c8) (Gn.Dr_grow drVe2 soVe2.row hwA hRA hg8) hwb hRb
          obtain ⟨V9,hV9⟩:∃ V,w8.setCell ⟨bp,0,none⟩ (.slice a8 (Lp.length+1) c8)=V:=⟨_,rfl⟩
          rw [hV9] at so8 dr8
          refine hK.out _ _ (trivial) (fun hHeld => ?_)
          clear hK
          try simp [Act.put]
          refine Tk 9 (.pointer (some ⟨bp,0,none⟩)) rfl ?_
          try simp [Act.put]
          refine wpAnyH_ready (rs:=[10]) (by kernel_rfl) (by simp) ?_
          refine AllReadyH.cons rfl (fun KK hK => ?_) AllReadyH.nil
          go_simp
          try rw [hV9]
          refine hK.out _ _ (trivial) (fun hHeld => ?_)
          clear hK
          try simp [Act.put]
          refine wpAnyH_done (by kernel_rfl) ?_ _
          clear hHeld yB yR zR hT9
          have yB:=so8.cell
          have yR:V9.cell? ⟨bt,0,none⟩=some (.slice none 0 0):=by rw [Lib.cell_of_heap so8.res];rfl
          have zR:V9.frozen? ⟨bt,0,none⟩=false:=by simp [World.frozen?,so8.res]
          have hT9:(V9.setCell ⟨bt,0,none⟩ (.slice a8 (Lp.length+1) c8)).cell? ⟨bt,0,none⟩=some (.slice a8 (Lp.length+1) c8):=by rw [Lib.cell_of_heap (Gn.set_same so8.res)];rfl
          go_wp2_with fail
          exact bodyPost_ret (v:=.agg #[(.slice a8 (Lp.length+1) c8)]) (by simp [results,Tryz.results14,go_sem,hT9]) rfl (Gn.sp_end dr8 (by decide) hp hrd (so8.mono (by decide)) hbt hwA)
  · have hpos:0 < Lp.length:=by omega
    have hpos1:1 < Lp.length:=by omega
    obtain ⟨f0,f1,r1,hLp0⟩:=Gn.two_of hpos1
    have HLP:Hid (Lp=f0::f1::r1):=hLp0
    clear hLp0
    obtain ⟨b,ha5,hob⟩:=Gn.row_blk so6.row hpos
    have hAbl:A≤b:=(Gn.row_type so6.row hob).1.1
    have hwbl:=Nat.le_trans hwA hAbl
    have hRbl:=Nat.lt_of_lt_of_le hRA hAbl
    have dr6d:=dr6.below ((Below.refl _ w6).drew)
    have so6d:=so6.below ((Below.refl _ w6).drew)
    obtain ⟨x0,q0⟩:=so6d.at_ (i:=0) (u:=.string f0.name) hob (by rw [HLP.out];rfl)
    obtain ⟨x1,q1⟩:=so6d.at_ (i:=1) (u:=.string f0.text) hob (by rw [HLP.out];rfl)
    obtain ⟨x2,-⟩:=so6d.at_ (i:=2) (u:=.string f1.name) hob (by rw [HLP.out];rfl)
    obtain ⟨x3,-⟩:=so6d.at_ (i:=3) (u:=.string f1.text) hob (by rw [HLP.out];rfl)
    have som:=so6.write (i:=0) (u:=.string f1.name) (L':=(⟨f1.name,f0.text⟩::f1::r1)) hob (by rw [HLP.out];rfl) (by rw [HLP.out];rfl) (Gn.bd_two so6.bd HLP.out).1
    obtain ⟨k1,k2⟩:=som.at_ (i:=1) (u:=.string f0.text) hob rfl
    obtain ⟨k3,k4⟩:=(som.below ((Below.refl _ _).drew)).at_ (i:=1) (u:=.string f0.text) hob rfl
    have so9:=(som.write (i:=1) (u:=.string f1.text) (L':=(⟨f1.name,f1.text⟩::f1::r1)) hob rfl rfl (Gn.bd_two so6.bd HLP.out).2).below ((Below.refl _ _).drew)
    have dr9:=(Gn.Dr_set (i:=1) (v:=.string f1.text) (Gn.Dr_set (i:=0) (v:=.string f1.name) dr6 hwbl hRbl) hwbl hRbl).below ((Below.refl _ _).drew)
    obtain ⟨V9,hV9⟩:∃ V,((w6.setCell ⟨b,0,none⟩ (.string f1.name)).setCell ⟨b,1,none⟩ (.string f1.text)).drew=V:=⟨_,rfl⟩
    rw [hV9] at so9 dr9
    refine wp_region_held_drew (S:=(fun _=>True)) (by kernel_rfl) (trivial) (fun hHeld => ?_)
    refine Tk 0 (.pointer (some ⟨bp,0,none⟩)) rfl ?_
    try simp [Act.put]
    refine Tk 2 (.pointer (some ⟨bp,0,none⟩)) rfl ?_
    try simp [Act.put]
    refine wpAnyH_ready (rs:=[1,3]) (by kernel_rfl) (by simp) ?_
    refine AllReadyH.cons rfl (fun KK hK => ?_) (AllReadyH.cons rfl (fun KK hK => ?_) AllReadyH.nil)
    · have yL1:=so6d.cell
      go_simp
      refine hK.out _ _ (trivial) (fun hHeld => ?_)
      clear hK
      try simp [Act.put]
      refine wpAnyH_ready (rs:=[3]) (by kernel_rfl) (by simp) ?_
      refine AllReadyH.cons rfl (fun KK hK => ?_) AllReadyH.nil
      have yL2:=so6d.cell
      go_simp
      refine hK.out _ _ (trivial) (fun hHeld => ?_)
      clear hK
      try simp [Act.put]
      refine Tk 4 (.pointer (some ⟨b,2,none⟩)) rfl ?_
      try simp [Act.put]
      refine wpAnyH_ready (rs:=[5]) (by kernel_rfl) (by simp) ?_
      refine AllReadyH.cons rfl (fun KK hK => ?_) AllReadyH.nil
      go_simp
      refine hK.out _ _ (trivial) (fun hHeld => ?_)
      clear hK
      try simp [Act.put]
      refine Tk 6 (.pointer (some ⟨b,0,none⟩)) rfl ?_
      try simp [Act.put]
      refine wpAnyH_ready (rs:=[7]) (by kernel_rfl) (by simp) ?_
      refine AllReadyH.cons rfl (fun KK hK => ?_) AllReadyH.nil
      go_simp
      try rw [hV9]
      refine hK.out _ _ (trivial) (fun hHeld => ?_)
      clear hK
      try simp [Act.put]
      refine wpAnyH_done (by kernel_rfl) ?_ _
      clear hHeld yB yR zR hT9 ha5
      have yB:=so9.cell
      have yR:V9.cell? ⟨bt,0,none⟩=some (.slice none 0 0):=by rw [Lib.cell_of_heap so9.res];rfl
      have zR:V9.frozen? ⟨bt,0,none⟩=false:=by simp [World.frozen?,so9.res]
      have hT9:(V9.setCell ⟨bt,0,none⟩ (.slice a5 Lp.length c5)).cell? ⟨bt,0,none⟩=some (.slice a5 Lp.length c5):=by rw [Lib.cell_of_heap (Gn.set_same so9.res)];rfl
      go_wp2_with fail
      exact bodyPost_ret (v:=.agg #[(.slice a5 Lp.length c5)]) (by simp [results,Tryz.results14,go_sem,hT9]) rfl (Gn.sp_end dr9 (by decide) hp hrd (so9.mono (by decide)) hbt hwA)
    · have yL1:=so6d.cell
      go_simp
      refine hK.out _ _ (trivial) (fun hHeld => ?_)
      clear hK
      try simp [Act.put]
      refine Tk 4 (.pointer (some ⟨b,2,none⟩)) rfl ?_
      try simp [Act.put]
      refine wpAnyH_ready (rs:=[1,5]) (by kernel_rfl) (by simp) ?_
      refine AllReadyH.cons rfl (fun KK hK => ?_) (AllReadyH.cons rfl (fun KK hK => ?_) AllReadyH.nil)
      · have yL2:=so6d.cell
        go_simp
        refine hK.out _ _ (trivial) (fun hHeld => ?_)
        clear hK
        try simp [Act.put]
        refine wpAnyH_ready (rs:=[5]) (by kernel_rfl) (by simp) ?_
        refine AllReadyH.cons rfl (fun KK hK => ?_) AllReadyH.nil
        go_simp
        refine hK.out _ _ (trivial) (fun hHeld => ?_)
        clear hK
        try simp [Act.put]
        refine Tk 6 (.pointer (some ⟨b,0,none⟩)) rfl ?_
        try simp [Act.put]
        refine wpAnyH_ready (rs:=[7]) (by kernel_rfl) (by simp) ?_
        refine AllReadyH.cons rfl (fun KK hK => ?_) AllReadyH.nil
        go_simp
        try rw [hV9]
        refine hK.out _ _ (trivial) (fun hHeld => ?_)
        clear hK
        try simp [Act.put]
        refine wpAnyH_done (by kernel_rfl) ?_ _
        clear hHeld yB yR zR hT9 ha5
        have yB:=so9.cell
        have yR:V9.cell? ⟨bt,0,none⟩=some (.slice none 0 0):=by rw [Lib.cell_of_heap so9.res];rfl
        have zR:V9.frozen? ⟨bt,0,none⟩=false:=by simp [World.frozen?,so9.res]
        have hT9:(V9.setCell ⟨bt,0,none⟩ (.slice a5 Lp.length c5)).cell? ⟨bt,0,none⟩=some (.slice a5 Lp.length c5):=by rw [Lib.cell_of_heap (Gn.set_same so9.res)];rfl
        go_wp2_with fail
        exact bodyPost_ret (v:=.agg #[(.slice a5 Lp.length c5)]) (by simp [results,Tryz.results14,go_sem,hT9]) rfl (Gn.sp_end dr9 (by decide) hp hrd (so9.mono (by decide)) hbt hwA)
      · go_simp
        refine hK.out _ _ (trivial) (fun hHeld => ?_)
        clear hK
        try simp [Act.put]
        refine wpAnyH_ready (rs:=[1]) (by kernel_rfl) (by simp) ?_
        refine AllReadyH.cons rfl (fun KK hK => ?_) AllReadyH.nil
        have yL2:=so6d.cell
        go_simp
        refine hK.out _ _ (trivial) (fun hHeld => ?_)
        clear hK
        try simp [Act.put]
        refine Tk 6 (.pointer (some ⟨b,0,none⟩)) rfl ?_
        try simp [Act.put]
        refine wpAnyH_ready (rs:=[7]) (by kernel_rfl) (by simp) ?_
        refine AllReadyH.cons rfl (fun KK hK => ?_) AllReadyH.nil
        go_simp
        try rw [hV9]
        refine hK.out _ _ (trivial) (fun hHeld => ?_)
        clear hK
        try simp [Act.put]
        refine wpAnyH_done (by kernel_rfl) ?_ _
        clear hHeld yB yR zR hT9 ha5
        have yB:=so9.cell
        have yR:V9.cell? ⟨bt,0,none⟩=some (.slice none 0 0):=by rw [Lib.cell_of_heap so9.res];rfl
        have zR:V9.frozen? ⟨bt,0,none⟩=false:=by simp [World.frozen?,so9.res]
        have hT9:(V9.setCell ⟨bt,0,none⟩ (.slice a5 Lp.length c5)).cell? ⟨bt,0,none⟩=some (.slice a5 Lp.length c5):=by rw [Lib.cell_of_heap (Gn.set_same so9.res)];rfl
        go_wp2_with fail
        exact bodyPost_ret (v:=.agg #[(.slice a5 Lp.length c5)]) (by simp [results,Tryz.results14,go_sem,hT9]) rfl (Gn.sp_end dr9 (by decide) hp hrd (so9.mono (by decide)) hbt hwA)
end Go.Proofs.YtkikhpppkpelfaaGreat
