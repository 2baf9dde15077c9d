import Derived.Test.YtkikhpppkpelfaaGreatKTk
import Derived.Test.YtkikhpppkpelfaaGreatKGnG
set_option maxRecDepth 100000
set_option maxHeartbeats 8000000
namespace Go.Proofs.YtkikhpppkpelfaaGreat
open Go.RowKit
theorem Gn.drawLay_any (HSP:Hid Gn.SpoilIs) (w:World) (v:Value) (n:Nat) (hB:Mill.Bytes w w.heap.size v n) (hc:∀ a m c,v = .slice a m c→m≤c) (hn:n≤1048576) :
    Calls Tryz.prog 4 #[v] w (Gn.DLPost w):=by
  obtain ⟨V0,hV0⟩:∃ V,w.alloc (.cells #[.slice none 0 0] 25)=V:=⟨_,rfl⟩
  have hb0:=Gn.below_new hV0
  have HT0:Hid (V0.heap[w.heap.size]? = some (.cells #[.slice none 0 0] 25)):=by rw [Hid,← hV0];exact World.alloc_heap_new w _
  have hB0:=Gn.bytes_below hB hb0
  obtain ⟨R,hR0⟩:∃ b,V0.heap.size=b:=⟨_,rfl⟩
  have hRw:w.heap.size < R:=by rw [← hR0];exact (Array.getElem?_eq_some_iff.1 HT0.out).1
  have t0:Gn.Mk:=trivial
  clear hB
  go_enter Tryz.func4,Tryz.ntmps4
  go_wp2_with (first
    | (go_at_call 11
       have _t:=t0
       clear t0
       refine (l1Open_any V0 v n hB0 hc hn).mono ?_
       rintro e w1 ⟨rfl,hr1,hb1⟩
       rw [hR0] at hr1 ⊢
       have t1:Gn.Mk:=trivial)
    | (go_at_call 12
       have _t:=t1
       clear t1
       refine (Gn.place_any hr1 (Nat.zero_le 30) (by decide) (by decide)).mono ?_
       rintro e w2 ⟨pa,pn,pc,Lp,rfl,hrp,hbp,hsp,dw2⟩
       obtain ⟨V3,hV3⟩:∃ V,w2.alloc (.cells #[.slice pa pn pc] 25)=V:=⟨_,rfl⟩
       obtain ⟨bq,hbq⟩:∃ b,w2.heap.size=b:=⟨_,rfl⟩
       have hx3:V3.heap[bq]? = some (.cells #[.slice pa pn pc] 25):=by rw [← hV3,← hbq];exact World.alloc_heap_new w2 _
       have hb3:=Gn.below_new hV3
       have dw3:=dw2.below hb3
       have hRq:R < bq:=by rw [← hbq];exact dw2.lt
       have t2:Gn.Mk:=trivial)
    | (go_at_call 13
       have _t:=t2
       clear t2
       refine (Gn.pickW 6 dw3 (by decide) (by decide) (by decide)).mono ?_
       rintro e w4 ⟨v6,rfl,hv6,dw4,hf4⟩
       have hx4:=hf4.blk hx3 (by decide)
       have y4:w4.cell? ⟨bq,0,none⟩=some (.slice pa pn pc):=by rw [Lib.cell_of_heap hx4];rfl
       have hrp4:=hf4.row (Gn.own_keep hrp (fun k _ _ hl=>hb3.block k hl)) (by decide)
       have hbw1:Below w.heap.size w w1:=hb0.trans (hb1.mono hb0.size)
       have hbw4:=Gn.below_fw hbw1 dw4.2 (Nat.le_of_lt hRw)
       have hT4:=dw4.2.blk ((hb1.block _ (Array.getElem?_eq_some_iff.1 HT0.out).1).trans HT0.out) (by decide)
       rcases Gn.v20 hv6 with ⟨rfl,q0⟩ | ⟨hv62,q1⟩)
    | (go_at_call 14
       have _t:=q0
       clear q0
       refine (HSP.out R _ w4 _ pa pn pc Lp dw4.1 (by decide) hrp4 hbp hsp).mono ?_
       rintro e w5 ⟨pa',pn',pc',Lp',rfl,hrp5,hbp5,dw5⟩
       have hx5:=dw5.2.blk hx4 (by decide)
       have y5:w5.cell? ⟨bq,0,none⟩=some (.slice pa pn pc):=by rw [Lib.cell_of_heap hx5];rfl
       have z5:w5.frozen? ⟨bq,0,none⟩=false:=by simp [World.frozen?,hx5]
       obtain ⟨V6,hV6⟩:∃ V,w5.setCell ⟨bq,0,none⟩ (.slice pa' pn' pc')=V:=⟨_,rfl⟩))
  · have hx6:V6.heap[bq]? = some (.cells #[.slice pa' pn' pc'] 25):=by rw [← hV6,Gn.set_same hx5];rfl
    have HPR:Hid (V6.ownsRow w4.heap.size 36 2 (.slice pa' pn' pc') Lp'.length (Bx.fCs Lp')):=by rw [Hid,← hV6];exact Gn.row_set hrp5 hx5
    have HBP:Hid (Gn.Bd 50 Lp'):=hbp5
    have HBZ:Hid (Below w.heap.size w V6):=by rw [Hid,← hV6];exact Gn.below_set (Gn.below_fw hbw4 dw5.2 (Nat.le_of_lt hRw)) (Nat.le_of_lt (Nat.lt_trans hRw hRq))
    have hT6:V6.heap[w.heap.size]? = some (.cells #[.slice none 0 0] 25):=by rw [← hV6];exact (Gn.set_oth (Nat.ne_of_lt (Nat.lt_trans hRw hRq))).trans (dw5.2.blk hT4 (by decide))
    have HTz:Hid (w.heap.size < V6.heap.size∧w.heap.size≠R∧V6.heap[w.heap.size]? = some (.cells #[.slice none 0 0] 25)):=⟨(Array.getElem?_eq_some_iff.1 hT6).1,Nat.ne_of_lt hRw,hT6⟩
    have HQz:Hid (bq < V6.heap.size∧bq≠R∧V6.heap[bq]? = some (.cells #[.slice pa' pn' pc'] 25)):=⟨(Array.getElem?_eq_some_iff.1 hx6).1,Nat.ne_of_gt hRq,hx6⟩
    obtain ⟨p,hpz0,hrz5⟩:=dw5.1
    have hrz:Mill.Rd V6 R p:=by rw [← hV6];exact Gn.Rd_keep hrz5 (fun k hk=>Gn.set_oth (by omega))
    have hpz:p≤800000000:=Nat.le_trans hpz0 (by decide)
    have hRz:R < V6.heap.size:=hrz.lt
    clear hx4 hx5 hx6 hT6 hrp4 hrp5 hbw4 hT4 dw4 dw5 hf4 hx3 hb3 dw3 dw2 hrp hbw1 hb0 hb1 hr1 hB0 y4 y5 z5 hrz5
    obtain ⟨Vo,hVo⟩:∃ V,V6.alloc (.cells #[] 36)=V:=⟨_,rfl⟩
    have dr0:Mill.Dr R p 0 V6 Vo:=(Mill.Dr.refl hrz).below (Gn.below_new hVo)
    have row0:Vo.ownsRow V6.heap.size 36 2 (.slice (some ⟨V6.heap.size,0,none⟩) 0 0) 0 (Bx.fCs []):=by rw [← hVo];exact ⟨rfl,.inr ⟨V6.heap.size,0,#[],rfl,Nat.le_refl _,World.alloc_heap_new V6 _,Nat.le_refl _,by unfold maxLen;omega,rfl,rfl⟩⟩
    have s0:Gn.Mk:=trivial
    try rw [hVo]
    go_wp2_with (first
        | (go_at_call 13
           have _t:=s0
           clear s0
           refine (Gn.pickDI 4 dr0 (by omega) (by decide) (by decide)).mono ?_
           rintro e wj ⟨n4,rfl,hn4,dr4,hb4⟩
           have ROW4:Hid (wj.ownsRow V6.heap.size 36 2 (.slice (some ⟨V6.heap.size,0,none⟩) 0 0) 0 (Bx.fCs [])):=Mill.own_but row0 hRz hb4
           have DR4:Hid (Mill.Dr R p (0+1) V6 wj):=dr4
           clear dr0 row0 dr4 hb4))
    go_loopw [6,7] (fun o k wr => ∃ (kk:Int) (a:Option Addr) (c:Nat) (S:List Bx.Fl),(0≤kk∧kk≤3)∧k = .int .i64 kk∧o = .slice a S.length c∧Gn.Bd (3 - kk).toNat S∧wr.ownsRow V6.heap.size 36 2 (.slice a S.length c) S.length (Bx.fCs S)∧Mill.Dr R p (0+1+9 * (3 - kk).toNat) V6 wr) (fun _ k _=>(intOf k).toNat)
    case atStart=>exact ⟨n4,_,_,[],by omega,rfl,rfl,⟨by simp,by simp⟩,ROW4.out,DR4.out.mono (Nat.le_add_right _ _)⟩
    case round =>
      obtain ⟨kk,a,c,S,hkk,rfl,rfl,hbd,row,dr⟩:=hrel
      by_cases hlt:0 < kk
      · have hk3:=Gn.k3 hkk hlt
        have hwk:=Gn.wr_k3 hkk hlt
        obtain ⟨bA,bB,bC⟩:=Gn.dl_b hpz hk3.2.2
        have hSl:S.length≤1000:=Nat.le_trans hbd.1 (Nat.le_trans hk3.2.2 (by decide))
        obtain ⟨sl,HSL⟩:∃ q,Hid (S.length=q):=⟨_,(rfl:S.length=_)⟩
        have r0:Gn.Mk:=trivial
        go_wp2_with (first
            | (go_at_call 15
               have _t:=r0
               clear r0
               refine (path_D dr bA).mono ?_
               rintro e wx5 ⟨x,rfl,hx,dr5,hb5⟩
               have row5:=Mill.own_but row hRz hb5
               have r1:Gn.Mk:=trivial)
            | (go_at_call 16
               have _t:=r1
               clear r1
               refine (text_D dr5 bB).mono ?_
               rintro e wx6 ⟨t,rfl,ht,dr6,hb6⟩
               have row6:=Mill.own_but row5 hRz hb6
               obtain ⟨V7,hV7⟩:∃ V,wx6.alloc (.cells #[.string x,.string t] 36)=V:=⟨_,rfl⟩
               have hb7:=Gn.below_new hV7
               have hx7:V7.heap[wx6.heap.size]? = some (.cells #[.string x,.string t] 36):=by rw [← hV7];exact World.alloc_heap_new wx6 _
               have dr7:=dr6.below hb7
               have row7:=Gn.own_keep row6 (fun k _ _ hl=>hb7.block k hl)
               have hz7:=dr7.but.size
               clear row5 row6 dr5 dr6 hb5 hb6
               have r2:Gn.Mk:=trivial)
            | (at_builtin
               have _t:=r2
               clear r2
               refine Gn.wp_file rfl _ _ rfl row7 hSl x t hx7 hz7 rfl rfl ?_
               intro a8 c8 w8 row8 hg8
               have dr8:=Gn.Dr_grown dr7 row7 hRz hg8
               clear row7 dr7 hg8))
        go_roundw
        case rel=>exact ⟨kk - 1,a8,c8,S++[⟨x,t⟩],hk3.1,rfl,by rw [Gn.len_app],by rw [hk3.2.1];exact hbd.app (Nat.le_trans hx (by decide)) (Nat.le_trans ht (by decide)),by rw [Gn.len_app];exact row8,by rw [hk3.2.1];exact dr8.mono bC⟩
        case measure=>simp [intOf];omega
      · have drx:=dr.mono (Gn.dl_c hkk)
        have bdx:=hbd.mono (Gn.dl_d hkk)
        clear dr hbd
        have e0:Gn.Mk:=trivial
        go_wp2_with (first
            | (go_at_call 13
               have _t:=e0
               clear e0
               refine (Gn.pickDI 10 drx (by omega) (by decide) (by decide)).mono ?_
               rintro e wp ⟨vp,rfl,hvp,drp,hbp⟩
               have rowp:=Mill.own_but row hRz hbp
               rcases Gn.v20 hvp with ⟨rfl,q0⟩ | ⟨hvp2,q1⟩))
        · have hSl:S.length≤1000:=Nat.le_trans bdx.1 (by decide)
          have drd:=drp.below ((Below.refl _ wp).drew)
          have rowd:=Gn.own_keep rowp (w':=wp.drew) (fun k _ _ hl=>rfl)
          refine wp_region_held_drew (S:=(fun _=>True)) (by kernel_rfl) (trivial) (fun hHeld => ?_)
          refine Tk 0 (.slice a S.length c) rfl ?_
          try simp [Act.put]
          refine Tk 2 (.pointer (some ⟨R,0,none⟩)) rfl ?_
          try simp [Act.put]
          refine Tk 6 (.pointer (some ⟨R,0,none⟩)) rfl ?_
          try simp [Act.put]
          refine wpAnyH_ready (rs:=[1,3]) (by kernel_rfl) (by simp) ?_
          refine AllReadyH.cons rfl (fun KK hK => ?_) (AllReadyH.cons rfl (fun KK hK => ?_) AllReadyH.nil)
          · go_simp
            obtain ⟨Va,hVa⟩:∃ V,(wp.alloc (.cells #[.string ⟨#[]⟩,.string ⟨#[120,32,121]⟩,.string ⟨#[110,101,119]⟩] 9)).drew=V:=⟨_,rfl⟩
            have hbVa:Below wp.heap.size wp Va:=by rw [← hVa];exact ((Below.refl _ wp).alloc (Nat.le_refl _) _).drew
            have hxVa:Va.heap[wp.heap.size]? = some (.cells #[.string ⟨#[]⟩,.string ⟨#[120,32,121]⟩,.string ⟨#[110,101,119]⟩] 9):=by rw [← hVa];exact World.alloc_heap_new wp _
            have drVa:=drp.below hbVa
            have rowVa:=Gn.own_keep rowp (fun k _ _ hl=>hbVa.block k hl)
            try rw [hVa]
            refine hK.out _ _ (trivial) (fun hHeld => ?_)
            clear hK
            try simp [Act.put]
            refine wpAnyH_ready (rs:=[3]) (by kernel_rfl) (by simp) ?_
            refine AllReadyH.cons rfl (fun KK hK => ?_) AllReadyH.nil
            go_simp
            refine (pick_D 3 drVa (by omega) (by decide) (by decide)).mono ?_
            rintro e wb ⟨v3,rfl,hv3,drwb,hbwb⟩
            have rowwb:=Mill.own_but rowVa hRz hbwb
            have tabwb:=Gn.tab_but drVa hbwb hxVa (by decide)
            go_wp2
            refine hK.out _ _ (trivial) (fun hHeld => ?_)
            clear hK
            try simp [Act.put]
            refine Tk 4 (.pointer (some ⟨wp.heap.size,v3,none⟩)) rfl ?_
            try simp [Act.put]
            refine wpAnyH_ready (rs:=[5,7]) (by kernel_rfl) (by simp) ?_
            refine AllReadyH.cons rfl (fun KK hK => ?_) (AllReadyH.cons rfl (fun KK hK => ?_) AllReadyH.nil)
            · obtain ⟨nm,hnc,hnm⟩:=Gn.stab (M:=3) tabwb (by decide) v3 (Gn.nat3 hv3)
              go_simp
              refine hK.out _ _ (trivial) (fun hHeld => ?_)
              clear hK
              try simp [Act.put]
              refine wpAnyH_ready (rs:=[7]) (by kernel_rfl) (by simp) ?_
              refine AllReadyH.cons rfl (fun KK hK => ?_) AllReadyH.nil
              go_simp
              refine (Gn.pickDI 2 drwb (by omega) (by decide) (by decide)).mono ?_
              rintro e wc ⟨v2,rfl,hv2,drwc,hbwc⟩
              have hwi:=Gn.wi3000 hv2
              have rowwc:=Mill.own_but rowwb hRz hbwc
              have tabwc:=Gn.tab_but drwb hbwc tabwb (by decide)
              go_wp2
              refine hK.out _ _ (trivial) (fun hHeld => ?_)
              clear hK
              try simp [Act.put]
              refine Tk 8 (.int .i64 (3000+v2)) rfl ?_
              try simp [Act.put]
              refine wpAnyH_ready (rs:=[9]) (by kernel_rfl) (by simp) ?_
              refine AllReadyH.cons rfl (fun KK hK => ?_) AllReadyH.nil
              go_simp
              refine (Gn.manyD ⟨#[108]⟩ (3000+v2) drwc (by decide) (by omega) (by omega)).mono ?_
              rintro e wd ⟨tx,rfl,htx,drwd,hbwd⟩
              have rowwd:=Mill.own_but rowwc hRz hbwd
              have tabwd:=Gn.tab_but drwc hbwd tabwc (by decide)
              go_wp2
              refine hK.out _ _ (trivial) (fun hHeld => ?_)
              clear hK
              try simp [Act.put]
              refine Tk 10 (.agg #[.string nm,.string tx]) rfl ?_
              try simp [Act.put]
              refine wpAnyH_ready (rs:=[11]) (by kernel_rfl) (by simp) ?_
              refine AllReadyH.cons rfl (fun KK hK => ?_) AllReadyH.nil
              go_simp
              obtain ⟨Ve,hVe⟩:∃ V,wd.alloc (.cells #[.string nm,.string tx] 36)=V:=⟨_,rfl⟩
              have hbVe:Below wd.heap.size wd Ve:=Gn.below_new hVe
              have hxVe:Ve.heap[wd.heap.size]? = some (.cells #[.string nm,.string tx] 36):=by rw [← hVe];exact World.alloc_heap_new wd _
              have drVe:=drwd.below hbVe
              have rowVe:=Gn.own_keep rowwd (fun k _ _ hl=>hbVe.block k hl)
              have tabVe:=(hbVe.block _ (Array.getElem?_eq_some_iff.1 tabwd).1).trans tabwd
              try rw [hVe]
              refine hK.out _ _ (trivial) (fun hHeld => ?_)
              clear hK
              try simp [Act.put]
              refine wpAnyH_ready (rs:=[12]) (by kernel_rfl) (by simp) ?_
              refine AllReadyH.cons rfl (fun KK hK => ?_) AllReadyH.nil
              refine Gn.step_file rfl _ _ rfl rowVe hSl nm tx hxVe drVe.but.size rfl rfl ?_
              intro a8 c8 w8 row8 hg8
              have dr8:=Gn.Dr_grown drVe rowVe hRz hg8
              refine hK.out _ _ (trivial) (fun hHeld => ?_)
              clear hK
              try simp [Act.put]
              refine Tk 13 (.slice a8 (S.length+1) c8) rfl ?_
              try simp [Act.put]
              refine wpAnyH_done (by kernel_rfl) ?_ _
              obtain ⟨S2,hS2⟩:∃ l,S++[(⟨nm,tx⟩:Bx.Fl)]=l:=⟨_,rfl⟩
              have hl2:S2.length=S.length+1:=by rw [← hS2,Gn.len_app]
              have bd2:Gn.Bd 4 S2:=by rw [← hS2];exact bdx.app (Nat.le_trans hnm (by decide)) (Nat.le_trans htx (by decide))
              rw [hS2,← hl2] at row8
              rw [← hl2]
              clear hHeld hS2 hl2 hg8
              have s0:Gn.Mk:=trivial
              go_wp2_with (first
                  | (go_at_call 13
                     have _t:=s0
                     clear s0
                     refine (Gn.pickDI 20 dr8 (by omega) (by decide) (by decide)).mono ?_
                     rintro e wt ⟨vt,rfl,hvt,drt,hbt⟩
                     have rowt:=Mill.own_but row8 hRz hbt
                     have hbk:=drt.but
                     have hT:=(hbk.block w.heap.size HTz.out.1 HTz.out.2.1).trans HTz.out.2.2
                     have yT:wt.cell? ⟨w.heap.size,0,none⟩=some (.slice none 0 0):=by rw [Lib.cell_of_heap hT];rfl
                     have zT:wt.frozen? ⟨w.heap.size,0,none⟩=false:=by simp [World.frozen?,hT]
                     have hQ:=(hbk.block bq HQz.out.1 HQz.out.2.1).trans HQz.out.2.2
                     have yQ:wt.cell? ⟨bq,0,none⟩=some (.slice pa' pn' pc'):=by rw [Lib.cell_of_heap hQ];rfl
                     have hT9:(wt.setCell ⟨w.heap.size,0,none⟩ (.slice pa' pn' pc')).cell? ⟨w.heap.size,0,none⟩=some (.slice pa' pn' pc'):=by rw [Lib.cell_of_heap (Gn.set_same hT)];rfl
                     rcases Gn.v20 hvt with ⟨rfl,q0⟩ | ⟨hvt2,q1⟩)
                  | (go_at_call 13
                     have _t:=q0
                     clear q0
                     refine (Gn.pickDI 2 drt (by omega) (by decide) (by decide)).mono ?_
                     rintro e wu ⟨vu,rfl,hvu,dru,hbu⟩
                     have rowu:=Mill.own_but rowt hRz hbu
                     have hwu:=Gn.wrc 40 hvu (by decide)
                     have DRU:Hid (Mill.Dr R p _ V6 wu):=dru
                     have ROWU:Hid (wu.ownsRow V6.heap.size 36 2 (.slice a8 S2.length c8) _ (Bx.fCs S2)):=rowu
                     clear dru rowu hT yT zT hQ yQ hT9 hbk))
              · go_loopw [6] (fun o wr => ∃ (a:Option Addr) (c:Nat) (T:List Bx.Fl),o = .slice a T.length c∧Gn.Bd 42 T∧wr.ownsRow V6.heap.size 36 2 (.slice a T.length c) T.length (Bx.fCs T)∧Mill.Dr R p ((40+1+1+1)+1+1) V6 wr) (fun o _=>(42 - Gn.rlen o))
                case atStart=>exact ⟨_,_,S2,rfl,bd2.mono (by decide),ROWU.out,DRU.out⟩
                case round =>
                  obtain ⟨a,c,T,rfl,hbd,row,dr⟩:=hrel
                  by_cases hlt:(T.length:Int) < 40+vu
                  · have hSl:T.length≤1000:=Nat.le_trans hbd.1 (by decide)
                    obtain ⟨V7,hV7⟩:∃ V,wr.alloc (.cells #[.string ⟨#[115,97,109,101]⟩,.string ⟨#[]⟩] 36)=V:=⟨_,rfl⟩
                    have hb7:=Gn.below_new hV7
                    have hx7:V7.heap[wr.heap.size]? = some (.cells #[.string ⟨#[115,97,109,101]⟩,.string ⟨#[]⟩] 36):=by rw [← hV7];exact World.alloc_heap_new wr _
                    have dr7:=dr.below hb7
                    have row7:=Gn.own_keep row (fun k _ _ hl=>hb7.block k hl)
                    have hz7:=dr7.but.size
                    have r2:Gn.Mk:=trivial
                    go_wp2_with (first
                        | (at_builtin
                           have _t:=r2
                           clear r2
                           refine Gn.wp_file rfl _ _ rfl row7 hSl ⟨#[115,97,109,101]⟩ ⟨#[]⟩ hx7 hz7 rfl rfl ?_
                           intro a8 c8 w8 row8 hg8
                           have dr8:=Gn.Dr_grown dr7 row7 hRz hg8
                           clear row7 dr7 hg8))
                    go_roundw
                    case rel=>exact ⟨a8,c8,T++[⟨⟨#[115,97,109,101]⟩,⟨#[]⟩⟩],by rw [Gn.len_app],Gn.same_bd hbd hlt hvu,by rw [Gn.len_app];exact row8,dr8⟩
                    case measure=>exact Gn.same_ms hlt hvu
                  · have hbk:=dr.but
                    have hT:=(hbk.block w.heap.size HTz.out.1 HTz.out.2.1).trans HTz.out.2.2
                    have yT:wr.cell? ⟨w.heap.size,0,none⟩=some (.slice none 0 0):=by rw [Lib.cell_of_heap hT];rfl
                    have zT:wr.frozen? ⟨w.heap.size,0,none⟩=false:=by simp [World.frozen?,hT]
                    have hQ:=(hbk.block bq HQz.out.1 HQz.out.2.1).trans HQz.out.2.2
                    have yQ:wr.cell? ⟨bq,0,none⟩=some (.slice pa' pn' pc'):=by rw [Lib.cell_of_heap hQ];rfl
                    have hT9:(wr.setCell ⟨w.heap.size,0,none⟩ (.slice pa' pn' pc')).cell? ⟨w.heap.size,0,none⟩=some (.slice pa' pn' pc'):=by rw [Lib.cell_of_heap (Gn.set_same hT)];rfl
                    go_wp2_with fail
                    exact bodyPost_ret (v:=.tuple #[.agg #[.slice pa' pn' pc'],.slice a T.length c]) (by simp [results,Tryz.results4,go_sem,hT9]) rfl (Gn.dl_end dr HPR.out row hT HBP.out (hbd.mono (by decide)) HBZ.out hRw hrz)
              · exact bodyPost_ret (v:=.tuple #[.agg #[.slice pa' pn' pc'],.slice a8 S2.length c8]) (by simp [results,Tryz.results4,go_sem,hT9]) rfl (Gn.dl_end drt HPR.out rowt hT HBP.out (bd2.mono (by decide)) HBZ.out hRw hrz)
            · go_simp
              refine (Gn.pickDI 2 drwb (by omega) (by decide) (by decide)).mono ?_
              rintro e wc ⟨v2,rfl,hv2,drwc,hbwc⟩
              have hwi:=Gn.wi3000 hv2
              have rowwc:=Mill.own_but rowwb hRz hbwc
              have tabwc:=Gn.tab_but drwb hbwc tabwb (by decide)
              go_wp2
              refine hK.out _ _ (trivial) (fun hHeld => ?_)
              clear hK
              try simp [Act.put]
              refine Tk 8 (.int .i64 (3000+v2)) rfl ?_
              try simp [Act.put]
              refine wpAnyH_ready (rs:=[5,9]) (by kernel_rfl) (by simp) ?_
              refine AllReadyH.cons rfl (fun KK hK => ?_) (AllReadyH.cons rfl (fun KK hK => ?_) AllReadyH.nil)
              · obtain ⟨nm,hnc,hnm⟩:=Gn.stab (M:=3) tabwc (by decide) v3 (Gn.nat3 hv3)
                go_simp
                refine hK.out _ _ (trivial) (fun hHeld => ?_)
                clear hK
                try simp [Act.put]
                refine wpAnyH_ready (rs:=[9]) (by kernel_rfl) (by simp) ?_
                refine AllReadyH.cons rfl (fun KK hK => ?_) AllReadyH.nil
                go_simp
                refine (Gn.manyD ⟨#[108]⟩ (3000+v2) drwc (by decide) (by omega) (by omega)).mono ?_
                rintro e wd ⟨tx,rfl,htx,drwd,hbwd⟩
                have rowwd:=Mill.own_but rowwc hRz hbwd
                have tabwd:=Gn.tab_but drwc hbwd tabwc (by decide)
                go_wp2
                refine hK.out _ _ (trivial) (fun hHeld => ?_)
                clear hK
                try simp [Act.put]
                refine Tk 10 (.agg #[.string nm,.string tx]) rfl ?_
                try simp [Act.put]
                refine wpAnyH_ready (rs:=[11]) (by kernel_rfl) (by simp) ?_
                refine AllReadyH.cons rfl (fun KK hK => ?_) AllReadyH.nil
                go_simp
                obtain ⟨Ve,hVe⟩:∃ V,wd.alloc (.cells #[.string nm,.string tx] 36)=V:=⟨_,rfl⟩
                have hbVe:Below wd.heap.size wd Ve:=Gn.below_new hVe
                have hxVe:Ve.heap[wd.heap.size]? = some (.cells #[.string nm,.string tx] 36):=by rw [← hVe];exact World.alloc_heap_new wd _
                have drVe:=drwd.below hbVe
                have rowVe:=Gn.own_keep rowwd (fun k _ _ hl=>hbVe.block k hl)
                have tabVe:=(hbVe.block _ (Array.getElem?_eq_some_iff.1 tabwd).1).trans tabwd
                try rw [hVe]
                refine hK.out _ _ (trivial) (fun hHeld => ?_)
                clear hK
                try simp [Act.put]
                refine wpAnyH_ready (rs:=[12]) (by kernel_rfl) (by simp) ?_
                refine AllReadyH.cons rfl (fun KK hK => ?_) AllReadyH.nil
                refine Gn.step_file rfl _ _ rfl rowVe hSl nm tx hxVe drVe.but.size rfl rfl ?_
                intro a8 c8 w8 row8 hg8
                have dr8:=Gn.Dr_grown drVe rowVe hRz hg8
                refine hK.out _ _ (trivial) (fun hHeld => ?_)
                clear hK
                try simp [Act.put]
                refine Tk 13 (.slice a8 (S.length+1) c8) rfl ?_
                try simp [Act.put]
                refine wpAnyH_done (by kernel_rfl) ?_ _
                obtain ⟨S2,hS2⟩:∃ l,S++[(⟨nm,tx⟩:Bx.Fl)]=l:=⟨_,rfl⟩
                have hl2:S2.length=S.length+1:=by rw [← hS2,Gn.len_app]
                have bd2:Gn.Bd 4 S2:=by rw [← hS2];exact bdx.app (Nat.le_trans hnm (by decide)) (Nat.le_trans htx (by decide))
                rw [hS2,← hl2] at row8
                rw [← hl2]
                clear hHeld hS2 hl2 hg8
                have s0:Gn.Mk:=trivial
                go_wp2_with (first
                    | (go_at_call 13
                       have _t:=s0
                       clear s0
                       refine (Gn.pickDI 20 dr8 (by omega) (by decide) (by decide)).mono ?_
                       rintro e wt ⟨vt,rfl,hvt,drt,hbt⟩
                       have rowt:=Mill.own_but row8 hRz hbt
                       have hbk:=drt.but
                       have hT:=(hbk.block w.heap.size HTz.out.1 HTz.out.2.1).trans HTz.out.2.2
                       have yT:wt.cell? ⟨w.heap.size,0,none⟩=some (.slice none 0 0):=by rw [Lib.cell_of_heap hT];rfl
                       have zT:wt.frozen? ⟨w.heap.size,0,none⟩=false:=by simp [World.frozen?,hT]
                       have hQ:=(hbk.block bq HQz.out.1 HQz.out.2.1).trans HQz.out.2.2
                       have yQ:wt.cell? ⟨bq,0,none⟩=some (.slice pa' pn' pc'):=by rw [Lib.cell_of_heap hQ];rfl
                       have hT9:(wt.setCell ⟨w.heap.size,0,none⟩ (.slice pa' pn' pc')).cell? ⟨w.heap.size,0,none⟩=some (.slice pa' pn' pc'):=by rw [Lib.cell_of_heap (Gn.set_same hT)];rfl
                       rcases Gn.v20 hvt with ⟨rfl,q0⟩ | ⟨hvt2,q1⟩)
                    | (go_at_call 13
                       have _t:=q0
                       clear q0
                       refine (Gn.pickDI 2 drt (by omega) (by decide) (by decide)).mono ?_
                       rintro e wu ⟨vu,rfl,hvu,dru,hbu⟩
                       have rowu:=Mill.own_but rowt hRz hbu
                       have hwu:=Gn.wrc 40 hvu (by decide)
                       have DRU:Hid (Mill.Dr R p _ V6 wu):=dru
                       have ROWU:Hid (wu.ownsRow V6.heap.size 36 2 (.slice a8 S2.length c8) _ (Bx.fCs S2)):=rowu
                       clear dru rowu hT yT zT hQ yQ hT9 hbk))
                · go_loopw [6] (fun o wr => ∃ (a:Option Addr) (c:Nat) (T:List Bx.Fl),o = .slice a T.length c∧Gn.Bd 42 T∧wr.ownsRow V6.heap.size 36 2 (.slice a T.length c) T.length (Bx.fCs T)∧Mill.Dr R p ((40+1+1+1)+1+1) V6 wr) (fun o _=>(42 - Gn.rlen o))
                  case atStart=>exact ⟨_,_,S2,rfl,bd2.mono (by decide),ROWU.out,DRU.out⟩
                  case round =>
                    obtain ⟨a,c,T,rfl,hbd,row,dr⟩:=hrel
                    by_cases hlt:(T.length:Int) < 40+vu
                    · have hSl:T.length≤1000:=Nat.le_trans hbd.1 (by decide)
                      obtain ⟨V7,hV7⟩:∃ V,wr.alloc (.cells #[.string ⟨#[115,97,109,101]⟩,.string ⟨#[]⟩] 36)=V:=⟨_,rfl⟩
                      have hb7:=Gn.below_new hV7
                      have hx7:V7.heap[wr.heap.size]? = some (.cells #[.string ⟨#[115,97,109,101]⟩,.string ⟨#[]⟩] 36):=by rw [← hV7];exact World.alloc_heap_new wr _
                      have dr7:=dr.below hb7
                      have row7:=Gn.own_keep row (fun k _ _ hl=>hb7.block k hl)
                      have hz7:=dr7.but.size
                      have r2:Gn.Mk:=trivial
                      go_wp2_with (first
                          | (at_builtin
                             have _t:=r2
                             clear r2
                             refine Gn.wp_file rfl _ _ rfl row7 hSl ⟨#[115,97,109,101]⟩ ⟨#[]⟩ hx7 hz7 rfl rfl ?_
                             intro a8 c8 w8 row8 hg8
                             have dr8:=Gn.Dr_grown dr7 row7 hRz hg8
                             clear row7 dr7 hg8))
                      go_roundw
                      case rel=>exact ⟨a8,c8,T++[⟨⟨#[115,97,109,101]⟩,⟨#[]⟩⟩],by rw [Gn.len_app],Gn.same_bd hbd hlt hvu,by rw [Gn.len_app];exact row8,dr8⟩
                      case measure=>exact Gn.same_ms hlt hvu
                    · have hbk:=dr.but
                      have hT:=(hbk.block w.heap.size HTz.out.1 HTz.out.2.1).trans HTz.out.2.2
                      have yT:wr.cell? ⟨w.heap.size,0,none⟩=some (.slice none 0 0):=by rw [Lib.cell_of_heap hT];rfl
                      have zT:wr.frozen? ⟨w.heap.size,0,none⟩=false:=by simp [World.frozen?,hT]
                      have hQ:=(hbk.block bq HQz.out.1 HQz.out.2.1).trans HQz.out.2.2
                      have yQ:wr.cell? ⟨bq,0,none⟩=some (.slice pa' pn' pc'):=by rw [Lib.cell_of_heap hQ];rfl
                      have hT9:(wr.setCell ⟨w.heap.size,0,none⟩ (.slice pa' pn' pc')).cell? ⟨w.heap.size,0,none⟩=some (.slice pa' pn' pc'):=by rw [Lib.cell_of_heap (Gn.set_same hT)];rfl
                      go_wp2_with fail
                      exact bodyPost_ret (v:=.tuple #[.agg #[.slice pa' pn' pc'],.slice a T.length c]) (by simp [results,Tryz.results4,go_sem,hT9]) rfl (Gn.dl_end dr HPR.out row hT HBP.out (hbd.mono (by decide)) HBZ.out hRw hrz)
                · exact bodyPost_ret (v:=.tuple #[.agg #[.slice pa' pn' pc'],.slice a8 S2.length c8]) (by simp [results,Tryz.results4,go_sem,hT9]) rfl (Gn.dl_end drt HPR.out rowt hT HBP.out (bd2.mono (by decide)) HBZ.out hRw hrz)
              · go_simp
                refine (Gn.manyD ⟨#[108]⟩ (3000+v2) drwc (by decide) (by omega) (by omega)).mono ?_
                rintro e wd ⟨tx,rfl,htx,drwd,hbwd⟩
                have rowwd:=Mill.own_but rowwc hRz hbwd
                have tabwd:=Gn.tab_but drwc hbwd tabwc (by decide)
                go_wp2
                refine hK.out _ _ (trivial) (fun hHeld => ?_)
                clear hK
                try simp [Act.put]
                refine wpAnyH_ready (rs:=[5]) (by kernel_rfl) (by simp) ?_
                refine AllReadyH.cons rfl (fun KK hK => ?_) AllReadyH.nil
                obtain ⟨nm,hnc,hnm⟩:=Gn.stab (M:=3) tabwd (by decide) v3 (Gn.nat3 hv3)
                go_simp
                refine hK.out _ _ (trivial) (fun hHeld => ?_)
                clear hK
                try simp [Act.put]
                refine Tk 10 (.agg #[.string nm,.string tx]) rfl ?_
                try simp [Act.put]
                refine wpAnyH_ready (rs:=[11]) (by kernel_rfl) (by simp) ?_
                refine AllReadyH.cons rfl (fun KK hK => ?_) AllReadyH.nil
                go_simp
                obtain ⟨Ve,hVe⟩:∃ V,wd.alloc (.cells #[.string nm,.string tx] 36)=V:=⟨_,rfl⟩
                have hbVe:Below wd.heap.size wd Ve:=Gn.below_new hVe
                have hxVe:Ve.heap[wd.heap.size]? = some (.cells #[.string nm,.string tx] 36):=by rw [← hVe];exact World.alloc_heap_new wd _
                have drVe:=drwd.below hbVe
                have rowVe:=Gn.own_keep rowwd (fun k _ _ hl=>hbVe.block k hl)
                have tabVe:=(hbVe.block _ (Array.getElem?_eq_some_iff.1 tabwd).1).trans tabwd
                try rw [hVe]
                refine hK.out _ _ (trivial) (fun hHeld => ?_)
                clear hK
                try simp [Act.put]
                refine wpAnyH_ready (rs:=[12]) (by kernel_rfl) (by simp) ?_
                refine AllReadyH.cons rfl (fun KK hK => ?_) AllReadyH.nil
                refine Gn.step_file rfl _ _ rfl rowVe hSl nm tx hxVe drVe.but.size rfl rfl ?_
                intro a8 c8 w8 row8 hg8
                have dr8:=Gn.Dr_grown drVe rowVe hRz hg8
                refine hK.out _ _ (trivial) (fun hHeld => ?_)
                clear hK
                try simp [Act.put]
                refine Tk 13 (.slice a8 (S.length+1) c8) rfl ?_
                try simp [Act.put]
                refine wpAnyH_done (by kernel_rfl) ?_ _
                obtain ⟨S2,hS2⟩:∃ l,S++[(⟨nm,tx⟩:Bx.Fl)]=l:=⟨_,rfl⟩
                have hl2:S2.length=S.length+1:=by rw [← hS2,Gn.len_app]
                have bd2:Gn.Bd 4 S2:=by rw [← hS2];exact bdx.app (Nat.le_trans hnm (by decide)) (Nat.le_trans htx (by decide))
                rw [hS2,← hl2] at row8
                rw [← hl2]
                clear hHeld hS2 hl2 hg8
                have s0:Gn.Mk:=trivial
                go_wp2_with (first
                    | (go_at_call 13
                       have _t:=s0
                       clear s0
                       refine (Gn.pickDI 20 dr8 (by omega) (by decide) (by decide)).mono ?_
                       rintro e wt ⟨vt,rfl,hvt,drt,hbt⟩
                       have rowt:=Mill.own_but row8 hRz hbt
                       have hbk:=drt.but
                       have hT:=(hbk.block w.heap.size HTz.out.1 HTz.out.2.1).trans HTz.out.2.2
                       have yT:wt.cell? ⟨w.heap.size,0,none⟩=some (.slice none 0 0):=by rw [Lib.cell_of_heap hT];rfl
                       have zT:wt.frozen? ⟨w.heap.size,0,none⟩=false:=by simp [World.frozen?,hT]
                       have hQ:=(hbk.block bq HQz.out.1 HQz.out.2.1).trans HQz.out.2.2
                       have yQ:wt.cell? ⟨bq,0,none⟩=some (.slice pa' pn' pc'):=by rw [Lib.cell_of_heap hQ];rfl
                       have hT9:(wt.setCell ⟨w.heap.size,0,none⟩ (.slice pa' pn' pc')).cell? ⟨w.heap.size,0,none⟩=some (.slice pa' pn' pc'):=by rw [Lib.cell_of_heap (Gn.set_same hT)];rfl
                       rcases Gn.v20 hvt with ⟨rfl,q0⟩ | ⟨hvt2,q1⟩)
                    | (go_at_call 13
                       have _t:=q0
                       clear q0
                       refine (Gn.pickDI 2 drt (by omega) (by decide) (by decide)).mono ?_
                       rintro e wu ⟨vu,rfl,hvu,dru,hbu⟩
                       have rowu:=Mill.own_but rowt hRz hbu
                       have hwu:=Gn.wrc 40 hvu (by decide)
                       have DRU:Hid (Mill.Dr R p _ V6 wu):=dru
                       have ROWU:Hid (wu.ownsRow V6.heap.size 36 2 (.slice a8 S2.length c8) _ (Bx.fCs S2)):=rowu
                       clear dru rowu hT yT zT hQ yQ hT9 hbk))
                · go_loopw [6] (fun o wr => ∃ (a:Option Addr) (c:Nat) (T:List Bx.Fl),o = .slice a T.length c∧Gn.Bd 42 T∧wr.ownsRow V6.heap.size 36 2 (.slice a T.length c) T.length (Bx.fCs T)∧Mill.Dr R p ((40+1+1+1)+1+1) V6 wr) (fun o _=>(42 - Gn.rlen o))
                  case atStart=>exact ⟨_,_,S2,rfl,bd2.mono (by decide),ROWU.out,DRU.out⟩
                  case round =>
                    obtain ⟨a,c,T,rfl,hbd,row,dr⟩:=hrel
                    by_cases hlt:(T.length:Int) < 40+vu
                    · have hSl:T.length≤1000:=Nat.le_trans hbd.1 (by decide)
                      obtain ⟨V7,hV7⟩:∃ V,wr.alloc (.cells #[.string ⟨#[115,97,109,101]⟩,.string ⟨#[]⟩] 36)=V:=⟨_,rfl⟩
                      have hb7:=Gn.below_new hV7
                      have hx7:V7.heap[wr.heap.size]? = some (.cells #[.string ⟨#[115,97,109,101]⟩,.string ⟨#[]⟩] 36):=by rw [← hV7];exact World.alloc_heap_new wr _
                      have dr7:=dr.below hb7
                      have row7:=Gn.own_keep row (fun k _ _ hl=>hb7.block k hl)
                      have hz7:=dr7.but.size
                      have r2:Gn.Mk:=trivial
                      go_wp2_with (first
                          | (at_builtin
                             have _t:=r2
                             clear r2
                             refine Gn.wp_file rfl _ _ rfl row7 hSl ⟨#[115,97,109,101]⟩ ⟨#[]⟩ hx7 hz7 rfl rfl ?_
                             intro a8 c8 w8 row8 hg8
                             have dr8:=Gn.Dr_grown dr7 row7 hRz hg8
                             clear row7 dr7 hg8))
                      go_roundw
                      case rel=>exact ⟨a8,c8,T++[⟨⟨#[115,97,109,101]⟩,⟨#[]⟩⟩],by rw [Gn.len_app],Gn.same_bd hbd hlt hvu,by rw [Gn.len_app];exact row8,dr8⟩
                      case measure=>exact Gn.same_ms hlt hvu
                    · have hbk:=dr.but
                      have hT:=(hbk.block w.heap.size HTz.out.1 HTz.out.2.1).trans HTz.out.2.2
                      have yT:wr.cell? ⟨w.heap.size,0,none⟩=some (.slice none 0 0):=by rw [Lib.cell_of_heap hT];rfl
                      have zT:wr.frozen? ⟨w.heap.size,0,none⟩=false:=by simp [World.frozen?,hT]
                      have hQ:=(hbk.block bq HQz.out.1 HQz.out.2.1).trans HQz.out.2.2
                      have yQ:wr.cell? ⟨bq,0,none⟩=some (.slice pa' pn' pc'):=by rw [Lib.cell_of_heap hQ];rfl
                      have hT9:(wr.setCell ⟨w.heap.size,0,none⟩ (.slice pa' pn' pc')).cell? ⟨w.heap.size,0,none⟩=some (.slice pa' pn' pc'):=by rw [Lib.cell_of_heap (Gn.set_same hT)];rfl
                      go_wp2_with fail
                      exact bodyPost_ret (v:=.tuple #[.agg #[.slice pa' pn' pc'],.slice a T.length c]) (by simp [results,Tryz.results4,go_sem,hT9]) rfl (Gn.dl_end dr HPR.out row hT HBP.out (hbd.mono (by decide)) HBZ.out hRw hrz)
                · exact bodyPost_ret (v:=.tuple #[.agg #[.slice pa' pn' pc'],.slice a8 S2.length c8]) (by simp [results,Tryz.results4,go_sem,hT9]) rfl (Gn.dl_end drt HPR.out rowt hT HBP.out (bd2.mono (by decide)) HBZ.out hRw hrz)
          · go_simp
            refine (pick_D 3 drd (by omega) (by decide) (by decide)).mono ?_
            rintro e wb ⟨v3,rfl,hv3,drwb,hbwb⟩
            have rowwb:=Mill.own_but rowd hRz hbwb
            go_wp2
            refine hK.out _ _ (trivial) (fun hHeld => ?_)
            clear hK
            try simp [Act.put]
            refine wpAnyH_ready (rs:=[1,7]) (by kernel_rfl) (by simp) ?_
            refine AllReadyH.cons rfl (fun KK hK => ?_) (AllReadyH.cons rfl (fun KK hK => ?_) AllReadyH.nil)
            · go_simp
              obtain ⟨Va,hVa⟩:∃ V,wb.alloc (.cells #[.string ⟨#[]⟩,.string ⟨#[120,32,121]⟩,.string ⟨#[110,101,119]⟩] 9)=V:=⟨_,rfl⟩
              have hbVa:Below wb.heap.size wb Va:=Gn.below_new hVa
              have hxVa:Va.heap[wb.heap.size]? = some (.cells #[.string ⟨#[]⟩,.string ⟨#[120,32,121]⟩,.string ⟨#[110,101,119]⟩] 9):=by rw [← hVa];exact World.alloc_heap_new wb _
              have drVa:=drwb.below hbVa
              have rowVa:=Gn.own_keep rowwb (fun k _ _ hl=>hbVa.block k hl)
              try rw [hVa]
              refine hK.out _ _ (trivial) (fun hHeld => ?_)
              clear hK
              try simp [Act.put]
              refine Tk 4 (.pointer (some ⟨wb.heap.size,v3,none⟩)) rfl ?_
              try simp [Act.put]
              refine wpAnyH_ready (rs:=[5,7]) (by kernel_rfl) (by simp) ?_
              refine AllReadyH.cons rfl (fun KK hK => ?_) (AllReadyH.cons rfl (fun KK hK => ?_) AllReadyH.nil)
              · obtain ⟨nm,hnc,hnm⟩:=Gn.stab (M:=3) hxVa (by decide) v3 (Gn.nat3 hv3)
                go_simp
                refine hK.out _ _ (trivial) (fun hHeld => ?_)
                clear hK
                try simp [Act.put]
                refine wpAnyH_ready (rs:=[7]) (by kernel_rfl) (by simp) ?_
                refine AllReadyH.cons rfl (fun KK hK => ?_) AllReadyH.nil
                go_simp
                refine (Gn.pickDI 2 drVa (by omega) (by decide) (by decide)).mono ?_
                rintro e wc ⟨v2,rfl,hv2,drwc,hbwc⟩
                have hwi:=Gn.wi3000 hv2
                have rowwc:=Mill.own_but rowVa hRz hbwc
                have tabwc:=Gn.tab_but drVa hbwc hxVa (by decide)
                go_wp2
                refine hK.out _ _ (trivial) (fun hHeld => ?_)
                clear hK
                try simp [Act.put]
                refine Tk 8 (.int .i64 (3000+v2)) rfl ?_
                try simp [Act.put]
                refine wpAnyH_ready (rs:=[9]) (by kernel_rfl) (by simp) ?_
                refine AllReadyH.cons rfl (fun KK hK => ?_) AllReadyH.nil
                go_simp
                refine (Gn.manyD ⟨#[108]⟩ (3000+v2) drwc (by decide) (by omega) (by omega)).mono ?_
                rintro e wd ⟨tx,rfl,htx,drwd,hbwd⟩
                have rowwd:=Mill.own_but rowwc hRz hbwd
                have tabwd:=Gn.tab_but drwc hbwd tabwc (by decide)
                go_wp2
                refine hK.out _ _ (trivial) (fun hHeld => ?_)
                clear hK
                try simp [Act.put]
                refine Tk 10 (.agg #[.string nm,.string tx]) rfl ?_
                try simp [Act.put]
                refine wpAnyH_ready (rs:=[11]) (by kernel_rfl) (by simp) ?_
                refine AllReadyH.cons rfl (fun KK hK => ?_) AllReadyH.nil
                go_simp
                obtain ⟨Ve,hVe⟩:∃ V,wd.alloc (.cells #[.string nm,.string tx] 36)=V:=⟨_,rfl⟩
                have hbVe:Below wd.heap.size wd Ve:=Gn.below_new hVe
                have hxVe:Ve.heap[wd.heap.size]? = some (.cells #[.string nm,.string tx] 36):=by rw [← hVe];exact World.alloc_heap_new wd _
                have drVe:=drwd.below hbVe
                have rowVe:=Gn.own_keep rowwd (fun k _ _ hl=>hbVe.block k hl)
                have tabVe:=(hbVe.block _ (Array.getElem?_eq_some_iff.1 tabwd).1).trans tabwd
                try rw [hVe]
                refine hK.out _ _ (trivial) (fun hHeld => ?_)
                clear hK
                try simp [Act.put]
                refine wpAnyH_ready (rs:=[12]) (by kernel_rfl) (by simp) ?_
                refine AllReadyH.cons rfl (fun KK hK => ?_) AllReadyH.nil
                refine Gn.step_file rfl _ _ rfl rowVe hSl nm tx hxVe drVe.but.size rfl rfl ?_
                intro a8 c8 w8 row8 hg8
                have dr8:=Gn.Dr_grown drVe rowVe hRz hg8
                refine hK.out _ _ (trivial) (fun hHeld => ?_)
                clear hK
                try simp [Act.put]
                refine Tk 13 (.slice a8 (S.length+1) c8) rfl ?_
                try simp [Act.put]
                refine wpAnyH_done (by kernel_rfl) ?_ _
                obtain ⟨S2,hS2⟩:∃ l,S++[(⟨nm,tx⟩:Bx.Fl)]=l:=⟨_,rfl⟩
                have hl2:S2.length=S.length+1:=by rw [← hS2,Gn.len_app]
                have bd2:Gn.Bd 4 S2:=by rw [← hS2];exact bdx.app (Nat.le_trans hnm (by decide)) (Nat.le_trans htx (by decide))
                rw [hS2,← hl2] at row8
                rw [← hl2]
                clear hHeld hS2 hl2 hg8
                have s0:Gn.Mk:=trivial
                go_wp2_with (first
                    | (go_at_call 13
                       have _t:=s0
                       clear s0
                       refine (Gn.pickDI 20 dr8 (by omega) (by decide) (by decide)).mono ?_
                       rintro e wt ⟨vt,rfl,hvt,drt,hbt⟩
                       have rowt:=Mill.own_but row8 hRz hbt
                       have hbk:=drt.but
                       have hT:=(hbk.block w.heap.size HTz.out.1 HTz.out.2.1).trans HTz.out.2.2
                       have yT:wt.cell? ⟨w.heap.size,0,none⟩=some (.slice none 0 0):=by rw [Lib.cell_of_heap hT];rfl
                       have zT:wt.frozen? ⟨w.heap.size,0,none⟩=false:=by simp [World.frozen?,hT]
                       have hQ:=(hbk.block bq HQz.out.1 HQz.out.2.1).trans HQz.out.2.2
                       have yQ:wt.cell? ⟨bq,0,none⟩=some (.slice pa' pn' pc'):=by rw [Lib.cell_of_heap hQ];rfl
                       have hT9:(wt.setCell ⟨w.heap.size,0,none⟩ (.slice pa' pn' pc')).cell? ⟨w.heap.size,0,none⟩=some (.slice pa' pn' pc'):=by rw [Lib.cell_of_heap (Gn.set_same hT)];rfl
                       rcases Gn.v20 hvt with ⟨rfl,q0⟩ | ⟨hvt2,q1⟩)
                    | (go_at_call 13
                       have _t:=q0
                       clear q0
                       refine (Gn.pickDI 2 drt (by omega) (by decide) (by decide)).mono ?_
                       rintro e wu ⟨vu,rfl,hvu,dru,hbu⟩
                       have rowu:=Mill.own_but rowt hRz hbu
                       have hwu:=Gn.wrc 40 hvu (by decide)
                       have DRU:Hid (Mill.Dr R p _ V6 wu):=dru
                       have ROWU:Hid (wu.ownsRow V6.heap.size 36 2 (.slice a8 S2.length c8) _ (Bx.fCs S2)):=rowu
                       clear dru rowu hT yT zT hQ yQ hT9 hbk))
                · go_loopw [6] (fun o wr => ∃ (a:Option Addr) (c:Nat) (T:List Bx.Fl),o = .slice a T.length c∧Gn.Bd 42 T∧wr.ownsRow V6.heap.size 36 2 (.slice a T.length c) T.length (Bx.fCs T)∧Mill.Dr R p ((40+1+1+1)+1+1) V6 wr) (fun o _=>(42 - Gn.rlen o))
                  case atStart=>exact ⟨_,_,S2,rfl,bd2.mono (by decide),ROWU.out,DRU.out⟩
                  case round =>
                    obtain ⟨a,c,T,rfl,hbd,row,dr⟩:=hrel
                    by_cases hlt:(T.length:Int) < 40+vu
                    · have hSl:T.length≤1000:=Nat.le_trans hbd.1 (by decide)
                      obtain ⟨V7,hV7⟩:∃ V,wr.alloc (.cells #[.string ⟨#[115,97,109,101]⟩,.string ⟨#[]⟩] 36)=V:=⟨_,rfl⟩
                      have hb7:=Gn.below_new hV7
                      have hx7:V7.heap[wr.heap.size]? = some (.cells #[.string ⟨#[115,97,109,101]⟩,.string ⟨#[]⟩] 36):=by rw [← hV7];exact World.alloc_heap_new wr _
                      have dr7:=dr.below hb7
                      have row7:=Gn.own_keep row (fun k _ _ hl=>hb7.block k hl)
                      have hz7:=dr7.but.size
                      have r2:Gn.Mk:=trivial
                      go_wp2_with (first
                          | (at_builtin
                             have _t:=r2
                             clear r2
                             refine Gn.wp_file rfl _ _ rfl row7 hSl ⟨#[115,97,109,101]⟩ ⟨#[]⟩ hx7 hz7 rfl rfl ?_
                             intro a8 c8 w8 row8 hg8
                             have dr8:=Gn.Dr_grown dr7 row7 hRz hg8
                             clear row7 dr7 hg8))
                      go_roundw
                      case rel=>exact ⟨a8,c8,T++[⟨⟨#[115,97,109,101]⟩,⟨#[]⟩⟩],by rw [Gn.len_app],Gn.same_bd hbd hlt hvu,by rw [Gn.len_app];exact row8,dr8⟩
                      case measure=>exact Gn.same_ms hlt hvu
                    · have hbk:=dr.but
                      have hT:=(hbk.block w.heap.size HTz.out.1 HTz.out.2.1).trans HTz.out.2.2
                      have yT:wr.cell? ⟨w.heap.size,0,none⟩=some (.slice none 0 0):=by rw [Lib.cell_of_heap hT];rfl
                      have zT:wr.frozen? ⟨w.heap.size,0,none⟩=false:=by simp [World.frozen?,hT]
                      have hQ:=(hbk.block bq HQz.out.1 HQz.out.2.1).trans HQz.out.2.2
                      have yQ:wr.cell? ⟨bq,0,none⟩=some (.slice pa' pn' pc'):=by rw [Lib.cell_of_heap hQ];rfl
                      have hT9:(wr.setCell ⟨w.heap.size,0,none⟩ (.slice pa' pn' pc')).cell? ⟨w.heap.size,0,none⟩=some (.slice pa' pn' pc'):=by rw [Lib.cell_of_heap (Gn.set_same hT)];rfl
                      go_wp2_with fail
                      exact bodyPost_ret (v:=.tuple #[.agg #[.slice pa' pn' pc'],.slice a T.length c]) (by simp [results,Tryz.results4,go_sem,hT9]) rfl (Gn.dl_end dr HPR.out row hT HBP.out (hbd.mono (by decide)) HBZ.out hRw hrz)
                · exact bodyPost_ret (v:=.tuple #[.agg #[.slice pa' pn' pc'],.slice a8 S2.length c8]) (by simp [results,Tryz.results4,go_sem,hT9]) rfl (Gn.dl_end drt HPR.out rowt hT HBP.out (bd2.mono (by decide)) HBZ.out hRw hrz)
              · go_simp
                refine (Gn.pickDI 2 drVa (by omega) (by decide) (by decide)).mono ?_
                rintro e wc ⟨v2,rfl,hv2,drwc,hbwc⟩
                have hwi:=Gn.wi3000 hv2
                have rowwc:=Mill.own_but rowVa hRz hbwc
                have tabwc:=Gn.tab_but drVa hbwc hxVa (by decide)
                go_wp2
                refine hK.out _ _ (trivial) (fun hHeld => ?_)
                clear hK
                try simp [Act.put]
                refine Tk 8 (.int .i64 (3000+v2)) rfl ?_
                try simp [Act.put]
                refine wpAnyH_ready (rs:=[5,9]) (by kernel_rfl) (by simp) ?_
                refine AllReadyH.cons rfl (fun KK hK => ?_) (AllReadyH.cons rfl (fun KK hK => ?_) AllReadyH.nil)
                · obtain ⟨nm,hnc,hnm⟩:=Gn.stab (M:=3) tabwc (by decide) v3 (Gn.nat3 hv3)
                  go_simp
                  refine hK.out _ _ (trivial) (fun hHeld => ?_)
                  clear hK
                  try simp [Act.put]
                  refine wpAnyH_ready (rs:=[9]) (by kernel_rfl) (by simp) ?_
                  refine AllReadyH.cons rfl (fun KK hK => ?_) AllReadyH.nil
                  go_simp
                  refine (Gn.manyD ⟨#[108]⟩ (3000+v2) drwc (by decide) (by omega) (by omega)).mono ?_
                  rintro e wd ⟨tx,rfl,htx,drwd,hbwd⟩
                  have rowwd:=Mill.own_but rowwc hRz hbwd
                  have tabwd:=Gn.tab_but drwc hbwd tabwc (by decide)
                  go_wp2
                  refine hK.out _ _ (trivial) (fun hHeld => ?_)
                  clear hK
                  try simp [Act.put]
                  refine Tk 10 (.agg #[.string nm,.string tx]) rfl ?_
                  try simp [Act.put]
                  refine wpAnyH_ready (rs:=[11]) (by kernel_rfl) (by simp) ?_
                  refine AllReadyH.cons rfl (fun KK hK => ?_) AllReadyH.nil
                  go_simp
                  obtain ⟨Ve,hVe⟩:∃ V,wd.alloc (.cells #[.string nm,.string tx] 36)=V:=⟨_,rfl⟩
                  have hbVe:Below wd.heap.size wd Ve:=Gn.below_new hVe
                  have hxVe:Ve.heap[wd.heap.size]? = some (.cells #[.string nm,.string tx] 36):=by rw [← hVe];exact World.alloc_heap_new wd _
                  have drVe:=drwd.below hbVe
                  have rowVe:=Gn.own_keep rowwd (fun k _ _ hl=>hbVe.block k hl)
                  have tabVe:=(hbVe.block _ (Array.getElem?_eq_some_iff.1 tabwd).1).trans tabwd
                  try rw [hVe]
                  refine hK.out _ _ (trivial) (fun hHeld => ?_)
                  clear hK
                  try simp [Act.put]
                  refine wpAnyH_ready (rs:=[12]) (by kernel_rfl) (by simp) ?_
                  refine AllReadyH.cons rfl (fun KK hK => ?_) AllReadyH.nil
                  refine Gn.step_file rfl _ _ rfl rowVe hSl nm tx hxVe drVe.but.size rfl rfl ?_
                  intro a8 c8 w8 row8 hg8
                  have dr8:=Gn.Dr_grown drVe rowVe hRz hg8
                  refine hK.out _ _ (trivial) (fun hHeld => ?_)
                  clear hK
                  try simp [Act.put]
                  refine Tk 13 (.slice a8 (S.length+1) c8) rfl ?_
                  try simp [Act.put]
                  refine wpAnyH_done (by kernel_rfl) ?_ _
                  obtain ⟨S2,hS2⟩:∃ l,S++[(⟨nm,tx⟩:Bx.Fl)]=l:=⟨_,rfl⟩
                  have hl2:S2.length=S.length+1:=by rw [← hS2,Gn.len_app]
                  have bd2:Gn.Bd 4 S2:=by rw [← hS2];exact bdx.app (Nat.le_trans hnm (by decide)) (Nat.le_trans htx (by decide))
                  rw [hS2,← hl2] at row8
                  rw [← hl2]
                  clear hHeld hS2 hl2 hg8
                  have s0:Gn.Mk:=trivial
                  go_wp2_with (first
                      | (go_at_call 13
                         have _t:=s0
                         clear s0
                         refine (Gn.pickDI 20 dr8 (by omega) (by decide) (by decide)).mono ?_
                         rintro e wt ⟨vt,rfl,hvt,drt,hbt⟩
                         have rowt:=Mill.own_but row8 hRz hbt
                         have hbk:=drt.but
                         have hT:=(hbk.block w.heap.size HTz.out.1 HTz.out.2.1).trans HTz.out.2.2
                         have yT:wt.cell? ⟨w.heap.size,0,none⟩=some (.slice none 0 0):=by rw [Lib.cell_of_heap hT];rfl
                         have zT:wt.frozen? ⟨w.heap.size,0,none⟩=false:=by simp [World.frozen?,hT]
                         have hQ:=(hbk.block bq HQz.out.1 HQz.out.2.1).trans HQz.out.2.2
                         have yQ:wt.cell? ⟨bq,0,none⟩=some (.slice pa' pn' pc'):=by rw [Lib.cell_of_heap hQ];rfl
                         have hT9:(wt.setCell ⟨w.heap.size,0,none⟩ (.slice pa' pn' pc')).cell? ⟨w.heap.size,0,none⟩=some (.slice pa' pn' pc'):=by rw [Lib.cell_of_heap (Gn.set_same hT)];rfl
                         rcases Gn.v20 hvt with ⟨rfl,q0⟩ | ⟨hvt2,q1⟩)
                      | (go_at_call 13
                         have _t:=q0
                         clear q0
                         refine (Gn.pickDI 2 drt (by omega) (by decide) (by decide)).mono ?_
                         rintro e wu ⟨vu,rfl,hvu,dru,hbu⟩
                         have rowu:=Mill.own_but rowt hRz hbu
                         have hwu:=Gn.wrc 40 hvu (by decide)
                         have DRU:Hid (Mill.Dr R p _ V6 wu):=dru
                         have ROWU:Hid (wu.ownsRow V6.heap.size 36 2 (.slice a8 S2.length c8) _ (Bx.fCs S2)):=rowu
                         clear dru rowu hT yT zT hQ yQ hT9 hbk))
                  · go_loopw [6] (fun o wr => ∃ (a:Option Addr) (c:Nat) (T:List Bx.Fl),o = .slice a T.length c∧Gn.Bd 42 T∧wr.ownsRow V6.heap.size 36 2 (.slice a T.length c) T.length (Bx.fCs T)∧Mill.Dr R p ((40+1+1+1)+1+1) V6 wr) (fun o _=>(42 - Gn.rlen o))
                    case atStart=>exact ⟨_,_,S2,rfl,bd2.mono (by decide),ROWU.out,DRU.out⟩
                    case round =>
                      obtain ⟨a,c,T,rfl,hbd,row,dr⟩:=hrel
                      by_cases hlt:(T.length:Int) < 40+vu
                      · have hSl:T.length≤1000:=Nat.le_trans hbd.1 (by decide)
                        obtain ⟨V7,hV7⟩:∃ V,wr.alloc (.cells #[.string ⟨#[115,97,109,101]⟩,.string ⟨#[]⟩] 36)=V:=⟨_,rfl⟩
                        have hb7:=Gn.below_new hV7
                        have hx7:V7.heap[wr.heap.size]? = some (.cells #[.string ⟨#[115,97,109,101]⟩,.string ⟨#[]⟩] 36):=by rw [← hV7];exact World.alloc_heap_new wr _
                        have dr7:=dr.below hb7
                        have row7:=Gn.own_keep row (fun k _ _ hl=>hb7.block k hl)
                        have hz7:=dr7.but.size
                        have r2:Gn.Mk:=trivial
                        go_wp2_with (first
                            | (at_builtin
                               have _t:=r2
                               clear r2
                               refine Gn.wp_file rfl _ _ rfl row7 hSl ⟨#[115,97,109,101]⟩ ⟨#[]⟩ hx7 hz7 rfl rfl ?_
                               intro a8 c8 w8 row8 hg8
                               have dr8:=Gn.Dr_grown dr7 row7 hRz hg8
                               clear row7 dr7 hg8))
                        go_roundw
                        case rel=>exact ⟨a8,c8,T++[⟨⟨#[115,97,109,101]⟩,⟨#[]⟩⟩],by rw [Gn.len_app],Gn.same_bd hbd hlt hvu,by rw [Gn.len_app];exact row8,dr8⟩
                        case measure=>exact Gn.same_ms hlt hvu
                      · have hbk:=dr.but
                        have hT:=(hbk.block w.heap.size HTz.out.1 HTz.out.2.1).trans HTz.out.2.2
                        have yT:wr.cell? ⟨w.heap.size,0,none⟩=some (.slice none 0 0):=by rw [Lib.cell_of_heap hT];rfl
                        have zT:wr.frozen? ⟨w.heap.size,0,none⟩=false:=by simp [World.frozen?,hT]
                        have hQ:=(hbk.block bq HQz.out.1 HQz.out.2.1).trans HQz.out.2.2
                        have yQ:wr.cell? ⟨bq,0,none⟩=some (.slice pa' pn' pc'):=by rw [Lib.cell_of_heap hQ];rfl
                        have hT9:(wr.setCell ⟨w.heap.size,0,none⟩ (.slice pa' pn' pc')).cell? ⟨w.heap.size,0,none⟩=some (.slice pa' pn' pc'):=by rw [Lib.cell_of_heap (Gn.set_same hT)];rfl
                        go_wp2_with fail
                        exact bodyPost_ret (v:=.tuple #[.agg #[.slice pa' pn' pc'],.slice a T.length c]) (by simp [results,Tryz.results4,go_sem,hT9]) rfl (Gn.dl_end dr HPR.out row hT HBP.out (hbd.mono (by decide)) HBZ.out hRw hrz)
                  · exact bodyPost_ret (v:=.tuple #[.agg #[.slice pa' pn' pc'],.slice a8 S2.length c8]) (by simp [results,Tryz.results4,go_sem,hT9]) rfl (Gn.dl_end drt HPR.out rowt hT HBP.out (bd2.mono (by decide)) HBZ.out hRw hrz)
                · go_simp
                  refine (Gn.manyD ⟨#[108]⟩ (3000+v2) drwc (by decide) (by omega) (by omega)).mono ?_
                  rintro e wd ⟨tx,rfl,htx,drwd,hbwd⟩
                  have rowwd:=Mill.own_but rowwc hRz hbwd
                  have tabwd:=Gn.tab_but drwc hbwd tabwc (by decide)
                  go_wp2
                  refine hK.out _ _ (trivial) (fun hHeld => ?_)
                  clear hK
                  try simp [Act.put]
                  refine wpAnyH_ready (rs:=[5]) (by kernel_rfl) (by simp) ?_
                  refine AllReadyH.cons rfl (fun KK hK => ?_) AllReadyH.nil
                  obtain ⟨nm,hnc,hnm⟩:=Gn.stab (M:=3) tabwd (by decide) v3 (Gn.nat3 hv3)
                  go_simp
                  refine hK.out _ _ (trivial) (fun hHeld => ?_)
                  clear hK
                  try simp [Act.put]
                  refine Tk 10 (.agg #[.string nm,.string tx]) rfl ?_
                  try simp [Act.put]
                  refine wpAnyH_ready (rs:=[11]) (by kernel_rfl) (by simp) ?_
                  refine AllReadyH.cons rfl (fun KK hK => ?_) AllReadyH.nil
                  go_simp
                  obtain ⟨Ve,hVe⟩:∃ V,wd.alloc (.cells #[.string nm,.string tx] 36)=V:=⟨_,rfl⟩
                  have hbVe:Below wd.heap.size wd Ve:=Gn.below_new hVe
                  have hxVe:Ve.heap[wd.heap.size]? = some (.cells #[.string nm,.string tx] 36):=by rw [← hVe];exact World.alloc_heap_new wd _
                  have drVe:=drwd.below hbVe
                  have rowVe:=Gn.own_keep rowwd (fun k _ _ hl=>hbVe.block k hl)
                  have tabVe:=(hbVe.block _ (Array.getElem?_eq_some_iff.1 tabwd).1).trans tabwd
                  try rw [hVe]
                  refine hK.out _ _ (trivial) (fun hHeld => ?_)
                  clear hK
                  try simp [Act.put]
                  refine wpAnyH_ready (rs:=[12]) (by kernel_rfl) (by simp) ?_
                  refine AllReadyH.cons rfl (fun KK hK => ?_) AllReadyH.nil
                  refine Gn.step_file rfl _ _ rfl rowVe hSl nm tx hxVe drVe.but.size rfl rfl ?_
                  intro a8 c8 w8 row8 hg8
                  have dr8:=Gn.Dr_grown drVe rowVe hRz hg8
                  refine hK.out _ _ (trivial) (fun hHeld => ?_)
                  clear hK
                  try simp [Act.put]
                  refine Tk 13 (.slice a8 (S.length+1) c8) rfl ?_
                  try simp [Act.put]
                  refine wpAnyH_done (by kernel_rfl) ?_ _
                  obtain ⟨S2,hS2⟩:∃ l,S++[(⟨nm,tx⟩:Bx.Fl)]=l:=⟨_,rfl⟩
                  have hl2:S2.length=S.length+1:=by rw [← hS2,Gn.len_app]
                  have bd2:Gn.Bd 4 S2:=by rw [← hS2];exact bdx.app (Nat.le_trans hnm (by decide)) (Nat.le_trans htx (by decide))
                  rw [hS2,← hl2] at row8
                  rw [← hl2]
                  clear hHeld hS2 hl2 hg8
                  have s0:Gn.Mk:=trivial
                  go_wp2_with (first
                      | (go_at_call 13
                         have _t:=s0
                         clear s0
                         refine (Gn.pickDI 20 dr8 (by omega) (by decide) (by decide)).mono ?_
                         rintro e wt ⟨vt,rfl,hvt,drt,hbt⟩
                         have rowt:=Mill.own_but row8 hRz hbt
                         have hbk:=drt.but
                         have hT:=(hbk.block w.heap.size HTz.out.1 HTz.out.2.1).trans HTz.out.2.2
                         have yT:wt.cell? ⟨w.heap.size,0,none⟩=some (.slice none 0 0):=by rw [Lib.cell_of_heap hT];rfl
                         have zT:wt.frozen? ⟨w.heap.size,0,none⟩=false:=by simp [World.frozen?,hT]
                         have hQ:=(hbk.block bq HQz.out.1 HQz.out.2.1).trans HQz.out.2.2
                         have yQ:wt.cell? ⟨bq,0,none⟩=some (.slice pa' pn' pc'):=by rw [Lib.cell_of_heap hQ];rfl
                         have hT9:(wt.setCell ⟨w.heap.size,0,none⟩ (.slice pa' pn' pc')).cell? ⟨w.heap.size,0,none⟩=some (.slice pa' pn' pc'):=by rw [Lib.cell_of_heap (Gn.set_same hT)];rfl
                         rcases Gn.v20 hvt with ⟨rfl,q0⟩ | ⟨hvt2,q1⟩)
                      | (go_at_call 13
                         have _t:=q0
                         clear q0
                         refine (Gn.pickDI 2 drt (by omega) (by decide) (by decide)).mono ?_
                         rintro e wu ⟨vu,rfl,hvu,dru,hbu⟩
                         have rowu:=Mill.own_but rowt hRz hbu
                         have hwu:=Gn.wrc 40 hvu (by decide)
                         have DRU:Hid (Mill.Dr R p _ V6 wu):=dru
                         have ROWU:Hid (wu.ownsRow V6.heap.size 36 2 (.slice a8 S2.length c8) _ (Bx.fCs S2)):=rowu
                         clear dru rowu hT yT zT hQ yQ hT9 hbk))
                  · go_loopw [6] (fun o wr => ∃ (a:Option Addr) (c:Nat) (T:List Bx.Fl),o = .slice a T.length c∧Gn.Bd 42 T∧wr.ownsRow V6.heap.size 36 2 (.slice a T.length c) T.length (Bx.fCs T)∧Mill.Dr R p ((40+1+1+1)+1+1) V6 wr) (fun o _=>(42 - Gn.rlen o))
                    case atStart=>exact ⟨_,_,S2,rfl,bd2.mono (by decide),ROWU.out,DRU.out⟩
                    case round =>
                      obtain ⟨a,c,T,rfl,hbd,row,dr⟩:=hrel
                      by_cases hlt:(T.length:Int) < 40+vu
                      · have hSl:T.length≤1000:=Nat.le_trans hbd.1 (by decide)
                        obtain ⟨V7,hV7⟩:∃ V,wr.alloc (.cells #[.string ⟨#[115,97,109,101]⟩,.string ⟨#[]⟩] 36)=V:=⟨_,rfl⟩
                        have hb7:=Gn.below_new hV7
                        have hx7:V7.heap[wr.heap.size]? = some (.cells #[.string ⟨#[115,97,109,101]⟩,.string ⟨#[]⟩] 36):=by rw [← hV7];exact World.alloc_heap_new wr _
                        have dr7:=dr.below hb7
                        have row7:=Gn.own_keep row (fun k _ _ hl=>hb7.block k hl)
                        have hz7:=dr7.but.size
                        have r2:Gn.Mk:=trivial
                        go_wp2_with (first
                            | (at_builtin
                               have _t:=r2
                               clear r2
                               refine Gn.wp_file rfl _ _ rfl row7 hSl ⟨#[115,97,109,101]⟩ ⟨#[]⟩ hx7 hz7 rfl rfl ?_
                               intro a8 c8 w8 row8 hg8
                               have dr8:=Gn.Dr_grown dr7 row7 hRz hg8
                               clear row7 dr7 hg8))
                        go_roundw
                        case rel=>exact ⟨a8,c8,T++[⟨⟨#[115,97,109,101]⟩,⟨#[]⟩⟩],by rw [Gn.len_app],Gn.same_bd hbd hlt hvu,by rw [Gn.len_app];exact row8,dr8⟩
                        case measure=>exact Gn.same_ms hlt hvu
                      · have hbk:=dr.but
                        have hT:=(hbk.block w.heap.size HTz.out.1 HTz.out.2.1).trans HTz.out.2.2
                        have yT:wr.cell? ⟨w.heap.size,0,none⟩=some (.slice none 0 0):=by rw [Lib.cell_of_heap hT];rfl
                        have zT:wr.frozen? ⟨w.heap.size,0,none⟩=false:=by simp [World.frozen?,hT]
                        have hQ:=(hbk.block bq HQz.out.1 HQz.out.2.1).trans HQz.out.2.2
                        have yQ:wr.cell? ⟨bq,0,none⟩=some (.slice pa' pn' pc'):=by rw [Lib.cell_of_heap hQ];rfl
                        have hT9:(wr.setCell ⟨w.heap.size,0,none⟩ (.slice pa' pn' pc')).cell? ⟨w.heap.size,0,none⟩=some (.slice pa' pn' pc'):=by rw [Lib.cell_of_heap (Gn.set_same hT)];rfl
                        go_wp2_with fail
                        exact bodyPost_ret (v:=.tuple #[.agg #[.slice pa' pn' pc'],.slice a T.length c]) (by simp [results,Tryz.results4,go_sem,hT9]) rfl (Gn.dl_end dr HPR.out row hT HBP.out (hbd.mono (by decide)) HBZ.out hRw hrz)
                  · exact bodyPost_ret (v:=.tuple #[.agg #[.slice pa' pn' pc'],.slice a8 S2.length c8]) (by simp [results,Tryz.results4,go_sem,hT9]) rfl (Gn.dl_end drt HPR.out rowt hT HBP.out (bd2.mono (by decide)) HBZ.out hRw hrz)
            · go_simp
              refine (Gn.pickDI 2 drwb (by omega) (by decide) (by decide)).mono ?_
              rintro e wc ⟨v2,rfl,hv2,drwc,hbwc⟩
              have hwi:=Gn.wi3000 hv2
              have rowwc:=Mill.own_but rowwb hRz hbwc
              go_wp2
              refine hK.out _ _ (trivial) (fun hHeld => ?_)
              clear hK
              try simp [Act.put]
              refine Tk 8 (.int .i64 (3000+v2)) rfl ?_
              try simp [Act.put]
              refine wpAnyH_ready (rs:=[1,9]) (by kernel_rfl) (by simp) ?_
              refine AllReadyH.cons rfl (fun KK hK => ?_) (AllReadyH.cons rfl (fun KK hK => ?_) AllReadyH.nil)
              · go_simp
                obtain ⟨Va,hVa⟩:∃ V,wc.alloc (.cells #[.string ⟨#[]⟩,.string ⟨#[120,32,121]⟩,.string ⟨#[110,101,119]⟩] 9)=V:=⟨_,rfl⟩
                have hbVa:Below wc.heap.size wc Va:=Gn.below_new hVa
                have hxVa:Va.heap[wc.heap.size]? = some (.cells #[.string ⟨#[]⟩,.string ⟨#[120,32,121]⟩,.string ⟨#[110,101,119]⟩] 9):=by rw [← hVa];exact World.alloc_heap_new wc _
                have drVa:=drwc.below hbVa
                have rowVa:=Gn.own_keep rowwc (fun k _ _ hl=>hbVa.block k hl)
                try rw [hVa]
                refine hK.out _ _ (trivial) (fun hHeld => ?_)
                clear hK
                try simp [Act.put]
                refine Tk 4 (.pointer (some ⟨wc.heap.size,v3,none⟩)) rfl ?_
                try simp [Act.put]
                refine wpAnyH_ready (rs:=[5,9]) (by kernel_rfl) (by simp) ?_
                refine AllReadyH.cons rfl (fun KK hK => ?_) (AllReadyH.cons rfl (fun KK hK => ?_) AllReadyH.nil)
                · obtain ⟨nm,hnc,hnm⟩:=Gn.stab (M:=3) hxVa (by decide) v3 (Gn.nat3 hv3)
                  go_simp
                  refine hK.out _ _ (trivial) (fun hHeld => ?_)
                  clear hK
                  try simp [Act.put]
                  refine wpAnyH_ready (rs:=[9]) (by kernel_rfl) (by simp) ?_
                  refine AllReadyH.cons rfl (fun KK hK => ?_) AllReadyH.nil
                  go_simp
                  refine (Gn.manyD ⟨#[108]⟩ (3000+v2) drVa (by decide) (by omega) (by omega)).mono ?_
                  rintro e wd ⟨tx,rfl,htx,drwd,hbwd⟩
                  have rowwd:=Mill.own_but rowVa hRz hbwd
                  have tabwd:=Gn.tab_but drVa hbwd hxVa (by decide)
                  go_wp2
                  refine hK.out _ _ (trivial) (fun hHeld => ?_)
                  clear hK
                  try simp [Act.put]
                  refine Tk 10 (.agg #[.string nm,.string tx]) rfl ?_
                  try simp [Act.put]
                  refine wpAnyH_ready (rs:=[11]) (by kernel_rfl) (by simp) ?_
                  refine AllReadyH.cons rfl (fun KK hK => ?_) AllReadyH.nil
                  go_simp
                  obtain ⟨Ve,hVe⟩:∃ V,wd.alloc (.cells #[.string nm,.string tx] 36)=V:=⟨_,rfl⟩
                  have hbVe:Below wd.heap.size wd Ve:=Gn.below_new hVe
                  have hxVe:Ve.heap[wd.heap.size]? = some (.cells #[.string nm,.string tx] 36):=by rw [← hVe];exact World.alloc_heap_new wd _
                  have drVe:=drwd.below hbVe
                  have rowVe:=Gn.own_keep rowwd (fun k _ _ hl=>hbVe.block k hl)
                  have tabVe:=(hbVe.block _ (Array.getElem?_eq_some_iff.1 tabwd).1).trans tabwd
                  try rw [hVe]
                  refine hK.out _ _ (trivial) (fun hHeld => ?_)
                  clear hK
                  try simp [Act.put]
                  refine wpAnyH_ready (rs:=[12]) (by kernel_rfl) (by simp) ?_
                  refine AllReadyH.cons rfl (fun KK hK => ?_) AllReadyH.nil
                  refine Gn.step_file rfl _ _ rfl rowVe hSl nm tx hxVe drVe.but.size rfl rfl ?_
                  intro a8 c8 w8 row8 hg8
                  have dr8:=Gn.Dr_grown drVe rowVe hRz hg8
                  refine hK.out _ _ (trivial) (fun hHeld => ?_)
                  clear hK
                  try simp [Act.put]
                  refine Tk 13 (.slice a8 (S.length+1) c8) rfl ?_
                  try simp [Act.put]
                  refine wpAnyH_done (by kernel_rfl) ?_ _
                  obtain ⟨S2,hS2⟩:∃ l,S++[(⟨nm,tx⟩:Bx.Fl)]=l:=⟨_,rfl⟩
                  have hl2:S2.length=S.length+1:=by rw [← hS2,Gn.len_app]
                  have bd2:Gn.Bd 4 S2:=by rw [← hS2];exact bdx.app (Nat.le_trans hnm (by decide)) (Nat.le_trans htx (by decide))
                  rw [hS2,← hl2] at row8
                  rw [← hl2]
                  clear hHeld hS2 hl2 hg8
                  have s0:Gn.Mk:=trivial
                  go_wp2_with (first
                      | (go_at_call 13
                         have _t:=s0
                         clear s0
                         refine (Gn.pickDI 20 dr8 (by omega) (by decide) (by decide)).mono ?_
                         rintro e wt ⟨vt,rfl,hvt,drt,hbt⟩
                         have rowt:=Mill.own_but row8 hRz hbt
                         have hbk:=drt.but
                         have hT:=(hbk.block w.heap.size HTz.out.1 HTz.out.2.1).trans HTz.out.2.2
                         have yT:wt.cell? ⟨w.heap.size,0,none⟩=some (.slice none 0 0):=by rw [Lib.cell_of_heap hT];rfl
                         have zT:wt.frozen? ⟨w.heap.size,0,none⟩=false:=by simp [World.frozen?,hT]
                         have hQ:=(hbk.block bq HQz.out.1 HQz.out.2.1).trans HQz.out.2.2
                         have yQ:wt.cell? ⟨bq,0,none⟩=some (.slice pa' pn' pc'):=by rw [Lib.cell_of_heap hQ];rfl
                         have hT9:(wt.setCell ⟨w.heap.size,0,none⟩ (.slice pa' pn' pc')).cell? ⟨w.heap.size,0,none⟩=some (.slice pa' pn' pc'):=by rw [Lib.cell_of_heap (Gn.set_same hT)];rfl
                         rcases Gn.v20 hvt with ⟨rfl,q0⟩ | ⟨hvt2,q1⟩)
                      | (go_at_call 13
                         have _t:=q0
                         clear q0
                         refine (Gn.pickDI 2 drt (by omega) (by decide) (by decide)).mono ?_
                         rintro e wu ⟨vu,rfl,hvu,dru,hbu⟩
                         have rowu:=Mill.own_but rowt hRz hbu
                         have hwu:=Gn.wrc 40 hvu (by decide)
                         have DRU:Hid (Mill.Dr R p _ V6 wu):=dru
                         have ROWU:Hid (wu.ownsRow V6.heap.size 36 2 (.slice a8 S2.length c8) _ (Bx.fCs S2)):=rowu
                         clear dru rowu hT yT zT hQ yQ hT9 hbk))
                  · go_loopw [6] (fun o wr => ∃ (a:Option Addr) (c:Nat) (T:List Bx.Fl),o = .slice a T.length c∧Gn.Bd 42 T∧wr.ownsRow V6.heap.size 36 2 (.slice a T.length c) T.length (Bx.fCs T)∧Mill.Dr R p ((40+1+1+1)+1+1) V6 wr) (fun o _=>(42 - Gn.rlen o))
                    case atStart=>exact ⟨_,_,S2,rfl,bd2.mono (by decide),ROWU.out,DRU.out⟩
                    case round =>
                      obtain ⟨a,c,T,rfl,hbd,row,dr⟩:=hrel
                      by_cases hlt:(T.length:Int) < 40+vu
                      · have hSl:T.length≤1000:=Nat.le_trans hbd.1 (by decide)
                        obtain ⟨V7,hV7⟩:∃ V,wr.alloc (.cells #[.string ⟨#[115,97,109,101]⟩,.string ⟨#[]⟩] 36)=V:=⟨_,rfl⟩
                        have hb7:=Gn.below_new hV7
                        have hx7:V7.heap[wr.heap.size]? = some (.cells #[.string ⟨#[115,97,109,101]⟩,.string ⟨#[]⟩] 36):=by rw [← hV7];exact World.alloc_heap_new wr _
                        have dr7:=dr.below hb7
                        have row7:=Gn.own_keep row (fun k _ _ hl=>hb7.block k hl)
                        have hz7:=dr7.but.size
                        have r2:Gn.Mk:=trivial
                        go_wp2_with (first
                            | (at_builtin
                               have _t:=r2
                               clear r2
                               refine Gn.wp_file rfl _ _ rfl row7 hSl ⟨#[115,97,109,101]⟩ ⟨#[]⟩ hx7 hz7 rfl rfl ?_
                               intro a8 c8 w8 row8 hg8
                               have dr8:=Gn.Dr_grown dr7 row7 hRz hg8
                               clear row7 dr7 hg8))
                        go_roundw
                        case rel=>exact ⟨a8,c8,T++[⟨⟨#[115,97,109,101]⟩,⟨#[]⟩⟩],by rw [Gn.len_app],Gn.same_bd hbd hlt hvu,by rw [Gn.len_app];exact row8,dr8⟩
                        case measure=>exact Gn.same_ms hlt hvu
                      · have hbk:=dr.but
                        have hT:=(hbk.block w.heap.size HTz.out.1 HTz.out.2.1).trans HTz.out.2.2
                        have yT:wr.cell? ⟨w.heap.size,0,none⟩=some (.slice none 0 0):=by rw [Lib.cell_of_heap hT];rfl
                        have zT:wr.frozen? ⟨w.heap.size,0,none⟩=false:=by simp [World.frozen?,hT]
                        have hQ:=(hbk.block bq HQz.out.1 HQz.out.2.1).trans HQz.out.2.2
                        have yQ:wr.cell? ⟨bq,0,none⟩=some (.slice pa' pn' pc'):=by rw [Lib.cell_of_heap hQ];rfl
                        have hT9:(wr.setCell ⟨w.heap.size,0,none⟩ (.slice pa' pn' pc')).cell? ⟨w.heap.size,0,none⟩=some (.slice pa' pn' pc'):=by rw [Lib.cell_of_heap (Gn.set_same hT)];rfl
                        go_wp2_with fail
                        exact bodyPost_ret (v:=.tuple #[.agg #[.slice pa' pn' pc'],.slice a T.length c]) (by simp [results,Tryz.results4,go_sem,hT9]) rfl (Gn.dl_end dr HPR.out row hT HBP.out (hbd.mono (by decide)) HBZ.out hRw hrz)
                  · exact bodyPost_ret (v:=.tuple #[.agg #[.slice pa' pn' pc'],.slice a8 S2.length c8]) (by simp [results,Tryz.results4,go_sem,hT9]) rfl (Gn.dl_end drt HPR.out rowt hT HBP.out (bd2.mono (by decide)) HBZ.out hRw hrz)
                · go_simp
                  refine (Gn.manyD ⟨#[108]⟩ (3000+v2) drVa (by decide) (by omega) (by omega)).mono ?_
                  rintro e wd ⟨tx,rfl,htx,drwd,hbwd⟩
                  have rowwd:=Mill.own_but rowVa hRz hbwd
                  have tabwd:=Gn.tab_but drVa hbwd hxVa (by decide)
                  go_wp2
                  refine hK.out _ _ (trivial) (fun hHeld => ?_)
                  clear hK
                  try simp [Act.put]
                  refine wpAnyH_ready (rs:=[5]) (by kernel_rfl) (by simp) ?_
                  refine AllReadyH.cons rfl (fun KK hK => ?_) AllReadyH.nil
                  obtain ⟨nm,hnc,hnm⟩:=Gn.stab (M:=3) tabwd (by decide) v3 (Gn.nat3 hv3)
                  go_simp
                  refine hK.out _ _ (trivial) (fun hHeld => ?_)
                  clear hK
                  try simp [Act.put]
                  refine Tk 10 (.agg #[.string nm,.string tx]) rfl ?_
                  try simp [Act.put]
                  refine wpAnyH_ready (rs:=[11]) (by kernel_rfl) (by simp) ?_
                  refine AllReadyH.cons rfl (fun KK hK => ?_) AllReadyH.nil
                  go_simp
                  obtain ⟨Ve,hVe⟩:∃ V,wd.alloc (.cells #[.string nm,.string tx] 36)=V:=⟨_,rfl⟩
                  have hbVe:Below wd.heap.size wd Ve:=Gn.below_new hVe
                  have hxVe:Ve.heap[wd.heap.size]? = some (.cells #[.string nm,.string tx] 36):=by rw [← hVe];exact World.alloc_heap_new wd _
                  have drVe:=drwd.below hbVe
                  have rowVe:=Gn.own_keep rowwd (fun k _ _ hl=>hbVe.block k hl)
                  have tabVe:=(hbVe.block _ (Array.getElem?_eq_some_iff.1 tabwd).1).trans tabwd
                  try rw [hVe]
                  refine hK.out _ _ (trivial) (fun hHeld => ?_)
                  clear hK
                  try simp [Act.put]
                  refine wpAnyH_ready (rs:=[12]) (by kernel_rfl) (by simp) ?_
                  refine AllReadyH.cons rfl (fun KK hK => ?_) AllReadyH.nil
                  refine Gn.step_file rfl _ _ rfl rowVe hSl nm tx hxVe drVe.but.size rfl rfl ?_
                  intro a8 c8 w8 row8 hg8
                  have dr8:=Gn.Dr_grown drVe rowVe hRz hg8
                  refine hK.out _ _ (trivial) (fun hHeld => ?_)
                  clear hK
                  try simp [Act.put]
                  refine Tk 13 (.slice a8 (S.length+1) c8) rfl ?_
                  try simp [Act.put]
                  refine wpAnyH_done (by kernel_rfl) ?_ _
                  obtain ⟨S2,hS2⟩:∃ l,S++[(⟨nm,tx⟩:Bx.Fl)]=l:=⟨_,rfl⟩
                  have hl2:S2.length=S.length+1:=by rw [← hS2,Gn.len_app]
                  have bd2:Gn.Bd 4 S2:=by rw [← hS2];exact bdx.app (Nat.le_trans hnm (by decide)) (Nat.le_trans htx (by decide))
                  rw [hS2,← hl2] at row8
                  rw [← hl2]
                  clear hHeld hS2 hl2 hg8
                  have s0:Gn.Mk:=trivial
                  go_wp2_with (first
                      | (go_at_call 13
                         have _t:=s0
                         clear s0
                         refine (Gn.pickDI 20 dr8 (by omega) (by decide) (by decide)).mono ?_
                         rintro e wt ⟨vt,rfl,hvt,drt,hbt⟩
                         have rowt:=Mill.own_but row8 hRz hbt
                         have hbk:=drt.but
                         have hT:=(hbk.block w.heap.size HTz.out.1 HTz.out.2.1).trans HTz.out.2.2
                         have yT:wt.cell? ⟨w.heap.size,0,none⟩=some (.slice none 0 0):=by rw [Lib.cell_of_heap hT];rfl
                         have zT:wt.frozen? ⟨w.heap.size,0,none⟩=false:=by simp [World.frozen?,hT]
                         have hQ:=(hbk.block bq HQz.out.1 HQz.out.2.1).trans HQz.out.2.2
                         have yQ:wt.cell? ⟨bq,0,none⟩=some (.slice pa' pn' pc'):=by rw [Lib.cell_of_heap hQ];rfl
                         have hT9:(wt.setCell ⟨w.heap.size,0,none⟩ (.slice pa' pn' pc')).cell? ⟨w.heap.size,0,none⟩=some (.slice pa' pn' pc'):=by rw [Lib.cell_of_heap (Gn.set_same hT)];rfl
                         rcases Gn.v20 hvt with ⟨rfl,q0⟩ | ⟨hvt2,q1⟩)
                      | (go_at_call 13
                         have _t:=q0
                         clear q0
                         refine (Gn.pickDI 2 drt (by omega) (by decide) (by decide)).mono ?_
                         rintro e wu ⟨vu,rfl,hvu,dru,hbu⟩
                         have rowu:=Mill.own_but rowt hRz hbu
                         have hwu:=Gn.wrc 40 hvu (by decide)
                         have DRU:Hid (Mill.Dr R p _ V6 wu):=dru
                         have ROWU:Hid (wu.ownsRow V6.heap.size 36 2 (.slice a8 S2.length c8) _ (Bx.fCs S2)):=rowu
                         clear dru rowu hT yT zT hQ yQ hT9 hbk))
                  · go_loopw [6] (fun o wr => ∃ (a:Option Addr) (c:Nat) (T:List Bx.Fl),o = .slice a T.length c∧Gn.Bd 42 T∧wr.ownsRow V6.heap.size 36 2 (.slice a T.length c) T.length (Bx.fCs T)∧Mill.Dr R p ((40+1+1+1)+1+1) V6 wr) (fun o _=>(42 - Gn.rlen o))
                    case atStart=>exact ⟨_,_,S2,rfl,bd2.mono (by decide),ROWU.out,DRU.out⟩
                    case round =>
                      obtain ⟨a,c,T,rfl,hbd,row,dr⟩:=hrel
                      by_cases hlt:(T.length:Int) < 40+vu
                      · have hSl:T.length≤1000:=Nat.le_trans hbd.1 (by decide)
                        obtain ⟨V7,hV7⟩:∃ V,wr.alloc (.cells #[.string ⟨#[115,97,109,101]⟩,.string ⟨#[]⟩] 36)=V:=⟨_,rfl⟩
                        have hb7:=Gn.below_new hV7
                        have hx7:V7.heap[wr.heap.size]? = some (.cells #[.string ⟨#[115,97,109,101]⟩,.string ⟨#[]⟩] 36):=by rw [← hV7];exact World.alloc_heap_new wr _
                        have dr7:=dr.below hb7
                        have row7:=Gn.own_keep row (fun k _ _ hl=>hb7.block k hl)
                        have hz7:=dr7.but.size
                        have r2:Gn.Mk:=trivial
                        go_wp2_with (first
                            | (at_builtin
                               have _t:=r2
                               clear r2
                               refine Gn.wp_file rfl _ _ rfl row7 hSl ⟨#[115,97,109,101]⟩ ⟨#[]⟩ hx7 hz7 rfl rfl ?_
                               intro a8 c8 w8 row8 hg8
                               have dr8:=Gn.Dr_grown dr7 row7 hRz hg8
                               clear row7 dr7 hg8))
                        go_roundw
                        case rel=>exact ⟨a8,c8,T++[⟨⟨#[115,97,109,101]⟩,⟨#[]⟩⟩],by rw [Gn.len_app],Gn.same_bd hbd hlt hvu,by rw [Gn.len_app];exact row8,dr8⟩
                        case measure=>exact Gn.same_ms hlt hvu
                      · have hbk:=dr.but
                        have hT:=(hbk.block w.heap.size HTz.out.1 HTz.out.2.1).trans HTz.out.2.2
                        have yT:wr.cell? ⟨w.heap.size,0,none⟩=some (.slice none 0 0):=by rw [Lib.cell_of_heap hT];rfl
                        have zT:wr.frozen? ⟨w.heap.size,0,none⟩=false:=by simp [World.frozen?,hT]
                        have hQ:=(hbk.block bq HQz.out.1 HQz.out.2.1).trans HQz.out.2.2
                        have yQ:wr.cell? ⟨bq,0,none⟩=some (.slice pa' pn' pc'):=by rw [Lib.cell_of_heap hQ];rfl
                        have hT9:(wr.setCell ⟨w.heap.size,0,none⟩ (.slice pa' pn' pc')).cell? ⟨w.heap.size,0,none⟩=some (.slice pa' pn' pc'):=by rw [Lib.cell_of_heap (Gn.set_same hT)];rfl
                        go_wp2_with fail
                        exact bodyPost_ret (v:=.tuple #[.agg #[.slice pa' pn' pc'],.slice a T.length c]) (by simp [results,Tryz.results4,go_sem,hT9]) rfl (Gn.dl_end dr HPR.out row hT HBP.out (hbd.mono (by decide)) HBZ.out hRw hrz)
                  · exact bodyPost_ret (v:=.tuple #[.agg #[.slice pa' pn' pc'],.slice a8 S2.length c8]) (by simp [results,Tryz.results4,go_sem,hT9]) rfl (Gn.dl_end drt HPR.out rowt hT HBP.out (bd2.mono (by decide)) HBZ.out hRw hrz)
              · go_simp
                refine (Gn.manyD ⟨#[108]⟩ (3000+v2) drwc (by decide) (by omega) (by omega)).mono ?_
                rintro e wd ⟨tx,rfl,htx,drwd,hbwd⟩
                have rowwd:=Mill.own_but rowwc hRz hbwd
                go_wp2
                refine hK.out _ _ (trivial) (fun hHeld => ?_)
                clear hK
                try simp [Act.put]
                refine wpAnyH_ready (rs:=[1]) (by kernel_rfl) (by simp) ?_
                refine AllReadyH.cons rfl (fun KK hK => ?_) AllReadyH.nil
                go_simp
                obtain ⟨Va,hVa⟩:∃ V,wd.alloc (.cells #[.string ⟨#[]⟩,.string ⟨#[120,32,121]⟩,.string ⟨#[110,101,119]⟩] 9)=V:=⟨_,rfl⟩
                have hbVa:Below wd.heap.size wd Va:=Gn.below_new hVa
                have hxVa:Va.heap[wd.heap.size]? = some (.cells #[.string ⟨#[]⟩,.string ⟨#[120,32,121]⟩,.string ⟨#[110,101,119]⟩] 9):=by rw [← hVa];exact World.alloc_heap_new wd _
                have drVa:=drwd.below hbVa
                have rowVa:=Gn.own_keep rowwd (fun k _ _ hl=>hbVa.block k hl)
                try rw [hVa]
                refine hK.out _ _ (trivial) (fun hHeld => ?_)
                clear hK
                try simp [Act.put]
                refine Tk 4 (.pointer (some ⟨wd.heap.size,v3,none⟩)) rfl ?_
                try simp [Act.put]
                refine wpAnyH_ready (rs:=[5]) (by kernel_rfl) (by simp) ?_
                refine AllReadyH.cons rfl (fun KK hK => ?_) AllReadyH.nil
                obtain ⟨nm,hnc,hnm⟩:=Gn.stab (M:=3) hxVa (by decide) v3 (Gn.nat3 hv3)
                go_simp
                refine hK.out _ _ (trivial) (fun hHeld => ?_)
                clear hK
                try simp [Act.put]
                refine Tk 10 (.agg #[.string nm,.string tx]) rfl ?_
                try simp [Act.put]
                refine wpAnyH_ready (rs:=[11]) (by kernel_rfl) (by simp) ?_
                refine AllReadyH.cons rfl (fun KK hK => ?_) AllReadyH.nil
                go_simp
                obtain ⟨Ve,hVe⟩:∃ V,Va.alloc (.cells #[.string nm,.string tx] 36)=V:=⟨_,rfl⟩
                have hbVe:Below Va.heap.size Va Ve:=Gn.below_new hVe
                have hxVe:Ve.heap[Va.heap.size]? = some (.cells #[.string nm,.string tx] 36):=by rw [← hVe];exact World.alloc_heap_new Va _
                have drVe:=drVa.below hbVe
                have rowVe:=Gn.own_keep rowVa (fun k _ _ hl=>hbVe.block k hl)
                have tabVe:=(hbVe.block _ (Array.getElem?_eq_some_iff.1 hxVa).1).trans hxVa
                try rw [hVe]
                refine hK.out _ _ (trivial) (fun hHeld => ?_)
                clear hK
                try simp [Act.put]
                refine wpAnyH_ready (rs:=[12]) (by kernel_rfl) (by simp) ?_
                refine AllReadyH.cons rfl (fun KK hK => ?_) AllReadyH.nil
                refine Gn.step_file rfl _ _ rfl rowVe hSl nm tx hxVe drVe.but.size rfl rfl ?_
                intro a8 c8 w8 row8 hg8
                have dr8:=Gn.Dr_grown drVe rowVe hRz hg8
                refine hK.out _ _ (trivial) (fun hHeld => ?_)
                clear hK
                try simp [Act.put]
                refine Tk 13 (.slice a8 (S.length+1) c8) rfl ?_
                try simp [Act.put]
                refine wpAnyH_done (by kernel_rfl) ?_ _
                obtain ⟨S2,hS2⟩:∃ l,S++[(⟨nm,tx⟩:Bx.Fl)]=l:=⟨_,rfl⟩
                have hl2:S2.length=S.length+1:=by rw [← hS2,Gn.len_app]
                have bd2:Gn.Bd 4 S2:=by rw [← hS2];exact bdx.app (Nat.le_trans hnm (by decide)) (Nat.le_trans htx (by decide))
                rw [hS2,← hl2] at row8
                rw [← hl2]
                clear hHeld hS2 hl2 hg8
                have s0:Gn.Mk:=trivial
                go_wp2_with (first
                    | (go_at_call 13
                       have _t:=s0
                       clear s0
                       refine (Gn.pickDI 20 dr8 (by omega) (by decide) (by decide)).mono ?_
                       rintro e wt ⟨vt,rfl,hvt,drt,hbt⟩
                       have rowt:=Mill.own_but row8 hRz hbt
                       have hbk:=drt.but
                       have hT:=(hbk.block w.heap.size HTz.out.1 HTz.out.2.1).trans HTz.out.2.2
                       have yT:wt.cell? ⟨w.heap.size,0,none⟩=some (.slice none 0 0):=by rw [Lib.cell_of_heap hT];rfl
                       have zT:wt.frozen? ⟨w.heap.size,0,none⟩=false:=by simp [World.frozen?,hT]
                       have hQ:=(hbk.block bq HQz.out.1 HQz.out.2.1).trans HQz.out.2.2
                       have yQ:wt.cell? ⟨bq,0,none⟩=some (.slice pa' pn' pc'):=by rw [Lib.cell_of_heap hQ];rfl
                       have hT9:(wt.setCell ⟨w.heap.size,0,none⟩ (.slice pa' pn' pc')).cell? ⟨w.heap.size,0,none⟩=some (.slice pa' pn' pc'):=by rw [Lib.cell_of_heap (Gn.set_same hT)];rfl
                       rcases Gn.v20 hvt with ⟨rfl,q0⟩ | ⟨hvt2,q1⟩)
                    | (go_at_call 13
                       have _t:=q0
                       clear q0
                       refine (Gn.pickDI 2 drt (by omega) (by decide) (by decide)).mono ?_
                       rintro e wu ⟨vu,rfl,hvu,dru,hbu⟩
                       have rowu:=Mill.own_but rowt hRz hbu
                       have hwu:=Gn.wrc 40 hvu (by decide)
                       have DRU:Hid (Mill.Dr R p _ V6 wu):=dru
                       have ROWU:Hid (wu.ownsRow V6.heap.size 36 2 (.slice a8 S2.length c8) _ (Bx.fCs S2)):=rowu
                       clear dru rowu hT yT zT hQ yQ hT9 hbk))
                · go_loopw [6] (fun o wr => ∃ (a:Option Addr) (c:Nat) (T:List Bx.Fl),o = .slice a T.length c∧Gn.Bd 42 T∧wr.ownsRow V6.heap.size 36 2 (.slice a T.length c) T.length (Bx.fCs T)∧Mill.Dr R p ((40+1+1+1)+1+1) V6 wr) (fun o _=>(42 - Gn.rlen o))
                  case atStart=>exact ⟨_,_,S2,rfl,bd2.mono (by decide),ROWU.out,DRU.out⟩
                  case round =>
                    obtain ⟨a,c,T,rfl,hbd,row,dr⟩:=hrel
                    by_cases hlt:(T.length:Int) < 40+vu
                    · have hSl:T.length≤1000:=Nat.le_trans hbd.1 (by decide)
                      obtain ⟨V7,hV7⟩:∃ V,wr.alloc (.cells #[.string ⟨#[115,97,109,101]⟩,.string ⟨#[]⟩] 36)=V:=⟨_,rfl⟩
                      have hb7:=Gn.below_new hV7
                      have hx7:V7.heap[wr.heap.size]? = some (.cells #[.string ⟨#[115,97,109,101]⟩,.string ⟨#[]⟩] 36):=by rw [← hV7];exact World.alloc_heap_new wr _
                      have dr7:=dr.below hb7
                      have row7:=Gn.own_keep row (fun k _ _ hl=>hb7.block k hl)
                      have hz7:=dr7.but.size
                      have r2:Gn.Mk:=trivial
                      go_wp2_with (first
                          | (at_builtin
                             have _t:=r2
                             clear r2
                             refine Gn.wp_file rfl _ _ rfl row7 hSl ⟨#[115,97,109,101]⟩ ⟨#[]⟩ hx7 hz7 rfl rfl ?_
                             intro a8 c8 w8 row8 hg8
                             have dr8:=Gn.Dr_grown dr7 row7 hRz hg8
                             clear row7 dr7 hg8))
                      go_roundw
                      case rel=>exact ⟨a8,c8,T++[⟨⟨#[115,97,109,101]⟩,⟨#[]⟩⟩],by rw [Gn.len_app],Gn.same_bd hbd hlt hvu,by rw [Gn.len_app];exact row8,dr8⟩
                      case measure=>exact Gn.same_ms hlt hvu
                    · have hbk:=dr.but
                      have hT:=(hbk.block w.heap.size HTz.out.1 HTz.out.2.1).trans HTz.out.2.2
                      have yT:wr.cell? ⟨w.heap.size,0,none⟩=some (.slice none 0 0):=by rw [Lib.cell_of_heap hT];rfl
                      have zT:wr.frozen? ⟨w.heap.size,0,none⟩=false:=by simp [World.frozen?,hT]
                      have hQ:=(hbk.block bq HQz.out.1 HQz.out.2.1).trans HQz.out.2.2
                      have yQ:wr.cell? ⟨bq,0,none⟩=some (.slice pa' pn' pc'):=by rw [Lib.cell_of_heap hQ];rfl
                      have hT9:(wr.setCell ⟨w.heap.size,0,none⟩ (.slice pa' pn' pc')).cell? ⟨w.heap.size,0,none⟩=some (.slice pa' pn' pc'):=by rw [Lib.cell_of_heap (Gn.set_same hT)];rfl
                      go_wp2_with fail
                      exact bodyPost_ret (v:=.tuple #[.agg #[.slice pa' pn' pc'],.slice a T.length c]) (by simp [results,Tryz.results4,go_sem,hT9]) rfl (Gn.dl_end dr HPR.out row hT HBP.out (hbd.mono (by decide)) HBZ.out hRw hrz)
                · exact bodyPost_ret (v:=.tuple #[.agg #[.slice pa' pn' pc'],.slice a8 S2.length c8]) (by simp [results,Tryz.results4,go_sem,hT9]) rfl (Gn.dl_end drt HPR.out rowt hT HBP.out (bd2.mono (by decide)) HBZ.out hRw hrz)
        · have s0:Gn.Mk:=trivial
          go_wp2_with (first
              | (go_at_call 13
                 have _t:=s0
                 clear s0
                 refine (Gn.pickDI 20 drp (by omega) (by decide) (by decide)).mono ?_
                 rintro e wt ⟨vt,rfl,hvt,drt,hbt⟩
                 have rowt:=Mill.own_but rowp hRz hbt
                 have hbk:=drt.but
                 have hT:=(hbk.block w.heap.size HTz.out.1 HTz.out.2.1).trans HTz.out.2.2
                 have yT:wt.cell? ⟨w.heap.size,0,none⟩=some (.slice none 0 0):=by rw [Lib.cell_of_heap hT];rfl
                 have zT:wt.frozen? ⟨w.heap.size,0,none⟩=false:=by simp [World.frozen?,hT]
                 have hQ:=(hbk.block bq HQz.out.1 HQz.out.2.1).trans HQz.out.2.2
                 have yQ:wt.cell? ⟨bq,0,none⟩=some (.slice pa' pn' pc'):=by rw [Lib.cell_of_heap hQ];rfl
                 have hT9:(wt.setCell ⟨w.heap.size,0,none⟩ (.slice pa' pn' pc')).cell? ⟨w.heap.size,0,none⟩=some (.slice pa' pn' pc'):=by rw [Lib.cell_of_heap (Gn.set_same hT)];rfl
                 rcases Gn.v20 hvt with ⟨rfl,q0⟩ | ⟨hvt2,q1⟩)
              | (go_at_call 13
                 have _t:=q0
                 clear q0
                 refine (Gn.pickDI 2 drt (by omega) (by decide) (by decide)).mono ?_
                 rintro e wu ⟨vu,rfl,hvu,dru,hbu⟩
                 have rowu:=Mill.own_but rowt hRz hbu
                 have hwu:=Gn.wrc 40 hvu (by decide)
                 have DRU:Hid (Mill.Dr R p _ V6 wu):=dru
                 have ROWU:Hid (wu.ownsRow V6.heap.size 36 2 (.slice a S.length c) _ (Bx.fCs S)):=rowu
                 clear dru rowu hT yT zT hQ yQ hT9 hbk))
          · go_loopw [6] (fun o wr => ∃ (a:Option Addr) (c:Nat) (T:List Bx.Fl),o = .slice a T.length c∧Gn.Bd 42 T∧wr.ownsRow V6.heap.size 36 2 (.slice a T.length c) T.length (Bx.fCs T)∧Mill.Dr R p ((40+1)+1+1) V6 wr) (fun o _=>(42 - Gn.rlen o))
            case atStart=>exact ⟨_,_,S,rfl,bdx.mono (by decide),ROWU.out,DRU.out⟩
            case round =>
              obtain ⟨a,c,T,rfl,hbd,row,dr⟩:=hrel
              by_cases hlt:(T.length:Int) < 40+vu
              · have hSl:T.length≤1000:=Nat.le_trans hbd.1 (by decide)
                obtain ⟨V7,hV7⟩:∃ V,wr.alloc (.cells #[.string ⟨#[115,97,109,101]⟩,.string ⟨#[]⟩] 36)=V:=⟨_,rfl⟩
                have hb7:=Gn.below_new hV7
                have hx7:V7.heap[wr.heap.size]? = some (.cells #[.string ⟨#[115,97,109,101]⟩,.string ⟨#[]⟩] 36):=by rw [← hV7];exact World.alloc_heap_new wr _
                have dr7:=dr.below hb7
                have row7:=Gn.own_keep row (fun k _ _ hl=>hb7.block k hl)
                have hz7:=dr7.but.size
                have r2:Gn.Mk:=trivial
                go_wp2_with (first
                    | (at_builtin
                       have _t:=r2
                       clear r2
                       refine Gn.wp_file rfl _ _ rfl row7 hSl ⟨#[115,97,109,101]⟩ ⟨#[]⟩ hx7 hz7 rfl rfl ?_
                       intro a8 c8 w8 row8 hg8
                       have dr8:=Gn.Dr_grown dr7 row7 hRz hg8
                       clear row7 dr7 hg8))
                go_roundw
                case rel=>exact ⟨a8,c8,T++[⟨⟨#[115,97,109,101]⟩,⟨#[]⟩⟩],by rw [Gn.len_app],Gn.same_bd hbd hlt hvu,by rw [Gn.len_app];exact row8,dr8⟩
                case measure=>exact Gn.same_ms hlt hvu
              · have hbk:=dr.but
                have hT:=(hbk.block w.heap.size HTz.out.1 HTz.out.2.1).trans HTz.out.2.2
                have yT:wr.cell? ⟨w.heap.size,0,none⟩=some (.slice none 0 0):=by rw [Lib.cell_of_heap hT];rfl
                have zT:wr.frozen? ⟨w.heap.size,0,none⟩=false:=by simp [World.frozen?,hT]
                have hQ:=(hbk.block bq HQz.out.1 HQz.out.2.1).trans HQz.out.2.2
                have yQ:wr.cell? ⟨bq,0,none⟩=some (.slice pa' pn' pc'):=by rw [Lib.cell_of_heap hQ];rfl
                have hT9:(wr.setCell ⟨w.heap.size,0,none⟩ (.slice pa' pn' pc')).cell? ⟨w.heap.size,0,none⟩=some (.slice pa' pn' pc'):=by rw [Lib.cell_of_heap (Gn.set_same hT)];rfl
                go_wp2_with fail
                exact bodyPost_ret (v:=.tuple #[.agg #[.slice pa' pn' pc'],.slice a T.length c]) (by simp [results,Tryz.results4,go_sem,hT9]) rfl (Gn.dl_end dr HPR.out row hT HBP.out (hbd.mono (by decide)) HBZ.out hRw hrz)
          · exact bodyPost_ret (v:=.tuple #[.agg #[.slice pa' pn' pc'],.slice a S.length c]) (by simp [results,Tryz.results4,go_sem,hT9]) rfl (Gn.dl_end drt HPR.out rowt hT HBP.out (bdx.mono (by decide)) HBZ.out hRw hrz)
  · have HPR:Hid (w4.ownsRow w1.heap.size 36 2 (.slice pa pn pc) Lp.length (Bx.fCs Lp)):=hrp4
    have HBP:Hid (Gn.Bd 50 Lp):=Gn.Bd.mono hbp (by decide)
    have HBZ:Hid (Below w.heap.size w w4):=hbw4
    have HTz:Hid (w.heap.size < w4.heap.size∧w.heap.size≠R∧w4.heap[w.heap.size]? = some (.cells #[.slice none 0 0] 25)):=⟨(Array.getElem?_eq_some_iff.1 hT4).1,Nat.ne_of_lt hRw,hT4⟩
    have HQz:Hid (bq < w4.heap.size∧bq≠R∧w4.heap[bq]? = some (.cells #[.slice pa pn pc] 25)):=⟨(Array.getElem?_eq_some_iff.1 hx4).1,Nat.ne_of_gt hRq,hx4⟩
    obtain ⟨p,hpz0,hrz⟩:=dw4.1
    have hpz:p≤800000000:=Nat.le_trans hpz0 (by decide)
    have hRz:R < w4.heap.size:=hrz.lt
    clear hx4 hrp4 hbw4 hT4 dw4 hf4 hx3 hb3 dw3 dw2 hrp hbw1 hb0 hb1 hr1 hB0 y4
    obtain ⟨Vo,hVo⟩:∃ V,w4.alloc (.cells #[] 36)=V:=⟨_,rfl⟩
    have dr0:Mill.Dr R p 0 w4 Vo:=(Mill.Dr.refl hrz).below (Gn.below_new hVo)
    have row0:Vo.ownsRow w4.heap.size 36 2 (.slice (some ⟨w4.heap.size,0,none⟩) 0 0) 0 (Bx.fCs []):=by rw [← hVo];exact ⟨rfl,.inr ⟨w4.heap.size,0,#[],rfl,Nat.le_refl _,World.alloc_heap_new w4 _,Nat.le_refl _,by unfold maxLen;omega,rfl,rfl⟩⟩
    have s0:Gn.Mk:=trivial
    try rw [hVo]
    go_wp2_with (first
        | (go_at_call 13
           have _t:=s0
           clear s0
           refine (Gn.pickDI 4 dr0 (by omega) (by decide) (by decide)).mono ?_
           rintro e wj ⟨n4,rfl,hn4,dr4,hb4⟩
           have ROW4:Hid (wj.ownsRow w4.heap.size 36 2 (.slice (some ⟨w4.heap.size,0,none⟩) 0 0) 0 (Bx.fCs [])):=Mill.own_but row0 hRz hb4
           have DR4:Hid (Mill.Dr R p (0+1) w4 wj):=dr4
           clear dr0 row0 dr4 hb4))
    go_loopw [6,7] (fun o k wr => ∃ (kk:Int) (a:Option Addr) (c:Nat) (S:List Bx.Fl),(0≤kk∧kk≤3)∧k = .int .i64 kk∧o = .slice a S.length c∧Gn.Bd (3 - kk).toNat S∧wr.ownsRow w4.heap.size 36 2 (.slice a S.length c) S.length (Bx.fCs S)∧Mill.Dr R p (0+1+9 * (3 - kk).toNat) w4 wr) (fun _ k _=>(intOf k).toNat)
    case atStart=>exact ⟨n4,_,_,[],by omega,rfl,rfl,⟨by simp,by simp⟩,ROW4.out,DR4.out.mono (Nat.le_add_right _ _)⟩
    case round =>
      obtain ⟨kk,a,c,S,hkk,rfl,rfl,hbd,row,dr⟩:=hrel
      by_cases hlt:0 < kk
      · have hk3:=Gn.k3 hkk hlt
        have hwk:=Gn.wr_k3 hkk hlt
        obtain ⟨bA,bB,bC⟩:=Gn.dl_b hpz hk3.2.2
        have hSl:S.length≤1000:=Nat.le_trans hbd.1 (Nat.le_trans hk3.2.2 (by decide))
        obtain ⟨sl,HSL⟩:∃ q,Hid (S.length=q):=⟨_,(rfl:S.length=_)⟩
        have r0:Gn.Mk:=trivial
        go_wp2_with (first
            | (go_at_call 15
               have _t:=r0
               clear r0
               refine (path_D dr bA).mono ?_
               rintro e wx5 ⟨x,rfl,hx,dr5,hb5⟩
               have row5:=Mill.own_but row hRz hb5
               have r1:Gn.Mk:=trivial)
            | (go_at_call 16
               have _t:=r1
               clear r1
               refine (text_D dr5 bB).mono ?_
               rintro e wx6 ⟨t,rfl,ht,dr6,hb6⟩
               have row6:=Mill.own_but row5 hRz hb6
               obtain ⟨V7,hV7⟩:∃ V,wx6.alloc (.cells #[.string x,.string t] 36)=V:=⟨_,rfl⟩
               have hb7:=Gn.below_new hV7
               have hx7:V7.heap[wx6.heap.size]? = some (.cells #[.string x,.string t] 36):=by rw [← hV7];exact World.alloc_heap_new wx6 _
               have dr7:=dr6.below hb7
               have row7:=Gn.own_keep row6 (fun k _ _ hl=>hb7.block k hl)
               have hz7:=dr7.but.size
               clear row5 row6 dr5 dr6 hb5 hb6
               have r2:Gn.Mk:=trivial)
            | (at_builtin
               have _t:=r2
               clear r2
               refine Gn.wp_file rfl _ _ rfl row7 hSl x t hx7 hz7 rfl rfl ?_
               intro a8 c8 w8 row8 hg8
               have dr8:=Gn.Dr_grown dr7 row7 hRz hg8
               clear row7 dr7 hg8))
        go_roundw
        case rel=>exact ⟨kk - 1,a8,c8,S++[⟨x,t⟩],hk3.1,rfl,by rw [Gn.len_app],by rw [hk3.2.1];exact hbd.app (Nat.le_trans hx (by decide)) (Nat.le_trans ht (by decide)),by rw [Gn.len_app];exact row8,by rw [hk3.2.1];exact dr8.mono bC⟩
        case measure=>simp [intOf];omega
      · have drx:=dr.mono (Gn.dl_c hkk)
        have bdx:=hbd.mono (Gn.dl_d hkk)
        clear dr hbd
        have e0:Gn.Mk:=trivial
        go_wp2_with (first
            | (go_at_call 13
               have _t:=e0
               clear e0
               refine (Gn.pickDI 10 drx (by omega) (by decide) (by decide)).mono ?_
               rintro e wp ⟨vp,rfl,hvp,drp,hbp⟩
               have rowp:=Mill.own_but row hRz hbp
               rcases Gn.v20 hvp with ⟨rfl,q0⟩ | ⟨hvp2,q1⟩))
        · have hSl:S.length≤1000:=Nat.le_trans bdx.1 (by decide)
          have drd:=drp.below ((Below.refl _ wp).drew)
          have rowd:=Gn.own_keep rowp (w':=wp.drew) (fun k _ _ hl=>rfl)
          refine wp_region_held_drew (S:=(fun _=>True)) (by kernel_rfl) (trivial) (fun hHeld => ?_)
          refine Tk 0 (.slice a S.length c) rfl ?_
          try simp [Act.put]
          refine Tk 2 (.pointer (some ⟨R,0,none⟩)) rfl ?_
          try simp [Act.put]
          refine Tk 6 (.pointer (some ⟨R,0,none⟩)) rfl ?_
          try simp [Act.put]
          refine wpAnyH_ready (rs:=[1,3]) (by kernel_rfl) (by simp) ?_
          refine AllReadyH.cons rfl (fun KK hK => ?_) (AllReadyH.cons rfl (fun KK hK => ?_) AllReadyH.nil)
          · go_simp
            obtain ⟨Va,hVa⟩:∃ V,(wp.alloc (.cells #[.string ⟨#[]⟩,.string ⟨#[120,32,121]⟩,.string ⟨#[110,101,119]⟩] 9)).drew=V:=⟨_,rfl⟩
            have hbVa:Below wp.heap.size wp Va:=by rw [← hVa];exact ((Below.refl _ wp).alloc (Nat.le_refl _) _).drew
            have hxVa:Va.heap[wp.heap.size]? = some (.cells #[.string ⟨#[]⟩,.string ⟨#[120,32,121]⟩,.string ⟨#[110,101,119]⟩] 9):=by rw [← hVa];exact World.alloc_heap_new wp _
            have drVa:=drp.below hbVa
            have rowVa:=Gn.own_keep rowp (fun k _ _ hl=>hbVa.block k hl)
            try rw [hVa]
            refine hK.out _ _ (trivial) (fun hHeld => ?_)
            clear hK
            try simp [Act.put]
            refine wpAnyH_ready (rs:=[3]) (by kernel_rfl) (by simp) ?_
            refine AllReadyH.cons rfl (fun KK hK => ?_) AllReadyH.nil
            go_simp
            refine (pick_D 3 drVa (by omega) (by decide) (by decide)).mono ?_
            rintro e wb ⟨v3,rfl,hv3,drwb,hbwb⟩
            have rowwb:=Mill.own_but rowVa hRz hbwb
            have tabwb:=Gn.tab_but drVa hbwb hxVa (by decide)
            go_wp2
            refine hK.out _ _ (trivial) (fun hHeld => ?_)
            clear hK
            try simp [Act.put]
            refine Tk 4 (.pointer (some ⟨wp.heap.size,v3,none⟩)) rfl ?_
            try simp [Act.put]
            refine wpAnyH_ready (rs:=[5,7]) (by kernel_rfl) (by simp) ?_
            refine AllReadyH.cons rfl (fun KK hK => ?_) (AllReadyH.cons rfl (fun KK hK => ?_) AllReadyH.nil)
            · obtain ⟨nm,hnc,hnm⟩:=Gn.stab (M:=3) tabwb (by decide) v3 (Gn.nat3 hv3)
              go_simp
              refine hK.out _ _ (trivial) (fun hHeld => ?_)
              clear hK
              try simp [Act.put]
              refine wpAnyH_ready (rs:=[7]) (by kernel_rfl) (by simp) ?_
              refine AllReadyH.cons rfl (fun KK hK => ?_) AllReadyH.nil
              go_simp
              refine (Gn.pickDI 2 drwb (by omega) (by decide) (by decide)).mono ?_
              rintro e wc ⟨v2,rfl,hv2,drwc,hbwc⟩
              have hwi:=Gn.wi3000 hv2
              have rowwc:=Mill.own_but rowwb hRz hbwc
              have tabwc:=Gn.tab_but drwb hbwc tabwb (by decide)
              go_wp2
              refine hK.out _ _ (trivial) (fun hHeld => ?_)
              clear hK
              try simp [Act.put]
              refine Tk 8 (.int .i64 (3000+v2)) rfl ?_
              try simp [Act.put]
              refine wpAnyH_ready (rs:=[9]) (by kernel_rfl) (by simp) ?_
              refine AllReadyH.cons rfl (fun KK hK => ?_) AllReadyH.nil
              go_simp
              refine (Gn.manyD ⟨#[108]⟩ (3000+v2) drwc (by decide) (by omega) (by omega)).mono ?_
              rintro e wd ⟨tx,rfl,htx,drwd,hbwd⟩
              have rowwd:=Mill.own_but rowwc hRz hbwd
              have tabwd:=Gn.tab_but drwc hbwd tabwc (by decide)
              go_wp2
              refine hK.out _ _ (trivial) (fun hHeld => ?_)
              clear hK
              try simp [Act.put]
              refine Tk 10 (.agg #[.string nm,.string tx]) rfl ?_
              try simp [Act.put]
              refine wpAnyH_ready (rs:=[11]) (by kernel_rfl) (by simp) ?_
              refine AllReadyH.cons rfl (fun KK hK => ?_) AllReadyH.nil
              go_simp
              obtain ⟨Ve,hVe⟩:∃ V,wd.alloc (.cells #[.string nm,.string tx] 36)=V:=⟨_,rfl⟩
              have hbVe:Below wd.heap.size wd Ve:=Gn.below_new hVe
              have hxVe:Ve.heap[wd.heap.size]? = some (.cells #[.string nm,.string tx] 36):=by rw [← hVe];exact World.alloc_heap_new wd _
              have drVe:=drwd.below hbVe
              have rowVe:=Gn.own_keep rowwd (fun k _ _ hl=>hbVe.block k hl)
              have tabVe:=(hbVe.block _ (Array.getElem?_eq_some_iff.1 tabwd).1).trans tabwd
              try rw [hVe]
              refine hK.out _ _ (trivial) (fun hHeld => ?_)
              clear hK
              try simp [Act.put]
              refine wpAnyH_ready (rs:=[12]) (by kernel_rfl) (by simp) ?_
              refine AllReadyH.cons rfl (fun KK hK => ?_) AllReadyH.nil
              refine Gn.step_file rfl _ _ rfl rowVe hSl nm tx hxVe drVe.but.size rfl rfl ?_
              intro a8 c8 w8 row8 hg8
              have dr8:=Gn.Dr_grown drVe rowVe hRz hg8
              refine hK.out _ _ (trivial) (fun hHeld => ?_)
              clear hK
              try simp [Act.put]
              refine Tk 13 (.slice a8 (S.length+1) c8) rfl ?_
              try simp [Act.put]
              refine wpAnyH_done (by kernel_rfl) ?_ _
              obtain ⟨S2,hS2⟩:∃ l,S++[(⟨nm,tx⟩:Bx.Fl)]=l:=⟨_,rfl⟩
              have hl2:S2.length=S.length+1:=by rw [← hS2,Gn.len_app]
              have bd2:Gn.Bd 4 S2:=by rw [← hS2];exact bdx.app (Nat.le_trans hnm (by decide)) (Nat.le_trans htx (by decide))
              rw [hS2,← hl2] at row8
              rw [← hl2]
              clear hHeld hS2 hl2 hg8
              have s0:Gn.Mk:=trivial
              go_wp2_with (first
                  | (go_at_call 13
                     have _t:=s0
                     clear s0
                     refine (Gn.pickDI 20 dr8 (by omega) (by decide) (by decide)).mono ?_
                     rintro e wt ⟨vt,rfl,hvt,drt,hbt⟩
                     have rowt:=Mill.own_but row8 hRz hbt
                     have hbk:=drt.but
                     have hT:=(hbk.block w.heap.size HTz.out.1 HTz.out.2.1).trans HTz.out.2.2
                     have yT:wt.cell? ⟨w.heap.size,0,none⟩=some (.slice none 0 0):=by rw [Lib.cell_of_heap hT];rfl
                     have zT:wt.frozen? ⟨w.heap.size,0,none⟩=false:=by simp [World.frozen?,hT]
                     have hQ:=(hbk.block bq HQz.out.1 HQz.out.2.1).trans HQz.out.2.2
                     have yQ:wt.cell? ⟨bq,0,none⟩=some (.slice pa pn pc):=by rw [Lib.cell_of_heap hQ];rfl
                     have hT9:(wt.setCell ⟨w.heap.size,0,none⟩ (.slice pa pn pc)).cell? ⟨w.heap.size,0,none⟩=some (.slice pa pn pc):=by rw [Lib.cell_of_heap (Gn.set_same hT)];rfl
                     rcases Gn.v20 hvt with ⟨rfl,q0⟩ | ⟨hvt2,q1⟩)
                  | (go_at_call 13
                     have _t:=q0
                     clear q0
                     refine (Gn.pickDI 2 drt (by omega) (by decide) (by decide)).mono ?_
                     rintro e wu ⟨vu,rfl,hvu,dru,hbu⟩
                     have rowu:=Mill.own_but rowt hRz hbu
                     have hwu:=Gn.wrc 40 hvu (by decide)
                     have DRU:Hid (Mill.Dr R p _ w4 wu):=dru
                     have ROWU:Hid (wu.ownsRow w4.heap.size 36 2 (.slice a8 S2.length c8) _ (Bx.fCs S2)):=rowu
                     clear dru rowu hT yT zT hQ yQ hT9 hbk))
              · go_loopw [6] (fun o wr => ∃ (a:Option Addr) (c:Nat) (T:List Bx.Fl),o = .slice a T.length c∧Gn.Bd 42 T∧wr.ownsRow w4.heap.size 36 2 (.slice a T.length c) T.length (Bx.fCs T)∧Mill.Dr R p ((40+1+1+1)+1+1) w4 wr) (fun o _=>(42 - Gn.rlen o))
                case atStart=>exact ⟨_,_,S2,rfl,bd2.mono (by decide),ROWU.out,DRU.out⟩
                case round =>
                  obtain ⟨a,c,T,rfl,hbd,row,dr⟩:=hrel
                  by_cases hlt:(T.length:Int) < 40+vu
                  · have hSl:T.length≤1000:=Nat.le_trans hbd.1 (by decide)
                    obtain ⟨V7,hV7⟩:∃ V,wr.alloc (.cells #[.string ⟨#[115,97,109,101]⟩,.string ⟨#[]⟩] 36)=V:=⟨_,rfl⟩
                    have hb7:=Gn.below_new hV7
                    have hx7:V7.heap[wr.heap.size]? = some (.cells #[.string ⟨#[115,97,109,101]⟩,.string ⟨#[]⟩] 36):=by rw [← hV7];exact World.alloc_heap_new wr _
                    have dr7:=dr.below hb7
                    have row7:=Gn.own_keep row (fun k _ _ hl=>hb7.block k hl)
                    have hz7:=dr7.but.size
                    have r2:Gn.Mk:=trivial
                    go_wp2_with (first
                        | (at_builtin
                           have _t:=r2
                           clear r2
                           refine Gn.wp_file rfl _ _ rfl row7 hSl ⟨#[115,97,109,101]⟩ ⟨#[]⟩ hx7 hz7 rfl rfl ?_
                           intro a8 c8 w8 row8 hg8
                           have dr8:=Gn.Dr_grown dr7 row7 hRz hg8
                           clear row7 dr7 hg8))
                    go_roundw
                    case rel=>exact ⟨a8,c8,T++[⟨⟨#[115,97,109,101]⟩,⟨#[]⟩⟩],by rw [Gn.len_app],Gn.same_bd hbd hlt hvu,by rw [Gn.len_app];exact row8,dr8⟩
                    case measure=>exact Gn.same_ms hlt hvu
                  · have hbk:=dr.but
                    have hT:=(hbk.block w.heap.size HTz.out.1 HTz.out.2.1).trans HTz.out.2.2
                    have yT:wr.cell? ⟨w.heap.size,0,none⟩=some (.slice none 0 0):=by rw [Lib.cell_of_heap hT];rfl
                    have zT:wr.frozen? ⟨w.heap.size,0,none⟩=false:=by simp [World.frozen?,hT]
                    have hQ:=(hbk.block bq HQz.out.1 HQz.out.2.1).trans HQz.out.2.2
                    have yQ:wr.cell? ⟨bq,0,none⟩=some (.slice pa pn pc):=by rw [Lib.cell_of_heap hQ];rfl
                    have hT9:(wr.setCell ⟨w.heap.size,0,none⟩ (.slice pa pn pc)).cell? ⟨w.heap.size,0,none⟩=some (.slice pa pn pc):=by rw [Lib.cell_of_heap (Gn.set_same hT)];rfl
                    go_wp2_with fail
                    exact bodyPost_ret (v:=.tuple #[.agg #[.slice pa pn pc],.slice a T.length c]) (by simp [results,Tryz.results4,go_sem,hT9]) rfl (Gn.dl_end dr HPR.out row hT HBP.out (hbd.mono (by decide)) HBZ.out hRw hrz)
              · exact bodyPost_ret (v:=.tuple #[.agg #[.slice pa pn pc],.slice a8 S2.length c8]) (by simp [results,Tryz.results4,go_sem,hT9]) rfl (Gn.dl_end drt HPR.out rowt hT HBP.out (bd2.mono (by decide)) HBZ.out hRw hrz)
            · go_simp
              refine (Gn.pickDI 2 drwb (by omega) (by decide) (by decide)).mono ?_
              rintro e wc ⟨v2,rfl,hv2,drwc,hbwc⟩
              have hwi:=Gn.wi3000 hv2
              have rowwc:=Mill.own_but rowwb hRz hbwc
              have tabwc:=Gn.tab_but drwb hbwc tabwb (by decide)
              go_wp2
              refine hK.out _ _ (trivial) (fun hHeld => ?_)
              clear hK
              try simp [Act.put]
              refine Tk 8 (.int .i64 (3000+v2)) rfl ?_
              try simp [Act.put]
              refine wpAnyH_ready (rs:=[5,9]) (by kernel_rfl) (by simp) ?_
              refine AllReadyH.cons rfl (fun KK hK => ?_) (AllReadyH.cons rfl (fun KK hK => ?_) AllReadyH.nil)
              · obtain ⟨nm,hnc,hnm⟩:=Gn.stab (M:=3) tabwc (by decide) v3 (Gn.nat3 hv3)
                go_simp
                refine hK.out _ _ (trivial) (fun hHeld => ?_)
                clear hK
                try simp [Act.put]
                refine wpAnyH_ready (rs:=[9]) (by kernel_rfl) (by simp) ?_
                refine AllReadyH.cons rfl (fun KK hK => ?_) AllReadyH.nil
                go_simp
                refine (Gn.manyD ⟨#[108]⟩ (3000+v2) drwc (by decide) (by omega) (by omega)).mono ?_
                rintro e wd ⟨tx,rfl,htx,drwd,hbwd⟩
                have rowwd:=Mill.own_but rowwc hRz hbwd
                have tabwd:=Gn.tab_but drwc hbwd tabwc (by decide)
                go_wp2
                refine hK.out _ _ (trivial) (fun hHeld => ?_)
                clear hK
                try simp [Act.put]
                refine Tk 10 (.agg #[.string nm,.string tx]) rfl ?_
                try simp [Act.put]
                refine wpAnyH_ready (rs:=[11]) (by kernel_rfl) (by simp) ?_
                refine AllReadyH.cons rfl (fun KK hK => ?_) AllReadyH.nil
                go_simp
                obtain ⟨Ve,hVe⟩:∃ V,wd.alloc (.cells #[.string nm,.string tx] 36)=V:=⟨_,rfl⟩
                have hbVe:Below wd.heap.size wd Ve:=Gn.below_new hVe
                have hxVe:Ve.heap[wd.heap.size]? = some (.cells #[.string nm,.string tx] 36):=by rw [← hVe];exact World.alloc_heap_new wd _
                have drVe:=drwd.below hbVe
                have rowVe:=Gn.own_keep rowwd (fun k _ _ hl=>hbVe.block k hl)
                have tabVe:=(hbVe.block _ (Array.getElem?_eq_some_iff.1 tabwd).1).trans tabwd
                try rw [hVe]
                refine hK.out _ _ (trivial) (fun hHeld => ?_)
                clear hK
                try simp [Act.put]
                refine wpAnyH_ready (rs:=[12]) (by kernel_rfl) (by simp) ?_
                refine AllReadyH.cons rfl (fun KK hK => ?_) AllReadyH.nil
                refine Gn.step_file rfl _ _ rfl rowVe hSl nm tx hxVe drVe.but.size rfl rfl ?_
                intro a8 c8 w8 row8 hg8
                have dr8:=Gn.Dr_grown drVe rowVe hRz hg8
                refine hK.out _ _ (trivial) (fun hHeld => ?_)
                clear hK
                try simp [Act.put]
                refine Tk 13 (.slice a8 (S.length+1) c8) rfl ?_
                try simp [Act.put]
                refine wpAnyH_done (by kernel_rfl) ?_ _
                obtain ⟨S2,hS2⟩:∃ l,S++[(⟨nm,tx⟩:Bx.Fl)]=l:=⟨_,rfl⟩
                have hl2:S2.length=S.length+1:=by rw [← hS2,Gn.len_app]
                have bd2:Gn.Bd 4 S2:=by rw [← hS2];exact bdx.app (Nat.le_trans hnm (by decide)) (Nat.le_trans htx (by decide))
                rw [hS2,← hl2] at row8
                rw [← hl2]
                clear hHeld hS2 hl2 hg8
                have s0:Gn.Mk:=trivial
                go_wp2_with (first
                    | (go_at_call 13
                       have _t:=s0
                       clear s0
                       refine (Gn.pickDI 20 dr8 (by omega) (by decide) (by decide)).mono ?_
                       rintro e wt ⟨vt,rfl,hvt,drt,hbt⟩
                       have rowt:=Mill.own_but row8 hRz hbt
                       have hbk:=drt.but
                       have hT:=(hbk.block w.heap.size HTz.out.1 HTz.out.2.1).trans HTz.out.2.2
                       have yT:wt.cell? ⟨w.heap.size,0,none⟩=some (.slice none 0 0):=by rw [Lib.cell_of_heap hT];rfl
                       have zT:wt.frozen? ⟨w.heap.size,0,none⟩=false:=by simp [World.frozen?,hT]
                       have hQ:=(hbk.block bq HQz.out.1 HQz.out.2.1).trans HQz.out.2.2
                       have yQ:wt.cell? ⟨bq,0,none⟩=some (.slice pa pn pc):=by rw [Lib.cell_of_heap hQ];rfl
                       have hT9:(wt.setCell ⟨w.heap.size,0,none⟩ (.slice pa pn pc)).cell? ⟨w.heap.size,0,none⟩=some (.slice pa pn pc):=by rw [Lib.cell_of_heap (Gn.set_same hT)];rfl
                       rcases Gn.v20 hvt with ⟨rfl,q0⟩ | ⟨hvt2,q1⟩)
                    | (go_at_call 13
                       have _t:=q0
                       clear q0
                       refine (Gn.pickDI 2 drt (by omega) (by decide) (by decide)).mono ?_
                       rintro e wu ⟨vu,rfl,hvu,dru,hbu⟩
                       have rowu:=Mill.own_but rowt hRz hbu
                       have hwu:=Gn.wrc 40 hvu (by decide)
                       have DRU:Hid (Mill.Dr R p _ w4 wu):=dru
                       have ROWU:Hid (wu.ownsRow w4.heap.size 36 2 (.slice a8 S2.length c8) _ (Bx.fCs S2)):=rowu
                       clear dru rowu hT yT zT hQ yQ hT9 hbk))
                · go_loopw [6] (fun o wr => ∃ (a:Option Addr) (c:Nat) (T:List Bx.Fl),o = .slice a T.length c∧Gn.Bd 42 T∧wr.ownsRow w4.heap.size 36 2 (.slice a T.length c) T.length (Bx.fCs T)∧Mill.Dr R p ((40+1+1+1)+1+1) w4 wr) (fun o _=>(42 - Gn.rlen o))
                  case atStart=>exact ⟨_,_,S2,rfl,bd2.mono (by decide),ROWU.out,DRU.out⟩
                  case round =>
                    obtain ⟨a,c,T,rfl,hbd,row,dr⟩:=hrel
                    by_cases hlt:(T.length:Int) < 40+vu
                    · have hSl:T.length≤1000:=Nat.le_trans hbd.1 (by decide)
                      obtain ⟨V7,hV7⟩:∃ V,wr.alloc (.cells #[.string ⟨#[115,97,109,101]⟩,.string ⟨#[]⟩] 36)=V:=⟨_,rfl⟩
                      have hb7:=Gn.below_new hV7
                      have hx7:V7.heap[wr.heap.size]? = some (.cells #[.string ⟨#[115,97,109,101]⟩,.string ⟨#[]⟩] 36):=by rw [← hV7];exact World.alloc_heap_new wr _
                      have dr7:=dr.below hb7
                      have row7:=Gn.own_keep row (fun k _ _ hl=>hb7.block k hl)
                      have hz7:=dr7.but.size
                      have r2:Gn.Mk:=trivial
                      go_wp2_with (first
                          | (at_builtin
                             have _t:=r2
                             clear r2
                             refine Gn.wp_file rfl _ _ rfl row7 hSl ⟨#[115,97,109,101]⟩ ⟨#[]⟩ hx7 hz7 rfl rfl ?_
                             intro a8 c8 w8 row8 hg8
                             have dr8:=Gn.Dr_grown dr7 row7 hRz hg8
                             clear row7 dr7 hg8))
                      go_roundw
                      case rel=>exact ⟨a8,c8,T++[⟨⟨#[115,97,109,101]⟩,⟨#[]⟩⟩],by rw [Gn.len_app],Gn.same_bd hbd hlt hvu,by rw [Gn.len_app];exact row8,dr8⟩
                      case measure=>exact Gn.same_ms hlt hvu
                    · have hbk:=dr.but
                      have hT:=(hbk.block w.heap.size HTz.out.1 HTz.out.2.1).trans HTz.out.2.2
                      have yT:wr.cell? ⟨w.heap.size,0,none⟩=some (.slice none 0 0):=by rw [Lib.cell_of_heap hT];rfl
                      have zT:wr.frozen? ⟨w.heap.size,0,none⟩=false:=by simp [World.frozen?,hT]
                      have hQ:=(hbk.block bq HQz.out.1 HQz.out.2.1).trans HQz.out.2.2
                      have yQ:wr.cell? ⟨bq,0,none⟩=some (.slice pa pn pc):=by rw [Lib.cell_of_heap hQ];rfl
                      have hT9:(wr.setCell ⟨w.heap.size,0,none⟩ (.slice pa pn pc)).cell? ⟨w.heap.size,0,none⟩=some (.slice pa pn pc):=by rw [Lib.cell_of_heap (Gn.set_same hT)];rfl
                      go_wp2_with fail
                      exact bodyPost_ret (v:=.tuple #[.agg #[.slice pa pn pc],.slice a T.length c]) (by simp [results,Tryz.results4,go_sem,hT9]) rfl (Gn.dl_end dr HPR.out row hT HBP.out (hbd.mono (by decide)) HBZ.out hRw hrz)
                · exact bodyPost_ret (v:=.tuple #[.agg #[.slice pa pn pc],.slice a8 S2.length c8]) (by simp [results,Tryz.results4,go_sem,hT9]) rfl (Gn.dl_end drt HPR.out rowt hT HBP.out (bd2.mono (by decide)) HBZ.out hRw hrz)
              · go_simp
                refine (Gn.manyD ⟨#[108]⟩ (3000+v2) drwc (by decide) (by omega) (by omega)).mono ?_
                rintro e wd ⟨tx,rfl,htx,drwd,hbwd⟩
                have rowwd:=Mill.own_but rowwc hRz hbwd
                have tabwd:=Gn.tab_but drwc hbwd tabwc (by decide)
                go_wp2
                refine hK.out _ _ (trivial) (fun hHeld => ?_)
                clear hK
                try simp [Act.put]
                refine wpAnyH_ready (rs:=[5]) (by kernel_rfl) (by simp) ?_
                refine AllReadyH.cons rfl (fun KK hK => ?_) AllReadyH.nil
                obtain ⟨nm,hnc,hnm⟩:=Gn.stab (M:=3) tabwd (by decide) v3 (Gn.nat3 hv3)
                go_simp
                refine hK.out _ _ (trivial) (fun hHeld => ?_)
                clear hK
                try simp [Act.put]
                refine Tk 10 (.agg #[.string nm,.string tx]) rfl ?_
                try simp [Act.put]
                refine wpAnyH_ready (rs:=[11]) (by kernel_rfl) (by simp) ?_
                refine AllReadyH.cons rfl (fun KK hK => ?_) AllReadyH.nil
                go_simp
                obtain ⟨Ve,hVe⟩:∃ V,wd.alloc (.cells #[.string nm,.string tx] 36)=V:=⟨_,rfl⟩
                have hbVe:Below wd.heap.size wd Ve:=Gn.below_new hVe
                have hxVe:Ve.heap[wd.heap.size]? = some (.cells #[.string nm,.string tx] 36):=by rw [← hVe];exact World.alloc_heap_new wd _
                have drVe:=drwd.below hbVe
                have rowVe:=Gn.own_keep rowwd (fun k _ _ hl=>hbVe.block k hl)
                have tabVe:=(hbVe.block _ (Array.getElem?_eq_some_iff.1 tabwd).1).trans tabwd
                try rw [hVe]
                refine hK.out _ _ (trivial) (fun hHeld => ?_)
                clear hK
                try simp [Act.put]
                refine wpAnyH_ready (rs:=[12]) (by kernel_rfl) (by simp) ?_
                refine AllReadyH.cons rfl (fun KK hK => ?_) AllReadyH.nil
                refine Gn.step_file rfl _ _ rfl rowVe hSl nm tx hxVe drVe.but.size rfl rfl ?_
                intro a8 c8 w8 row8 hg8
                have dr8:=Gn.Dr_grown drVe rowVe hRz hg8
                refine hK.out _ _ (trivial) (fun hHeld => ?_)
                clear hK
                try simp [Act.put]
                refine Tk 13 (.slice a8 (S.length+1) c8) rfl ?_
                try simp [Act.put]
                refine wpAnyH_done (by kernel_rfl) ?_ _
                obtain ⟨S2,hS2⟩:∃ l,S++[(⟨nm,tx⟩:Bx.Fl)]=l:=⟨_,rfl⟩
                have hl2:S2.length=S.length+1:=by rw [← hS2,Gn.len_app]
                have bd2:Gn.Bd 4 S2:=by rw [← hS2];exact bdx.app (Nat.le_trans hnm (by decide)) (Nat.le_trans htx (by decide))
                rw [hS2,← hl2] at row8
                rw [← hl2]
                clear hHeld hS2 hl2 hg8
                have s0:Gn.Mk:=trivial
                go_wp2_with (first
                    | (go_at_call 13
                       have _t:=s0
                       clear s0
                       refine (Gn.pickDI 20 dr8 (by omega) (by decide) (by decide)).mono ?_
                       rintro e wt ⟨vt,rfl,hvt,drt,hbt⟩
                       have rowt:=Mill.own_but row8 hRz hbt
                       have hbk:=drt.but
                       have hT:=(hbk.block w.heap.size HTz.out.1 HTz.out.2.1).trans HTz.out.2.2
                       have yT:wt.cell? ⟨w.heap.size,0,none⟩=some (.slice none 0 0):=by rw [Lib.cell_of_heap hT];rfl
                       have zT:wt.frozen? ⟨w.heap.size,0,none⟩=false:=by simp [World.frozen?,hT]
                       have hQ:=(hbk.block bq HQz.out.1 HQz.out.2.1).trans HQz.out.2.2
                       have yQ:wt.cell? ⟨bq,0,none⟩=some (.slice pa pn pc):=by rw [Lib.cell_of_heap hQ];rfl
                       have hT9:(wt.setCell ⟨w.heap.size,0,none⟩ (.slice pa pn pc)).cell? ⟨w.heap.size,0,none⟩=some (.slice pa pn pc):=by rw [Lib.cell_of_heap (Gn.set_same hT)];rfl
                       rcases Gn.v20 hvt with ⟨rfl,q0⟩ | ⟨hvt2,q1⟩)
                    | (go_at_call 13
                       have _t:=q0
                       clear q0
                       refine (Gn.pickDI 2 drt (by omega) (by decide) (by decide)).mono ?_
                       rintro e wu ⟨vu,rfl,hvu,dru,hbu⟩
                       have rowu:=Mill.own_but rowt hRz hbu
                       have hwu:=Gn.wrc 40 hvu (by decide)
                       have DRU:Hid (Mill.Dr R p _ w4 wu):=dru
                       have ROWU:Hid (wu.ownsRow w4.heap.size 36 2 (.slice a8 S2.length c8) _ (Bx.fCs S2)):=rowu
                       clear dru rowu hT yT zT hQ yQ hT9 hbk))
                · go_loopw [6] (fun o wr => ∃ (a:Option Addr) (c:Nat) (T:List Bx.Fl),o = .slice a T.length c∧Gn.Bd 42 T∧wr.ownsRow w4.heap.size 36 2 (.slice a T.length c) T.length (Bx.fCs T)∧Mill.Dr R p ((40+1+1+1)+1+1) w4 wr) (fun o _=>(42 - Gn.rlen o))
                  case atStart=>exact ⟨_,_,S2,rfl,bd2.mono (by decide),ROWU.out,DRU.out⟩
                  case round =>
                    obtain ⟨a,c,T,rfl,hbd,row,dr⟩:=hrel
                    by_cases hlt:(T.length:Int) < 40+vu
                    · have hSl:T.length≤1000:=Nat.le_trans hbd.1 (by decide)
                      obtain ⟨V7,hV7⟩:∃ V,wr.alloc (.cells #[.string ⟨#[115,97,109,101]⟩,.string ⟨#[]⟩] 36)=V:=⟨_,rfl⟩
                      have hb7:=Gn.below_new hV7
                      have hx7:V7.heap[wr.heap.size]? = some (.cells #[.string ⟨#[115,97,109,101]⟩,.string ⟨#[]⟩] 36):=by rw [← hV7];exact World.alloc_heap_new wr _
                      have dr7:=dr.below hb7
                      have row7:=Gn.own_keep row (fun k _ _ hl=>hb7.block k hl)
                      have hz7:=dr7.but.size
                      have r2:Gn.Mk:=trivial
                      go_wp2_with (first
                          | (at_builtin
                             have _t:=r2
                             clear r2
                             refine Gn.wp_file rfl _ _ rfl row7 hSl ⟨#[115,97,109,101]⟩ ⟨#[]⟩ hx7 hz7 rfl rfl ?_
                             intro a8 c8 w8 row8 hg8
                             have dr8:=Gn.Dr_grown dr7 row7 hRz hg8
                             clear row7 dr7 hg8))
                      go_roundw
                      case rel=>exact ⟨a8,c8,T++[⟨⟨#[115,97,109,101]⟩,⟨#[]⟩⟩],by rw [Gn.len_app],Gn.same_bd hbd hlt hvu,by rw [Gn.len_app];exact row8,dr8⟩
                      case measure=>exact Gn.same_ms hlt hvu
                    · have hbk:=dr.but
                      have hT:=(hbk.block w.heap.size HTz.out.1 HTz.out.2.1).trans HTz.out.2.2
                      have yT:wr.cell? ⟨w.heap.size,0,none⟩=some (.slice none 0 0):=by rw [Lib.cell_of_heap hT];rfl
                      have zT:wr.frozen? ⟨w.heap.size,0,none⟩=false:=by simp [World.frozen?,hT]
                      have hQ:=(hbk.block bq HQz.out.1 HQz.out.2.1).trans HQz.out.2.2
                      have yQ:wr.cell? ⟨bq,0,none⟩=some (.slice pa pn pc):=by rw [Lib.cell_of_heap hQ];rfl
                      have hT9:(wr.setCell ⟨w.heap.size,0,none⟩ (.slice pa pn pc)).cell? ⟨w.heap.size,0,none⟩=some (.slice pa pn pc):=by rw [Lib.cell_of_heap (Gn.set_same hT)];rfl
                      go_wp2_with fail
                      exact bodyPost_ret (v:=.tuple #[.agg #[.slice pa pn pc],.slice a T.length c]) (by simp [results,Tryz.results4,go_sem,hT9]) rfl (Gn.dl_end dr HPR.out row hT HBP.out (hbd.mono (by decide)) HBZ.out hRw hrz)
                · exact bodyPost_ret (v:=.tuple #[.agg #[.slice pa pn pc],.slice a8 S2.length c8]) (by simp [results,Tryz.results4,go_sem,hT9]) rfl (Gn.dl_end drt HPR.out rowt hT HBP.out (bd2.mono (by decide)) HBZ.out hRw hrz)
          · go_simp
            refine (pick_D 3 drd (by omega) (by decide) (by decide)).mono ?_
            rintro e wb ⟨v3,rfl,hv3,drwb,hbwb⟩
            have rowwb:=Mill.own_but rowd hRz hbwb
            go_wp2
            refine hK.out _ _ (trivial) (fun hHeld => ?_)
            clear hK
            try simp [Act.put]
            refine wpAnyH_ready (rs:=[1,7]) (by kernel_rfl) (by simp) ?_
            refine AllReadyH.cons rfl (fun KK hK => ?_) (AllReadyH.cons rfl (fun KK hK => ?_) AllReadyH.nil)
            · go_simp
              obtain ⟨Va,hVa⟩:∃ V,wb.alloc (.cells #[.string ⟨#[]⟩,.string ⟨#[120,32,121]⟩,.string ⟨#[110,101,119]⟩] 9)=V:=⟨_,rfl⟩
              have hbVa:Below wb.heap.size wb Va:=Gn.below_new hVa
              have hxVa:Va.heap[wb.heap.size]? = some (.cells #[.string ⟨#[]⟩,.string ⟨#[120,32,121]⟩,.string ⟨#[110,101,119]⟩] 9):=by rw [← hVa];exact World.alloc_heap_new wb _
              have drVa:=drwb.below hbVa
              have rowVa:=Gn.own_keep rowwb (fun k _ _ hl=>hbVa.block k hl)
              try rw [hVa]
              refine hK.out _ _ (trivial) (fun hHeld => ?_)
              clear hK
              try simp [Act.put]
              refine Tk 4 (.pointer (some ⟨wb.heap.size,v3,none⟩)) rfl ?_
              try simp [Act.put]
              refine wpAnyH_ready (rs:=[5,7]) (by kernel_rfl) (by simp) ?_
              refine AllReadyH.cons rfl (fun KK hK => ?_) (AllReadyH.cons rfl (fun KK hK => ?_) AllReadyH.nil)
              · obtain ⟨nm,hnc,hnm⟩:=Gn.stab (M:=3) hxVa (by decide) v3 (Gn.nat3 hv3)
                go_simp
                refine hK.out _ _ (trivial) (fun hHeld => ?_)
                clear hK
                try simp [Act.put]
                refine wpAnyH_ready (rs:=[7]) (by kernel_rfl) (by simp) ?_
                refine AllReadyH.cons rfl (fun KK hK => ?_) AllReadyH.nil
                go_simp
                refine (Gn.pickDI 2 drVa (by omega) (by decide) (by decide)).mono ?_
                rintro e wc ⟨v2,rfl,hv2,drwc,hbwc⟩
                have hwi:=Gn.wi3000 hv2
                have rowwc:=Mill.own_but rowVa hRz hbwc
                have tabwc:=Gn.tab_but drVa hbwc hxVa (by decide)
                go_wp2
                refine hK.out _ _ (trivial) (fun hHeld => ?_)
                clear hK
                try simp [Act.put]
                refine Tk 8 (.int .i64 (3000+v2)) rfl ?_
                try simp [Act.put]
                refine wpAnyH_ready (rs:=[9]) (by kernel_rfl) (by simp) ?_
                refine AllReadyH.cons rfl (fun KK hK => ?_) AllReadyH.nil
                go_simp
                refine (Gn.manyD ⟨#[108]⟩ (3000+v2) drwc (by decide) (by omega) (by omega)).mono ?_
                rintro e wd ⟨tx,rfl,htx,drwd,hbwd⟩
                have rowwd:=Mill.own_but rowwc hRz hbwd
                have tabwd:=Gn.tab_but drwc hbwd tabwc (by decide)
                go_wp2
                refine hK.out _ _ (trivial) (fun hHeld => ?_)
                clear hK
                try simp [Act.put]
                refine Tk 10 (.agg #[.string nm,.string tx]) rfl ?_
                try simp [Act.put]
                refine wpAnyH_ready (rs:=[11]) (by kernel_rfl) (by simp) ?_
                refine AllReadyH.cons rfl (fun KK hK => ?_) AllReadyH.nil
                go_simp
                obtain ⟨Ve,hVe⟩:∃ V,wd.alloc (.cells #[.string nm,.string tx] 36)=V:=⟨_,rfl⟩
                have hbVe:Below wd.heap.size wd Ve:=Gn.below_new hVe
                have hxVe:Ve.heap[wd.heap.size]? = some (.cells #[.string nm,.string tx] 36):=by rw [← hVe];exact World.alloc_heap_new wd _
                have drVe:=drwd.below hbVe
                have rowVe:=Gn.own_keep rowwd (fun k _ _ hl=>hbVe.block k hl)
                have tabVe:=(hbVe.block _ (Array.getElem?_eq_some_iff.1 tabwd).1).trans tabwd
                try rw [hVe]
                refine hK.out _ _ (trivial) (fun hHeld => ?_)
                clear hK
                try simp [Act.put]
                refine wpAnyH_ready (rs:=[12]) (by kernel_rfl) (by simp) ?_
                refine AllReadyH.cons rfl (fun KK hK => ?_) AllReadyH.nil
                refine Gn.step_file rfl _ _ rfl rowVe hSl nm tx hxVe drVe.but.size rfl rfl ?_
                intro a8 c8 w8 row8 hg8
                have dr8:=Gn.Dr_grown drVe rowVe hRz hg8
                refine hK.out _ _ (trivial) (fun hHeld => ?_)
                clear hK
                try simp [Act.put]
                refine Tk 13 (.slice a8 (S.length+1) c8) rfl ?_
                try simp [Act.put]
                refine wpAnyH_done (by kernel_rfl) ?_ _
                obtain ⟨S2,hS2⟩:∃ l,S++[(⟨nm,tx⟩:Bx.Fl)]=l:=⟨_,rfl⟩
                have hl2:S2.length=S.length+1:=by rw [← hS2,Gn.len_app]
                have bd2:Gn.Bd 4 S2:=by rw [← hS2];exact bdx.app (Nat.le_trans hnm (by decide)) (Nat.le_trans htx (by decide))
                rw [hS2,← hl2] at row8
                rw [← hl2]
                clear hHeld hS2 hl2 hg8
                have s0:Gn.Mk:=trivial
                go_wp2_with (first
                    | (go_at_call 13
                       have _t:=s0
                       clear s0
                       refine (Gn.pickDI 20 dr8 (by omega) (by decide) (by decide)).mono ?_
                       rintro e wt ⟨vt,rfl,hvt,drt,hbt⟩
                       have rowt:=Mill.own_but row8 hRz hbt
                       have hbk:=drt.but
                       have hT:=(hbk.block w.heap.size HTz.out.1 HTz.out.2.1).trans HTz.out.2.2
                       have yT:wt.cell? ⟨w.heap.size,0,none⟩=some (.slice none 0 0):=by rw [Lib.cell_of_heap hT];rfl
                       have zT:wt.frozen? ⟨w.heap.size,0,none⟩=false:=by simp [World.frozen?,hT]
                       have hQ:=(hbk.block bq HQz.out.1 HQz.out.2.1).trans HQz.out.2.2
                       have yQ:wt.cell? ⟨bq,0,none⟩=some (.slice pa pn pc):=by rw [Lib.cell_of_heap hQ];rfl
                       have hT9:(wt.setCell ⟨w.heap.size,0,none⟩ (.slice pa pn pc)).cell? ⟨w.heap.size,0,none⟩=some (.slice pa pn pc):=by rw [Lib.cell_of_heap (Gn.set_same hT)];rfl
                       rcases Gn.v20 hvt with ⟨rfl,q0⟩ | ⟨hvt2,q1⟩)
                    | (go_at_call 13
                       have _t:=q0
                       clear q0
                       refine (Gn.pickDI 2 drt (by omega) (by decide) (by decide)).mono ?_
                       rintro e wu ⟨vu,rfl,hvu,dru,hbu⟩
                       have rowu:=Mill.own_but rowt hRz hbu
                       have hwu:=Gn.wrc 40 hvu (by decide)
                       have DRU:Hid (Mill.Dr R p _ w4 wu):=dru
                       have ROWU:Hid (wu.ownsRow w4.heap.size 36 2 (.slice a8 S2.length c8) _ (Bx.fCs S2)):=rowu
                       clear dru rowu hT yT zT hQ yQ hT9 hbk))
                · go_loopw [6] (fun o wr => ∃ (a:Option Addr) (c:Nat) (T:List Bx.Fl),o = .slice a T.length c∧Gn.Bd 42 T∧wr.ownsRow w4.heap.size 36 2 (.slice a T.length c) T.length (Bx.fCs T)∧Mill.Dr R p ((40+1+1+1)+1+1) w4 wr) (fun o _=>(42 - Gn.rlen o))
                  case atStart=>exact ⟨_,_,S2,rfl,bd2.mono (by decide),ROWU.out,DRU.out⟩
                  case round =>
                    obtain ⟨a,c,T,rfl,hbd,row,dr⟩:=hrel
                    by_cases hlt:(T.length:Int) < 40+vu
                    · have hSl:T.length≤1000:=Nat.le_trans hbd.1 (by decide)
                      obtain ⟨V7,hV7⟩:∃ V,wr.alloc (.cells #[.string ⟨#[115,97,109,101]⟩,.string ⟨#[]⟩] 36)=V:=⟨_,rfl⟩
                      have hb7:=Gn.below_new hV7
                      have hx7:V7.heap[wr.heap.size]? = some (.cells #[.string ⟨#[115,97,109,101]⟩,.string ⟨#[]⟩] 36):=by rw [← hV7];exact World.alloc_heap_new wr _
                      have dr7:=dr.below hb7
                      have row7:=Gn.own_keep row (fun k _ _ hl=>hb7.block k hl)
                      have hz7:=dr7.but.size
                      have r2:Gn.Mk:=trivial
                      go_wp2_with (first
                          | (at_builtin
                             have _t:=r2
                             clear r2
                             refine Gn.wp_file rfl _ _ rfl row7 hSl ⟨#[115,97,109,101]⟩ ⟨#[]⟩ hx7 hz7 rfl rfl ?_
                             intro a8 c8 w8 row8 hg8
                             have dr8:=Gn.Dr_grown dr7 row7 hRz hg8
                             clear row7 dr7 hg8))
                      go_roundw
                      case rel=>exact ⟨a8,c8,T++[⟨⟨#[115,97,109,101]⟩,⟨#[]⟩⟩],by rw [Gn.len_app],Gn.same_bd hbd hlt hvu,by rw [Gn.len_app];exact row8,dr8⟩
                      case measure=>exact Gn.same_ms hlt hvu
                    · have hbk:=dr.but
                      have hT:=(hbk.block w.heap.size HTz.out.1 HTz.out.2.1).trans HTz.out.2.2
                      have yT:wr.cell? ⟨w.heap.size,0,none⟩=some (.slice none 0 0):=by rw [Lib.cell_of_heap hT];rfl
                      have zT:wr.frozen? ⟨w.heap.size,0,none⟩=false:=by simp [World.frozen?,hT]
                      have hQ:=(hbk.block bq HQz.out.1 HQz.out.2.1).trans HQz.out.2.2
                      have yQ:wr.cell? ⟨bq,0,none⟩=some (.slice pa pn pc):=by rw [Lib.cell_of_heap hQ];rfl
                      have hT9:(wr.setCell ⟨w.heap.size,0,none⟩ (.slice pa pn pc)).cell? ⟨w.heap.size,0,none⟩=some (.slice pa pn pc):=by rw [Lib.cell_of_heap (Gn.set_same hT)];rfl
                      go_wp2_with fail
                      exact bodyPost_ret (v:=.tuple #[.agg #[.slice pa pn pc],.slice a T.length c]) (by simp [results,Tryz.results4,go_sem,hT9]) rfl (Gn.dl_end dr HPR.out row hT HBP.out (hbd.mono (by decide)) HBZ.out hRw hrz)
                · exact bodyPost_ret (v:=.tuple #[.agg #[.slice pa pn pc],.slice a8 S2.length c8]) (by simp [results,Tryz.results4,go_sem,hT9]) rfl (Gn.dl_end drt HPR.out rowt hT HBP.out (bd2.mono (by decide)) HBZ.out hRw hrz)
              · go_simp
                refine (Gn.pickDI 2 drVa (by omega) (by decide) (by decide)).mono ?_
                rintro e wc ⟨v2,rfl,hv2,drwc,hbwc⟩
                have hwi:=Gn.wi3000 hv2
                have rowwc:=Mill.own_but rowVa hRz hbwc
                have tabwc:=Gn.tab_but drVa hbwc hxVa (by decide)
                go_wp2
                refine hK.out _ _ (trivial) (fun hHeld => ?_)
                clear hK
                try simp [Act.put]
                refine Tk 8 (.int .i64 (3000+v2)) rfl ?_
                try simp [Act.put]
                refine wpAnyH_ready (rs:=[5,9]) (by kernel_rfl) (by simp) ?_
                refine AllReadyH.cons rfl (fun KK hK => ?_) (AllReadyH.cons rfl (fun KK hK => ?_) AllReadyH.nil)
                · obtain ⟨nm,hnc,hnm⟩:=Gn.stab (M:=3) tabwc (by decide) v3 (Gn.nat3 hv3)
                  go_simp
                  refine hK.out _ _ (trivial) (fun hHeld => ?_)
                  clear hK
                  try simp [Act.put]
                  refine wpAnyH_ready (rs:=[9]) (by kernel_rfl) (by simp) ?_
                  refine AllReadyH.cons rfl (fun KK hK => ?_) AllReadyH.nil
                  go_simp
                  refine (Gn.manyD ⟨#[108]⟩ (3000+v2) drwc (by decide) (by omega) (by omega)).mono ?_
                  rintro e wd ⟨tx,rfl,htx,drwd,hbwd⟩
                  have rowwd:=Mill.own_but rowwc hRz hbwd
                  have tabwd:=Gn.tab_but drwc hbwd tabwc (by decide)
                  go_wp2
                  refine hK.out _ _ (trivial) (fun hHeld => ?_)
                  clear hK
                  try simp [Act.put]
                  refine Tk 10 (.agg #[.string nm,.string tx]) rfl ?_
                  try simp [Act.put]
                  refine wpAnyH_ready (rs:=[11]) (by kernel_rfl) (by simp) ?_
                  refine AllReadyH.cons rfl (fun KK hK => ?_) AllReadyH.nil
                  go_simp
                  obtain ⟨Ve,hVe⟩:∃ V,wd.alloc (.cells #[.string nm,.string tx] 36)=V:=⟨_,rfl⟩
                  have hbVe:Below wd.heap.size wd Ve:=Gn.below_new hVe
                  have hxVe:Ve.heap[wd.heap.size]? = some (.cells #[.string nm,.string tx] 36):=by rw [← hVe];exact World.alloc_heap_new wd _
                  have drVe:=drwd.below hbVe
                  have rowVe:=Gn.own_keep rowwd (fun k _ _ hl=>hbVe.block k hl)
                  have tabVe:=(hbVe.block _ (Array.getElem?_eq_some_iff.1 tabwd).1).trans tabwd
                  try rw [hVe]
                  refine hK.out _ _ (trivial) (fun hHeld => ?_)
                  clear hK
                  try simp [Act.put]
                  refine wpAnyH_ready (rs:=[12]) (by kernel_rfl) (by simp) ?_
                  refine AllReadyH.cons rfl (fun KK hK => ?_) AllReadyH.nil
                  refine Gn.step_file rfl _ _ rfl rowVe hSl nm tx hxVe drVe.but.size rfl rfl ?_
                  intro a8 c8 w8 row8 hg8
                  have dr8:=Gn.Dr_grown drVe rowVe hRz hg8
                  refine hK.out _ _ (trivial) (fun hHeld => ?_)
                  clear hK
                  try simp [Act.put]
                  refine Tk 13 (.slice a8 (S.length+1) c8) rfl ?_
                  try simp [Act.put]
                  refine wpAnyH_done (by kernel_rfl) ?_ _
                  obtain ⟨S2,hS2⟩:∃ l,S++[(⟨nm,tx⟩:Bx.Fl)]=l:=⟨_,rfl⟩
                  have hl2:S2.length=S.length+1:=by rw [← hS2,Gn.len_app]
                  have bd2:Gn.Bd 4 S2:=by rw [← hS2];exact bdx.app (Nat.le_trans hnm (by decide)) (Nat.le_trans htx (by decide))
                  rw [hS2,← hl2] at row8
                  rw [← hl2]
                  clear hHeld hS2 hl2 hg8
                  have s0:Gn.Mk:=trivial
                  go_wp2_with (first
                      | (go_at_call 13
                         have _t:=s0
                         clear s0
                         refine (Gn.pickDI 20 dr8 (by omega) (by decide) (by decide)).mono ?_
                         rintro e wt ⟨vt,rfl,hvt,drt,hbt⟩
                         have rowt:=Mill.own_but row8 hRz hbt
                         have hbk:=drt.but
                         have hT:=(hbk.block w.heap.size HTz.out.1 HTz.out.2.1).trans HTz.out.2.2
                         have yT:wt.cell? ⟨w.heap.size,0,none⟩=some (.slice none 0 0):=by rw [Lib.cell_of_heap hT];rfl
                         have zT:wt.frozen? ⟨w.heap.size,0,none⟩=false:=by simp [World.frozen?,hT]
                         have hQ:=(hbk.block bq HQz.out.1 HQz.out.2.1).trans HQz.out.2.2
                         have yQ:wt.cell? ⟨bq,0,none⟩=some (.slice pa pn pc):=by rw [Lib.cell_of_heap hQ];rfl
                         have hT9:(wt.setCell ⟨w.heap.size,0,none⟩ (.slice pa pn pc)).cell? ⟨w.heap.size,0,none⟩=some (.slice pa pn pc):=by rw [Lib.cell_of_heap (Gn.set_same hT)];rfl
                         rcases Gn.v20 hvt with ⟨rfl,q0⟩ | ⟨hvt2,q1⟩)
                      | (go_at_call 13
                         have _t:=q0
                         clear q0
                         refine (Gn.pickDI 2 drt (by omega) (by decide) (by decide)).mono ?_
                         rintro e wu ⟨vu,rfl,hvu,dru,hbu⟩
                         have rowu:=Mill.own_but rowt hRz hbu
                         have hwu:=Gn.wrc 40 hvu (by decide)
                         have DRU:Hid (Mill.Dr R p _ w4 wu):=dru
                         have ROWU:Hid (wu.ownsRow w4.heap.size 36 2 (.slice a8 S2.length c8) _ (Bx.fCs S2)):=rowu
                         clear dru rowu hT yT zT hQ yQ hT9 hbk))
                  · go_loopw [6] (fun o wr => ∃ (a:Option Addr) (c:Nat) (T:List Bx.Fl),o = .slice a T.length c∧Gn.Bd 42 T∧wr.ownsRow w4.heap.size 36 2 (.slice a T.length c) T.length (Bx.fCs T)∧Mill.Dr R p ((40+1+1+1)+1+1) w4 wr) (fun o _=>(42 - Gn.rlen o))
                    case atStart=>exact ⟨_,_,S2,rfl,bd2.mono (by decide),ROWU.out,DRU.out⟩
                    case round =>
                      obtain ⟨a,c,T,rfl,hbd,row,dr⟩:=hrel
                      by_cases hlt:(T.length:Int) < 40+vu
                      · have hSl:T.length≤1000:=Nat.le_trans hbd.1 (by decide)
                        obtain ⟨V7,hV7⟩:∃ V,wr.alloc (.cells #[.string ⟨#[115,97,109,101]⟩,.string ⟨#[]⟩] 36)=V:=⟨_,rfl⟩
                        have hb7:=Gn.below_new hV7
                        have hx7:V7.heap[wr.heap.size]? = some (.cells #[.string ⟨#[115,97,109,101]⟩,.string ⟨#[]⟩] 36):=by rw [← hV7];exact World.alloc_heap_new wr _
                        have dr7:=dr.below hb7
                        have row7:=Gn.own_keep row (fun k _ _ hl=>hb7.block k hl)
                        have hz7:=dr7.but.size
                        have r2:Gn.Mk:=trivial
                        go_wp2_with (first
                            | (at_builtin
                               have _t:=r2
                               clear r2
                               refine Gn.wp_file rfl _ _ rfl row7 hSl ⟨#[115,97,109,101]⟩ ⟨#[]⟩ hx7 hz7 rfl rfl ?_
                               intro a8 c8 w8 row8 hg8
                               have dr8:=Gn.Dr_grown dr7 row7 hRz hg8
                               clear row7 dr7 hg8))
                        go_roundw
                        case rel=>exact ⟨a8,c8,T++[⟨⟨#[115,97,109,101]⟩,⟨#[]⟩⟩],by rw [Gn.len_app],Gn.same_bd hbd hlt hvu,by rw [Gn.len_app];exact row8,dr8⟩
                        case measure=>exact Gn.same_ms hlt hvu
                      · have hbk:=dr.but
                        have hT:=(hbk.block w.heap.size HTz.out.1 HTz.out.2.1).trans HTz.out.2.2
                        have yT:wr.cell? ⟨w.heap.size,0,none⟩=some (.slice none 0 0):=by rw [Lib.cell_of_heap hT];rfl
                        have zT:wr.frozen? ⟨w.heap.size,0,none⟩=false:=by simp [World.frozen?,hT]
                        have hQ:=(hbk.block bq HQz.out.1 HQz.out.2.1).trans HQz.out.2.2
                        have yQ:wr.cell? ⟨bq,0,none⟩=some (.slice pa pn pc):=by rw [Lib.cell_of_heap hQ];rfl
                        have hT9:(wr.setCell ⟨w.heap.size,0,none⟩ (.slice pa pn pc)).cell? ⟨w.heap.size,0,none⟩=some (.slice pa pn pc):=by rw [Lib.cell_of_heap (Gn.set_same hT)];rfl
                        go_wp2_with fail
                        exact bodyPost_ret (v:=.tuple #[.agg #[.slice pa pn pc],.slice a T.length c]) (by simp [results,Tryz.results4,go_sem,hT9]) rfl (Gn.dl_end dr HPR.out row hT HBP.out (hbd.mono (by decide)) HBZ.out hRw hrz)
                  · exact bodyPost_ret (v:=.tuple #[.agg #[.slice pa pn pc],.slice a8 S2.length c8]) (by simp [results,Tryz.results4,go_sem,hT9]) rfl (Gn.dl_end drt HPR.out rowt hT HBP.out (bd2.mono (by decide)) HBZ.out hRw hrz)
                · go_simp
                  refine (Gn.manyD ⟨#[108]⟩ (3000+v2) drwc (by decide) (by omega) (by omega)).mono ?_
                  rintro e wd ⟨tx,rfl,htx,drwd,hbwd⟩
                  have rowwd:=Mill.own_but rowwc hRz hbwd
                  have tabwd:=Gn.tab_but drwc hbwd tabwc (by decide)
                  go_wp2
                  refine hK.out _ _ (trivial) (fun hHeld => ?_)
                  clear hK
                  try simp [Act.put]
                  refine wpAnyH_ready (rs:=[5]) (by kernel_rfl) (by simp) ?_
                  refine AllReadyH.cons rfl (fun KK hK => ?_) AllReadyH.nil
                  obtain ⟨nm,hnc,hnm⟩:=Gn.stab (M:=3) tabwd (by decide) v3 (Gn.nat3 hv3)
                  go_simp
                  refine hK.out _ _ (trivial) (fun hHeld => ?_)
                  clear hK
                  try simp [Act.put]
                  refine Tk 10 (.agg #[.string nm,.string tx]) rfl ?_
                  try simp [Act.put]
                  refine wpAnyH_ready (rs:=[11]) (by kernel_rfl) (by simp) ?_
                  refine AllReadyH.cons rfl (fun KK hK => ?_) AllReadyH.nil
                  go_simp
                  obtain ⟨Ve,hVe⟩:∃ V,wd.alloc (.cells #[.string nm,.string tx] 36)=V:=⟨_,rfl⟩
                  have hbVe:Below wd.heap.size wd Ve:=Gn.below_new hVe
                  have hxVe:Ve.heap[wd.heap.size]? = some (.cells #[.string nm,.string tx] 36):=by rw [← hVe];exact World.alloc_heap_new wd _
                  have drVe:=drwd.below hbVe
                  have rowVe:=Gn.own_keep rowwd (fun k _ _ hl=>hbVe.block k hl)
                  have tabVe:=(hbVe.block _ (Array.getElem?_eq_some_iff.1 tabwd).1).trans tabwd
                  try rw [hVe]
                  refine hK.out _ _ (trivial) (fun hHeld => ?_)
                  clear hK
                  try simp [Act.put]
                  refine wpAnyH_ready (rs:=[12]) (by kernel_rfl) (by simp) ?_
                  refine AllReadyH.cons rfl (fun KK hK => ?_) AllReadyH.nil
                  refine Gn.step_file rfl _ _ rfl rowVe hSl nm tx hxVe drVe.but.size rfl rfl ?_
                  intro a8 c8 w8 row8 hg8
                  have dr8:=Gn.Dr_grown drVe rowVe hRz hg8
                  refine hK.out _ _ (trivial) (fun hHeld => ?_)
                  clear hK
                  try simp [Act.put]
                  refine Tk 13 (.slice a8 (S.length+1) c8) rfl ?_
                  try simp [Act.put]
                  refine wpAnyH_done (by kernel_rfl) ?_ _
                  obtain ⟨S2,hS2⟩:∃ l,S++[(⟨nm,tx⟩:Bx.Fl)]=l:=⟨_,rfl⟩
                  have hl2:S2.length=S.length+1:=by rw [← hS2,Gn.len_app]
                  have bd2:Gn.Bd 4 S2:=by rw [← hS2];exact bdx.app (Nat.le_trans hnm (by decide)) (Nat.le_trans htx (by decide))
                  rw [hS2,← hl2] at row8
                  rw [← hl2]
                  clear hHeld hS2 hl2 hg8
                  have s0:Gn.Mk:=trivial
                  go_wp2_with (first
                      | (go_at_call 13
                         have _t:=s0
                         clear s0
                         refine (Gn.pickDI 20 dr8 (by omega) (by decide) (by decide)).mono ?_
                         rintro e wt ⟨vt,rfl,hvt,drt,hbt⟩
                         have rowt:=Mill.own_but row8 hRz hbt
                         have hbk:=drt.but
                         have hT:=(hbk.block w.heap.size HTz.out.1 HTz.out.2.1).trans HTz.out.2.2
                         have yT:wt.cell? ⟨w.heap.size,0,none⟩=some (.slice none 0 0):=by rw [Lib.cell_of_heap hT];rfl
                         have zT:wt.frozen? ⟨w.heap.size,0,none⟩=false:=by simp [World.frozen?,hT]
                         have hQ:=(hbk.block bq HQz.out.1 HQz.out.2.1).trans HQz.out.2.2
                         have yQ:wt.cell? ⟨bq,0,none⟩=some (.slice pa pn pc):=by rw [Lib.cell_of_heap hQ];rfl
                         have hT9:(wt.setCell ⟨w.heap.size,0,none⟩ (.slice pa pn pc)).cell? ⟨w.heap.size,0,none⟩=some (.slice pa pn pc):=by rw [Lib.cell_of_heap (Gn.set_same hT)];rfl
                         rcases Gn.v20 hvt with ⟨rfl,q0⟩ | ⟨hvt2,q1⟩)
                      | (go_at_call 13
                         have _t:=q0
                         clear q0
                         refine (Gn.pickDI 2 drt (by omega) (by decide) (by decide)).mono ?_
                         rintro e wu ⟨vu,rfl,hvu,dru,hbu⟩
                         have rowu:=Mill.own_but rowt hRz hbu
                         have hwu:=Gn.wrc 40 hvu (by decide)
                         have DRU:Hid (Mill.Dr R p _ w4 wu):=dru
                         have ROWU:Hid (wu.ownsRow w4.heap.size 36 2 (.slice a8 S2.length c8) _ (Bx.fCs S2)):=rowu
                         clear dru rowu hT yT zT hQ yQ hT9 hbk))
                  · go_loopw [6] (fun o wr => ∃ (a:Option Addr) (c:Nat) (T:List Bx.Fl),o = .slice a T.length c∧Gn.Bd 42 T∧wr.ownsRow w4.heap.size 36 2 (.slice a T.length c) T.length (Bx.fCs T)∧Mill.Dr R p ((40+1+1+1)+1+1) w4 wr) (fun o _=>(42 - Gn.rlen o))
                    case atStart=>exact ⟨_,_,S2,rfl,bd2.mono (by decide),ROWU.out,DRU.out⟩
                    case round =>
                      obtain ⟨a,c,T,rfl,hbd,row,dr⟩:=hrel
                      by_cases hlt:(T.length:Int) < 40+vu
                      · have hSl:T.length≤1000:=Nat.le_trans hbd.1 (by decide)
                        obtain ⟨V7,hV7⟩:∃ V,wr.alloc (.cells #[.string ⟨#[115,97,109,101]⟩,.string ⟨#[]⟩] 36)=V:=⟨_,rfl⟩
                        have hb7:=Gn.below_new hV7
                        have hx7:V7.heap[wr.heap.size]? = some (.cells #[.string ⟨#[115,97,109,101]⟩,.string ⟨#[]⟩] 36):=by rw [← hV7];exact World.alloc_heap_new wr _
                        have dr7:=dr.below hb7
                        have row7:=Gn.own_keep row (fun k _ _ hl=>hb7.block k hl)
                        have hz7:=dr7.but.size
                        have r2:Gn.Mk:=trivial
                        go_wp2_with (first
                            | (at_builtin
                               have _t:=r2
                               clear r2
                               refine Gn.wp_file rfl _ _ rfl row7 hSl ⟨#[115,97,109,101]⟩ ⟨#[]⟩ hx7 hz7 rfl rfl ?_
                               intro a8 c8 w8 row8 hg8
                               have dr8:=Gn.Dr_grown dr7 row7 hRz hg8
                               clear row7 dr7 hg8))
                        go_roundw
                        case rel=>exact ⟨a8,c8,T++[⟨⟨#[115,97,109,101]⟩,⟨#[]⟩⟩],by rw [Gn.len_app],Gn.same_bd hbd hlt hvu,by rw [Gn.len_app];exact row8,dr8⟩
                        case measure=>exact Gn.same_ms hlt hvu
                      · have hbk:=dr.but
                        have hT:=(hbk.block w.heap.size HTz.out.1 HTz.out.2.1).trans HTz.out.2.2
                        have yT:wr.cell? ⟨w.heap.size,0,none⟩=some (.slice none 0 0):=by rw [Lib.cell_of_heap hT];rfl
                        have zT:wr.frozen? ⟨w.heap.size,0,none⟩=false:=by simp [World.frozen?,hT]
                        have hQ:=(hbk.block bq HQz.out.1 HQz.out.2.1).trans HQz.out.2.2
                        have yQ:wr.cell? ⟨bq,0,none⟩=some (.slice pa pn pc):=by rw [Lib.cell_of_heap hQ];rfl
                        have hT9:(wr.setCell ⟨w.heap.size,0,none⟩ (.slice pa pn pc)).cell? ⟨w.heap.size,0,none⟩=some (.slice pa pn pc):=by rw [Lib.cell_of_heap (Gn.set_same hT)];rfl
                        go_wp2_with fail
                        exact bodyPost_ret (v:=.tuple #[.agg #[.slice pa pn pc],.slice a T.length c]) (by simp [results,Tryz.results4,go_sem,hT9]) rfl (Gn.dl_end dr HPR.out row hT HBP.out (hbd.mono (by decide)) HBZ.out hRw hrz)
                  · exact bodyPost_ret (v:=.tuple #[.agg #[.slice pa pn pc],.slice a8 S2.length c8]) (by simp [results,Tryz.results4,go_sem,hT9]) rfl (Gn.dl_end drt HPR.out rowt hT HBP.out (bd2.mono (by decide)) HBZ.out hRw hrz)
            · go_simp
              refine (Gn.pickDI 2 drwb (by omega) (by decide) (by decide)).mono ?_
              rintro e wc ⟨v2,rfl,hv2,drwc,hbwc⟩
              have hwi:=Gn.wi3000 hv2
              have rowwc:=Mill.own_but rowwb hRz hbwc
              go_wp2
              refine hK.out _ _ (trivial) (fun hHeld => ?_)
              clear hK
              try simp [Act.put]
              refine Tk 8 (.int .i64 (3000+v2)) rfl ?_
              try simp [Act.put]
              refine wpAnyH_ready (rs:=[1,9]) (by kernel_rfl) (by simp) ?_
              refine AllReadyH.cons rfl (fun KK hK => ?_) (AllReadyH.cons rfl (fun KK hK => ?_) AllReadyH.nil)
              · go_simp
                obtain ⟨Va,hVa⟩:∃ V,wc.alloc (.cells #[.string ⟨#[]⟩,.string ⟨#[120,32,121]⟩,.string ⟨#[110,101,119]⟩] 9)=V:=⟨_,rfl⟩
                have hbVa:Below wc.heap.size wc Va:=Gn.below_new hVa
                have hxVa:Va.heap[wc.heap.size]? = some (.cells #[.string ⟨#[]⟩,.string ⟨#[120,32,121]⟩,.string ⟨#[110,101,119]⟩] 9):=by rw [← hVa];exact World.alloc_heap_new wc _
                have drVa:=drwc.below hbVa
                have rowVa:=Gn.own_keep rowwc (fun k _ _ hl=>hbVa.block k hl)
                try rw [hVa]
                refine hK.out _ _ (trivial) (fun hHeld => ?_)
                clear hK
                try simp [Act.put]
                refine Tk 4 (.pointer (some ⟨wc.heap.size,v3,none⟩)) rfl ?_
                try simp [Act.put]
                refine wpAnyH_ready (rs:=[5,9]) (by kernel_rfl) (by simp) ?_
                refine AllReadyH.cons rfl (fun KK hK => ?_) (AllReadyH.cons rfl (fun KK hK => ?_) AllReadyH.nil)
                · obtain ⟨nm,hnc,hnm⟩:=Gn.stab (M:=3) hxVa (by decide) v3 (Gn.nat3 hv3)
                  go_simp
                  refine hK.out _ _ (trivial) (fun hHeld => ?_)
                  clear hK
                  try simp [Act.put]
                  refine wpAnyH_ready (rs:=[9]) (by kernel_rfl) (by simp) ?_
                  refine AllReadyH.cons rfl (fun KK hK => ?_) AllReadyH.nil
                  go_simp
                  refine (Gn.manyD ⟨#[108]⟩ (3000+v2) drVa (by decide) (by omega) (by omega)).mono ?_
                  rintro e wd ⟨tx,rfl,htx,drwd,hbwd⟩
                  have rowwd:=Mill.own_but rowVa hRz hbwd
                  have tabwd:=Gn.tab_but drVa hbwd hxVa (by decide)
                  go_wp2
                  refine hK.out _ _ (trivial) (fun hHeld => ?_)
                  clear hK
                  try simp [Act.put]
                  refine Tk 10 (.agg #[.string nm,.string tx]) rfl ?_
                  try simp [Act.put]
                  refine wpAnyH_ready (rs:=[11]) (by kernel_rfl) (by simp) ?_
                  refine AllReadyH.cons rfl (fun KK hK => ?_) AllReadyH.nil
                  go_simp
                  obtain ⟨Ve,hVe⟩:∃ V,wd.alloc (.cells #[.string nm,.string tx] 36)=V:=⟨_,rfl⟩
                  have hbVe:Below wd.heap.size wd Ve:=Gn.below_new hVe
                  have hxVe:Ve.heap[wd.heap.size]? = some (.cells #[.string nm,.string tx] 36):=by rw [← hVe];exact World.alloc_heap_new wd _
                  have drVe:=drwd.below hbVe
                  have rowVe:=Gn.own_keep rowwd (fun k _ _ hl=>hbVe.block k hl)
                  have tabVe:=(hbVe.block _ (Array.getElem?_eq_some_iff.1 tabwd).1).trans tabwd
                  try rw [hVe]
                  refine hK.out _ _ (trivial) (fun hHeld => ?_)
                  clear hK
                  try simp [Act.put]
                  refine wpAnyH_ready (rs:=[12]) (by kernel_rfl) (by simp) ?_
                  refine AllReadyH.cons rfl (fun KK hK => ?_) AllReadyH.nil
                  refine Gn.step_file rfl _ _ rfl rowVe hSl nm tx hxVe drVe.but.size rfl rfl ?_
                  intro a8 c8 w8 row8 hg8
                  have dr8:=Gn.Dr_grown drVe rowVe hRz hg8
                  refine hK.out _ _ (trivial) (fun hHeld => ?_)
                  clear hK
                  try simp [Act.put]
                  refine Tk 13 (.slice a8 (S.length+1) c8) rfl ?_
                  try simp [Act.put]
                  refine wpAnyH_done (by kernel_rfl) ?_ _
                  obtain ⟨S2,hS2⟩:∃ l,S++[(⟨nm,tx⟩:Bx.Fl)]=l:=⟨_,rfl⟩
                  have hl2:S2.length=S.length+1:=by rw [← hS2,Gn.len_app]
                  have bd2:Gn.Bd 4 S2:=by rw [← hS2];exact bdx.app (Nat.le_trans hnm (by decide)) (Nat.le_trans htx (by decide))
                  rw [hS2,← hl2] at row8
                  rw [← hl2]
                  clear hHeld hS2 hl2 hg8
                  have s0:Gn.Mk:=trivial
                  go_wp2_with (first
                      | (go_at_call 13
                         have _t:=s0
                         clear s0
                         refine (Gn.pickDI 20 dr8 (by omega) (by decide) (by decide)).mono ?_
                         rintro e wt ⟨vt,rfl,hvt,drt,hbt⟩
                         have rowt:=Mill.own_but row8 hRz hbt
                         have hbk:=drt.but
                         have hT:=(hbk.block w.heap.size HTz.out.1 HTz.out.2.1).trans HTz.out.2.2
                         have yT:wt.cell? ⟨w.heap.size,0,none⟩=some (.slice none 0 0):=by rw [Lib.cell_of_heap hT];rfl
                         have zT:wt.frozen? ⟨w.heap.size,0,none⟩=false:=by simp [World.frozen?,hT]
                         have hQ:=(hbk.block bq HQz.out.1 HQz.out.2.1).trans HQz.out.2.2
                         have yQ:wt.cell? ⟨bq,0,none⟩=some (.slice pa pn pc):=by rw [Lib.cell_of_heap hQ];rfl
                         have hT9:(wt.setCell ⟨w.heap.size,0,none⟩ (.slice pa pn pc)).cell? ⟨w.heap.size,0,none⟩=some (.slice pa pn pc):=by rw [Lib.cell_of_heap (Gn.set_same hT)];rfl
                         rcases Gn.v20 hvt with ⟨rfl,q0⟩ | ⟨hvt2,q1⟩)
                      | (go_at_call 13
                         have _t:=q0
                         clear q0
                         refine (Gn.pickDI 2 drt (by omega) (by decide) (by decide)).mono ?_
                         rintro e wu ⟨vu,rfl,hvu,dru,hbu⟩
                         have rowu:=Mill.own_but rowt hRz hbu
                         have hwu:=Gn.wrc 40 hvu (by decide)
                         have DRU:Hid (Mill.Dr R p _ w4 wu):=dru
                         have ROWU:Hid (wu.ownsRow w4.heap.size 36 2 (.slice a8 S2.length c8) _ (Bx.fCs S2)):=rowu
                         clear dru rowu hT yT zT hQ yQ hT9 hbk))
                  · go_loopw [6] (fun o wr => ∃ (a:Option Addr) (c:Nat) (T:List Bx.Fl),o = .slice a T.length c∧Gn.Bd 42 T∧wr.ownsRow w4.heap.size 36 2 (.slice a T.length c) T.length (Bx.fCs T)∧Mill.Dr R p ((40+1+1+1)+1+1) w4 wr) (fun o _=>(42 - Gn.rlen o))
                    case atStart=>exact ⟨_,_,S2,rfl,bd2.mono (by decide),ROWU.out,DRU.out⟩
                    case round =>
                      obtain ⟨a,c,T,rfl,hbd,row,dr⟩:=hrel
                      by_cases hlt:(T.length:Int) < 40+vu
                      · have hSl:T.length≤1000:=Nat.le_trans hbd.1 (by decide)
                        obtain ⟨V7,hV7⟩:∃ V,wr.alloc (.cells #[.string ⟨#[115,97,109,101]⟩,.string ⟨#[]⟩] 36)=V:=⟨_,rfl⟩
                        have hb7:=Gn.below_new hV7
                        have hx7:V7.heap[wr.heap.size]? = some (.cells #[.string ⟨#[115,97,109,101]⟩,.string ⟨#[]⟩] 36):=by rw [← hV7];exact World.alloc_heap_new wr _
                        have dr7:=dr.below hb7
                        have row7:=Gn.own_keep row (fun k _ _ hl=>hb7.block k hl)
                        have hz7:=dr7.but.size
                        have r2:Gn.Mk:=trivial
                        go_wp2_with (first
                            | (at_builtin
                               have _t:=r2
                               clear r2
                               refine Gn.wp_file rfl _ _ rfl row7 hSl ⟨#[115,97,109,101]⟩ ⟨#[]⟩ hx7 hz7 rfl rfl ?_
                               intro a8 c8 w8 row8 hg8
                               have dr8:=Gn.Dr_grown dr7 row7 hRz hg8
                               clear row7 dr7 hg8))
                        go_roundw
                        case rel=>exact ⟨a8,c8,T++[⟨⟨#[115,97,109,101]⟩,⟨#[]⟩⟩],by rw [Gn.len_app],Gn.same_bd hbd hlt hvu,by rw [Gn.len_app];exact row8,dr8⟩
                        case measure=>exact Gn.same_ms hlt hvu
                      · have hbk:=dr.but
                        have hT:=(hbk.block w.heap.size HTz.out.1 HTz.out.2.1).trans HTz.out.2.2
                        have yT:wr.cell? ⟨w.heap.size,0,none⟩=some (.slice none 0 0):=by rw [Lib.cell_of_heap hT];rfl
                        have zT:wr.frozen? ⟨w.heap.size,0,none⟩=false:=by simp [World.frozen?,hT]
                        have hQ:=(hbk.block bq HQz.out.1 HQz.out.2.1).trans HQz.out.2.2
                        have yQ:wr.cell? ⟨bq,0,none⟩=some (.slice pa pn pc):=by rw [Lib.cell_of_heap hQ];rfl
                        have hT9:(wr.setCell ⟨w.heap.size,0,none⟩ (.slice pa pn pc)).cell? ⟨w.heap.size,0,none⟩=some (.slice pa pn pc):=by rw [Lib.cell_of_heap (Gn.set_same hT)];rfl
                        go_wp2_with fail
                        exact bodyPost_ret (v:=.tuple #[.agg #[.slice pa pn pc],.slice a T.length c]) (by simp [results,Tryz.results4,go_sem,hT9]) rfl (Gn.dl_end dr HPR.out row hT HBP.out (hbd.mono (by decide)) HBZ.out hRw hrz)
                  · exact bodyPost_ret (v:=.tuple #[.agg #[.slice pa pn pc],.slice a8 S2.length c8]) (by simp [results,Tryz.results4,go_sem,hT9]) rfl (Gn.dl_end drt HPR.out rowt hT HBP.out (bd2.mono (by decide)) HBZ.out hRw hrz)
                · go_simp
                  refine (Gn.manyD ⟨#[108]⟩ (3000+v2) drVa (by decide) (by omega) (by omega)).mono ?_
                  rintro e wd ⟨tx,rfl,htx,drwd,hbwd⟩
                  have rowwd:=Mill.own_but rowVa hRz hbwd
                  have tabwd:=Gn.tab_but drVa hbwd hxVa (by decide)
                  go_wp2
                  refine hK.out _ _ (trivial) (fun hHeld => ?_)
                  clear hK
                  try simp [Act.put]
                  refine wpAnyH_ready (rs:=[5]) (by kernel_rfl) (by simp) ?_
                  refine AllReadyH.cons rfl (fun KK hK => ?_) AllReadyH.nil
                  obtain ⟨nm,hnc,hnm⟩:=Gn.stab (M:=3) tabwd (by decide) v3 (Gn.nat3 hv3)
                  go_simp
                  refine hK.out _ _ (trivial) (fun hHeld => ?_)
                  clear hK
                  try simp [Act.put]
                  refine Tk 10 (.agg #[.string nm,.string tx]) rfl ?_
                  try simp [Act.put]
                  refine wpAnyH_ready (rs:=[11]) (by kernel_rfl) (by simp) ?_
                  refine AllReadyH.cons rfl (fun KK hK => ?_) AllReadyH.nil
                  go_simp
                  obtain ⟨Ve,hVe⟩:∃ V,wd.alloc (.cells #[.string nm,.string tx] 36)=V:=⟨_,rfl⟩
                  have hbVe:Below wd.heap.size wd Ve:=Gn.below_new hVe
                  have hxVe:Ve.heap[wd.heap.size]? = some (.cells #[.string nm,.string tx] 36):=by rw [← hVe];exact World.alloc_heap_new wd _
                  have drVe:=drwd.below hbVe
                  have rowVe:=Gn.own_keep rowwd (fun k _ _ hl=>hbVe.block k hl)
                  have tabVe:=(hbVe.block _ (Array.getElem?_eq_some_iff.1 tabwd).1).trans tabwd
                  try rw [hVe]
                  refine hK.out _ _ (trivial) (fun hHeld => ?_)
                  clear hK
                  try simp [Act.put]
                  refine wpAnyH_ready (rs:=[12]) (by kernel_rfl) (by simp) ?_
                  refine AllReadyH.cons rfl (fun KK hK => ?_) AllReadyH.nil
                  refine Gn.step_file rfl _ _ rfl rowVe hSl nm tx hxVe drVe.but.size rfl rfl ?_
                  intro a8 c8 w8 row8 hg8
                  have dr8:=Gn.Dr_grown drVe rowVe hRz hg8
                  refine hK.out _ _ (trivial) (fun hHeld => ?_)
                  clear hK
                  try simp [Act.put]
                  refine Tk 13 (.slice a8 (S.length+1) c8) rfl ?_
                  try simp [Act.put]
                  refine wpAnyH_done (by kernel_rfl) ?_ _
                  obtain ⟨S2,hS2⟩:∃ l,S++[(⟨nm,tx⟩:Bx.Fl)]=l:=⟨_,rfl⟩
                  have hl2:S2.length=S.length+1:=by rw [← hS2,Gn.len_app]
                  have bd2:Gn.Bd 4 S2:=by rw [← hS2];exact bdx.app (Nat.le_trans hnm (by decide)) (Nat.le_trans htx (by decide))
                  rw [hS2,← hl2] at row8
                  rw [← hl2]
                  clear hHeld hS2 hl2 hg8
                  have s0:Gn.Mk:=trivial
                  go_wp2_with (first
                      | (go_at_call 13
                         have _t:=s0
                         clear s0
                         refine (Gn.pickDI 20 dr8 (by omega) (by decide) (by decide)).mono ?_
                         rintro e wt ⟨vt,rfl,hvt,drt,hbt⟩
                         have rowt:=Mill.own_but row8 hRz hbt
                         have hbk:=drt.but
                         have hT:=(hbk.block w.heap.size HTz.out.1 HTz.out.2.1).trans HTz.out.2.2
                         have yT:wt.cell? ⟨w.heap.size,0,none⟩=some (.slice none 0 0):=by rw [Lib.cell_of_heap hT];rfl
                         have zT:wt.frozen? ⟨w.heap.size,0,none⟩=false:=by simp [World.frozen?,hT]
                         have hQ:=(hbk.block bq HQz.out.1 HQz.out.2.1).trans HQz.out.2.2
                         have yQ:wt.cell? ⟨bq,0,none⟩=some (.slice pa pn pc):=by rw [Lib.cell_of_heap hQ];rfl
                         have hT9:(wt.setCell ⟨w.heap.size,0,none⟩ (.slice pa pn pc)).cell? ⟨w.heap.size,0,none⟩=some (.slice pa pn pc):=by rw [Lib.cell_of_heap (Gn.set_same hT)];rfl
                         rcases Gn.v20 hvt with ⟨rfl,q0⟩ | ⟨hvt2,q1⟩)
                      | (go_at_call 13
                         have _t:=q0
                         clear q0
                         refine (Gn.pickDI 2 drt (by omega) (by decide) (by decide)).mono ?_
                         rintro e wu ⟨vu,rfl,hvu,dru,hbu⟩
                         have rowu:=Mill.own_but rowt hRz hbu
                         have hwu:=Gn.wrc 40 hvu (by decide)
                         have DRU:Hid (Mill.Dr R p _ w4 wu):=dru
                         have ROWU:Hid (wu.ownsRow w4.heap.size 36 2 (.slice a8 S2.length c8) _ (Bx.fCs S2)):=rowu
                         clear dru rowu hT yT zT hQ yQ hT9 hbk))
                  · go_loopw [6] (fun o wr => ∃ (a:Option Addr) (c:Nat) (T:List Bx.Fl),o = .slice a T.length c∧Gn.Bd 42 T∧wr.ownsRow w4.heap.size 36 2 (.slice a T.length c) T.length (Bx.fCs T)∧Mill.Dr R p ((40+1+1+1)+1+1) w4 wr) (fun o _=>(42 - Gn.rlen o))
                    case atStart=>exact ⟨_,_,S2,rfl,bd2.mono (by decide),ROWU.out,DRU.out⟩
                    case round =>
                      obtain ⟨a,c,T,rfl,hbd,row,dr⟩:=hrel
                      by_cases hlt:(T.length:Int) < 40+vu
                      · have hSl:T.length≤1000:=Nat.le_trans hbd.1 (by decide)
                        obtain ⟨V7,hV7⟩:∃ V,wr.alloc (.cells #[.string ⟨#[115,97,109,101]⟩,.string ⟨#[]⟩] 36)=V:=⟨_,rfl⟩
                        have hb7:=Gn.below_new hV7
                        have hx7:V7.heap[wr.heap.size]? = some (.cells #[.string ⟨#[115,97,109,101]⟩,.string ⟨#[]⟩] 36):=by rw [← hV7];exact World.alloc_heap_new wr _
                        have dr7:=dr.below hb7
                        have row7:=Gn.own_keep row (fun k _ _ hl=>hb7.block k hl)
                        have hz7:=dr7.but.size
                        have r2:Gn.Mk:=trivial
                        go_wp2_with (first
                            | (at_builtin
                               have _t:=r2
                               clear r2
                               refine Gn.wp_file rfl _ _ rfl row7 hSl ⟨#[115,97,109,101]⟩ ⟨#[]⟩ hx7 hz7 rfl rfl ?_
                               intro a8 c8 w8 row8 hg8
                               have dr8:=Gn.Dr_grown dr7 row7 hRz hg8
                               clear row7 dr7 hg8))
                        go_roundw
                        case rel=>exact ⟨a8,c8,T++[⟨⟨#[115,97,109,101]⟩,⟨#[]⟩⟩],by rw [Gn.len_app],Gn.same_bd hbd hlt hvu,by rw [Gn.len_app];exact row8,dr8⟩
                        case measure=>exact Gn.same_ms hlt hvu
                      · have hbk:=dr.but
                        have hT:=(hbk.block w.heap.size HTz.out.1 HTz.out.2.1).trans HTz.out.2.2
                        have yT:wr.cell? ⟨w.heap.size,0,none⟩=some (.slice none 0 0):=by rw [Lib.cell_of_heap hT];rfl
                        have zT:wr.frozen? ⟨w.heap.size,0,none⟩=false:=by simp [World.frozen?,hT]
                        have hQ:=(hbk.block bq HQz.out.1 HQz.out.2.1).trans HQz.out.2.2
                        have yQ:wr.cell? ⟨bq,0,none⟩=some (.slice pa pn pc):=by rw [Lib.cell_of_heap hQ];rfl
                        have hT9:(wr.setCell ⟨w.heap.size,0,none⟩ (.slice pa pn pc)).cell? ⟨w.heap.size,0,none⟩=some (.slice pa pn pc):=by rw [Lib.cell_of_heap (Gn.set_same hT)];rfl
                        go_wp2_with fail
                        exact bodyPost_ret (v:=.tuple #[.agg #[.slice pa pn pc],.slice a T.length c]) (by simp [results,Tryz.results4,go_sem,hT9]) rfl (Gn.dl_end dr HPR.out row hT HBP.out (hbd.mono (by decide)) HBZ.out hRw hrz)
                  · exact bodyPost_ret (v:=.tuple #[.agg #[.slice pa pn pc],.slice a8 S2.length c8]) (by simp [results,Tryz.results4,go_sem,hT9]) rfl (Gn.dl_end drt HPR.out rowt hT HBP.out (bd2.mono (by decide)) HBZ.out hRw hrz)
              · go_simp
                refine (Gn.manyD ⟨#[108]⟩ (3000+v2) drwc (by decide) (by omega) (by omega)).mono ?_
                rintro e wd ⟨tx,rfl,htx,drwd,hbwd⟩
                have rowwd:=Mill.own_but rowwc hRz hbwd
                go_wp2
                refine hK.out _ _ (trivial) (fun hHeld => ?_)
                clear hK
                try simp [Act.put]
                refine wpAnyH_ready (rs:=[1]) (by kernel_rfl) (by simp) ?_
                refine AllReadyH.cons rfl (fun KK hK => ?_) AllReadyH.nil
                go_simp
                obtain ⟨Va,hVa⟩:∃ V,wd.alloc (.cells #[.string ⟨#[]⟩,.string ⟨#[120,32,121]⟩,.string ⟨#[110,101,119]⟩] 9)=V:=⟨_,rfl⟩
                have hbVa:Below wd.heap.size wd Va:=Gn.below_new hVa
                have hxVa:Va.heap[wd.heap.size]? = some (.cells #[.string ⟨#[]⟩,.string ⟨#[120,32,121]⟩,.string ⟨#[110,101,119]⟩] 9):=by rw [← hVa];exact World.alloc_heap_new wd _
                have drVa:=drwd.below hbVa
                have rowVa:=Gn.own_keep rowwd (fun k _ _ hl=>hbVa.block k hl)
                try rw [hVa]
                refine hK.out _ _ (trivial) (fun hHeld => ?_)
                clear hK
                try simp [Act.put]
                refine Tk 4 (.pointer (some ⟨wd.heap.size,v3,none⟩)) rfl ?_
                try simp [Act.put]
                refine wpAnyH_ready (rs:=[5]) (by kernel_rfl) (by simp) ?_
                refine AllReadyH.cons rfl (fun KK hK => ?_) AllReadyH.nil
                obtain ⟨nm,hnc,hnm⟩:=Gn.stab (M:=3) hxVa (by decide) v3 (Gn.nat3 hv3)
                go_simp
                refine hK.out _ _ (trivial) (fun hHeld => ?_)
                clear hK
                try simp [Act.put]
                refine Tk 10 (.agg #[.string nm,.string tx]) rfl ?_
                try simp [Act.put]
                refine wpAnyH_ready (rs:=[11]) (by kernel_rfl) (by simp) ?_
                refine AllReadyH.cons rfl (fun KK hK => ?_) AllReadyH.nil
                go_simp
                obtain ⟨Ve,hVe⟩:∃ V,Va.alloc (.cells #[.string nm,.string tx] 36)=V:=⟨_,rfl⟩
                have hbVe:Below Va.heap.size Va Ve:=Gn.below_new hVe
                have hxVe:Ve.heap[Va.heap.size]? = some (.cells #[.string nm,.string tx] 36):=by rw [← hVe];exact World.alloc_heap_new Va _
                have drVe:=drVa.below hbVe
                have rowVe:=Gn.own_keep rowVa (fun k _ _ hl=>hbVe.block k hl)
                have tabVe:=(hbVe.block _ (Array.getElem?_eq_some_iff.1 hxVa).1).trans hxVa
                try rw [hVe]
                refine hK.out _ _ (trivial) (fun hHeld => ?_)
                clear hK
                try simp [Act.put]
                refine wpAnyH_ready (rs:=[12]) (by kernel_rfl) (by simp) ?_
                refine AllReadyH.cons rfl (fun KK hK => ?_) AllReadyH.nil
                refine Gn.step_file rfl _ _ rfl rowVe hSl nm tx hxVe drVe.but.size rfl rfl ?_
                intro a8 c8 w8 row8 hg8
                have dr8:=Gn.Dr_grown drVe rowVe hRz hg8
                refine hK.out _ _ (trivial) (fun hHeld => ?_)
                clear hK
                try simp [Act.put]
                refine Tk 13 (.slice a8 (S.length+1) c8) rfl ?_
                try simp [Act.put]
                refine wpAnyH_done (by kernel_rfl) ?_ _
                obtain ⟨S2,hS2⟩:∃ l,S++[(⟨nm,tx⟩:Bx.Fl)]=l:=⟨_,rfl⟩
                have hl2:S2.length=S.length+1:=by rw [← hS2,Gn.len_app]
                have bd2:Gn.Bd 4 S2:=by rw [← hS2];exact bdx.app (Nat.le_trans hnm (by decide)) (Nat.le_trans htx (by decide))
                rw [hS2,← hl2] at row8
                rw [← hl2]
                clear hHeld hS2 hl2 hg8
                have s0:Gn.Mk:=trivial
                go_wp2_with (first
                    | (go_at_call 13
                       have _t:=s0
                       clear s0
                       refine (Gn.pickDI 20 dr8 (by omega) (by decide) (by decide)).mono ?_
                       rintro e wt ⟨vt,rfl,hvt,drt,hbt⟩
                       have rowt:=Mill.own_but row8 hRz hbt
                       have hbk:=drt.but
                       have hT:=(hbk.block w.heap.size HTz.out.1 HTz.out.2.1).trans HTz.out.2.2
                       have yT:wt.cell? ⟨w.heap.size,0,none⟩=some (.slice none 0 0):=by rw [Lib.cell_of_heap hT];rfl
                       have zT:wt.frozen? ⟨w.heap.size,0,none⟩=false:=by simp [World.frozen?,hT]
                       have hQ:=(hbk.block bq HQz.out.1 HQz.out.2.1).trans HQz.out.2.2
                       have yQ:wt.cell? ⟨bq,0,none⟩=some (.slice pa pn pc):=by rw [Lib.cell_of_heap hQ];rfl
                       have hT9:(wt.setCell ⟨w.heap.size,0,none⟩ (.slice pa pn pc)).cell? ⟨w.heap.size,0,none⟩=some (.slice pa pn pc):=by rw [Lib.cell_of_heap (Gn.set_same hT)];rfl
                       rcases Gn.v20 hvt with ⟨rfl,q0⟩ | ⟨hvt2,q1⟩)
                    | (go_at_call 13
                       have _t:=q0
                       clear q0
                       refine (Gn.pickDI 2 drt (by omega) (by decide) (by decide)).mono ?_
                       rintro e wu ⟨vu,rfl,hvu,dru,hbu⟩
                       have rowu:=Mill.own_but rowt hRz hbu
                       have hwu:=Gn.wrc 40 hvu (by decide)
                       have DRU:Hid (Mill.Dr R p _ w4 wu):=dru
                       have ROWU:Hid (wu.ownsRow w4.heap.size 36 2 (.slice a8 S2.length c8) _ (Bx.fCs S2)):=rowu
                       clear dru rowu hT yT zT hQ yQ hT9 hbk))
                · go_loopw [6] (fun o wr => ∃ (a:Option Addr) (c:Nat) (T:List Bx.Fl),o = .slice a T.length c∧Gn.Bd 42 T∧wr.ownsRow w4.heap.size 36 2 (.slice a T.length c) T.length (Bx.fCs T)∧Mill.Dr R p ((40+1+1+1)+1+1) w4 wr) (fun o _=>(42 - Gn.rlen o))
                  case atStart=>exact ⟨_,_,S2,rfl,bd2.mono (by decide),ROWU.out,DRU.out⟩
                  case round =>
                    obtain ⟨a,c,T,rfl,hbd,row,dr⟩:=hrel
                    by_cases hlt:(T.length:Int) < 40+vu
                    · have hSl:T.length≤1000:=Nat.le_trans hbd.1 (by decide)
                      obtain ⟨V7,hV7⟩:∃ V,wr.alloc (.cells #[.string ⟨#[115,97,109,101]⟩,.string ⟨#[]⟩] 36)=V:=⟨_,rfl⟩
                      have hb7:=Gn.below_new hV7
                      have hx7:V7.heap[wr.heap.size]? = some (.cells #[.string ⟨#[115,97,109,101]⟩,.string ⟨#[]⟩] 36):=by rw [← hV7];exact World.alloc_heap_new wr _
                      have dr7:=dr.below hb7
                      have row7:=Gn.own_keep row (fun k _ _ hl=>hb7.block k hl)
                      have hz7:=dr7.but.size
                      have r2:Gn.Mk:=trivial
                      go_wp2_with (first
                          | (at_builtin
                             have _t:=r2
                             clear r2
                             refine Gn.wp_file rfl _ _ rfl row7 hSl ⟨#[115,97,109,101]⟩ ⟨#[]⟩ hx7 hz7 rfl rfl ?_
                             intro a8 c8 w8 row8 hg8
                             have dr8:=Gn.Dr_grown dr7 row7 hRz hg8
                             clear row7 dr7 hg8))
                      go_roundw
                      case rel=>exact ⟨a8,c8,T++[⟨⟨#[115,97,109,101]⟩,⟨#[]⟩⟩],by rw [Gn.len_app],Gn.same_bd hbd hlt hvu,by rw [Gn.len_app];exact row8,dr8⟩
                      case measure=>exact Gn.same_ms hlt hvu
                    · have hbk:=dr.but
                      have hT:=(hbk.block w.heap.size HTz.out.1 HTz.out.2.1).trans HTz.out.2.2
                      have yT:wr.cell? ⟨w.heap.size,0,none⟩=some (.slice none 0 0):=by rw [Lib.cell_of_heap hT];rfl
                      have zT:wr.frozen? ⟨w.heap.size,0,none⟩=false:=by simp [World.frozen?,hT]
                      have hQ:=(hbk.block bq HQz.out.1 HQz.out.2.1).trans HQz.out.2.2
                      have yQ:wr.cell? ⟨bq,0,none⟩=some (.slice pa pn pc):=by rw [Lib.cell_of_heap hQ];rfl
                      have hT9:(wr.setCell ⟨w.heap.size,0,none⟩ (.slice pa pn pc)).cell? ⟨w.heap.size,0,none⟩=some (.slice pa pn pc):=by rw [Lib.cell_of_heap (Gn.set_same hT)];rfl
                      go_wp2_with fail
                      exact bodyPost_ret (v:=.tuple #[.agg #[.slice pa pn pc],.slice a T.length c]) (by simp [results,Tryz.results4,go_sem,hT9]) rfl (Gn.dl_end dr HPR.out row hT HBP.out (hbd.mono (by decide)) HBZ.out hRw hrz)
                · exact bodyPost_ret (v:=.tuple #[.agg #[.slice pa pn pc],.slice a8 S2.length c8]) (by simp [results,Tryz.results4,go_sem,hT9]) rfl (Gn.dl_end drt HPR.out rowt hT HBP.out (bd2.mono (by decide)) HBZ.out hRw hrz)
        · have s0:Gn.Mk:=trivial
          go_wp2_with (first
              | (go_at_call 13
                 have _t:=s0
                 clear s0
                 refine (Gn.pickDI 20 drp (by omega) (by decide) (by decide)).mono ?_
                 rintro e wt ⟨vt,rfl,hvt,drt,hbt⟩
                 have rowt:=Mill.own_but rowp hRz hbt
                 have hbk:=drt.but
                 have hT:=(hbk.block w.heap.size HTz.out.1 HTz.out.2.1).trans HTz.out.2.2
                 have yT:wt.cell? ⟨w.heap.size,0,none⟩=some (.slice none 0 0):=by rw [Lib.cell_of_heap hT];rfl
                 have zT:wt.frozen? ⟨w.heap.size,0,none⟩=false:=by simp [World.frozen?,hT]
                 have hQ:=(hbk.block bq HQz.out.1 HQz.out.2.1).trans HQz.out.2.2
                 have yQ:wt.cell? ⟨bq,0,none⟩=some (.slice pa pn pc):=by rw [Lib.cell_of_heap hQ];rfl
                 have hT9:(wt.setCell ⟨w.heap.size,0,none⟩ (.slice pa pn pc)).cell? ⟨w.heap.size,0,none⟩=some (.slice pa pn pc):=by rw [Lib.cell_of_heap (Gn.set_same hT)];rfl
                 rcases Gn.v20 hvt with ⟨rfl,q0⟩ | ⟨hvt2,q1⟩)
              | (go_at_call 13
                 have _t:=q0
                 clear q0
                 refine (Gn.pickDI 2 drt (by omega) (by decide) (by decide)).mono ?_
                 rintro e wu ⟨vu,rfl,hvu,dru,hbu⟩
                 have rowu:=Mill.own_but rowt hRz hbu
                 have hwu:=Gn.wrc 40 hvu (by decide)
                 have DRU:Hid (Mill.Dr R p _ w4 wu):=dru
                 have ROWU:Hid (wu.ownsRow w4.heap.size 36 2 (.slice a S.length c) _ (Bx.fCs S)):=rowu
                 clear dru rowu hT yT zT hQ yQ hT9 hbk))
          · go_loopw [6] (fun o wr => ∃ (a:Option Addr) (c:Nat) (T:List Bx.Fl),o = .slice a T.length c∧Gn.Bd 42 T∧wr.ownsRow w4.heap.size 36 2 (.slice a T.length c) T.length (Bx.fCs T)∧Mill.Dr R p ((40+1)+1+1) w4 wr) (fun o _=>(42 - Gn.rlen o))
            case atStart=>exact ⟨_,_,S,rfl,bdx.mono (by decide),ROWU.out,DRU.out⟩
            case round =>
              obtain ⟨a,c,T,rfl,hbd,row,dr⟩:=hrel
              by_cases hlt:(T.length:Int) < 40+vu
              · have hSl:T.length≤1000:=Nat.le_trans hbd.1 (by decide)
                obtain ⟨V7,hV7⟩:∃ V,wr.alloc (.cells #[.string ⟨#[115,97,109,101]⟩,.string ⟨#[]⟩] 36)=V:=⟨_,rfl⟩
                have hb7:=Gn.below_new hV7
                have hx7:V7.heap[wr.heap.size]? = some (.cells #[.string ⟨#[115,97,109,101]⟩,.string ⟨#[]⟩] 36):=by rw [← hV7];exact World.alloc_heap_new wr _
                have dr7:=dr.below hb7
                have row7:=Gn.own_keep row (fun k _ _ hl=>hb7.block k hl)
                have hz7:=dr7.but.size
                have r2:Gn.Mk:=trivial
                go_wp2_with (first
                    | (at_builtin
                       have _t:=r2
                       clear r2
                       refine Gn.wp_file rfl _ _ rfl row7 hSl ⟨#[115,97,109,101]⟩ ⟨#[]⟩ hx7 hz7 rfl rfl ?_
                       intro a8 c8 w8 row8 hg8
                       have dr8:=Gn.Dr_grown dr7 row7 hRz hg8
                       clear row7 dr7 hg8))
                go_roundw
                case rel=>exact ⟨a8,c8,T++[⟨⟨#[115,97,109,101]⟩,⟨#[]⟩⟩],by rw [Gn.len_app],Gn.same_bd hbd hlt hvu,by rw [Gn.len_app];exact row8,dr8⟩
                case measure=>exact Gn.same_ms hlt hvu
              · have hbk:=dr.but
                have hT:=(hbk.block w.heap.size HTz.out.1 HTz.out.2.1).trans HTz.out.2.2
                have yT:wr.cell? ⟨w.heap.size,0,none⟩=some (.slice none 0 0):=by rw [Lib.cell_of_heap hT];rfl
                have zT:wr.frozen? ⟨w.heap.size,0,none⟩=false:=by simp [World.frozen?,hT]
                have hQ:=(hbk.block bq HQz.out.1 HQz.out.2.1).trans HQz.out.2.2
                have yQ:wr.cell? ⟨bq,0,none⟩=some (.slice pa pn pc):=by rw [Lib.cell_of_heap hQ];rfl
                have hT9:(wr.setCell ⟨w.heap.size,0,none⟩ (.slice pa pn pc)).cell? ⟨w.heap.size,0,none⟩=some (.slice pa pn pc):=by rw [Lib.cell_of_heap (Gn.set_same hT)];rfl
                go_wp2_with fail
                exact bodyPost_ret (v:=.tuple #[.agg #[.slice pa pn pc],.slice a T.length c]) (by simp [results,Tryz.results4,go_sem,hT9]) rfl (Gn.dl_end dr HPR.out row hT HBP.out (hbd.mono (by decide)) HBZ.out hRw hrz)
          · exact bodyPost_ret (v:=.tuple #[.agg #[.slice pa pn pc],.slice a S.length c]) (by simp [results,Tryz.results4,go_sem,hT9]) rfl (Gn.dl_end drt HPR.out rowt hT HBP.out (bdx.mono (by decide)) HBZ.out hRw hrz)
end Go.Proofs.YtkikhpppkpelfaaGreat
