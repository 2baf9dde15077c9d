import Derived.Test.YtfoimmnlojjfbaaGreatDoorKTk
import Derived.Test.YtfoimmnlojjfbaaGreatDoorKGnA
import Derived.Test.YtfoimmnlojjfbaaGreatDoorKGenXa
set_option maxRecDepth 100000
set_option maxHeartbeats 8000000
namespace Go.Proofs.YtfoimmnlojjfbaaGreatDoor
open Go.RowKit
theorem Gn.program_any {R p P:Nat} {w:World} (hr:Mill.Rd w R p) (hp:p≤P) (hP:P≤300000000) (size:Int) (hsz:0≤size∧size≤P) :
    Calls Tryz.prog 64 #[.pointer (some ⟨R,0,none⟩),.int .i64 size] w (Gn.ProgPost R P w):=by
  have hRw:=hr.lt
  obtain ⟨V0,hV0⟩:∃ V,w.alloc (.cells #[.slice none 0 0] 73)=V:=⟨_,rfl⟩
  have hb0:=Gn.below_new hV0
  have HT0:Hid (V0.heap[w.heap.size]? = some (.cells #[.slice none 0 0] 73)):=by rw [Hid,← hV0];exact World.alloc_heap_new w _
  obtain ⟨V1,hV1⟩:∃ V,V0.alloc (.cells #[.pointer (some ⟨R,0,none⟩),.slice none 0 0,.slice none 0 0,.int .i64 0,.int .i64 0,.int .i64 0,.int .i64 size] 121)=V:=⟨_,rfl⟩
  have hs1:=Gn.St.new (B:=R) (hr.below hb0) hp (Nat.le_refl _) size (by omega) hV1
  obtain ⟨g,HG⟩:∃ g,Hid (V0.heap.size=g):=⟨_,(rfl:V0.heap.size=_)⟩
  rw [HG.out] at hs1
  have hwg:w.heap.size≤g:=by rw [← HG.out];exact hb0.size
  have h0:Gn.Ph R g R P V0 V1 (.slice none 0 0) [] size:=⟨hs1,⟨rfl,.inl ⟨rfl,rfl⟩⟩,by simp,Gn.Fw.of_below (Gn.below_new hV1),Nat.lt_of_lt_of_le hRw hb0.size,Nat.le_of_eq HG.out⟩
  have HF0:Hid (Gn.Fw R w V0):=Gn.Fw.of_below hb0
  have hg0:=HG.out
  clear hs1 hb0
  have b1:P≤1000000000:=by omega
  have b2:P+1≤900000000:=by omega
  have t0:Gn.Mk:=trivial
  go_enter Tryz.func64,Tryz.ntmps64
  go_wp2_with (first
    | (go_at_call 8
       have _t:=t0
       clear t0
       refine (Gn.pickS h0.st 4 (by decide) (by decide) b1).mono ?_
       rintro e w1 ⟨n,rfl,hn,hs1,hf1⟩
       have HPH:Hid (Gn.Ph R g R (P+1) V0 w1 (.slice none 0 0) [] size):=h0.fr hs1 hf1
       clear h0 hs1 hf1))
  go_loopw [7] (fun i wr => ∃ (j:Int) (fv:Value) (F:List Gn.Sg),(0≤j∧j≤n)∧i = .int .i64 j∧F.length=j.toNat∧Gn.Ph R g R (P+1+20 * F.length) V0 wr fv F size) (fun i _=>(n - intOf i).toNat)
  case atStart=>exact ⟨0,_,[],⟨by decide,hn.1⟩,rfl,rfl,HPH.out⟩
  case round =>
    obtain ⟨j,fv,F,hj,rfl,hFj,ph⟩:=hrel
    have hF3:=Gn.f_len hj hn hFj
    have HFJ:Hid (F.length=j.toNat):=hFj
    clear hFj
    by_cases hjn:j < n
    · have hwj:=Gn.wr_j hj hn
      have hF2:=Gn.f_len2 hj hn HFJ.out hjn
      have bA:=Gn.pb0 (P:=P) hP hF3
      have bB:=Gn.pb1 (P:=P) hP hF3
      have bC:=Gn.pb2 (P:=P) hP hF3
      have hF4:F.length≤4:=Nat.le_trans hF3 (by decide)
      have k2:=Gn.j_hi2 hj hn
      have r0:Gn.Mk:=trivial
      go_wp2_with (first
    | (go_at_call 18
       have _t:=r0
       clear r0
       refine (Gn.dec_any j hj.1 k2 wr).mono ?_
       rintro e w1 ⟨t,rfl,ht,hb1⟩
       have hlim:=Gn.lim1 ht
       have hlim2:=Gn.lim2 ht
       obtain ⟨x,hx0⟩:∃ x,(⟨#[102]⟩:ByteArray)++t=x:=⟨_,rfl⟩
       have hx:=Gn.app_le hx0 rfl ht
       have ph1:=ph.below hb1
       clear ph hb1
       have r1:Gn.Mk:=trivial)
    | (go_at_call 81
       have _t:=r1
       clear r1
       refine (Gn.typ_any ph1.st bA).mono ?_
       rintro e w2 ⟨ty,rfl,hty,hs2,hf2⟩
       have ph2:=(ph1.fr hs2 hf2).below (Gn.below_al w2 (.cells #[.int .i64 0,.int .i64 2,.int .i64 ty] 3))
       clear ph1 hs2 hf2
       have r2:Gn.Mk:=trivial)
    | (go_at_call 8
       have _t:=r2
       clear r2
       refine (Gn.pick_any ph2.st 3 (by decide) (by decide) bB).mono ?_
       rintro e w3 ⟨v,rfl,hv,hs3,hf3⟩
       obtain ⟨r,hcr,hr0⟩:=Gn.itab3 (hf3.blk (World.alloc_heap_new w2 _) (by decide)) hty hv
       have ph3:=ph2.fr hs3 hf3
       have HLT:Hid (Gn.Lt w3.heap.size fv F):=ph3.lt
       have hg3:g < w3.heap.size:=(Array.getElem?_eq_some_iff.1 ph3.st.box).1
       obtain ⟨V3,hV3⟩:∃ V,w3.alloc (.cells #[.string x,.slice none 0 0,.int .i64 r] 124)=V:=⟨_,rfl⟩
       have hb3:=Gn.below_new hV3
       have hx3:V3.heap[w3.heap.size]? = some (.cells #[.string x,.slice none 0 0,.int .i64 r] 124):=by rw [← hV3];exact World.alloc_heap_new w3 _
       have hz3:V0.heap.size≤w3.heap.size:=ph3.fw.size
       have ph3:=ph3.below hb3
       clear ph2 hs3 hf3 hb3
       have r3:Gn.Mk:=trivial)
    | (go_at_call 8
       have _t:=r3
       clear r3
       refine (Gn.pickS ph3.st 3 (by decide) (by decide) bC).mono ?_
       rintro e w4 ⟨k0,rfl,hk0,hs4,hf4⟩
       have PH4:Hid (Gn.Ph R g R _ V0 w4 fv F size):=ph3.fr hs4 hf4
       have HX4:Hid (w4.heap[w3.heap.size]? = some (.cells #[.string x,.slice none 0 0,.int .i64 r] 124)):=hf4.blk hx3 (by decide)
       clear ph3 hs4 hf4 hx3 hcr hlim hlim2 hx0 hV3))
      go_loopw [9] (fun k wr => ∃ (kk:Int) (pv:Value) (ps:List Int),(0≤kk∧kk≤2)∧k = .int .i64 kk∧ps.length+kk.toNat≤2∧(∀ t ∈ ps,Gn.ty t)∧wr.heap[w3.heap.size]? = some (.cells #[.string x,pv,.int .i64 r] 124)∧wr.ownsRow w3.heap.size 3 1 pv ps.length (Gn.intCs ps)∧Gn.Ph R g R (P+1+20 * F.length+6+2 * ps.length) V0 wr fv F size) (fun k _=>(intOf k).toNat)
      case atStart=>exact ⟨k0,_,[],by omega,rfl,by simp;omega,by simp,HX4.out,⟨rfl,.inl ⟨rfl,rfl⟩⟩,PH4.out.mono (by simp)⟩
      case round =>
        obtain ⟨kk,pv,ps,hkk,rfl,hpl,hpt,hxf,hpo,ph⟩:=hrel
        by_cases hlt:0 < kk
        · have hpn:=Gn.ps_len hpl
          have bT:=Gn.pbT (P:=P) hP hF3 hpl
          have hwk:=Gn.wr_k hkk hlt
          go_wp2_with fail
          refine wp_region_held_drew (S:=(fun _=>True)) (by kernel_rfl) (trivial) (fun hHeld => ?_)
          refine Tk 0 (.pointer (some ⟨w3.heap.size,1,none⟩)) rfl ?_
          try simp [Act.put]
          refine Tk 2 (.pointer (some ⟨g,0,none⟩)) rfl ?_
          try simp [Act.put]
          have hxd:wr.drew.heap[w3.heap.size]? = some (.cells #[.string x,pv,.int .i64 r] 124):=hxf
          have phd:=ph.below ((Below.refl _ wr).drew)
          have hpd:=(Gn.Fr.of_below (B:=R) ((Below.refl _ wr).drew)).row hpo (by decide)
          have yd:wr.drew.cell? ⟨w3.heap.size,1,none⟩=some pv:=by rw [Lib.cell_of_heap hxd];rfl
          refine wpAnyH_ready (rs:=[1,3]) (by kernel_rfl) (by simp) ?_
          refine AllReadyH.cons rfl (fun KK hK => ?_) (AllReadyH.cons rfl (fun KK hK => ?_) AllReadyH.nil)
          · go_simp
            refine hK.out _ _ (trivial) (fun hHeld => ?_)
            clear hK
            try simp [Act.put]
            refine wpAnyH_ready (rs:=[3]) (by kernel_rfl) (by simp) ?_
            refine AllReadyH.cons rfl (fun KK hK => ?_) AllReadyH.nil
            go_simp
            refine (Gn.typ_any phd.st bT).mono ?_
            rintro e w5 ⟨t2,rfl,ht2,hs5,hf5⟩
            have ph5:=phd.fr hs5 hf5
            have hxf5:=hf5.blk hxd (by decide)
            have hp5:=hf5.row hpd (by decide)
            have y5:w5.cell? ⟨w3.heap.size,1,none⟩=some pv:=by rw [Lib.cell_of_heap hxf5];rfl
            obtain ⟨V6,hV6⟩:∃ V,w5.alloc (.cells #[.int .i64 t2] 3)=V:=⟨_,rfl⟩
            have hb6:=Gn.below_new hV6
            have ph6:=ph5.below hb6
            have hxf6:=(Gn.Fr.of_below (B:=R) hb6).blk hxf5 (by decide)
            have hp6:=(Gn.Fr.of_below (B:=R) hb6).row hp5 (by decide)
            have hx6:V6.heap[w5.heap.size]? = some (.cells #[.int .i64 t2] 3):=by rw [← hV6];exact World.alloc_heap_new w5 _
            have y6:V6.cell? ⟨w3.heap.size,1,none⟩=some pv:=by rw [Lib.cell_of_heap hxf6];rfl
            have hA6:w3.heap.size≤V6.heap.size:=Nat.le_of_lt (Array.getElem?_eq_some_iff.1 hxf6).1
            go_wp2
            refine hK.out _ _ (trivial) (fun hHeld => ?_)
            clear hK
            try simp [Act.put]
            refine wpAnyH_ready (rs:=[4]) (by kernel_rfl) (by simp) ?_
            refine AllReadyH.cons rfl (fun KK hK => ?_) AllReadyH.nil
            go_simp
            try rw [hV6]
            refine hK.out _ _ (trivial) (fun hHeld => ?_)
            clear hK
            try simp [Act.put]
            refine wpAnyH_ready (rs:=[5]) (by kernel_rfl) (by simp) ?_
            refine AllReadyH.cons rfl (fun KK hK => ?_) AllReadyH.nil
            refine Gn.step_int rfl _ _ rfl hp6 hpn t2 hx6 hA6 rfl rfl ?_
            intro a7 c7 w7 ho7 hg7
            obtain ⟨ph8,hx8,ho8,y7,z7⟩:=ph6.fpar HLT.out hg3 hxf6 hp6 ho7 hg7
            obtain ⟨V8,hV8⟩:∃ V,w7.setCell ⟨w3.heap.size,1,none⟩ (.slice a7 (ps.length+1) c7)=V:=⟨_,rfl⟩
            rw [hV8] at ph8 hx8 ho8
            refine hK.out _ _ (trivial) (fun hHeld => ?_)
            clear hK
            try simp [Act.put]
            refine Tk 6 (.pointer (some ⟨w3.heap.size,1,none⟩)) rfl ?_
            try simp [Act.put]
            refine wpAnyH_ready (rs:=[7]) (by kernel_rfl) (by simp) ?_
            refine AllReadyH.cons rfl (fun KK hK => ?_) AllReadyH.nil
            go_simp
            try rw [hV8]
            refine hK.out _ _ (trivial) (fun hHeld => ?_)
            clear hK
            try simp [Act.put]
            refine wpAnyH_done (by kernel_rfl) ?_ _
            clear hHeld y7 z7 y6 y5 yd hV6 hV8 hxf6 hxf5 hxd
            go_wp2_with fail
            go_roundw
            case rel=>exact ⟨kk - 1,.slice a7 (ps.length+1) c7,ps++[t2],Gn.kk_dn hkk hlt,rfl,Gn.kk_len hkk hlt hpl,Gn.ty_app hpt ht2,hx8,by rw [Gn.len_app];exact ho8,by rw [Gn.len_app];exact ph8.mono (Gn.pb_up _ _)⟩
            case measure=>simp [intOf];omega
          · go_simp
            refine (Gn.typ_any phd.st bT).mono ?_
            rintro e w5 ⟨t2,rfl,ht2,hs5,hf5⟩
            have ph5:=phd.fr hs5 hf5
            have hxf5:=hf5.blk hxd (by decide)
            have hp5:=hf5.row hpd (by decide)
            have y5:w5.cell? ⟨w3.heap.size,1,none⟩=some pv:=by rw [Lib.cell_of_heap hxf5];rfl
            obtain ⟨V6,hV6⟩:∃ V,w5.alloc (.cells #[.int .i64 t2] 3)=V:=⟨_,rfl⟩
            have hb6:=Gn.below_new hV6
            have ph6:=ph5.below hb6
            have hxf6:=(Gn.Fr.of_below (B:=R) hb6).blk hxf5 (by decide)
            have hp6:=(Gn.Fr.of_below (B:=R) hb6).row hp5 (by decide)
            have hx6:V6.heap[w5.heap.size]? = some (.cells #[.int .i64 t2] 3):=by rw [← hV6];exact World.alloc_heap_new w5 _
            have y6:V6.cell? ⟨w3.heap.size,1,none⟩=some pv:=by rw [Lib.cell_of_heap hxf6];rfl
            have hA6:w3.heap.size≤V6.heap.size:=Nat.le_of_lt (Array.getElem?_eq_some_iff.1 hxf6).1
            go_wp2
            refine hK.out _ _ (trivial) (fun hHeld => ?_)
            clear hK
            try simp [Act.put]
            refine wpAnyH_ready (rs:=[1,4]) (by kernel_rfl) (by simp) ?_
            refine AllReadyH.cons rfl (fun KK hK => ?_) (AllReadyH.cons rfl (fun KK hK => ?_) AllReadyH.nil)
            · go_simp
              refine hK.out _ _ (trivial) (fun hHeld => ?_)
              clear hK
              try simp [Act.put]
              refine wpAnyH_ready (rs:=[4]) (by kernel_rfl) (by simp) ?_
              refine AllReadyH.cons rfl (fun KK hK => ?_) AllReadyH.nil
              go_simp
              try rw [hV6]
              refine hK.out _ _ (trivial) (fun hHeld => ?_)
              clear hK
              try simp [Act.put]
              refine wpAnyH_ready (rs:=[5]) (by kernel_rfl) (by simp) ?_
              refine AllReadyH.cons rfl (fun KK hK => ?_) AllReadyH.nil
              refine Gn.step_int rfl _ _ rfl hp6 hpn t2 hx6 hA6 rfl rfl ?_
              intro a7 c7 w7 ho7 hg7
              obtain ⟨ph8,hx8,ho8,y7,z7⟩:=ph6.fpar HLT.out hg3 hxf6 hp6 ho7 hg7
              obtain ⟨V8,hV8⟩:∃ V,w7.setCell ⟨w3.heap.size,1,none⟩ (.slice a7 (ps.length+1) c7)=V:=⟨_,rfl⟩
              rw [hV8] at ph8 hx8 ho8
              refine hK.out _ _ (trivial) (fun hHeld => ?_)
              clear hK
              try simp [Act.put]
              refine Tk 6 (.pointer (some ⟨w3.heap.size,1,none⟩)) rfl ?_
              try simp [Act.put]
              refine wpAnyH_ready (rs:=[7]) (by kernel_rfl) (by simp) ?_
              refine AllReadyH.cons rfl (fun KK hK => ?_) AllReadyH.nil
              go_simp
              try rw [hV8]
              refine hK.out _ _ (trivial) (fun hHeld => ?_)
              clear hK
              try simp [Act.put]
              refine wpAnyH_done (by kernel_rfl) ?_ _
              clear hHeld y7 z7 y6 y5 yd hV6 hV8 hxf6 hxf5 hxd
              go_wp2_with fail
              go_roundw
              case rel=>exact ⟨kk - 1,.slice a7 (ps.length+1) c7,ps++[t2],Gn.kk_dn hkk hlt,rfl,Gn.kk_len hkk hlt hpl,Gn.ty_app hpt ht2,hx8,by rw [Gn.len_app];exact ho8,by rw [Gn.len_app];exact ph8.mono (Gn.pb_up _ _)⟩
              case measure=>simp [intOf];omega
            · go_simp
              try rw [hV6]
              refine hK.out _ _ (trivial) (fun hHeld => ?_)
              clear hK
              try simp [Act.put]
              refine wpAnyH_ready (rs:=[1]) (by kernel_rfl) (by simp) ?_
              refine AllReadyH.cons rfl (fun KK hK => ?_) AllReadyH.nil
              go_simp
              refine hK.out _ _ (trivial) (fun hHeld => ?_)
              clear hK
              try simp [Act.put]
              refine wpAnyH_ready (rs:=[5]) (by kernel_rfl) (by simp) ?_
              refine AllReadyH.cons rfl (fun KK hK => ?_) AllReadyH.nil
              refine Gn.step_int rfl _ _ rfl hp6 hpn t2 hx6 hA6 rfl rfl ?_
              intro a7 c7 w7 ho7 hg7
              obtain ⟨ph8,hx8,ho8,y7,z7⟩:=ph6.fpar HLT.out hg3 hxf6 hp6 ho7 hg7
              obtain ⟨V8,hV8⟩:∃ V,w7.setCell ⟨w3.heap.size,1,none⟩ (.slice a7 (ps.length+1) c7)=V:=⟨_,rfl⟩
              rw [hV8] at ph8 hx8 ho8
              refine hK.out _ _ (trivial) (fun hHeld => ?_)
              clear hK
              try simp [Act.put]
              refine Tk 6 (.pointer (some ⟨w3.heap.size,1,none⟩)) rfl ?_
              try simp [Act.put]
              refine wpAnyH_ready (rs:=[7]) (by kernel_rfl) (by simp) ?_
              refine AllReadyH.cons rfl (fun KK hK => ?_) AllReadyH.nil
              go_simp
              try rw [hV8]
              refine hK.out _ _ (trivial) (fun hHeld => ?_)
              clear hK
              try simp [Act.put]
              refine wpAnyH_done (by kernel_rfl) ?_ _
              clear hHeld y7 z7 y6 y5 yd hV6 hV8 hxf6 hxf5 hxd
              go_wp2_with fail
              go_roundw
              case rel=>exact ⟨kk - 1,.slice a7 (ps.length+1) c7,ps++[t2],Gn.kk_dn hkk hlt,rfl,Gn.kk_len hkk hlt hpl,Gn.ty_app hpt ht2,hx8,by rw [Gn.len_app];exact ho8,by rw [Gn.len_app];exact ph8.mono (Gn.pb_up _ _)⟩
              case measure=>simp [intOf];omega
        · go_wp2_with fail
          have s0:wr.cell? ⟨w3.heap.size,0,none⟩=some (.string x):=by rw [Lib.cell_of_heap hxf];rfl
          have s1:wr.cell? ⟨w3.heap.size,1,none⟩=some (pv):=by rw [Lib.cell_of_heap hxf];rfl
          have s2:wr.cell? ⟨w3.heap.size,2,none⟩=some (.int .i64 r):=by rw [Lib.cell_of_heap hxf];rfl
          have c2:=ph.st.cells.2.2.1
          have c2d:wr.drew.cell? ⟨g,2,none⟩=some fv:=c2
          refine wp_region_held_drew (S:=(fun W=>W.cell? ⟨w3.heap.size,0,none⟩=some (.string x)∧W.cell? ⟨w3.heap.size,1,none⟩=some (pv)∧W.cell? ⟨w3.heap.size,2,none⟩=some (.int .i64 r))) (by kernel_rfl) (⟨s0,s1,s2⟩) (fun hHeld => ?_)
          refine Tk 0 (.pointer (some ⟨g,0,none⟩)) rfl ?_
          try simp [Act.put]
          refine Tk 1 (.pointer (some ⟨g,0,none⟩)) rfl ?_
          try simp [Act.put]
          refine Tk 2 (.pointer (some ⟨g,0,none⟩)) rfl ?_
          try simp [Act.put]
          refine Tk 3 (.pointer (some ⟨g,2,none⟩)) rfl ?_
          try simp [Act.put]
          refine Tk 5 (.agg #[.string x,pv,.int .i64 r]) rfl ?_
          try simp [Act.put]
          obtain ⟨V,hV⟩:∃ V,(wr.alloc (.cells #[.string x,pv,.int .i64 r] 124)).drew=V:=⟨_,rfl⟩
          have hbV:Below wr.heap.size wr V:=by rw [← hV];exact ((Below.refl _ wr).alloc (Nat.le_refl _) _).drew
          have hxV:V.heap[wr.heap.size]? = some (.cells #[.string x,pv,.int .i64 r] 124):=by rw [← hV];exact World.alloc_heap_new wr _
          have l0:V.cell? ⟨w3.heap.size,0,none⟩=some (.string x):=by rw [← hV];exact Gn.ca s0
          have l1:V.cell? ⟨w3.heap.size,1,none⟩=some (pv):=by rw [← hV];exact Gn.ca s1
          have l2:V.cell? ⟨w3.heap.size,2,none⟩=some (.int .i64 r):=by rw [← hV];exact Gn.ca s2
          have l3:V.cell? ⟨g,2,none⟩=some fv:=by rw [← hV];exact Gn.ca c2
          refine wpAnyH_ready (rs:=[4,6]) (by kernel_rfl) (by simp) ?_
          refine AllReadyH.cons rfl (fun KK hK => ?_) (AllReadyH.cons rfl (fun KK hK => ?_) AllReadyH.nil)
          · go_simp
            refine hK.out _ _ (hHeld) (fun hHeld => ?_)
            clear hK
            try simp [Act.put]
            refine wpAnyH_ready (rs:=[6]) (by kernel_rfl) (by simp) ?_
            refine AllReadyH.cons rfl (fun KK hK => ?_) AllReadyH.nil
            go_simp
            try rw [hV]
            refine hK.out _ _ (⟨l0,l1,l2⟩) (fun hHeld => ?_)
            clear hK
            try simp [Act.put]
            refine wpAnyH_ready (rs:=[7]) (by kernel_rfl) (by simp) ?_
            refine AllReadyH.cons rfl (fun KK hK => ?_) AllReadyH.nil
            refine Gn.step_fn rfl _ _ rfl ph hF4 x (pv) ps r ⟨hx,Gn.ps_len3 hpl,hr0,hpt⟩ hbV (Gn.own_mono hpo hz3) hxV rfl rfl ?_
            intro a7 c7 w7 hc7 ph8 hk7
            obtain ⟨y7,z7⟩:=hc7
            have hxf7:=(hk7 w3.heap.size (Array.getElem?_eq_some_iff.1 hxf).1 (fun e=>Nat.lt_irrefl _ (HLT.out.1 _ e))).trans hxf
            have m0:w7.cell? ⟨w3.heap.size,0,none⟩=some (.string x):=by rw [Lib.cell_of_heap hxf7];rfl
            have m1:w7.cell? ⟨w3.heap.size,1,none⟩=some (pv):=by rw [Lib.cell_of_heap hxf7];rfl
            have m2:w7.cell? ⟨w3.heap.size,2,none⟩=some (.int .i64 r):=by rw [Lib.cell_of_heap hxf7];rfl
            have hxf8:=(Gn.set_oth (w:=w7) (i:=2) (v:=.slice a7 (F.length+1) c7) (Nat.ne_of_gt hg3)).trans hxf7
            obtain ⟨V8,hV8⟩:∃ V,w7.setCell ⟨g,2,none⟩ (.slice a7 (F.length+1) c7)=V:=⟨_,rfl⟩
            rw [hV8] at ph8 hxf8
            have o0:V8.cell? ⟨w3.heap.size,0,none⟩=some (.string x):=by rw [Lib.cell_of_heap hxf8];rfl
            have o1:V8.cell? ⟨w3.heap.size,1,none⟩=some (pv):=by rw [Lib.cell_of_heap hxf8];rfl
            have o2:V8.cell? ⟨w3.heap.size,2,none⟩=some (.int .i64 r):=by rw [Lib.cell_of_heap hxf8];rfl
            refine hK.out _ _ (⟨m0,m1,m2⟩) (fun hHeld => ?_)
            clear hK
            try simp [Act.put]
            refine Tk 8 (.pointer (some ⟨g,0,none⟩)) rfl ?_
            try simp [Act.put]
            refine Tk 9 (.pointer (some ⟨g,2,none⟩)) rfl ?_
            try simp [Act.put]
            refine wpAnyH_ready (rs:=[10]) (by kernel_rfl) (by simp) ?_
            refine AllReadyH.cons rfl (fun KK hK => ?_) AllReadyH.nil
            go_simp
            try rw [hV8]
            refine hK.out _ _ (⟨o0,o1,o2⟩) (fun hHeld => ?_)
            clear hK
            try simp [Act.put]
            refine wpAnyH_done (by kernel_rfl) ?_ _
            clear hHeld y7 z7 m0 m1 m2 o0 o1 o2 l0 l1 l2 l3 s0 s1 s2 c2 c2d hV hV8
            go_wp2_with fail
            go_roundw
            case rel=>exact ⟨j+1,_,F++[⟨x,pv,ps,r⟩],Gn.j_up hj hjn,rfl,by rw [Gn.len_app];exact Gn.j_len hj HFJ.out,by rw [Gn.len_app];exact ph8.mono (Gn.pb_nx hpl)⟩
            case measure=>simp [intOf];omega
          · go_simp
            try rw [hV]
            refine hK.out _ _ (⟨l0,l1,l2⟩) (fun hHeld => ?_)
            clear hK
            try simp [Act.put]
            refine wpAnyH_ready (rs:=[4]) (by kernel_rfl) (by simp) ?_
            refine AllReadyH.cons rfl (fun KK hK => ?_) AllReadyH.nil
            go_simp
            refine hK.out _ _ (⟨l0,l1,l2⟩) (fun hHeld => ?_)
            clear hK
            try simp [Act.put]
            refine wpAnyH_ready (rs:=[7]) (by kernel_rfl) (by simp) ?_
            refine AllReadyH.cons rfl (fun KK hK => ?_) AllReadyH.nil
            refine Gn.step_fn rfl _ _ rfl ph hF4 x (pv) ps r ⟨hx,Gn.ps_len3 hpl,hr0,hpt⟩ hbV (Gn.own_mono hpo hz3) hxV rfl rfl ?_
            intro a7 c7 w7 hc7 ph8 hk7
            obtain ⟨y7,z7⟩:=hc7
            have hxf7:=(hk7 w3.heap.size (Array.getElem?_eq_some_iff.1 hxf).1 (fun e=>Nat.lt_irrefl _ (HLT.out.1 _ e))).trans hxf
            have m0:w7.cell? ⟨w3.heap.size,0,none⟩=some (.string x):=by rw [Lib.cell_of_heap hxf7];rfl
            have m1:w7.cell? ⟨w3.heap.size,1,none⟩=some (pv):=by rw [Lib.cell_of_heap hxf7];rfl
            have m2:w7.cell? ⟨w3.heap.size,2,none⟩=some (.int .i64 r):=by rw [Lib.cell_of_heap hxf7];rfl
            have hxf8:=(Gn.set_oth (w:=w7) (i:=2) (v:=.slice a7 (F.length+1) c7) (Nat.ne_of_gt hg3)).trans hxf7
            obtain ⟨V8,hV8⟩:∃ V,w7.setCell ⟨g,2,none⟩ (.slice a7 (F.length+1) c7)=V:=⟨_,rfl⟩
            rw [hV8] at ph8 hxf8
            have o0:V8.cell? ⟨w3.heap.size,0,none⟩=some (.string x):=by rw [Lib.cell_of_heap hxf8];rfl
            have o1:V8.cell? ⟨w3.heap.size,1,none⟩=some (pv):=by rw [Lib.cell_of_heap hxf8];rfl
            have o2:V8.cell? ⟨w3.heap.size,2,none⟩=some (.int .i64 r):=by rw [Lib.cell_of_heap hxf8];rfl
            refine hK.out _ _ (⟨m0,m1,m2⟩) (fun hHeld => ?_)
            clear hK
            try simp [Act.put]
            refine Tk 8 (.pointer (some ⟨g,0,none⟩)) rfl ?_
            try simp [Act.put]
            refine Tk 9 (.pointer (some ⟨g,2,none⟩)) rfl ?_
            try simp [Act.put]
            refine wpAnyH_ready (rs:=[10]) (by kernel_rfl) (by simp) ?_
            refine AllReadyH.cons rfl (fun KK hK => ?_) AllReadyH.nil
            go_simp
            try rw [hV8]
            refine hK.out _ _ (⟨o0,o1,o2⟩) (fun hHeld => ?_)
            clear hK
            try simp [Act.put]
            refine wpAnyH_done (by kernel_rfl) ?_ _
            clear hHeld y7 z7 m0 m1 m2 o0 o1 o2 l0 l1 l2 l3 s0 s1 s2 c2 c2d hV hV8
            go_wp2_with fail
            go_roundw
            case rel=>exact ⟨j+1,_,F++[⟨x,pv,ps,r⟩],Gn.j_up hj hjn,rfl,by rw [Gn.len_app];exact Gn.j_len hj HFJ.out,by rw [Gn.len_app];exact ph8.mono (Gn.pb_nx hpl)⟩
            case measure=>simp [intOf];omega
    · have HFN:Hid (F.length=n.toNat):=Gn.f_n hj hn hjn HFJ.out
      obtain ⟨bm,hbm⟩:∃ b,wr.heap.size=b:=⟨_,rfl⟩
      obtain ⟨Vm,hVm⟩:∃ V,wr.alloc (.cells #[.string ⟨#[109,97,105,110]⟩,.slice none 0 0,.int .i64 2] 124)=V:=⟨_,rfl⟩
      have hxm0:Vm.heap[bm]? = some (.cells #[.string ⟨#[109,97,105,110]⟩,.slice none 0 0,.int .i64 2] 124):=by rw [← hVm,← hbm];exact World.alloc_heap_new wr _
      have HLM:Hid (Gn.Lt bm fv F):=by rw [Hid,← hbm];exact ph.lt
      have hgm:g < bm:=by rw [← hbm];exact (Array.getElem?_eq_some_iff.1 ph.st.box).1
      have phm:=ph.below (Gn.below_new hVm)
      have bE:=Gn.pb3 (P:=P) hP hF3
      have hF4:F.length≤4:=Nat.le_trans hF3 (by decide)
      have HSM3:Hid (Gn.SomeIs R g R 3):=Gn.someAt R g R 3 (by decide)
      have HSM2:Hid (Gn.SomeIs R g R 2):=Gn.someAt R g R 2 (by decide)
      obtain ⟨M2,HM2⟩:∃ M,Hid (7 * Gn.mb 2=M):=⟨_,(rfl:7 * Gn.mb 2=_)⟩
      obtain ⟨M3,HM3⟩:∃ M,Hid (7 * Gn.mb 3=M):=⟨_,(rfl:7 * Gn.mb 3=_)⟩
      have hM2:=Gn.m2_le HM2.out
      have hM3:=Gn.m3_le HM3.out
      obtain ⟨PB,HPB⟩:∃ q,Hid (P+100=q):=⟨_,(rfl:P+100=_)⟩
      have hPB:=Gn.pb_pb HPB.out hF3
      have hPB2:=Gn.pb_pb2 HPB.out hP
      have HPBP:=HPB.out
      have hPBP:PB≤P+100:=Nat.le_of_eq HPB.out.symm
      have hn1:=Gn.n_1 hn
      have hn2:=Gn.n_2 hn
      have hwn:=Gn.wr_n hn
      have bD:=Gn.pb4 (P:=P) hP hF3
      clear HPBP
      obtain ⟨P1,HP1⟩:∃ q,Hid (P+1+20 * F.length+1=q):=⟨_,(rfl:P+1+20 * F.length+1=_)⟩
      rw [HP1.out] at hPB bD
      have e0:Gn.Mk:=trivial
      clear ph
      go_wp2_with (first
    | (go_at_call 8
       have _t:=e0
       clear e0
       refine (Gn.pickS phm.st 6 (by decide) (by decide) bE).mono ?_
       rintro e w1 ⟨v6,rfl,hv6,hs1,hf1⟩
       have ph:=phm.fr hs1 hf1
       rw [HP1.out] at ph
       have hxf:=hf1.blk hxm0 (by decide)
       clear phm hs1 hf1 hxm0
       have hvv:=Gn.v6 hv6
       rcases hvv with rfl | hvv))
      · have hnl:n.toNat≤(F++[(⟨⟨#[109,97,105,110]⟩,.slice none 0 0,[],2⟩:Gn.Sg)]).length:=by rw [Gn.len_app,HFN.out];exact Nat.le_succ _
        have s0:w1.cell? ⟨bm,0,none⟩=some (.string ⟨#[109,97,105,110]⟩):=by rw [Lib.cell_of_heap hxf];rfl
        have s1:w1.cell? ⟨bm,1,none⟩=some (.slice none 0 0):=by rw [Lib.cell_of_heap hxf];rfl
        have s2:w1.cell? ⟨bm,2,none⟩=some (.int .i64 2):=by rw [Lib.cell_of_heap hxf];rfl
        have c2:=ph.st.cells.2.2.1
        have c2d:w1.drew.cell? ⟨g,2,none⟩=some fv:=c2
        refine wp_region_held_drew (S:=(fun W=>W.cell? ⟨bm,0,none⟩=some (.string ⟨#[109,97,105,110]⟩)∧W.cell? ⟨bm,1,none⟩=some (.slice none 0 0)∧W.cell? ⟨bm,2,none⟩=some (.int .i64 2))) (by kernel_rfl) (⟨s0,s1,s2⟩) (fun hHeld => ?_)
        refine Tk 0 (.pointer (some ⟨g,0,none⟩)) rfl ?_
        try simp [Act.put]
        refine Tk 1 (.pointer (some ⟨g,0,none⟩)) rfl ?_
        try simp [Act.put]
        refine Tk 2 (.pointer (some ⟨g,0,none⟩)) rfl ?_
        try simp [Act.put]
        refine Tk 3 (.pointer (some ⟨g,2,none⟩)) rfl ?_
        try simp [Act.put]
        refine Tk 5 (.agg #[.string ⟨#[109,97,105,110]⟩,.slice none 0 0,.int .i64 2]) rfl ?_
        try simp [Act.put]
        obtain ⟨V,hV⟩:∃ V,(w1.alloc (.cells #[.string ⟨#[109,97,105,110]⟩,.slice none 0 0,.int .i64 2] 124)).drew=V:=⟨_,rfl⟩
        have hbV:Below w1.heap.size w1 V:=by rw [← hV];exact ((Below.refl _ w1).alloc (Nat.le_refl _) _).drew
        have hxV:V.heap[w1.heap.size]? = some (.cells #[.string ⟨#[109,97,105,110]⟩,.slice none 0 0,.int .i64 2] 124):=by rw [← hV];exact World.alloc_heap_new w1 _
        have l0:V.cell? ⟨bm,0,none⟩=some (.string ⟨#[109,97,105,110]⟩):=by rw [← hV];exact Gn.ca s0
        have l1:V.cell? ⟨bm,1,none⟩=some (.slice none 0 0):=by rw [← hV];exact Gn.ca s1
        have l2:V.cell? ⟨bm,2,none⟩=some (.int .i64 2):=by rw [← hV];exact Gn.ca s2
        have l3:V.cell? ⟨g,2,none⟩=some fv:=by rw [← hV];exact Gn.ca c2
        refine wpAnyH_ready (rs:=[4,6]) (by kernel_rfl) (by simp) ?_
        refine AllReadyH.cons rfl (fun KK hK => ?_) (AllReadyH.cons rfl (fun KK hK => ?_) AllReadyH.nil)
        · go_simp
          refine hK.out _ _ (hHeld) (fun hHeld => ?_)
          clear hK
          try simp [Act.put]
          refine wpAnyH_ready (rs:=[6]) (by kernel_rfl) (by simp) ?_
          refine AllReadyH.cons rfl (fun KK hK => ?_) AllReadyH.nil
          go_simp
          try rw [hV]
          refine hK.out _ _ (⟨l0,l1,l2⟩) (fun hHeld => ?_)
          clear hK
          try simp [Act.put]
          refine wpAnyH_ready (rs:=[7]) (by kernel_rfl) (by simp) ?_
          refine AllReadyH.cons rfl (fun KK hK => ?_) AllReadyH.nil
          refine Gn.step_fn rfl _ _ rfl ph hF4 ⟨#[109,97,105,110]⟩ (.slice none 0 0) [] 2 ⟨by decide,by decide,Gn.ty2,by simp⟩ hbV (⟨rfl,.inl ⟨rfl,rfl⟩⟩) hxV rfl rfl ?_
          intro a7 c7 w7 hc7 ph8 hk7
          obtain ⟨y7,z7⟩:=hc7
          have hxf7:=(hk7 bm (Array.getElem?_eq_some_iff.1 hxf).1 (fun e=>Nat.lt_irrefl _ (HLM.out.1 _ e))).trans hxf
          have m0:w7.cell? ⟨bm,0,none⟩=some (.string ⟨#[109,97,105,110]⟩):=by rw [Lib.cell_of_heap hxf7];rfl
          have m1:w7.cell? ⟨bm,1,none⟩=some (.slice none 0 0):=by rw [Lib.cell_of_heap hxf7];rfl
          have m2:w7.cell? ⟨bm,2,none⟩=some (.int .i64 2):=by rw [Lib.cell_of_heap hxf7];rfl
          have hxf8:=(Gn.set_oth (w:=w7) (i:=2) (v:=.slice a7 (F.length+1) c7) (Nat.ne_of_gt hgm)).trans hxf7
          obtain ⟨V8,hV8⟩:∃ V,w7.setCell ⟨g,2,none⟩ (.slice a7 (F.length+1) c7)=V:=⟨_,rfl⟩
          rw [hV8] at ph8 hxf8
          have o0:V8.cell? ⟨bm,0,none⟩=some (.string ⟨#[109,97,105,110]⟩):=by rw [Lib.cell_of_heap hxf8];rfl
          have o1:V8.cell? ⟨bm,1,none⟩=some (.slice none 0 0):=by rw [Lib.cell_of_heap hxf8];rfl
          have o2:V8.cell? ⟨bm,2,none⟩=some (.int .i64 2):=by rw [Lib.cell_of_heap hxf8];rfl
          refine hK.out _ _ (⟨m0,m1,m2⟩) (fun hHeld => ?_)
          clear hK
          try simp [Act.put]
          refine Tk 8 (.pointer (some ⟨g,0,none⟩)) rfl ?_
          try simp [Act.put]
          refine Tk 9 (.pointer (some ⟨g,2,none⟩)) rfl ?_
          try simp [Act.put]
          refine wpAnyH_ready (rs:=[10]) (by kernel_rfl) (by simp) ?_
          refine AllReadyH.cons rfl (fun KK hK => ?_) AllReadyH.nil
          go_simp
          try rw [hV8]
          refine hK.out _ _ (⟨o0,o1,o2⟩) (fun hHeld => ?_)
          clear hK
          try simp [Act.put]
          refine wpAnyH_done (by kernel_rfl) ?_ _
          clear hHeld y7 z7 m0 m1 m2 o0 o1 o2 l0 l1 l2 l3 s0 s1 s2 c2 c2d hV hV8
          have ph:=ph8
          have hxm:=hxf8
          clear ph8 hxf8 hxf hxf7 hk7 hbV hxV
          generalize F++[(⟨⟨#[109,97,105,110]⟩,.slice none 0 0,[],2⟩:Gn.Sg)]=F2 at ph hnl
          generalize (Value.slice a7 (F.length+1) c7)=fv2 at ph
          obtain ⟨fa,fc,rfl⟩:=Gn.rowLen ph.row
          obtain ⟨fl,HFL⟩:∃ q,Hid (F2.length=q):=⟨_,(rfl:F2.length=_)⟩
          rw [HFL.out] at hnl
          obtain ⟨Vo,hVo⟩:∃ V,V8.alloc (.cells #[] 106)=V:=⟨_,rfl⟩
          have HRO:Hid (Gn.Row V8.heap.size Vo (.slice (some ⟨V8.heap.size,0,none⟩) 0 0) 0):=by rw [Hid,← hVo];exact Gn.empty_row V8
          have phO:=ph.below (Gn.below_new hVo)
          have HXM:Hid (V8.heap[bm]? = some (.cells #[.string ⟨#[109,97,105,110]⟩,.slice none 0 0,.int .i64 2] 124)):=hxm
          have hgz:g < V8.heap.size:=(Array.getElem?_eq_some_iff.1 ph.st.box).1
          have HFV:Hid (Gn.Fw R V0 V8):=ph.fw
          have hzw:w.heap.size≤V8.heap.size:=Nat.le_trans HF0.out.size ph.fw.size
          have hzo:V8.heap.size≤Vo.heap.size:=(Gn.below_new hVo).size
          have HFO:Hid (Gn.Fw R V8 Vo):=Gn.Fw.of_below (Gn.below_new hVo)
          rw [HFL.out] at phO
          have s0:Gn.Mk:=trivial
          try rw [hVo]
          clear hxm ph
          go_wp2_with (first
              | (go_at_call 8
                 have _t:=s0
                 clear s0
                 refine (Gn.pickS phO.st (n+1) hn1 hn2 bD).mono ?_
                 rintro e w2 ⟨at',rfl,hat,hs2,hf2⟩
                 have HR2:Hid (Gn.Row V8.heap.size w2 (.slice (some ⟨V8.heap.size,0,none⟩) 0 0) 0):=HRO.out.fr hf2
                 have HS2:=hs2
                 have HF2:Hid (Gn.Fw R V8 w2):=HFO.out.trans hf2.w
                 have hz2:=Nat.le_trans hzo hf2.size
                 clear phO hf2 hs2))
          go_loopw [11,13] (fun o i wr => ∃ (j:Int) (oa:Option Addr) (on oc:Nat) (nv:Value) (nl:List (ByteArray × Int)) (ret loops count sz:Int),(0≤j∧j≤n)∧i = .int .i64 j∧o = .slice oa on oc∧Gn.Row V8.heap.size wr (.slice oa on oc) (Gn.kq M2 M3 at' j)∧Gn.St R g R (PB+Gn.kq M2 M3 at' j) wr nv nl (.slice fa fl fc) F2 ret loops count sz∧Gn.Fw R V8 wr) (fun _ i _=>(n - intOf i).toNat)
          case atStart=>exact ⟨0,_,_,_,_,_,_,_,_,_,⟨by decide,hn.1⟩,rfl,rfl,HR2.out.mono (Nat.le_refl _) (Nat.zero_le _),HS2.mono (Gn.kq_lo hPB _ _ _ _),HF2.out⟩
          case round =>
            obtain ⟨j,oa,on,oc,nv,nl,ret,loops,count,sz,hj,rfl,rfl,hro,hs,hf⟩:=hrel
            have hz:=hf.size
            have hxw:=hf.blk HXM.out (by decide)
            have d0:wr.cell? ⟨bm,0,none⟩=some (.string ⟨#[109,97,105,110]⟩):=by rw [Lib.cell_of_heap hxw];rfl
            have d1:wr.cell? ⟨bm,1,none⟩=some (.slice none 0 0):=by rw [Lib.cell_of_heap hxw];rfl
            have d2:wr.cell? ⟨bm,2,none⟩=some (.int .i64 2):=by rw [Lib.cell_of_heap hxw];rfl
            have c2:=hs.cells.2.2.1
            have bF:=Gn.kq_fn3 (a:=at') hPB2 hM2 hM3 hj hn
            have bK:=Gn.kq_k3 (a:=at') hM2 hM3 hj hn
            by_cases hjn:j < n
            · have hwj:=Gn.wr_j hj hn
              have hjl:j < (fl:Int):=Gn.j_fl hj hnl hjn
              obtain ⟨k,hk⟩:∃ k,j.toNat=k:=⟨_,rfl⟩
              have hkl:k < fl:=Gn.k_fl hj hjl hk
              have hkF:k < F2.length:=by rw [HFL.out];exact hkl
              obtain ⟨fb,rfl,-,-,-⟩:=Gn.fn_cell hs.fns.row HFL.out k hkl
              obtain ⟨sg,hsg⟩:∃ s,F2[k]=s:=⟨_,rfl⟩
              have hsm:sg ∈ F2:=by rw [← hsg];exact List.getElem_mem hkF
              by_cases hja:j=at'
              · have bF3:=Gn.kq_f3 (a:=at') hPB2 hM2 hM3 HM3.out hj hn
                have bK3:=Gn.kq_k3 (a:=at') hM2 hM3 hj hn
                have bF4:=Gn.kq_f4 (a:=at') hPB2 hM2 hM3 HM2.out hj hn
                have bK4:=Gn.kq_k4 (a:=at') hM2 hM3 hj hn
                subst hja
                have u0:Gn.Mk:=trivial
                go_wp2_with (first
                    | (go_at_call 82
                       have _t:=u0
                       clear u0
                       refine (Gn.fn_any R g R 3 HSM3 3 (by decide) rfl ⟨#[109,97,105,110]⟩ (.slice none 0 0) [] 2 hs ⟨rfl,.inl ⟨rfl,rfl⟩⟩ (by decide) (by decide) Gn.ty2 (by simp) bF3).mono ?_
                       rintro e w3 ⟨a3,n3,c3,nv3,nl3,cnt3,sz3,rfl,hr3,hs3,hf3⟩
                       rw [HM3.out] at hr3 hs3
                       have u1:Gn.Mk:=trivial)
                    | (at_builtin
                       have _t:=u1
                       clear u1
                       refine Gn.wp_rows rfl _ _ rfl rfl rfl (hro.fw hf3) hr3 (Nat.le_trans hz hf3.size) bK3 ?_
                       intro a4 n4 c4 w4 hr4 hfr4 hst4
                       have hs4:=hst4 _ _ _ _ _ _ _ _ _ _ _ _ hgz hs3
                       have hf4:=hfr4 R V8 (Nat.le_refl _) (hf.trans hf3)
                       have hz4:=hf4.size
                       have c2:=hs4.cells.2.2.1
                       obtain ⟨fb',e',q0,q1,q2⟩:=Gn.fn_cell hs4.fns.row HFL.out k hkl
                       injection e' with e';injection e' with e';subst e'
                       rw [hsg] at q0 q1 q2
                       clear hst4 hfr4 hs3 hr3 hf3 d0 d1 d2
                       have u2:Gn.Mk:=trivial)
                    | (go_at_call 82
                       have _t:=u2
                       clear u2
                       refine (Gn.fn_any R g R 2 HSM2 2 (by decide) rfl sg.name sg.pv sg.params sg.result hs4 (hs4.fns.par sg hsm) (hs4.fns.bd.2 sg hsm).1 (hs4.fns.bd.2 sg hsm).2.1 (hs4.fns.bd.2 sg hsm).2.2.1 (hs4.fns.bd.2 sg hsm).2.2.2 bF4).mono ?_
                       rintro e w5 ⟨a5,n5,c5,nv5,nl5,cnt5,sz5,rfl,hr5,hs5,hf5⟩
                       rw [HM2.out] at hr5 hs5
                       have u3:Gn.Mk:=trivial)
                    | (at_builtin
                       have _t:=u3
                       clear u3
                       refine Gn.wp_rows rfl _ _ rfl rfl rfl (hr4.fw hf5) hr5 (Nat.le_trans hz4 hf5.size) bK4 ?_
                       intro a6 n6 c6 w6 hr6 hfr6 hst6
                       have hs6:=hst6 _ _ _ _ _ _ _ _ _ _ _ _ hgz hs5
                       have hf6:=hfr6 R V8 (Nat.le_refl _) (hf4.trans hf5)
                       clear hst6 hfr6 hs5 hr5 hf5 q0 q1 q2 c2))
                go_roundw
                case rel=>exact ⟨j+1,a6,n6,c6,_,_,_,_,_,_,Gn.j_up hj hjn,rfl,rfl,by rw [← Gn.kq_eq M2 M3 j hj.1];exact hr6,by rw [← Gn.kq_eq M2 M3 j hj.1,← Nat.add_assoc,← Nat.add_assoc];exact hs6,hf6⟩
                case measure=>simp [intOf];omega
              · have bF4:=Gn.kq_f5 (a:=at') hPB2 hM2 hM3 HM2.out hj hn
                have bK4:=Gn.kq_k5 (a:=at') hM2 hM3 hj hn
                obtain ⟨fb',e',q0,q1,q2⟩:=Gn.fn_cell hs.fns.row HFL.out k hkl
                injection e' with e';injection e' with e';subst e'
                rw [hsg] at q0 q1 q2
                have u2:Gn.Mk:=trivial
                go_wp2_with (first
                    | (go_at_call 82
                       have _t:=u2
                       clear u2
                       refine (Gn.fn_any R g R 2 HSM2 2 (by decide) rfl sg.name sg.pv sg.params sg.result hs (hs.fns.par sg hsm) (hs.fns.bd.2 sg hsm).1 (hs.fns.bd.2 sg hsm).2.1 (hs.fns.bd.2 sg hsm).2.2.1 (hs.fns.bd.2 sg hsm).2.2.2 bF4).mono ?_
                       rintro e w5 ⟨a5,n5,c5,nv5,nl5,cnt5,sz5,rfl,hr5,hs5,hf5⟩
                       rw [HM2.out] at hr5 hs5
                       have u3:Gn.Mk:=trivial)
                    | (at_builtin
                       have _t:=u3
                       clear u3
                       refine Gn.wp_rows rfl _ _ rfl rfl rfl (hro.fw hf5) hr5 (Nat.le_trans hz hf5.size) bK4 ?_
                       intro a6 n6 c6 w6 hr6 hfr6 hst6
                       have hs6:=hst6 _ _ _ _ _ _ _ _ _ _ _ _ hgz hs5
                       have hf6:=hfr6 R V8 (Nat.le_refl _) (hf.trans hf5)
                       clear hst6 hfr6 hs5 hr5 hf5 q0 q1 q2 c2))
                go_roundw
                case rel=>exact ⟨j+1,a6,n6,c6,_,_,_,_,_,_,Gn.j_up hj hjn,rfl,rfl,by rw [← Gn.kq_ne M2 M3 j hj.1 hja];exact hr6,by rw [← Gn.kq_ne M2 M3 j hj.1 hja,← Nat.add_assoc];exact hs6,hf6⟩
                case measure=>simp [intOf];omega
            · obtain rfl:=Gn.j_n hj hjn
              by_cases hna:j=at'
              · subst hna
                have bF3:=Gn.kq_f3 (a:=j) hPB2 hM2 hM3 HM3.out hj hn
                have bK3:=Gn.kq_k3 (a:=j) hM2 hM3 hj hn
                have bK4:=Gn.kq_k6 (a:=j) hM2 hM3 hj hn
                have bQ:=Gn.kq_q1 hM2 hM3 hj hn
                have bR:=Gn.kq_r1 hPBP hM2 hM3 hj hn
                have x0:Gn.Mk:=trivial
                go_wp2_with (first
                    | (go_at_call 82
                       have _t:=x0
                       clear x0
                       refine (Gn.fn_any R g R 3 HSM3 3 (by decide) rfl ⟨#[109,97,105,110]⟩ (.slice none 0 0) [] 2 hs ⟨rfl,.inl ⟨rfl,rfl⟩⟩ (by decide) (by decide) Gn.ty2 (by simp) bF3).mono ?_
                       rintro e w3 ⟨a3,n3,c3,nv3,nl3,cnt3,sz3,rfl,hr3,hs3,hf3⟩
                       rw [HM3.out] at hr3 hs3
                       have x1:Gn.Mk:=trivial)
                    | (at_builtin
                       have _t:=x1
                       clear x1
                       refine Gn.wp_rows rfl _ _ rfl rfl rfl (hro.fw hf3) hr3 (Nat.le_trans hz hf3.size) bK3 ?_
                       intro a4 n4 c4 w4 hr4 hfr4 hst4
                       have hs4:=hst4 _ _ _ _ _ _ _ _ _ _ _ _ hgz hs3
                       have hf4:=hfr4 R V8 (Nat.le_refl _) (hf.trans hf3)
                       have hz4:=hf4.size
                       clear hst4 hfr4 hs3 hr3 hf3 d0 d1 d2 c2
                       have x2:Gn.Mk:=trivial)
                    | (at_builtin
                       have _t:=x2
                       clear x2
                       refine Gn.wp_rows rfl _ _ rfl rfl rfl (hr4.fw (Gn.Fw.of_below (B:=R) (Gn.below_al w4 _))) (Gn.new_one w4 ⟨24,0,0,0,⟨#[]⟩,_⟩ Gn.no_text) (Nat.le_trans hz4 (Gn.below_al w4 _).size) bK4 ?_
                       intro a9 n9 c9 w9 hr9 hfr9 hst9
                       have hs9:=hst9 _ _ _ _ _ _ _ _ _ _ _ _ hgz (hs4.below (Gn.below_al w4 _))
                       have hf9:=hfr9 R V8 (Nat.le_refl _) (hf4.trans (Gn.Fw.of_below (Gn.below_al w4 _)))
                       have hfV:=HFV.out.trans hf9
                       have hT:=hfV.blk HT0.out (by decide)
                       have y9:w9.cell? ⟨w.heap.size,0,none⟩=some (.slice none 0 0):=by rw [Lib.cell_of_heap hT];rfl
                       have z9:w9.frozen? ⟨w.heap.size,0,none⟩=false:=by simp [World.frozen?,hT]
                       have hr9:=hr9.mono hzw bQ
                       have hs9:=hs9.mono bR
                       clear hst9 hfr9))
                have hT9:(w9.setCell ⟨w.heap.size,0,none⟩ (.slice a9 n9 c9)).cell? ⟨w.heap.size,0,none⟩=some (.slice a9 n9 c9):=by rw [Lib.cell_of_heap (Gn.set_same hT)];rfl
                exact bodyPost_ret (v:=.agg #[.slice a9 n9 c9]) (by simp [results,Tryz.results64,go_sem,hT9]) rfl (Gn.prog_end hs9 hr9 (HF0.out.trans hfV) hT hRw)
              · have bK4:=Gn.kq_k7 (a:=at') hM2 hM3 hj hn
                have bQ:=Gn.kq_q2 (a:=at') hM2 hM3 hj hn
                have bR:=Gn.kq_r2 (a:=at') hPBP hM2 hM3 hj hn
                have x2:Gn.Mk:=trivial
                go_wp2_with (first
                    | (at_builtin
                       have _t:=x2
                       clear x2
                       refine Gn.wp_rows rfl _ _ rfl rfl rfl (hro.fw (Gn.Fw.of_below (B:=R) (Gn.below_al wr _))) (Gn.new_one wr ⟨24,0,0,0,⟨#[]⟩,_⟩ Gn.no_text) (Nat.le_trans hz (Gn.below_al wr _).size) bK4 ?_
                       intro a9 n9 c9 w9 hr9 hfr9 hst9
                       have hs9:=hst9 _ _ _ _ _ _ _ _ _ _ _ _ hgz (hs.below (Gn.below_al wr _))
                       have hf9:=hfr9 R V8 (Nat.le_refl _) (hf.trans (Gn.Fw.of_below (Gn.below_al wr _)))
                       have hfV:=HFV.out.trans hf9
                       have hT:=hfV.blk HT0.out (by decide)
                       have y9:w9.cell? ⟨w.heap.size,0,none⟩=some (.slice none 0 0):=by rw [Lib.cell_of_heap hT];rfl
                       have z9:w9.frozen? ⟨w.heap.size,0,none⟩=false:=by simp [World.frozen?,hT]
                       have hr9:=hr9.mono hzw bQ
                       have hs9:=hs9.mono bR
                       clear hst9 hfr9))
                have hT9:(w9.setCell ⟨w.heap.size,0,none⟩ (.slice a9 n9 c9)).cell? ⟨w.heap.size,0,none⟩=some (.slice a9 n9 c9):=by rw [Lib.cell_of_heap (Gn.set_same hT)];rfl
                exact bodyPost_ret (v:=.agg #[.slice a9 n9 c9]) (by simp [results,Tryz.results64,go_sem,hT9]) rfl (Gn.prog_end hs9 hr9 (HF0.out.trans hfV) hT hRw)
        · go_simp
          try rw [hV]
          refine hK.out _ _ (⟨l0,l1,l2⟩) (fun hHeld => ?_)
          clear hK
          try simp [Act.put]
          refine wpAnyH_ready (rs:=[4]) (by kernel_rfl) (by simp) ?_
          refine AllReadyH.cons rfl (fun KK hK => ?_) AllReadyH.nil
          go_simp
          refine hK.out _ _ (⟨l0,l1,l2⟩) (fun hHeld => ?_)
          clear hK
          try simp [Act.put]
          refine wpAnyH_ready (rs:=[7]) (by kernel_rfl) (by simp) ?_
          refine AllReadyH.cons rfl (fun KK hK => ?_) AllReadyH.nil
          refine Gn.step_fn rfl _ _ rfl ph hF4 ⟨#[109,97,105,110]⟩ (.slice none 0 0) [] 2 ⟨by decide,by decide,Gn.ty2,by simp⟩ hbV (⟨rfl,.inl ⟨rfl,rfl⟩⟩) hxV rfl rfl ?_
          intro a7 c7 w7 hc7 ph8 hk7
          obtain ⟨y7,z7⟩:=hc7
          have hxf7:=(hk7 bm (Array.getElem?_eq_some_iff.1 hxf).1 (fun e=>Nat.lt_irrefl _ (HLM.out.1 _ e))).trans hxf
          have m0:w7.cell? ⟨bm,0,none⟩=some (.string ⟨#[109,97,105,110]⟩):=by rw [Lib.cell_of_heap hxf7];rfl
          have m1:w7.cell? ⟨bm,1,none⟩=some (.slice none 0 0):=by rw [Lib.cell_of_heap hxf7];rfl
          have m2:w7.cell? ⟨bm,2,none⟩=some (.int .i64 2):=by rw [Lib.cell_of_heap hxf7];rfl
          have hxf8:=(Gn.set_oth (w:=w7) (i:=2) (v:=.slice a7 (F.length+1) c7) (Nat.ne_of_gt hgm)).trans hxf7
          obtain ⟨V8,hV8⟩:∃ V,w7.setCell ⟨g,2,none⟩ (.slice a7 (F.length+1) c7)=V:=⟨_,rfl⟩
          rw [hV8] at ph8 hxf8
          have o0:V8.cell? ⟨bm,0,none⟩=some (.string ⟨#[109,97,105,110]⟩):=by rw [Lib.cell_of_heap hxf8];rfl
          have o1:V8.cell? ⟨bm,1,none⟩=some (.slice none 0 0):=by rw [Lib.cell_of_heap hxf8];rfl
          have o2:V8.cell? ⟨bm,2,none⟩=some (.int .i64 2):=by rw [Lib.cell_of_heap hxf8];rfl
          refine hK.out _ _ (⟨m0,m1,m2⟩) (fun hHeld => ?_)
          clear hK
          try simp [Act.put]
          refine Tk 8 (.pointer (some ⟨g,0,none⟩)) rfl ?_
          try simp [Act.put]
          refine Tk 9 (.pointer (some ⟨g,2,none⟩)) rfl ?_
          try simp [Act.put]
          refine wpAnyH_ready (rs:=[10]) (by kernel_rfl) (by simp) ?_
          refine AllReadyH.cons rfl (fun KK hK => ?_) AllReadyH.nil
          go_simp
          try rw [hV8]
          refine hK.out _ _ (⟨o0,o1,o2⟩) (fun hHeld => ?_)
          clear hK
          try simp [Act.put]
          refine wpAnyH_done (by kernel_rfl) ?_ _
          clear hHeld y7 z7 m0 m1 m2 o0 o1 o2 l0 l1 l2 l3 s0 s1 s2 c2 c2d hV hV8
          have ph:=ph8
          have hxm:=hxf8
          clear ph8 hxf8 hxf hxf7 hk7 hbV hxV
          generalize F++[(⟨⟨#[109,97,105,110]⟩,.slice none 0 0,[],2⟩:Gn.Sg)]=F2 at ph hnl
          generalize (Value.slice a7 (F.length+1) c7)=fv2 at ph
          obtain ⟨fa,fc,rfl⟩:=Gn.rowLen ph.row
          obtain ⟨fl,HFL⟩:∃ q,Hid (F2.length=q):=⟨_,(rfl:F2.length=_)⟩
          rw [HFL.out] at hnl
          obtain ⟨Vo,hVo⟩:∃ V,V8.alloc (.cells #[] 106)=V:=⟨_,rfl⟩
          have HRO:Hid (Gn.Row V8.heap.size Vo (.slice (some ⟨V8.heap.size,0,none⟩) 0 0) 0):=by rw [Hid,← hVo];exact Gn.empty_row V8
          have phO:=ph.below (Gn.below_new hVo)
          have HXM:Hid (V8.heap[bm]? = some (.cells #[.string ⟨#[109,97,105,110]⟩,.slice none 0 0,.int .i64 2] 124)):=hxm
          have hgz:g < V8.heap.size:=(Array.getElem?_eq_some_iff.1 ph.st.box).1
          have HFV:Hid (Gn.Fw R V0 V8):=ph.fw
          have hzw:w.heap.size≤V8.heap.size:=Nat.le_trans HF0.out.size ph.fw.size
          have hzo:V8.heap.size≤Vo.heap.size:=(Gn.below_new hVo).size
          have HFO:Hid (Gn.Fw R V8 Vo):=Gn.Fw.of_below (Gn.below_new hVo)
          rw [HFL.out] at phO
          have s0:Gn.Mk:=trivial
          try rw [hVo]
          clear hxm ph
          go_wp2_with (first
              | (go_at_call 8
                 have _t:=s0
                 clear s0
                 refine (Gn.pickS phO.st (n+1) hn1 hn2 bD).mono ?_
                 rintro e w2 ⟨at',rfl,hat,hs2,hf2⟩
                 have HR2:Hid (Gn.Row V8.heap.size w2 (.slice (some ⟨V8.heap.size,0,none⟩) 0 0) 0):=HRO.out.fr hf2
                 have HS2:=hs2
                 have HF2:Hid (Gn.Fw R V8 w2):=HFO.out.trans hf2.w
                 have hz2:=Nat.le_trans hzo hf2.size
                 clear phO hf2 hs2))
          go_loopw [11,13] (fun o i wr => ∃ (j:Int) (oa:Option Addr) (on oc:Nat) (nv:Value) (nl:List (ByteArray × Int)) (ret loops count sz:Int),(0≤j∧j≤n)∧i = .int .i64 j∧o = .slice oa on oc∧Gn.Row V8.heap.size wr (.slice oa on oc) (Gn.kq M2 M3 at' j)∧Gn.St R g R (PB+Gn.kq M2 M3 at' j) wr nv nl (.slice fa fl fc) F2 ret loops count sz∧Gn.Fw R V8 wr) (fun _ i _=>(n - intOf i).toNat)
          case atStart=>exact ⟨0,_,_,_,_,_,_,_,_,_,⟨by decide,hn.1⟩,rfl,rfl,HR2.out.mono (Nat.le_refl _) (Nat.zero_le _),HS2.mono (Gn.kq_lo hPB _ _ _ _),HF2.out⟩
          case round =>
            obtain ⟨j,oa,on,oc,nv,nl,ret,loops,count,sz,hj,rfl,rfl,hro,hs,hf⟩:=hrel
            have hz:=hf.size
            have hxw:=hf.blk HXM.out (by decide)
            have d0:wr.cell? ⟨bm,0,none⟩=some (.string ⟨#[109,97,105,110]⟩):=by rw [Lib.cell_of_heap hxw];rfl
            have d1:wr.cell? ⟨bm,1,none⟩=some (.slice none 0 0):=by rw [Lib.cell_of_heap hxw];rfl
            have d2:wr.cell? ⟨bm,2,none⟩=some (.int .i64 2):=by rw [Lib.cell_of_heap hxw];rfl
            have c2:=hs.cells.2.2.1
            have bF:=Gn.kq_fn3 (a:=at') hPB2 hM2 hM3 hj hn
            have bK:=Gn.kq_k3 (a:=at') hM2 hM3 hj hn
            by_cases hjn:j < n
            · have hwj:=Gn.wr_j hj hn
              have hjl:j < (fl:Int):=Gn.j_fl hj hnl hjn
              obtain ⟨k,hk⟩:∃ k,j.toNat=k:=⟨_,rfl⟩
              have hkl:k < fl:=Gn.k_fl hj hjl hk
              have hkF:k < F2.length:=by rw [HFL.out];exact hkl
              obtain ⟨fb,rfl,-,-,-⟩:=Gn.fn_cell hs.fns.row HFL.out k hkl
              obtain ⟨sg,hsg⟩:∃ s,F2[k]=s:=⟨_,rfl⟩
              have hsm:sg ∈ F2:=by rw [← hsg];exact List.getElem_mem hkF
              by_cases hja:j=at'
              · have bF3:=Gn.kq_f3 (a:=at') hPB2 hM2 hM3 HM3.out hj hn
                have bK3:=Gn.kq_k3 (a:=at') hM2 hM3 hj hn
                have bF4:=Gn.kq_f4 (a:=at') hPB2 hM2 hM3 HM2.out hj hn
                have bK4:=Gn.kq_k4 (a:=at') hM2 hM3 hj hn
                subst hja
                have u0:Gn.Mk:=trivial
                go_wp2_with (first
                    | (go_at_call 82
                       have _t:=u0
                       clear u0
                       refine (Gn.fn_any R g R 3 HSM3 3 (by decide) rfl ⟨#[109,97,105,110]⟩ (.slice none 0 0) [] 2 hs ⟨rfl,.inl ⟨rfl,rfl⟩⟩ (by decide) (by decide) Gn.ty2 (by simp) bF3).mono ?_
                       rintro e w3 ⟨a3,n3,c3,nv3,nl3,cnt3,sz3,rfl,hr3,hs3,hf3⟩
                       rw [HM3.out] at hr3 hs3
                       have u1:Gn.Mk:=trivial)
                    | (at_builtin
                       have _t:=u1
                       clear u1
                       refine Gn.wp_rows rfl _ _ rfl rfl rfl (hro.fw hf3) hr3 (Nat.le_trans hz hf3.size) bK3 ?_
                       intro a4 n4 c4 w4 hr4 hfr4 hst4
                       have hs4:=hst4 _ _ _ _ _ _ _ _ _ _ _ _ hgz hs3
                       have hf4:=hfr4 R V8 (Nat.le_refl _) (hf.trans hf3)
                       have hz4:=hf4.size
                       have c2:=hs4.cells.2.2.1
                       obtain ⟨fb',e',q0,q1,q2⟩:=Gn.fn_cell hs4.fns.row HFL.out k hkl
                       injection e' with e';injection e' with e';subst e'
                       rw [hsg] at q0 q1 q2
                       clear hst4 hfr4 hs3 hr3 hf3 d0 d1 d2
                       have u2:Gn.Mk:=trivial)
                    | (go_at_call 82
                       have _t:=u2
                       clear u2
                       refine (Gn.fn_any R g R 2 HSM2 2 (by decide) rfl sg.name sg.pv sg.params sg.result hs4 (hs4.fns.par sg hsm) (hs4.fns.bd.2 sg hsm).1 (hs4.fns.bd.2 sg hsm).2.1 (hs4.fns.bd.2 sg hsm).2.2.1 (hs4.fns.bd.2 sg hsm).2.2.2 bF4).mono ?_
                       rintro e w5 ⟨a5,n5,c5,nv5,nl5,cnt5,sz5,rfl,hr5,hs5,hf5⟩
                       rw [HM2.out] at hr5 hs5
                       have u3:Gn.Mk:=trivial)
                    | (at_builtin
                       have _t:=u3
                       clear u3
                       refine Gn.wp_rows rfl _ _ rfl rfl rfl (hr4.fw hf5) hr5 (Nat.le_trans hz4 hf5.size) bK4 ?_
                       intro a6 n6 c6 w6 hr6 hfr6 hst6
                       have hs6:=hst6 _ _ _ _ _ _ _ _ _ _ _ _ hgz hs5
                       have hf6:=hfr6 R V8 (Nat.le_refl _) (hf4.trans hf5)
                       clear hst6 hfr6 hs5 hr5 hf5 q0 q1 q2 c2))
                go_roundw
                case rel=>exact ⟨j+1,a6,n6,c6,_,_,_,_,_,_,Gn.j_up hj hjn,rfl,rfl,by rw [← Gn.kq_eq M2 M3 j hj.1];exact hr6,by rw [← Gn.kq_eq M2 M3 j hj.1,← Nat.add_assoc,← Nat.add_assoc];exact hs6,hf6⟩
                case measure=>simp [intOf];omega
              · have bF4:=Gn.kq_f5 (a:=at') hPB2 hM2 hM3 HM2.out hj hn
                have bK4:=Gn.kq_k5 (a:=at') hM2 hM3 hj hn
                obtain ⟨fb',e',q0,q1,q2⟩:=Gn.fn_cell hs.fns.row HFL.out k hkl
                injection e' with e';injection e' with e';subst e'
                rw [hsg] at q0 q1 q2
                have u2:Gn.Mk:=trivial
                go_wp2_with (first
                    | (go_at_call 82
                       have _t:=u2
                       clear u2
                       refine (Gn.fn_any R g R 2 HSM2 2 (by decide) rfl sg.name sg.pv sg.params sg.result hs (hs.fns.par sg hsm) (hs.fns.bd.2 sg hsm).1 (hs.fns.bd.2 sg hsm).2.1 (hs.fns.bd.2 sg hsm).2.2.1 (hs.fns.bd.2 sg hsm).2.2.2 bF4).mono ?_
                       rintro e w5 ⟨a5,n5,c5,nv5,nl5,cnt5,sz5,rfl,hr5,hs5,hf5⟩
                       rw [HM2.out] at hr5 hs5
                       have u3:Gn.Mk:=trivial)
                    | (at_builtin
                       have _t:=u3
                       clear u3
                       refine Gn.wp_rows rfl _ _ rfl rfl rfl (hro.fw hf5) hr5 (Nat.le_trans hz hf5.size) bK4 ?_
                       intro a6 n6 c6 w6 hr6 hfr6 hst6
                       have hs6:=hst6 _ _ _ _ _ _ _ _ _ _ _ _ hgz hs5
                       have hf6:=hfr6 R V8 (Nat.le_refl _) (hf.trans hf5)
                       clear hst6 hfr6 hs5 hr5 hf5 q0 q1 q2 c2))
                go_roundw
                case rel=>exact ⟨j+1,a6,n6,c6,_,_,_,_,_,_,Gn.j_up hj hjn,rfl,rfl,by rw [← Gn.kq_ne M2 M3 j hj.1 hja];exact hr6,by rw [← Gn.kq_ne M2 M3 j hj.1 hja,← Nat.add_assoc];exact hs6,hf6⟩
                case measure=>simp [intOf];omega
            · obtain rfl:=Gn.j_n hj hjn
              by_cases hna:j=at'
              · subst hna
                have bF3:=Gn.kq_f3 (a:=j) hPB2 hM2 hM3 HM3.out hj hn
                have bK3:=Gn.kq_k3 (a:=j) hM2 hM3 hj hn
                have bK4:=Gn.kq_k6 (a:=j) hM2 hM3 hj hn
                have bQ:=Gn.kq_q1 hM2 hM3 hj hn
                have bR:=Gn.kq_r1 hPBP hM2 hM3 hj hn
                have x0:Gn.Mk:=trivial
                go_wp2_with (first
                    | (go_at_call 82
                       have _t:=x0
                       clear x0
                       refine (Gn.fn_any R g R 3 HSM3 3 (by decide) rfl ⟨#[109,97,105,110]⟩ (.slice none 0 0) [] 2 hs ⟨rfl,.inl ⟨rfl,rfl⟩⟩ (by decide) (by decide) Gn.ty2 (by simp) bF3).mono ?_
                       rintro e w3 ⟨a3,n3,c3,nv3,nl3,cnt3,sz3,rfl,hr3,hs3,hf3⟩
                       rw [HM3.out] at hr3 hs3
                       have x1:Gn.Mk:=trivial)
                    | (at_builtin
                       have _t:=x1
                       clear x1
                       refine Gn.wp_rows rfl _ _ rfl rfl rfl (hro.fw hf3) hr3 (Nat.le_trans hz hf3.size) bK3 ?_
                       intro a4 n4 c4 w4 hr4 hfr4 hst4
                       have hs4:=hst4 _ _ _ _ _ _ _ _ _ _ _ _ hgz hs3
                       have hf4:=hfr4 R V8 (Nat.le_refl _) (hf.trans hf3)
                       have hz4:=hf4.size
                       clear hst4 hfr4 hs3 hr3 hf3 d0 d1 d2 c2
                       have x2:Gn.Mk:=trivial)
                    | (at_builtin
                       have _t:=x2
                       clear x2
                       refine Gn.wp_rows rfl _ _ rfl rfl rfl (hr4.fw (Gn.Fw.of_below (B:=R) (Gn.below_al w4 _))) (Gn.new_one w4 ⟨24,0,0,0,⟨#[]⟩,_⟩ Gn.no_text) (Nat.le_trans hz4 (Gn.below_al w4 _).size) bK4 ?_
                       intro a9 n9 c9 w9 hr9 hfr9 hst9
                       have hs9:=hst9 _ _ _ _ _ _ _ _ _ _ _ _ hgz (hs4.below (Gn.below_al w4 _))
                       have hf9:=hfr9 R V8 (Nat.le_refl _) (hf4.trans (Gn.Fw.of_below (Gn.below_al w4 _)))
                       have hfV:=HFV.out.trans hf9
                       have hT:=hfV.blk HT0.out (by decide)
                       have y9:w9.cell? ⟨w.heap.size,0,none⟩=some (.slice none 0 0):=by rw [Lib.cell_of_heap hT];rfl
                       have z9:w9.frozen? ⟨w.heap.size,0,none⟩=false:=by simp [World.frozen?,hT]
                       have hr9:=hr9.mono hzw bQ
                       have hs9:=hs9.mono bR
                       clear hst9 hfr9))
                have hT9:(w9.setCell ⟨w.heap.size,0,none⟩ (.slice a9 n9 c9)).cell? ⟨w.heap.size,0,none⟩=some (.slice a9 n9 c9):=by rw [Lib.cell_of_heap (Gn.set_same hT)];rfl
                exact bodyPost_ret (v:=.agg #[.slice a9 n9 c9]) (by simp [results,Tryz.results64,go_sem,hT9]) rfl (Gn.prog_end hs9 hr9 (HF0.out.trans hfV) hT hRw)
              · have bK4:=Gn.kq_k7 (a:=at') hM2 hM3 hj hn
                have bQ:=Gn.kq_q2 (a:=at') hM2 hM3 hj hn
                have bR:=Gn.kq_r2 (a:=at') hPBP hM2 hM3 hj hn
                have x2:Gn.Mk:=trivial
                go_wp2_with (first
                    | (at_builtin
                       have _t:=x2
                       clear x2
                       refine Gn.wp_rows rfl _ _ rfl rfl rfl (hro.fw (Gn.Fw.of_below (B:=R) (Gn.below_al wr _))) (Gn.new_one wr ⟨24,0,0,0,⟨#[]⟩,_⟩ Gn.no_text) (Nat.le_trans hz (Gn.below_al wr _).size) bK4 ?_
                       intro a9 n9 c9 w9 hr9 hfr9 hst9
                       have hs9:=hst9 _ _ _ _ _ _ _ _ _ _ _ _ hgz (hs.below (Gn.below_al wr _))
                       have hf9:=hfr9 R V8 (Nat.le_refl _) (hf.trans (Gn.Fw.of_below (Gn.below_al wr _)))
                       have hfV:=HFV.out.trans hf9
                       have hT:=hfV.blk HT0.out (by decide)
                       have y9:w9.cell? ⟨w.heap.size,0,none⟩=some (.slice none 0 0):=by rw [Lib.cell_of_heap hT];rfl
                       have z9:w9.frozen? ⟨w.heap.size,0,none⟩=false:=by simp [World.frozen?,hT]
                       have hr9:=hr9.mono hzw bQ
                       have hs9:=hs9.mono bR
                       clear hst9 hfr9))
                have hT9:(w9.setCell ⟨w.heap.size,0,none⟩ (.slice a9 n9 c9)).cell? ⟨w.heap.size,0,none⟩=some (.slice a9 n9 c9):=by rw [Lib.cell_of_heap (Gn.set_same hT)];rfl
                exact bodyPost_ret (v:=.agg #[.slice a9 n9 c9]) (by simp [results,Tryz.results64,go_sem,hT9]) rfl (Gn.prog_end hs9 hr9 (HF0.out.trans hfV) hT hRw)
      · have hnl:n.toNat≤F.length:=Nat.le_of_eq HFN.out.symm
        have hxm:=hxf
        clear hxf
        obtain ⟨fa,fc,rfl⟩:=Gn.rowLen ph.row
        obtain ⟨fl,HFL⟩:∃ q,Hid (F.length=q):=⟨_,(rfl:F.length=_)⟩
        rw [HFL.out] at hnl
        obtain ⟨Vo,hVo⟩:∃ V,w1.alloc (.cells #[] 106)=V:=⟨_,rfl⟩
        have HRO:Hid (Gn.Row w1.heap.size Vo (.slice (some ⟨w1.heap.size,0,none⟩) 0 0) 0):=by rw [Hid,← hVo];exact Gn.empty_row w1
        have phO:=ph.below (Gn.below_new hVo)
        have HXM:Hid (w1.heap[bm]? = some (.cells #[.string ⟨#[109,97,105,110]⟩,.slice none 0 0,.int .i64 2] 124)):=hxm
        have hgz:g < w1.heap.size:=(Array.getElem?_eq_some_iff.1 ph.st.box).1
        have HFV:Hid (Gn.Fw R V0 w1):=ph.fw
        have hzw:w.heap.size≤w1.heap.size:=Nat.le_trans HF0.out.size ph.fw.size
        have hzo:w1.heap.size≤Vo.heap.size:=(Gn.below_new hVo).size
        have HFO:Hid (Gn.Fw R w1 Vo):=Gn.Fw.of_below (Gn.below_new hVo)
        rw [HFL.out] at phO
        have s0:Gn.Mk:=trivial
        try rw [hVo]
        clear hxm ph
        go_wp2_with (first
            | (go_at_call 8
               have _t:=s0
               clear s0
               refine (Gn.pickS phO.st (n+1) hn1 hn2 bD).mono ?_
               rintro e w2 ⟨at',rfl,hat,hs2,hf2⟩
               have HR2:Hid (Gn.Row w1.heap.size w2 (.slice (some ⟨w1.heap.size,0,none⟩) 0 0) 0):=HRO.out.fr hf2
               have HS2:=hs2
               have HF2:Hid (Gn.Fw R w1 w2):=HFO.out.trans hf2.w
               have hz2:=Nat.le_trans hzo hf2.size
               clear phO hf2 hs2))
        go_loopw [11,13] (fun o i wr => ∃ (j:Int) (oa:Option Addr) (on oc:Nat) (nv:Value) (nl:List (ByteArray × Int)) (ret loops count sz:Int),(0≤j∧j≤n)∧i = .int .i64 j∧o = .slice oa on oc∧Gn.Row w1.heap.size wr (.slice oa on oc) (Gn.kq M2 M3 at' j)∧Gn.St R g R (PB+Gn.kq M2 M3 at' j) wr nv nl (.slice fa fl fc) F ret loops count sz∧Gn.Fw R w1 wr) (fun _ i _=>(n - intOf i).toNat)
        case atStart=>exact ⟨0,_,_,_,_,_,_,_,_,_,⟨by decide,hn.1⟩,rfl,rfl,HR2.out.mono (Nat.le_refl _) (Nat.zero_le _),HS2.mono (Gn.kq_lo hPB _ _ _ _),HF2.out⟩
        case round =>
          obtain ⟨j,oa,on,oc,nv,nl,ret,loops,count,sz,hj,rfl,rfl,hro,hs,hf⟩:=hrel
          have hz:=hf.size
          have hxw:=hf.blk HXM.out (by decide)
          have d0:wr.cell? ⟨bm,0,none⟩=some (.string ⟨#[109,97,105,110]⟩):=by rw [Lib.cell_of_heap hxw];rfl
          have d1:wr.cell? ⟨bm,1,none⟩=some (.slice none 0 0):=by rw [Lib.cell_of_heap hxw];rfl
          have d2:wr.cell? ⟨bm,2,none⟩=some (.int .i64 2):=by rw [Lib.cell_of_heap hxw];rfl
          have c2:=hs.cells.2.2.1
          have bF:=Gn.kq_fn3 (a:=at') hPB2 hM2 hM3 hj hn
          have bK:=Gn.kq_k3 (a:=at') hM2 hM3 hj hn
          by_cases hjn:j < n
          · have hwj:=Gn.wr_j hj hn
            have hjl:j < (fl:Int):=Gn.j_fl hj hnl hjn
            obtain ⟨k,hk⟩:∃ k,j.toNat=k:=⟨_,rfl⟩
            have hkl:k < fl:=Gn.k_fl hj hjl hk
            have hkF:k < F.length:=by rw [HFL.out];exact hkl
            obtain ⟨fb,rfl,-,-,-⟩:=Gn.fn_cell hs.fns.row HFL.out k hkl
            obtain ⟨sg,hsg⟩:∃ s,F[k]=s:=⟨_,rfl⟩
            have hsm:sg ∈ F:=by rw [← hsg];exact List.getElem_mem hkF
            by_cases hja:j=at'
            · have bF3:=Gn.kq_f3 (a:=at') hPB2 hM2 hM3 HM3.out hj hn
              have bK3:=Gn.kq_k3 (a:=at') hM2 hM3 hj hn
              have bF4:=Gn.kq_f4 (a:=at') hPB2 hM2 hM3 HM2.out hj hn
              have bK4:=Gn.kq_k4 (a:=at') hM2 hM3 hj hn
              subst hja
              have u0:Gn.Mk:=trivial
              go_wp2_with (first
                  | (go_at_call 82
                     have _t:=u0
                     clear u0
                     refine (Gn.fn_any R g R 3 HSM3 3 (by decide) rfl ⟨#[109,97,105,110]⟩ (.slice none 0 0) [] 2 hs ⟨rfl,.inl ⟨rfl,rfl⟩⟩ (by decide) (by decide) Gn.ty2 (by simp) bF3).mono ?_
                     rintro e w3 ⟨a3,n3,c3,nv3,nl3,cnt3,sz3,rfl,hr3,hs3,hf3⟩
                     rw [HM3.out] at hr3 hs3
                     have u1:Gn.Mk:=trivial)
                  | (at_builtin
                     have _t:=u1
                     clear u1
                     refine Gn.wp_rows rfl _ _ rfl rfl rfl (hro.fw hf3) hr3 (Nat.le_trans hz hf3.size) bK3 ?_
                     intro a4 n4 c4 w4 hr4 hfr4 hst4
                     have hs4:=hst4 _ _ _ _ _ _ _ _ _ _ _ _ hgz hs3
                     have hf4:=hfr4 R w1 (Nat.le_refl _) (hf.trans hf3)
                     have hz4:=hf4.size
                     have c2:=hs4.cells.2.2.1
                     obtain ⟨fb',e',q0,q1,q2⟩:=Gn.fn_cell hs4.fns.row HFL.out k hkl
                     injection e' with e';injection e' with e';subst e'
                     rw [hsg] at q0 q1 q2
                     clear hst4 hfr4 hs3 hr3 hf3 d0 d1 d2
                     have u2:Gn.Mk:=trivial)
                  | (go_at_call 82
                     have _t:=u2
                     clear u2
                     refine (Gn.fn_any R g R 2 HSM2 2 (by decide) rfl sg.name sg.pv sg.params sg.result hs4 (hs4.fns.par sg hsm) (hs4.fns.bd.2 sg hsm).1 (hs4.fns.bd.2 sg hsm).2.1 (hs4.fns.bd.2 sg hsm).2.2.1 (hs4.fns.bd.2 sg hsm).2.2.2 bF4).mono ?_
                     rintro e w5 ⟨a5,n5,c5,nv5,nl5,cnt5,sz5,rfl,hr5,hs5,hf5⟩
                     rw [HM2.out] at hr5 hs5
                     have u3:Gn.Mk:=trivial)
                  | (at_builtin
                     have _t:=u3
                     clear u3
                     refine Gn.wp_rows rfl _ _ rfl rfl rfl (hr4.fw hf5) hr5 (Nat.le_trans hz4 hf5.size) bK4 ?_
                     intro a6 n6 c6 w6 hr6 hfr6 hst6
                     have hs6:=hst6 _ _ _ _ _ _ _ _ _ _ _ _ hgz hs5
                     have hf6:=hfr6 R w1 (Nat.le_refl _) (hf4.trans hf5)
                     clear hst6 hfr6 hs5 hr5 hf5 q0 q1 q2 c2))
              go_roundw
              case rel=>exact ⟨j+1,a6,n6,c6,_,_,_,_,_,_,Gn.j_up hj hjn,rfl,rfl,by rw [← Gn.kq_eq M2 M3 j hj.1];exact hr6,by rw [← Gn.kq_eq M2 M3 j hj.1,← Nat.add_assoc,← Nat.add_assoc];exact hs6,hf6⟩
              case measure=>simp [intOf];omega
            · have bF4:=Gn.kq_f5 (a:=at') hPB2 hM2 hM3 HM2.out hj hn
              have bK4:=Gn.kq_k5 (a:=at') hM2 hM3 hj hn
              obtain ⟨fb',e',q0,q1,q2⟩:=Gn.fn_cell hs.fns.row HFL.out k hkl
              injection e' with e';injection e' with e';subst e'
              rw [hsg] at q0 q1 q2
              have u2:Gn.Mk:=trivial
              go_wp2_with (first
                  | (go_at_call 82
                     have _t:=u2
                     clear u2
                     refine (Gn.fn_any R g R 2 HSM2 2 (by decide) rfl sg.name sg.pv sg.params sg.result hs (hs.fns.par sg hsm) (hs.fns.bd.2 sg hsm).1 (hs.fns.bd.2 sg hsm).2.1 (hs.fns.bd.2 sg hsm).2.2.1 (hs.fns.bd.2 sg hsm).2.2.2 bF4).mono ?_
                     rintro e w5 ⟨a5,n5,c5,nv5,nl5,cnt5,sz5,rfl,hr5,hs5,hf5⟩
                     rw [HM2.out] at hr5 hs5
                     have u3:Gn.Mk:=trivial)
                  | (at_builtin
                     have _t:=u3
                     clear u3
                     refine Gn.wp_rows rfl _ _ rfl rfl rfl (hro.fw hf5) hr5 (Nat.le_trans hz hf5.size) bK4 ?_
                     intro a6 n6 c6 w6 hr6 hfr6 hst6
                     have hs6:=hst6 _ _ _ _ _ _ _ _ _ _ _ _ hgz hs5
                     have hf6:=hfr6 R w1 (Nat.le_refl _) (hf.trans hf5)
                     clear hst6 hfr6 hs5 hr5 hf5 q0 q1 q2 c2))
              go_roundw
              case rel=>exact ⟨j+1,a6,n6,c6,_,_,_,_,_,_,Gn.j_up hj hjn,rfl,rfl,by rw [← Gn.kq_ne M2 M3 j hj.1 hja];exact hr6,by rw [← Gn.kq_ne M2 M3 j hj.1 hja,← Nat.add_assoc];exact hs6,hf6⟩
              case measure=>simp [intOf];omega
          · obtain rfl:=Gn.j_n hj hjn
            by_cases hna:j=at'
            · subst hna
              have bF3:=Gn.kq_f3 (a:=j) hPB2 hM2 hM3 HM3.out hj hn
              have bK3:=Gn.kq_k3 (a:=j) hM2 hM3 hj hn
              have bK4:=Gn.kq_k6 (a:=j) hM2 hM3 hj hn
              have bQ:=Gn.kq_q1 hM2 hM3 hj hn
              have bR:=Gn.kq_r1 hPBP hM2 hM3 hj hn
              have x0:Gn.Mk:=trivial
              go_wp2_with (first
                  | (go_at_call 82
                     have _t:=x0
                     clear x0
                     refine (Gn.fn_any R g R 3 HSM3 3 (by decide) rfl ⟨#[109,97,105,110]⟩ (.slice none 0 0) [] 2 hs ⟨rfl,.inl ⟨rfl,rfl⟩⟩ (by decide) (by decide) Gn.ty2 (by simp) bF3).mono ?_
                     rintro e w3 ⟨a3,n3,c3,nv3,nl3,cnt3,sz3,rfl,hr3,hs3,hf3⟩
                     rw [HM3.out] at hr3 hs3
                     have x1:Gn.Mk:=trivial)
                  | (at_builtin
                     have _t:=x1
                     clear x1
                     refine Gn.wp_rows rfl _ _ rfl rfl rfl (hro.fw hf3) hr3 (Nat.le_trans hz hf3.size) bK3 ?_
                     intro a4 n4 c4 w4 hr4 hfr4 hst4
                     have hs4:=hst4 _ _ _ _ _ _ _ _ _ _ _ _ hgz hs3
                     have hf4:=hfr4 R w1 (Nat.le_refl _) (hf.trans hf3)
                     have hz4:=hf4.size
                     clear hst4 hfr4 hs3 hr3 hf3 d0 d1 d2 c2
                     have x2:Gn.Mk:=trivial)
                  | (at_builtin
                     have _t:=x2
                     clear x2
                     refine Gn.wp_rows rfl _ _ rfl rfl rfl (hr4.fw (Gn.Fw.of_below (B:=R) (Gn.below_al w4 _))) (Gn.new_one w4 ⟨24,0,0,0,⟨#[]⟩,_⟩ Gn.no_text) (Nat.le_trans hz4 (Gn.below_al w4 _).size) bK4 ?_
                     intro a9 n9 c9 w9 hr9 hfr9 hst9
                     have hs9:=hst9 _ _ _ _ _ _ _ _ _ _ _ _ hgz (hs4.below (Gn.below_al w4 _))
                     have hf9:=hfr9 R w1 (Nat.le_refl _) (hf4.trans (Gn.Fw.of_below (Gn.below_al w4 _)))
                     have hfV:=HFV.out.trans hf9
                     have hT:=hfV.blk HT0.out (by decide)
                     have y9:w9.cell? ⟨w.heap.size,0,none⟩=some (.slice none 0 0):=by rw [Lib.cell_of_heap hT];rfl
                     have z9:w9.frozen? ⟨w.heap.size,0,none⟩=false:=by simp [World.frozen?,hT]
                     have hr9:=hr9.mono hzw bQ
                     have hs9:=hs9.mono bR
                     clear hst9 hfr9))
              have hT9:(w9.setCell ⟨w.heap.size,0,none⟩ (.slice a9 n9 c9)).cell? ⟨w.heap.size,0,none⟩=some (.slice a9 n9 c9):=by rw [Lib.cell_of_heap (Gn.set_same hT)];rfl
              exact bodyPost_ret (v:=.agg #[.slice a9 n9 c9]) (by simp [results,Tryz.results64,go_sem,hT9]) rfl (Gn.prog_end hs9 hr9 (HF0.out.trans hfV) hT hRw)
            · have bK4:=Gn.kq_k7 (a:=at') hM2 hM3 hj hn
              have bQ:=Gn.kq_q2 (a:=at') hM2 hM3 hj hn
              have bR:=Gn.kq_r2 (a:=at') hPBP hM2 hM3 hj hn
              have x2:Gn.Mk:=trivial
              go_wp2_with (first
                  | (at_builtin
                     have _t:=x2
                     clear x2
                     refine Gn.wp_rows rfl _ _ rfl rfl rfl (hro.fw (Gn.Fw.of_below (B:=R) (Gn.below_al wr _))) (Gn.new_one wr ⟨24,0,0,0,⟨#[]⟩,_⟩ Gn.no_text) (Nat.le_trans hz (Gn.below_al wr _).size) bK4 ?_
                     intro a9 n9 c9 w9 hr9 hfr9 hst9
                     have hs9:=hst9 _ _ _ _ _ _ _ _ _ _ _ _ hgz (hs.below (Gn.below_al wr _))
                     have hf9:=hfr9 R w1 (Nat.le_refl _) (hf.trans (Gn.Fw.of_below (Gn.below_al wr _)))
                     have hfV:=HFV.out.trans hf9
                     have hT:=hfV.blk HT0.out (by decide)
                     have y9:w9.cell? ⟨w.heap.size,0,none⟩=some (.slice none 0 0):=by rw [Lib.cell_of_heap hT];rfl
                     have z9:w9.frozen? ⟨w.heap.size,0,none⟩=false:=by simp [World.frozen?,hT]
                     have hr9:=hr9.mono hzw bQ
                     have hs9:=hs9.mono bR
                     clear hst9 hfr9))
              have hT9:(w9.setCell ⟨w.heap.size,0,none⟩ (.slice a9 n9 c9)).cell? ⟨w.heap.size,0,none⟩=some (.slice a9 n9 c9):=by rw [Lib.cell_of_heap (Gn.set_same hT)];rfl
              exact bodyPost_ret (v:=.agg #[.slice a9 n9 c9]) (by simp [results,Tryz.results64,go_sem,hT9]) rfl (Gn.prog_end hs9 hr9 (HF0.out.trans hfV) hT hRw)
end Go.Proofs.YtfoimmnlojjfbaaGreatDoor
