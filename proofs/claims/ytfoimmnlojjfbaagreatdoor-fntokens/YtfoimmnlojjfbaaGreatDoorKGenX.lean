import Derived.Test.YtfoimmnlojjfbaaGreatDoorKTk
import Derived.Test.YtfoimmnlojjfbaaGreatDoorKGenV
set_option maxRecDepth 100000
set_option maxHeartbeats 8000000
namespace Go.Proofs.YtfoimmnlojjfbaaGreatDoor
open Go.RowKit
theorem Gn.stmt_next (B g R n m:Nat) (HC:Hid (Gn.CondIs B g R m)) (HL:Hid (Gn.SomeIs B g R n)) (hmn:m=n+1) (hm1:m≤100):Gn.StmtIs B g R m:=by
  intro d hd hdn P w nv nl fv F ret loops count size h hP
  have HD:Hid (d=(m:Int)):=by rw [Hid];omega
  have HM:Hid (((m:Int) - 1).toNat=n):=by rw [Hid];omega
  have hd0:¬ d≤0:=by omega
  have hmp:=Gn.mb_pos n
  have hcb:Gn.cb m=11 * Gn.mb n:=by rw [hmn];rfl
  have hmb:Gn.mb m=12 * Gn.mb n:=by rw [hmn];exact Gn.mb_next n
  rw [hmb] at hP ⊢
  clear hdn hmb hmn
  have HE1:Hid (Gn.ExprIs B g R 1):=Gn.expr_any B g R 1
  have HE2:Hid (Gn.ExprIs B g R 2):=Gn.expr_any B g R 2
  have HE3:Hid (Gn.ExprIs B g R 3):=Gn.expr_any B g R 3
  have e1:Gn.eb 1=500:=rfl
  have e2:Gn.eb 2=2500:=rfl
  have e3:Gn.eb 3=12500:=rfl
  have e13:3 * Gn.eb 1+1≤Gn.eb 3:=by omega
  have e23:Gn.eb 2≤Gn.eb 3:=by omega
  have e3b:Gn.eb 3≤300000000:=by omega
  have e3c:1+Gn.eb 3≤1000000000:=by omega
  have b0:P≤1000000000:=by omega
  have hlb:=h.bd.2.1
  have hnb:=h.nbd.1
  have hgw:g < w.heap.size:=(Array.getElem?_eq_some_iff.1 h.box).1
  obtain ⟨na,nc,rfl⟩:=Gn.rowLen h.names
  have h0:=h
  clear h
  obtain ⟨q,HQ⟩:∃ q,Hid (nl.length=q):=⟨_,(rfl:nl.length=_)⟩
  rw [HQ.out] at h0 hnb
  obtain ⟨q1,HQ1⟩:∃ q,Hid (nl.length+1=q):=⟨_,(rfl:nl.length+1=_)⟩
  have g0:=h0.cells.1
  go_enter Tryz.func109,Tryz.ntmps109
  go_wp2_with (first
    | (go_at_call 8
       refine (Gn.pickI h0 18 (by decide) (by decide) b0).mono ?_
       rintro e w1 ⟨k,rfl,hk,hs,hf⟩
       clear h0
       have c0:=hs.cells.1
       have c1:=hs.cells.2.1
       have c4:=hs.cells.2.2.2.2.1
       have hg1:=Nat.lt_of_lt_of_le hgw hf.size
       rcases Gn.k18n q loops hk with ⟨rfl,hl,m0⟩ | ⟨rfl,hl,m0⟩ | ⟨rfl,hl,m0⟩ | ⟨rfl,hl,m3⟩ | ⟨rfl,hl,mD⟩ | ⟨rfl,hl,m3⟩ | ⟨rfl,hl,mD⟩ | ⟨rfl,hl,m5⟩ | ⟨rfl,hl,m5⟩ | ⟨rfl,hl,m7⟩ | ⟨rfl,hl,m7⟩ | ⟨rfl,hl,m9⟩ | ⟨rfl,hl,m9⟩ | ⟨rfl,hl,m10⟩ | ⟨rfl,hl,m11⟩ | ⟨rfl,hl,m11⟩ | ⟨rfl,hl,m11⟩ | ⟨rfl,hl,m11⟩ | ⟨rfl,hl,m15⟩ | ⟨rfl,hl,mD⟩ | ⟨rfl,hl,m15⟩ | ⟨rfl,hl,mD⟩ | ⟨rfl,hl,m15⟩ | ⟨rfl,hl,mD⟩)
    | (go_at_call 81
       have _m:=m0
       refine (Gn.typ_any hs (by omega)).mono ?_
       rintro e w2 ⟨t,rfl,ht,hs,hfx⟩
       have hf:=hf.trans hfx.w)
    | (go_at_call 102
       have _m:=m7
       have hrq:=hrn
       refine (HE3.out _ _ _ _ _ _ _ _ _ _ _ hs (by omega)).mono ?_
       rintro e wx ⟨ax,nx,cx,sx,rfl,hr,hs,hfx⟩
       have hrn:=hrq.fr hfx
       have hf:=hf.trans hfx.w)
    | (go_at_call 102
       have _m:=m0
       refine (HE3.out _ _ _ _ _ _ _ _ _ _ _ hs (by omega)).mono ?_
       rintro e wx ⟨ax,nx,cx,sx,rfl,hr,hs,hfx⟩
       have hf:=hf.trans hfx.w)
    | (go_at_call 102
       have _m:=m5
       refine (HE3.out _ _ _ _ _ _ _ _ _ _ _ hs (by omega)).mono ?_
       rintro e wx ⟨ax,nx,cx,sx,rfl,hr,hs,hfx⟩
       have hf:=hf.trans hfx.w)
    | (go_at_call 102
       have _m:=mD
       refine (HE2.out _ _ _ _ _ _ _ _ _ _ _ hs (by omega)).mono ?_
       rintro e wx ⟨ax,nx,cx,sx,rfl,hr,hs,hfx⟩
       have hr:=hr.mono (Nat.le_refl _) e23
       have hf:=hf.trans hfx.w)
    | (go_at_call 102
       have _m:=m9
       refine (HE2.out _ _ _ _ _ _ _ _ _ _ _ hs (by omega)).mono ?_
       rintro e wx ⟨ax,nx,cx,sx,rfl,hr,hs,hfx⟩
       have hr:=hr.mono (Nat.le_refl _) e23
       have hf:=hf.trans hfx.w)
    | (go_at_call 102
       have _m:=m10
       refine (HE2.out _ _ _ _ _ _ _ _ _ _ _ hs (by omega)).mono ?_
       rintro e wx ⟨ax,nx,cx,sx,rfl,hr,hs,hfx⟩
       have hr:=hr.mono (Nat.le_refl _) e23
       have hf:=hf.trans hfx.w)
    | (go_at_call 118
       refine (Gn.fresh_any hs (by omega)).mono ?_
       rintro e w4 ⟨x,rfl,hx,hs,hfx⟩
       have hr:=hr.fw hfx
       have hf:=hf.trans hfx
       have c1:=hs.cells.2.1
       obtain ⟨V,hV⟩:∃ V,w4.alloc (.cells #[.string x,.int .i64 t] 140)=V:=⟨_,rfl⟩)
    | (at_builtin
       refine Gn.wp_name rfl _ _ rfl hs x t hx (Gn.ty_of ht) (by omega) hV rfl rfl ?_
       intro na' c5 w5 hc5 hs hfx
       obtain ⟨hc5,hd5⟩:=hc5
       have hr:=hr.fw hfx
       have hf:=hf.trans hfx
       rw [HQ1.out] at hs hf hr ⊢
       obtain ⟨W5,hW5⟩:∃ W,w5.setCell ⟨g,1,none⟩ (.slice na' q1 c5)=W:=⟨_,rfl⟩
       rw [hW5] at hs hf hr
       clear hV)
    | (go_at_call 77
       have _m:=m0
       refine (Gn.over1 ⟨10,0,0,0,x,0⟩ (Nat.le_trans hx (by decide)) hr e3b).mono ?_
       rintro e wz ⟨az,nz,cz,rfl,hrz,hbz⟩
       have hsz:=hs.below hbz
       have hzz:=hf.size
       have hfz:=hf.trans (Gn.Fw.of_below hbz)
       have hnz:=Gn.len_le nl (x,t))
    | (go_at_call 77
       have _m:=m7
       refine (Gn.over2s ⟨18,0,0,0,⟨#[]⟩,0⟩ Gn.no_text hrn hr e3c).mono ?_
       rintro e wz ⟨az,nz,cz,rfl,hrz,hbz⟩
       have hsz:=hs.below hbz
       have hzz:=hf.size
       have hfz:=hf.trans (Gn.Fw.of_below hbz)
       have hnz:=Nat.le_refl nl.length)
    | (go_at_call 77
       have _m:=mD
       refine (Gn.over1 ⟨_,0,0,0,⟨#[]⟩,0⟩ Gn.no_text hr e3b).mono ?_
       rintro e wz ⟨az,nz,cz,rfl,hrz,hbz⟩
       have hsz:=hs.below hbz
       have hzz:=hf.size
       have hfz:=hf.trans (Gn.Fw.of_below hbz)
       have hnz:=Nat.le_refl nl.length)
    | (go_at_call 77
       have _m:=m5
       refine (Gn.over1 ⟨_,0,0,0,⟨#[]⟩,0⟩ Gn.no_text hr e3b).mono ?_
       rintro e wz ⟨az,nz,cz,rfl,hrz,hbz⟩
       have hsz:=hs.below hbz
       have hzz:=hf.size
       have hfz:=hf.trans (Gn.Fw.of_below hbz)
       have hnz:=Nat.le_refl nl.length)
    | (go_at_call 77
       have _m:=m9
       refine (Gn.over1 ⟨_,0,0,0,⟨#[]⟩,0⟩ Gn.no_text hr e3b).mono ?_
       rintro e wz ⟨az,nz,cz,rfl,hrz,hbz⟩
       have hsz:=hs.below hbz
       have hzz:=hf.size
       have hfz:=hf.trans (Gn.Fw.of_below hbz)
       have hnz:=Nat.le_refl nl.length)
    | (go_at_call 77
       have _m:=m10
       refine (Gn.over1 ⟨_,0,0,0,⟨#[]⟩,0⟩ Gn.no_text hr e3b).mono ?_
       rintro e wz ⟨az,nz,cz,rfl,hrz,hbz⟩
       have hsz:=hs.below hbz
       have hzz:=hf.size
       have hfz:=hf.trans (Gn.Fw.of_below hbz)
       have hnz:=Nat.le_refl nl.length)
    | (go_at_call 8
       have _m:=m7
       refine (Gn.pick_any (hs.below ((Below.refl _ w1).alloc (Nat.le_refl _) _)) 5 (by decide) (by decide) (by omega)).mono ?_
       rintro e w2 ⟨v,rfl,hv,hs,hfx⟩
       have hv5:=Gn.nat5 hv
       obtain ⟨t,ht,hts⟩:=Gn.tab_fr (M:=5) hfx (by decide) (by decide) v hv5
       have hf:=(hf.alloc _).trans hfx.w)
    | (go_at_call 75
       refine (Gn.textNode_any t (Nat.le_trans hts (by decide)) _).mono ?_
       rintro e w3 ⟨a3,n3,c3,rfl,hrn,hbx⟩
       have hs:=hs.below hbx
       have hf:=hf.trans (Gn.Fw.of_below hbx))
    | (go_at_call 8
       have _m:=m9
       refine (Gn.pickI hs _ (by decide) (by decide) (by omega)).mono ?_
       rintro e w2 ⟨v2,rfl,hv2,hs,hfx⟩
       have hf:=hf.trans hfx
       have c0:=hs.cells.1
       have hwv:=Gn.wrB hv2 (by decide))
    | (go_at_call 103
       refine (Gn.back_any hs (by omega)).mono ?_
       rintro e wz ⟨az,nz,cz,szz,rfl,hrz,hsz,hfx⟩
       have hzz:=hf.size
       have hfz:=hf.trans hfx
       have hnz:=Nat.le_refl nl.length)
    | (go_at_call 119
       refine (Gn.call2 HE1 hs (by omega) ty).mono ?_
       rintro e w5 ⟨a5,n5,c5,ok,s5,rfl,hr5,hs5,hfx⟩
       have hs:=hs5.mono (Gn.cond_le ok)
       clear hs5
       have hr:=hr5.mono (Nat.le_refl _) e13
       have hf:=hf.trans hfx.w
       cases ok)
    | (go_at_call 120
       refine (Gn.cond_d HC.out HD.out hs (by omega)).mono ?_
       rintro e wz ⟨az,nz,cz,nvz,nlz,cntz,szz,rfl,hrz,hsz,hnz,hfx⟩
       have hzz:=hf.size
       have hfz:=hf.trans hfx)
    | (go_at_call 121
       refine (Gn.loop_d HL HD.out HM.out hm1 hs (by omega)).mono ?_
       rintro e wz ⟨az,nz,cz,nvz,nlz,cntz,szz,rfl,hrz,hsz,hnz,hfx⟩
       have hzz:=hf.size
       have hfz:=hf.trans hfx))
  all_goals first
    | exact bodyPost_ret (v:=.tuple #[.slice az nz cz,.int .i64 _]) (by simp [results,Tryz.results109,go_sem];try rfl) rfl ⟨az,nz,cz,_,_,_,_,_,rfl,by decide,hrz.mono (by omega) (by omega),hsz.mono (by omega),hnz,hfz⟩
    | exact bodyPost_ret (v:=.tuple #[.slice _ _ _,.int .i64 1]) (by simp [results,Tryz.results109,go_sem];try rfl) rfl ⟨_,_,_,_,_,_,_,_,rfl,by decide,(Gn.new_one _ ⟨14+v2,0,0,0,⟨#[]⟩,0⟩ Gn.no_text).mono hf.size (by omega),(hs.below ((Below.refl _ _).alloc (Nat.le_refl _) _)).mono (by omega),Nat.le_refl _,hf.alloc _⟩
    | skip
  any_goals
    have _m:=m3
    have hq0:0 < q:=by omega
    obtain ⟨b,rfl,_,_⟩:=Gn.name_cell hs.names HQ.out 0 hq0
    have hnb:∀ k,(Value.slice (some ⟨b,0,none⟩) q nc).ownBlock=some k→k≠w1.heap.size:=fun k hk=>Nat.ne_of_lt (Gn.row_type hs.names hk).1.2
    refine wp_region_held_drew (S:=(fun W=>(W.cell? ⟨g,0,none⟩=some (.pointer (some ⟨R,0,none⟩))∧W.cell? ⟨g,1,none⟩=some (.slice (some ⟨b,0,none⟩) q nc))∧∀ i (hi:i < nl.length),W.cell? ⟨b,i * 2,none⟩=some (.string nl[i].1)∧W.cell? ⟨b,i * 2+1,none⟩=some (.int .i64 nl[i].2))) (by kernel_rfl) (Gn.nm_S (hs.below ((Below.refl _ w1).drew)) HQ.out) (fun hHeld => ?_)
    refine wpAnyH_take (i:=0) (v:=.pointer (some ⟨g,0,none⟩)) rfl (by kernel_rfl) (by kernel_rfl) (by kernel_rfl) (fun _ _ _ h=>h) (Or.inl ⟨by rfl,by intro w hSw;have s0:=hSw.1.1;have s1:=hSw.1.2;clear hSw;go_simp⟩) (by assumption) ?_
    try simp [Act.put]
    refine wpAnyH_take (i:=1) (v:=.pointer (some ⟨g,0,none⟩)) rfl (by kernel_rfl) (by kernel_rfl) (by kernel_rfl) (fun _ _ _ h=>h) (Or.inl ⟨by rfl,by intro w hSw;have s0:=hSw.1.1;have s1:=hSw.1.2;clear hSw;go_simp⟩) (by assumption) ?_
    try simp [Act.put]
    refine wpAnyH_take (i:=2) (v:=.pointer (some ⟨g,1,none⟩)) rfl (by kernel_rfl) (by kernel_rfl) (by kernel_rfl) (fun _ _ _ h=>h) (Or.inl ⟨by rfl,by intro w hSw;have s0:=hSw.1.1;have s1:=hSw.1.2;clear hSw;go_simp⟩) (by assumption) ?_
    try simp [Act.put]
    refine wpAnyH_take (i:=3) (v:=.slice (some ⟨b,0,none⟩) q nc) rfl (by kernel_rfl) (by kernel_rfl) (by kernel_rfl) (fun _ _ _ h=>h) (Or.inl ⟨by rfl,by intro w hSw;have s0:=hSw.1.1;have s1:=hSw.1.2;clear hSw;go_simp⟩) (by assumption) ?_
    try simp [Act.put]
    refine wpAnyH_take (i:=4) (v:=.pointer (some ⟨g,0,none⟩)) rfl (by kernel_rfl) (by kernel_rfl) (by kernel_rfl) (fun _ _ _ h=>h) (Or.inl ⟨by rfl,by intro w hSw;have s0:=hSw.1.1;have s1:=hSw.1.2;clear hSw;go_simp⟩) (by assumption) ?_
    try simp [Act.put]
    refine wpAnyH_take (i:=5) (v:=.pointer (some ⟨g,0,none⟩)) rfl (by kernel_rfl) (by kernel_rfl) (by kernel_rfl) (fun _ _ _ h=>h) (Or.inl ⟨by rfl,by intro w hSw;have s0:=hSw.1.1;have s1:=hSw.1.2;clear hSw;go_simp⟩) (by assumption) ?_
    try simp [Act.put]
    refine wpAnyH_take (i:=6) (v:=.pointer (some ⟨g,0,none⟩)) rfl (by kernel_rfl) (by kernel_rfl) (by kernel_rfl) (fun _ _ _ h=>h) (Or.inl ⟨by rfl,by intro w hSw;have s0:=hSw.1.1;have s1:=hSw.1.2;clear hSw;go_simp⟩) (by assumption) ?_
    try simp [Act.put]
    refine wpAnyH_take (i:=7) (v:=.pointer (some ⟨R,0,none⟩)) rfl (by kernel_rfl) (by kernel_rfl) (by kernel_rfl) (fun _ _ _ h=>h) (Or.inl ⟨by rfl,by intro w hSw;have s0:=hSw.1.1;have s1:=hSw.1.2;clear hSw;go_simp⟩) (by assumption) ?_
    try simp [Act.put]
    refine wpAnyH_take (i:=8) (v:=.pointer (some ⟨g,0,none⟩)) rfl (by kernel_rfl) (by kernel_rfl) (by kernel_rfl) (fun _ _ _ h=>h) (Or.inl ⟨by rfl,by intro w hSw;have s0:=hSw.1.1;have s1:=hSw.1.2;clear hSw;go_simp⟩) (by assumption) ?_
    try simp [Act.put]
    refine wpAnyH_take (i:=9) (v:=.pointer (some ⟨g,0,none⟩)) rfl (by kernel_rfl) (by kernel_rfl) (by kernel_rfl) (fun _ _ _ h=>h) (Or.inl ⟨by rfl,by intro w hSw;have s0:=hSw.1.1;have s1:=hSw.1.2;clear hSw;go_simp⟩) (by assumption) ?_
    try simp [Act.put]
    refine wpAnyH_take (i:=10) (v:=.pointer (some ⟨g,1,none⟩)) rfl (by kernel_rfl) (by kernel_rfl) (by kernel_rfl) (fun _ _ _ h=>h) (Or.inl ⟨by rfl,by intro w hSw;have s0:=hSw.1.1;have s1:=hSw.1.2;clear hSw;go_simp⟩) (by assumption) ?_
    try simp [Act.put]
    refine wpAnyH_take (i:=11) (v:=.slice (some ⟨b,0,none⟩) q nc) rfl (by kernel_rfl) (by kernel_rfl) (by kernel_rfl) (fun _ _ _ h=>h) (Or.inl ⟨by rfl,by intro w hSw;have s0:=hSw.1.1;have s1:=hSw.1.2;clear hSw;go_simp⟩) (by assumption) ?_
    try simp [Act.put]
    refine wpAnyH_take (i:=12) (v:=.int .i64 (q:Int)) rfl (by kernel_rfl) (by kernel_rfl) (by kernel_rfl) (fun _ _ _ h=>h) (Or.inl ⟨by rfl,by intro w hSw;have s0:=hSw.1.1;have s1:=hSw.1.2;clear hSw;go_simp⟩) (by assumption) ?_
    try simp [Act.put]
    have hsd:=hs.below ((Below.refl _ w1).drew)
    have hfd:=hf.drew
    have hg1d:g < w1.drew.heap.size:=hg1
    refine wpAnyH_ready (rs:=[13,16]) (by kernel_rfl) (by simp) ?_
    refine AllReadyH.cons rfl (fun KK hK => ?_) (AllReadyH.cons rfl (fun KK hK => ?_) AllReadyH.nil)
    · go_simp
      refine (Gn.pickN hsd q (by omega) (by omega)).mono ?_
      rintro e w2 ⟨u,rfl,hu,_,hs,hfx⟩
      have huq:=hu hq0
      have hul:u < nl.length:=by rw [HQ.out];exact huq
      have huI:(u:Int) < (q:Int):=by omega
      have hf:=hfd.trans hfx.w
      go_wp2
      refine hK.out _ _ (Gn.nm_S hs HQ.out) (fun hHeld => ?_)
      clear hK
      try simp [Act.put]
      refine wpAnyH_take (i:=14) (v:=.pointer (some ⟨b,u * 2,none⟩)) rfl (by kernel_rfl) (by kernel_rfl) (by kernel_rfl) (fun _ _ _ h=>h) (Or.inl ⟨by rfl,by intro w hSw;clear hSw;go_simp⟩) (by assumption) ?_
      try simp [Act.put]
      refine wpAnyH_take (i:=15) (v:=.agg #[.string nl[u].1,.int .i64 nl[u].2]) rfl (by kernel_rfl) (by kernel_rfl) (by kernel_rfl) (fun _ _ _ h=>h) (Or.inl ⟨by rfl,by intro w hSw;have s2:=hSw.2 u hul;clear hSw;go_simp⟩) (by assumption) ?_
      try simp [Act.put]
      obtain ⟨sx,hsx0⟩:∃ s,nl[u].1=s:=⟨_,rfl⟩
      obtain ⟨tx,htx0⟩:∃ s,nl[u].2=s:=⟨_,rfl⟩
      have hsx:sx.size≤100:=by rw [← hsx0];exact Nat.le_trans (hs.nbd.2 nl[u] (List.getElem_mem hul)).1 (by decide)
      rw [hsx0,htx0]
      refine wpAnyH_ready (rs:=[16]) (by kernel_rfl) (by simp) ?_
      refine AllReadyH.cons rfl (fun KK hK => ?_) AllReadyH.nil
      go_simp
      refine hK.out _ _ (Gn.nm_ca hHeld) (fun hHeld => ?_)
      clear hK
      try simp [Act.put]
      refine wpAnyH_ready (rs:=[17]) (by kernel_rfl) (by simp) ?_
      refine AllReadyH.cons rfl (fun KK hK => ?_) AllReadyH.nil
      go_simp
      refine hK.out _ _ (Gn.nm_S (hs.below ((Below.refl _ w2).alloc (Nat.le_refl _) _)) HQ.out) (fun hHeld => ?_)
      clear hK
      try simp [Act.put]
      refine wpAnyH_done (by kernel_rfl) ?_ _
      obtain ⟨V,hV⟩:∃ V,w2.alloc (.cells #[.string sx,.int .i64 tx] 140)=V:=⟨_,rfl⟩
      have hxb:V.heap[w2.heap.size]? = some (.cells #[.string sx,.int .i64 tx] 140):=by rw [← hV];exact World.alloc_heap_new w2 _
      have hb2:Below w2.heap.size w2 V:=Gn.below_new hV
      have x0:V.cell? ⟨w2.heap.size,0,none⟩=some (.string sx):=by rw [Lib.cell_of_heap hxb];rfl
      have x1:V.cell? ⟨w2.heap.size,1,none⟩=some (.int .i64 tx):=by rw [Lib.cell_of_heap hxb];rfl
      have hs:=hs.below hb2
      have hf:=hf.trans (Gn.Fw.of_below hb2)
      rw [hV]
      clear hHeld
      go_wp2_with fail
      refine wp_region_held_drew (S:=(fun W=>W.cell? ⟨w2.heap.size,0,none⟩=some (.string sx)∧W.cell? ⟨w2.heap.size,1,none⟩=some (.int .i64 tx))) (by kernel_rfl) (⟨x0,x1⟩) (fun hHeld => ?_)
      refine Tk 0 (.pointer (some ⟨w2.heap.size,0,none⟩)) rfl ?_
      try simp [Act.put]
      refine Tk 1 (.string sx) rfl ?_
      try simp [Act.put]
      refine Tk 2 (.agg #[.int .i64 11,.int .i64 0,.int .i64 0,.int .i64 0,.string sx,.int .i64 0]) rfl ?_
      try simp [Act.put]
      refine Tk 3 (.pointer (some ⟨g,0,none⟩)) rfl ?_
      try simp [Act.put]
      refine Tk 4 (.pointer (some ⟨w2.heap.size,1,none⟩)) rfl ?_
      try simp [Act.put]
      refine Tk 5 (.int .i64 tx) rfl ?_
      try simp [Act.put]
      have hsd:=hs.below ((Below.refl _ V).drew)
      have hfd:=hf.drew
      refine wpAnyH_ready (rs:=[6]) (by kernel_rfl) (by simp) ?_
      refine AllReadyH.cons rfl (fun KK hK => ?_) AllReadyH.nil
      go_simp
      refine (HE3.out _ V.drew _ _ _ _ _ _ _ _ tx hsd (by omega)).mono ?_
      rintro e wx ⟨ax,nx,cx,sz,rfl,hr,hs,hfx⟩
      have hxb:=hfx.blk (b:=w2.heap.size) hxb (by decide)
      have x0:wx.cell? ⟨w2.heap.size,0,none⟩=some (.string sx):=by rw [Lib.cell_of_heap hxb];rfl
      have x1:wx.cell? ⟨w2.heap.size,1,none⟩=some (.int .i64 tx):=by rw [Lib.cell_of_heap hxb];rfl
      have hf:=hfd.trans hfx.w
      go_wp2
      refine hK.out _ _ (⟨x0,x1⟩) (fun hHeld => ?_)
      clear hK
      try simp [Act.put]
      refine wpAnyH_ready (rs:=[7]) (by kernel_rfl) (by simp) ?_
      refine AllReadyH.cons rfl (fun KK hK => ?_) AllReadyH.nil
      go_simp
      refine hK.out _ _ (⟨Gn.ca x0,Gn.ca x1⟩) (fun hHeld => ?_)
      clear hK
      try simp [Act.put]
      refine wpAnyH_ready (rs:=[8]) (by kernel_rfl) (by simp) ?_
      refine AllReadyH.cons rfl (fun KK hK => ?_) AllReadyH.nil
      go_simp
      refine (Gn.over1 ⟨11,0,0,0,sx,0⟩ hsx hr e3b).mono ?_
      rintro e wz ⟨az,nz,cz,rfl,hrz,hbz⟩
      have hsz:=hs.below hbz
      have hzz:=hf.size
      have hfz:=hf.trans (Gn.Fw.of_below hbz)
      have hnz:=Nat.le_refl nl.length
      have hxb:=(hbz.block _ (Array.getElem?_eq_some_iff.1 hxb).1).trans hxb
      have x0:wz.cell? ⟨w2.heap.size,0,none⟩=some (.string sx):=by rw [Lib.cell_of_heap hxb];rfl
      have x1:wz.cell? ⟨w2.heap.size,1,none⟩=some (.int .i64 tx):=by rw [Lib.cell_of_heap hxb];rfl
      go_wp2
      refine hK.out _ _ (⟨x0,x1⟩) (fun hHeld => ?_)
      clear hK
      try simp [Act.put]
      refine Tk 9 (.slice az nz cz) rfl ?_
      try simp [Act.put]
      refine Tk 10 (.int .i64 1) rfl ?_
      try simp [Act.put]
      refine wpAnyH_done (by kernel_rfl) ?_ _
      go_wp2_with fail
      exact bodyPost_ret (v:=.tuple #[.slice az nz cz,.int .i64 _]) (by simp [results,Tryz.results109,go_sem];try rfl) rfl ⟨az,nz,cz,_,_,_,_,_,rfl,by decide,hrz.mono (by omega) (by omega),hsz.mono (by omega),hnz,hfz⟩
    · go_simp
      refine hK.out _ _ (Gn.nm_ca hHeld) (fun hHeld => ?_)
      clear hK
      try simp [Act.put]
      obtain ⟨V0,hV0⟩:∃ V,(w1.alloc (.cells #[.string ⟨#[]⟩,.int .i64 0] 140)).drew=V:=⟨_,rfl⟩
      rw [hV0] at hHeld ⊢
      have hb0:Below w1.heap.size w1 V0:=by rw [← hV0];exact ((Below.refl _ w1).alloc (Nat.le_refl _) _).drew
      have hxb0:V0.heap[w1.heap.size]? = some (.cells #[.string ⟨#[]⟩,.int .i64 0] 140):=by rw [← hV0];exact World.alloc_heap_new w1 _
      have hs0:=hs.below hb0
      have hf0:=hf.trans (Gn.Fw.of_below hb0)
      refine wpAnyH_ready (rs:=[13]) (by kernel_rfl) (by simp) ?_
      refine AllReadyH.cons rfl (fun KK hK => ?_) AllReadyH.nil
      go_simp
      refine (Gn.pickN hs0 q (by omega) (by omega)).mono ?_
      rintro e w2 ⟨u,rfl,hu,_,hs,hfx⟩
      have huq:=hu hq0
      have hul:u < nl.length:=by rw [HQ.out];exact huq
      have huI:(u:Int) < (q:Int):=by omega
      have hxb:=hfx.blk hxb0 (by decide)
      have hf:=hf0.trans hfx.w
      go_wp2
      refine hK.out _ _ (Gn.nm_S hs HQ.out) (fun hHeld => ?_)
      clear hK
      try simp [Act.put]
      refine wpAnyH_take (i:=14) (v:=.pointer (some ⟨b,u * 2,none⟩)) rfl (by kernel_rfl) (by kernel_rfl) (by kernel_rfl) (fun _ _ _ h=>h) (Or.inl ⟨by rfl,by intro w hSw;clear hSw;go_simp⟩) (by assumption) ?_
      try simp [Act.put]
      refine wpAnyH_take (i:=15) (v:=.agg #[.string nl[u].1,.int .i64 nl[u].2]) rfl (by kernel_rfl) (by kernel_rfl) (by kernel_rfl) (fun _ _ _ h=>h) (Or.inl ⟨by rfl,by intro w hSw;have s2:=hSw.2 u hul;clear hSw;go_simp⟩) (by assumption) ?_
      try simp [Act.put]
      obtain ⟨sx,hsx0⟩:∃ s,nl[u].1=s:=⟨_,rfl⟩
      obtain ⟨tx,htx0⟩:∃ s,nl[u].2=s:=⟨_,rfl⟩
      have hsx:sx.size≤100:=by rw [← hsx0];exact Nat.le_trans (hs.nbd.2 nl[u] (List.getElem_mem hul)).1 (by decide)
      rw [hsx0,htx0]
      have y0:w2.cell? ⟨w1.heap.size,0,none⟩=some (.string ⟨#[]⟩):=by rw [Lib.cell_of_heap hxb];rfl
      have y1:w2.cell? ⟨w1.heap.size,1,none⟩=some (.int .i64 0):=by rw [Lib.cell_of_heap hxb];rfl
      have z0:w2.frozen? ⟨w1.heap.size,0,none⟩=false:=by simp [World.frozen?,hxb]
      have z1:w2.frozen? ⟨w1.heap.size,1,none⟩=false:=by simp [World.frozen?,hxb]
      refine wpAnyH_ready (rs:=[17]) (by kernel_rfl) (by simp) ?_
      refine AllReadyH.cons rfl (fun KK hK => ?_) AllReadyH.nil
      go_simp
      obtain ⟨hsV,hfV,hxV⟩:=hs.loc hxb hnb hg1 sx tx
      refine hK.out _ _ (Gn.nm_S hsV HQ.out) (fun hHeld => ?_)
      clear hK
      try simp [Act.put]
      refine wpAnyH_done (by kernel_rfl) ?_ _
      obtain ⟨V,hV⟩:∃ V,(w2.setCell ⟨w1.heap.size,0,none⟩ (.string sx)).setCell ⟨w1.heap.size,1,none⟩ (.int .i64 tx)=V:=⟨_,rfl⟩
      rw [hV] at hsV hfV hxV ⊢
      have x0:V.cell? ⟨w1.heap.size,0,none⟩=some (.string sx):=by rw [Lib.cell_of_heap hxV];rfl
      have x1:V.cell? ⟨w1.heap.size,1,none⟩=some (.int .i64 tx):=by rw [Lib.cell_of_heap hxV];rfl
      have hxb:=hxV
      have hs:=hsV
      have hf:=hf.trans hfV
      clear hHeld y0 y1 z0 z1
      go_wp2_with fail
      refine wp_region_held_drew (S:=(fun W=>W.cell? ⟨w1.heap.size,0,none⟩=some (.string sx)∧W.cell? ⟨w1.heap.size,1,none⟩=some (.int .i64 tx))) (by kernel_rfl) (⟨x0,x1⟩) (fun hHeld => ?_)
      refine Tk 0 (.pointer (some ⟨w1.heap.size,0,none⟩)) rfl ?_
      try simp [Act.put]
      refine Tk 1 (.string sx) rfl ?_
      try simp [Act.put]
      refine Tk 2 (.agg #[.int .i64 11,.int .i64 0,.int .i64 0,.int .i64 0,.string sx,.int .i64 0]) rfl ?_
      try simp [Act.put]
      refine Tk 3 (.pointer (some ⟨g,0,none⟩)) rfl ?_
      try simp [Act.put]
      refine Tk 4 (.pointer (some ⟨w1.heap.size,1,none⟩)) rfl ?_
      try simp [Act.put]
      refine Tk 5 (.int .i64 tx) rfl ?_
      try simp [Act.put]
      have hsd:=hs.below ((Below.refl _ V).drew)
      have hfd:=hf.drew
      refine wpAnyH_ready (rs:=[6]) (by kernel_rfl) (by simp) ?_
      refine AllReadyH.cons rfl (fun KK hK => ?_) AllReadyH.nil
      go_simp
      refine (HE3.out _ V.drew _ _ _ _ _ _ _ _ tx hsd (by omega)).mono ?_
      rintro e wx ⟨ax,nx,cx,sz,rfl,hr,hs,hfx⟩
      have hxb:=hfx.blk (b:=w1.heap.size) hxb (by decide)
      have x0:wx.cell? ⟨w1.heap.size,0,none⟩=some (.string sx):=by rw [Lib.cell_of_heap hxb];rfl
      have x1:wx.cell? ⟨w1.heap.size,1,none⟩=some (.int .i64 tx):=by rw [Lib.cell_of_heap hxb];rfl
      have hf:=hfd.trans hfx.w
      go_wp2
      refine hK.out _ _ (⟨x0,x1⟩) (fun hHeld => ?_)
      clear hK
      try simp [Act.put]
      refine wpAnyH_ready (rs:=[7]) (by kernel_rfl) (by simp) ?_
      refine AllReadyH.cons rfl (fun KK hK => ?_) AllReadyH.nil
      go_simp
      refine hK.out _ _ (⟨Gn.ca x0,Gn.ca x1⟩) (fun hHeld => ?_)
      clear hK
      try simp [Act.put]
      refine wpAnyH_ready (rs:=[8]) (by kernel_rfl) (by simp) ?_
      refine AllReadyH.cons rfl (fun KK hK => ?_) AllReadyH.nil
      go_simp
      refine (Gn.over1 ⟨11,0,0,0,sx,0⟩ hsx hr e3b).mono ?_
      rintro e wz ⟨az,nz,cz,rfl,hrz,hbz⟩
      have hsz:=hs.below hbz
      have hzz:=hf.size
      have hfz:=hf.trans (Gn.Fw.of_below hbz)
      have hnz:=Nat.le_refl nl.length
      have hxb:=(hbz.block _ (Array.getElem?_eq_some_iff.1 hxb).1).trans hxb
      have x0:wz.cell? ⟨w1.heap.size,0,none⟩=some (.string sx):=by rw [Lib.cell_of_heap hxb];rfl
      have x1:wz.cell? ⟨w1.heap.size,1,none⟩=some (.int .i64 tx):=by rw [Lib.cell_of_heap hxb];rfl
      go_wp2
      refine hK.out _ _ (⟨x0,x1⟩) (fun hHeld => ?_)
      clear hK
      try simp [Act.put]
      refine Tk 9 (.slice az nz cz) rfl ?_
      try simp [Act.put]
      refine Tk 10 (.int .i64 1) rfl ?_
      try simp [Act.put]
      refine wpAnyH_done (by kernel_rfl) ?_ _
      go_wp2_with fail
      exact bodyPost_ret (v:=.tuple #[.slice az nz cz,.int .i64 _]) (by simp [results,Tryz.results109,go_sem];try rfl) rfl ⟨az,nz,cz,_,_,_,_,_,rfl,by decide,hrz.mono (by omega) (by omega),hsz.mono (by omega),hnz,hfz⟩
  any_goals
    have _m:=m10
    refine wp_region_held_drew (S:=(fun W=>W.cell? ⟨g,0,none⟩=some (.pointer (some ⟨R,0,none⟩)))) (by kernel_rfl) (c0) (fun hHeld => ?_)
    refine Tk 0 (.pointer (some ⟨g,0,none⟩)) rfl ?_
    try simp [Act.put]
    refine Tk 3 (.pointer (some ⟨g,0,none⟩)) rfl ?_
    try simp [Act.put]
    refine Tk 4 (.pointer (some ⟨g,0,none⟩)) rfl ?_
    try simp [Act.put]
    refine Tk 5 (.pointer (some ⟨g,0,none⟩)) rfl ?_
    try simp [Act.put]
    refine Tk 6 (.pointer (some ⟨R,0,none⟩)) rfl ?_
    try simp [Act.put]
    have hsd:=hs.below ((Below.refl _ w1).drew)
    have hfd:=hf.drew
    refine wpAnyH_ready (rs:=[1]) (by kernel_rfl) (by simp) ?_
    refine AllReadyH.cons rfl (fun KK hK => ?_) AllReadyH.nil
    go_simp
    refine (Gn.typ_any hsd (by omega)).mono ?_
    rintro e w2 ⟨t,rfl,ht,hs,hfx⟩
    have hf:=hfd.trans hfx.w
    have c2:=hs.cells.1
    have hg2:g < w2.heap.size:=Nat.lt_of_lt_of_le hgw hf.size
    go_wp2
    refine hK.out _ _ (c2) (fun hHeld => ?_)
    clear hK
    try simp [Act.put]
    refine wpAnyH_ready (rs:=[2,7]) (by kernel_rfl) (by simp) ?_
    refine AllReadyH.cons rfl (fun KK hK => ?_) (AllReadyH.cons rfl (fun KK hK => ?_) AllReadyH.nil)
    · go_simp
      refine hK.out _ _ (Gn.ca c2) (fun hHeld => ?_)
      clear hK
      try simp [Act.put]
      obtain ⟨V0,hV0⟩:∃ V,w2.alloc (.cells #[.int .i64 0,.int .i64 t] 3)=V:=⟨_,rfl⟩
      rw [hV0] at hHeld ⊢
      have hb0:Below w2.heap.size w2 V0:=Gn.below_new hV0
      have hxb0:V0.heap[w2.heap.size]? = some (.cells #[.int .i64 0,.int .i64 t] 3):=by rw [← hV0];exact World.alloc_heap_new w2 _
      have hs:=hs.below hb0
      have hf:=hf.trans (Gn.Fw.of_below hb0)
      refine wpAnyH_ready (rs:=[7]) (by kernel_rfl) (by simp) ?_
      refine AllReadyH.cons rfl (fun KK hK => ?_) AllReadyH.nil
      go_simp
      refine (Gn.pick_any hs 2 (by decide) (by decide) (by omega)).mono ?_
      rintro e w3 ⟨v,rfl,hv,hs,hfx⟩
      have hxb:=hfx.blk hxb0 (by decide)
      obtain ⟨ty,hcy⟩:=Gn.itab2 hxb hv
      have hf:=hf.trans hfx.w
      have c4:=hs.cells.1
      go_wp2
      refine hK.out _ _ (c4) (fun hHeld => ?_)
      clear hK
      try simp [Act.put]
      refine Tk 8 (.pointer (some ⟨w2.heap.size,v,none⟩)) rfl ?_
      try simp [Act.put]
      refine wpAnyH_ready (rs:=[9]) (by kernel_rfl) (by simp) ?_
      refine AllReadyH.cons rfl (fun KK hK => ?_) AllReadyH.nil
      go_simp
      refine hK.out _ _ (c4) (fun hHeld => ?_)
      clear hK
      try simp [Act.put]
      refine Tk 10 (.int .i64 ty) rfl ?_
      try simp [Act.put]
      refine wpAnyH_done (by kernel_rfl) ?_ _
      clear hHeld c0 c1
      try rw [hV0]
      go_wp2_with (first
            | (go_at_call 8
               refine (Gn.pickI h0 18 (by decide) (by decide) b0).mono ?_
               rintro e w1 ⟨k,rfl,hk,hs,hf⟩
               clear h0
               have c0:=hs.cells.1
               have c1:=hs.cells.2.1
               have c4:=hs.cells.2.2.2.2.1
               have hg1:=Nat.lt_of_lt_of_le hgw hf.size
               rcases Gn.k18n q loops hk with ⟨rfl,hl,m0⟩ | ⟨rfl,hl,m0⟩ | ⟨rfl,hl,m0⟩ | ⟨rfl,hl,m3⟩ | ⟨rfl,hl,mD⟩ | ⟨rfl,hl,m3⟩ | ⟨rfl,hl,mD⟩ | ⟨rfl,hl,m5⟩ | ⟨rfl,hl,m5⟩ | ⟨rfl,hl,m7⟩ | ⟨rfl,hl,m7⟩ | ⟨rfl,hl,m9⟩ | ⟨rfl,hl,m9⟩ | ⟨rfl,hl,m10⟩ | ⟨rfl,hl,m11⟩ | ⟨rfl,hl,m11⟩ | ⟨rfl,hl,m11⟩ | ⟨rfl,hl,m11⟩ | ⟨rfl,hl,m15⟩ | ⟨rfl,hl,mD⟩ | ⟨rfl,hl,m15⟩ | ⟨rfl,hl,mD⟩ | ⟨rfl,hl,m15⟩ | ⟨rfl,hl,mD⟩)
            | (go_at_call 81
               have _m:=m0
               refine (Gn.typ_any hs (by omega)).mono ?_
               rintro e w2 ⟨t,rfl,ht,hs,hfx⟩
               have hf:=hf.trans hfx.w)
            | (go_at_call 102
               have _m:=m7
               have hrq:=hrn
               refine (HE3.out _ _ _ _ _ _ _ _ _ _ _ hs (by omega)).mono ?_
               rintro e wx ⟨ax,nx,cx,sx,rfl,hr,hs,hfx⟩
               have hrn:=hrq.fr hfx
               have hf:=hf.trans hfx.w)
            | (go_at_call 102
               have _m:=m0
               refine (HE3.out _ _ _ _ _ _ _ _ _ _ _ hs (by omega)).mono ?_
               rintro e wx ⟨ax,nx,cx,sx,rfl,hr,hs,hfx⟩
               have hf:=hf.trans hfx.w)
            | (go_at_call 102
               have _m:=m5
               refine (HE3.out _ _ _ _ _ _ _ _ _ _ _ hs (by omega)).mono ?_
               rintro e wx ⟨ax,nx,cx,sx,rfl,hr,hs,hfx⟩
               have hf:=hf.trans hfx.w)
            | (go_at_call 102
               have _m:=mD
               refine (HE2.out _ _ _ _ _ _ _ _ _ _ _ hs (by omega)).mono ?_
               rintro e wx ⟨ax,nx,cx,sx,rfl,hr,hs,hfx⟩
               have hr:=hr.mono (Nat.le_refl _) e23
               have hf:=hf.trans hfx.w)
            | (go_at_call 102
               have _m:=m9
               refine (HE2.out _ _ _ _ _ _ _ _ _ _ _ hs (by omega)).mono ?_
               rintro e wx ⟨ax,nx,cx,sx,rfl,hr,hs,hfx⟩
               have hr:=hr.mono (Nat.le_refl _) e23
               have hf:=hf.trans hfx.w)
            | (go_at_call 102
               have _m:=m10
               refine (HE2.out _ _ _ _ _ _ _ _ _ _ _ hs (by omega)).mono ?_
               rintro e wx ⟨ax,nx,cx,sx,rfl,hr,hs,hfx⟩
               have hr:=hr.mono (Nat.le_refl _) e23
               have hf:=hf.trans hfx.w)
            | (go_at_call 118
               refine (Gn.fresh_any hs (by omega)).mono ?_
               rintro e w4 ⟨x,rfl,hx,hs,hfx⟩
               have hr:=hr.fw hfx
               have hf:=hf.trans hfx
               have c1:=hs.cells.2.1
               obtain ⟨V,hV⟩:∃ V,w4.alloc (.cells #[.string x,.int .i64 t] 140)=V:=⟨_,rfl⟩)
            | (at_builtin
               refine Gn.wp_name rfl _ _ rfl hs x t hx (Gn.ty_of ht) (by omega) hV rfl rfl ?_
               intro na' c5 w5 hc5 hs hfx
               obtain ⟨hc5,hd5⟩:=hc5
               have hr:=hr.fw hfx
               have hf:=hf.trans hfx
               rw [HQ1.out] at hs hf hr ⊢
               obtain ⟨W5,hW5⟩:∃ W,w5.setCell ⟨g,1,none⟩ (.slice na' q1 c5)=W:=⟨_,rfl⟩
               rw [hW5] at hs hf hr
               clear hV)
            | (go_at_call 77
               have _m:=m0
               refine (Gn.over1 ⟨10,0,0,0,x,0⟩ (Nat.le_trans hx (by decide)) hr e3b).mono ?_
               rintro e wz ⟨az,nz,cz,rfl,hrz,hbz⟩
               have hsz:=hs.below hbz
               have hzz:=hf.size
               have hfz:=hf.trans (Gn.Fw.of_below hbz)
               have hnz:=Gn.len_le nl (x,t))
            | (go_at_call 77
               have _m:=m7
               refine (Gn.over2s ⟨18,0,0,0,⟨#[]⟩,0⟩ Gn.no_text hrn hr e3c).mono ?_
               rintro e wz ⟨az,nz,cz,rfl,hrz,hbz⟩
               have hsz:=hs.below hbz
               have hzz:=hf.size
               have hfz:=hf.trans (Gn.Fw.of_below hbz)
               have hnz:=Nat.le_refl nl.length)
            | (go_at_call 77
               have _m:=mD
               refine (Gn.over1 ⟨_,0,0,0,⟨#[]⟩,0⟩ Gn.no_text hr e3b).mono ?_
               rintro e wz ⟨az,nz,cz,rfl,hrz,hbz⟩
               have hsz:=hs.below hbz
               have hzz:=hf.size
               have hfz:=hf.trans (Gn.Fw.of_below hbz)
               have hnz:=Nat.le_refl nl.length)
            | (go_at_call 77
               have _m:=m5
               refine (Gn.over1 ⟨_,0,0,0,⟨#[]⟩,0⟩ Gn.no_text hr e3b).mono ?_
               rintro e wz ⟨az,nz,cz,rfl,hrz,hbz⟩
               have hsz:=hs.below hbz
               have hzz:=hf.size
               have hfz:=hf.trans (Gn.Fw.of_below hbz)
               have hnz:=Nat.le_refl nl.length)
            | (go_at_call 77
               have _m:=m9
               refine (Gn.over1 ⟨_,0,0,0,⟨#[]⟩,0⟩ Gn.no_text hr e3b).mono ?_
               rintro e wz ⟨az,nz,cz,rfl,hrz,hbz⟩
               have hsz:=hs.below hbz
               have hzz:=hf.size
               have hfz:=hf.trans (Gn.Fw.of_below hbz)
               have hnz:=Nat.le_refl nl.length)
            | (go_at_call 77
               have _m:=m10
               refine (Gn.over1 ⟨_,0,0,0,⟨#[]⟩,0⟩ Gn.no_text hr e3b).mono ?_
               rintro e wz ⟨az,nz,cz,rfl,hrz,hbz⟩
               have hsz:=hs.below hbz
               have hzz:=hf.size
               have hfz:=hf.trans (Gn.Fw.of_below hbz)
               have hnz:=Nat.le_refl nl.length)
            | (go_at_call 8
               have _m:=m7
               refine (Gn.pick_any (hs.below ((Below.refl _ w1).alloc (Nat.le_refl _) _)) 5 (by decide) (by decide) (by omega)).mono ?_
               rintro e w2 ⟨v,rfl,hv,hs,hfx⟩
               have hv5:=Gn.nat5 hv
               obtain ⟨t,ht,hts⟩:=Gn.tab_fr (M:=5) hfx (by decide) (by decide) v hv5
               have hf:=(hf.alloc _).trans hfx.w)
            | (go_at_call 75
               refine (Gn.textNode_any t (Nat.le_trans hts (by decide)) _).mono ?_
               rintro e w3 ⟨a3,n3,c3,rfl,hrn,hbx⟩
               have hs:=hs.below hbx
               have hf:=hf.trans (Gn.Fw.of_below hbx))
            | (go_at_call 8
               have _m:=m9
               refine (Gn.pickI hs _ (by decide) (by decide) (by omega)).mono ?_
               rintro e w2 ⟨v2,rfl,hv2,hs,hfx⟩
               have hf:=hf.trans hfx
               have c0:=hs.cells.1
               have hwv:=Gn.wrB hv2 (by decide))
            | (go_at_call 103
               refine (Gn.back_any hs (by omega)).mono ?_
               rintro e wz ⟨az,nz,cz,szz,rfl,hrz,hsz,hfx⟩
               have hzz:=hf.size
               have hfz:=hf.trans hfx
               have hnz:=Nat.le_refl nl.length)
            | (go_at_call 119
               refine (Gn.call2 HE1 hs (by omega) ty).mono ?_
               rintro e w5 ⟨a5,n5,c5,ok,s5,rfl,hr5,hs5,hfx⟩
               have hs:=hs5.mono (Gn.cond_le ok)
               clear hs5
               have hr:=hr5.mono (Nat.le_refl _) e13
               have hf:=hf.trans hfx.w
               cases ok)
            | (go_at_call 120
               refine (Gn.cond_d HC.out HD.out hs (by omega)).mono ?_
               rintro e wz ⟨az,nz,cz,nvz,nlz,cntz,szz,rfl,hrz,hsz,hnz,hfx⟩
               have hzz:=hf.size
               have hfz:=hf.trans hfx)
            | (go_at_call 121
               refine (Gn.loop_d HL HD.out HM.out hm1 hs (by omega)).mono ?_
               rintro e wz ⟨az,nz,cz,nvz,nlz,cntz,szz,rfl,hrz,hsz,hnz,hfx⟩
               have hzz:=hf.size
               have hfz:=hf.trans hfx))
      all_goals exact bodyPost_ret (v:=.tuple #[.slice az nz cz,.int .i64 _]) (by simp [results,Tryz.results109,go_sem];try rfl) rfl ⟨az,nz,cz,_,_,_,_,_,rfl,by decide,hrz.mono (by omega) (by omega),hsz.mono (by omega),hnz,hfz⟩
    · go_simp
      refine (Gn.pick_any hs 2 (by decide) (by decide) (by omega)).mono ?_
      rintro e w3 ⟨v,rfl,hv,hs,hfx⟩
      have hf:=hf.trans hfx.w
      have c3:=hs.cells.1
      go_wp2
      refine hK.out _ _ (c3) (fun hHeld => ?_)
      clear hK
      try simp [Act.put]
      refine wpAnyH_ready (rs:=[2]) (by kernel_rfl) (by simp) ?_
      refine AllReadyH.cons rfl (fun KK hK => ?_) AllReadyH.nil
      go_simp
      refine hK.out _ _ (Gn.ca c3) (fun hHeld => ?_)
      clear hK
      try simp [Act.put]
      obtain ⟨V0,hV0⟩:∃ V,w3.alloc (.cells #[.int .i64 0,.int .i64 t] 3)=V:=⟨_,rfl⟩
      rw [hV0] at hHeld ⊢
      have hb0:Below w3.heap.size w3 V0:=Gn.below_new hV0
      have hxb:V0.heap[w3.heap.size]? = some (.cells #[.int .i64 0,.int .i64 t] 3):=by rw [← hV0];exact World.alloc_heap_new w3 _
      have hs:=hs.below hb0
      have hf:=hf.trans (Gn.Fw.of_below hb0)
      obtain ⟨ty,hcy⟩:=Gn.itab2 hxb hv
      have c4:=hs.cells.1
      refine Tk 8 (.pointer (some ⟨w3.heap.size,v,none⟩)) rfl ?_
      try simp [Act.put]
      refine wpAnyH_ready (rs:=[9]) (by kernel_rfl) (by simp) ?_
      refine AllReadyH.cons rfl (fun KK hK => ?_) AllReadyH.nil
      go_simp
      refine hK.out _ _ (c4) (fun hHeld => ?_)
      clear hK
      try simp [Act.put]
      refine Tk 10 (.int .i64 ty) rfl ?_
      try simp [Act.put]
      refine wpAnyH_done (by kernel_rfl) ?_ _
      clear hHeld c0 c1
      try rw [hV0]
      go_wp2_with (first
            | (go_at_call 8
               refine (Gn.pickI h0 18 (by decide) (by decide) b0).mono ?_
               rintro e w1 ⟨k,rfl,hk,hs,hf⟩
               clear h0
               have c0:=hs.cells.1
               have c1:=hs.cells.2.1
               have c4:=hs.cells.2.2.2.2.1
               have hg1:=Nat.lt_of_lt_of_le hgw hf.size
               rcases Gn.k18n q loops hk with ⟨rfl,hl,m0⟩ | ⟨rfl,hl,m0⟩ | ⟨rfl,hl,m0⟩ | ⟨rfl,hl,m3⟩ | ⟨rfl,hl,mD⟩ | ⟨rfl,hl,m3⟩ | ⟨rfl,hl,mD⟩ | ⟨rfl,hl,m5⟩ | ⟨rfl,hl,m5⟩ | ⟨rfl,hl,m7⟩ | ⟨rfl,hl,m7⟩ | ⟨rfl,hl,m9⟩ | ⟨rfl,hl,m9⟩ | ⟨rfl,hl,m10⟩ | ⟨rfl,hl,m11⟩ | ⟨rfl,hl,m11⟩ | ⟨rfl,hl,m11⟩ | ⟨rfl,hl,m11⟩ | ⟨rfl,hl,m15⟩ | ⟨rfl,hl,mD⟩ | ⟨rfl,hl,m15⟩ | ⟨rfl,hl,mD⟩ | ⟨rfl,hl,m15⟩ | ⟨rfl,hl,mD⟩)
            | (go_at_call 81
               have _m:=m0
               refine (Gn.typ_any hs (by omega)).mono ?_
               rintro e w2 ⟨t,rfl,ht,hs,hfx⟩
               have hf:=hf.trans hfx.w)
            | (go_at_call 102
               have _m:=m7
               have hrq:=hrn
               refine (HE3.out _ _ _ _ _ _ _ _ _ _ _ hs (by omega)).mono ?_
               rintro e wx ⟨ax,nx,cx,sx,rfl,hr,hs,hfx⟩
               have hrn:=hrq.fr hfx
               have hf:=hf.trans hfx.w)
            | (go_at_call 102
               have _m:=m0
               refine (HE3.out _ _ _ _ _ _ _ _ _ _ _ hs (by omega)).mono ?_
               rintro e wx ⟨ax,nx,cx,sx,rfl,hr,hs,hfx⟩
               have hf:=hf.trans hfx.w)
            | (go_at_call 102
               have _m:=m5
               refine (HE3.out _ _ _ _ _ _ _ _ _ _ _ hs (by omega)).mono ?_
               rintro e wx ⟨ax,nx,cx,sx,rfl,hr,hs,hfx⟩
               have hf:=hf.trans hfx.w)
            | (go_at_call 102
               have _m:=mD
               refine (HE2.out _ _ _ _ _ _ _ _ _ _ _ hs (by omega)).mono ?_
               rintro e wx ⟨ax,nx,cx,sx,rfl,hr,hs,hfx⟩
               have hr:=hr.mono (Nat.le_refl _) e23
               have hf:=hf.trans hfx.w)
            | (go_at_call 102
               have _m:=m9
               refine (HE2.out _ _ _ _ _ _ _ _ _ _ _ hs (by omega)).mono ?_
               rintro e wx ⟨ax,nx,cx,sx,rfl,hr,hs,hfx⟩
               have hr:=hr.mono (Nat.le_refl _) e23
               have hf:=hf.trans hfx.w)
            | (go_at_call 102
               have _m:=m10
               refine (HE2.out _ _ _ _ _ _ _ _ _ _ _ hs (by omega)).mono ?_
               rintro e wx ⟨ax,nx,cx,sx,rfl,hr,hs,hfx⟩
               have hr:=hr.mono (Nat.le_refl _) e23
               have hf:=hf.trans hfx.w)
            | (go_at_call 118
               refine (Gn.fresh_any hs (by omega)).mono ?_
               rintro e w4 ⟨x,rfl,hx,hs,hfx⟩
               have hr:=hr.fw hfx
               have hf:=hf.trans hfx
               have c1:=hs.cells.2.1
               obtain ⟨V,hV⟩:∃ V,w4.alloc (.cells #[.string x,.int .i64 t] 140)=V:=⟨_,rfl⟩)
            | (at_builtin
               refine Gn.wp_name rfl _ _ rfl hs x t hx (Gn.ty_of ht) (by omega) hV rfl rfl ?_
               intro na' c5 w5 hc5 hs hfx
               obtain ⟨hc5,hd5⟩:=hc5
               have hr:=hr.fw hfx
               have hf:=hf.trans hfx
               rw [HQ1.out] at hs hf hr ⊢
               obtain ⟨W5,hW5⟩:∃ W,w5.setCell ⟨g,1,none⟩ (.slice na' q1 c5)=W:=⟨_,rfl⟩
               rw [hW5] at hs hf hr
               clear hV)
            | (go_at_call 77
               have _m:=m0
               refine (Gn.over1 ⟨10,0,0,0,x,0⟩ (Nat.le_trans hx (by decide)) hr e3b).mono ?_
               rintro e wz ⟨az,nz,cz,rfl,hrz,hbz⟩
               have hsz:=hs.below hbz
               have hzz:=hf.size
               have hfz:=hf.trans (Gn.Fw.of_below hbz)
               have hnz:=Gn.len_le nl (x,t))
            | (go_at_call 77
               have _m:=m7
               refine (Gn.over2s ⟨18,0,0,0,⟨#[]⟩,0⟩ Gn.no_text hrn hr e3c).mono ?_
               rintro e wz ⟨az,nz,cz,rfl,hrz,hbz⟩
               have hsz:=hs.below hbz
               have hzz:=hf.size
               have hfz:=hf.trans (Gn.Fw.of_below hbz)
               have hnz:=Nat.le_refl nl.length)
            | (go_at_call 77
               have _m:=mD
               refine (Gn.over1 ⟨_,0,0,0,⟨#[]⟩,0⟩ Gn.no_text hr e3b).mono ?_
               rintro e wz ⟨az,nz,cz,rfl,hrz,hbz⟩
               have hsz:=hs.below hbz
               have hzz:=hf.size
               have hfz:=hf.trans (Gn.Fw.of_below hbz)
               have hnz:=Nat.le_refl nl.length)
            | (go_at_call 77
               have _m:=m5
               refine (Gn.over1 ⟨_,0,0,0,⟨#[]⟩,0⟩ Gn.no_text hr e3b).mono ?_
               rintro e wz ⟨az,nz,cz,rfl,hrz,hbz⟩
               have hsz:=hs.below hbz
               have hzz:=hf.size
               have hfz:=hf.trans (Gn.Fw.of_below hbz)
               have hnz:=Nat.le_refl nl.length)
            | (go_at_call 77
               have _m:=m9
               refine (Gn.over1 ⟨_,0,0,0,⟨#[]⟩,0⟩ Gn.no_text hr e3b).mono ?_
               rintro e wz ⟨az,nz,cz,rfl,hrz,hbz⟩
               have hsz:=hs.below hbz
               have hzz:=hf.size
               have hfz:=hf.trans (Gn.Fw.of_below hbz)
               have hnz:=Nat.le_refl nl.length)
            | (go_at_call 77
               have _m:=m10
               refine (Gn.over1 ⟨_,0,0,0,⟨#[]⟩,0⟩ Gn.no_text hr e3b).mono ?_
               rintro e wz ⟨az,nz,cz,rfl,hrz,hbz⟩
               have hsz:=hs.below hbz
               have hzz:=hf.size
               have hfz:=hf.trans (Gn.Fw.of_below hbz)
               have hnz:=Nat.le_refl nl.length)
            | (go_at_call 8
               have _m:=m7
               refine (Gn.pick_any (hs.below ((Below.refl _ w1).alloc (Nat.le_refl _) _)) 5 (by decide) (by decide) (by omega)).mono ?_
               rintro e w2 ⟨v,rfl,hv,hs,hfx⟩
               have hv5:=Gn.nat5 hv
               obtain ⟨t,ht,hts⟩:=Gn.tab_fr (M:=5) hfx (by decide) (by decide) v hv5
               have hf:=(hf.alloc _).trans hfx.w)
            | (go_at_call 75
               refine (Gn.textNode_any t (Nat.le_trans hts (by decide)) _).mono ?_
               rintro e w3 ⟨a3,n3,c3,rfl,hrn,hbx⟩
               have hs:=hs.below hbx
               have hf:=hf.trans (Gn.Fw.of_below hbx))
            | (go_at_call 8
               have _m:=m9
               refine (Gn.pickI hs _ (by decide) (by decide) (by omega)).mono ?_
               rintro e w2 ⟨v2,rfl,hv2,hs,hfx⟩
               have hf:=hf.trans hfx
               have c0:=hs.cells.1
               have hwv:=Gn.wrB hv2 (by decide))
            | (go_at_call 103
               refine (Gn.back_any hs (by omega)).mono ?_
               rintro e wz ⟨az,nz,cz,szz,rfl,hrz,hsz,hfx⟩
               have hzz:=hf.size
               have hfz:=hf.trans hfx
               have hnz:=Nat.le_refl nl.length)
            | (go_at_call 119
               refine (Gn.call2 HE1 hs (by omega) ty).mono ?_
               rintro e w5 ⟨a5,n5,c5,ok,s5,rfl,hr5,hs5,hfx⟩
               have hs:=hs5.mono (Gn.cond_le ok)
               clear hs5
               have hr:=hr5.mono (Nat.le_refl _) e13
               have hf:=hf.trans hfx.w
               cases ok)
            | (go_at_call 120
               refine (Gn.cond_d HC.out HD.out hs (by omega)).mono ?_
               rintro e wz ⟨az,nz,cz,nvz,nlz,cntz,szz,rfl,hrz,hsz,hnz,hfx⟩
               have hzz:=hf.size
               have hfz:=hf.trans hfx)
            | (go_at_call 121
               refine (Gn.loop_d HL HD.out HM.out hm1 hs (by omega)).mono ?_
               rintro e wz ⟨az,nz,cz,nvz,nlz,cntz,szz,rfl,hrz,hsz,hnz,hfx⟩
               have hzz:=hf.size
               have hfz:=hf.trans hfx))
      all_goals exact bodyPost_ret (v:=.tuple #[.slice az nz cz,.int .i64 _]) (by simp [results,Tryz.results109,go_sem];try rfl) rfl ⟨az,nz,cz,_,_,_,_,_,rfl,by decide,hrz.mono (by omega) (by omega),hsz.mono (by omega),hnz,hfz⟩
end Go.Proofs.YtfoimmnlojjfbaaGreatDoor
