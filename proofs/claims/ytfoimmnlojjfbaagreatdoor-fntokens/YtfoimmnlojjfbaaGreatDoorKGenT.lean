import Derived.Test.YtfoimmnlojjfbaaGreatDoorKTk
import Derived.Test.YtfoimmnlojjfbaaGreatDoorKGenO
set_option maxRecDepth 100000
set_option maxHeartbeats 4000000
namespace Go.Proofs.YtfoimmnlojjfbaaGreatDoor
open Go.RowKit
theorem Gn.pickI {B g R P:Nat} {w:World} {nv:Value} {nl:List (ByteArray × Int)} {fv:Value} {F:List Gn.Sg} {ret loops count size:Int} (h:Gn.St B g R P w nv nl fv F ret loops count size) (n:Int) (h1:1≤n) (h2:n≤1000000000) (hP:P≤1000000000) :
  Calls Tryz.prog 8 #[.pointer (some ⟨R,0,none⟩),.int .i64 n] w fun e w' => ∃ v:Int,e = .returned (.int .i64 v)∧(0≤v∧v < n)∧Gn.St B g R (P+1) w' nv nl fv F ret loops count size∧Gn.Fw B w w':=by
 refine (Gn.pick_anyW h n h1 h2 hP).mono ?_
 rintro e w' ⟨v,he,hv,hs,hf⟩
 exact ⟨v,he,by omega,hs,hf⟩
theorem Gn.ty3 {v:Int} (h:0≤v∧v < 8):Gn.ty (3+v):=by unfold Gn.ty;omega
theorem Gn.wr3 {v:Int} (h:0≤v∧v < 8):wrap64 (3+v)=3+v:=IntWalk.wrap64_in _ (by omega)
theorem Gn.wr4 {v:Int} (h:0≤v∧v < 4):wrap64 (1+v)=1+v:=IntWalk.wrap64_in _ (by omega)
theorem Gn.wi4 {v:Int} (h:0≤v∧v < 4):IntKind.i64.wrap (1+v)=1+v:=(IntWalk.i64_left _).trans (IntWalk.wrap64_in _ (by omega))
theorem Gn.wrk {k:Int} (h:0≤k∧k≤6):wrap64 (k+1)=k+1:=IntWalk.wrap64_in _ (by omega)
theorem Gn.below_new {w V:World} {o:Obj} (h:w.alloc o=V):Below w.heap.size w V:=by rw [← h];exact (Below.refl _ w).alloc (Nat.le_refl _) _
theorem Gn.len_one {nl l:List (ByteArray × Int)} {x:ByteArray × Int} {q:Nat} (h:nl++[x]=l) (hq:nl.length+1=q):l.length=q:=by rw [← h];simpa using hq
theorem Gn.St.up {B g R P:Nat} {w:World} {nv:Value} {nl:List (ByteArray × Int)} {fv:Value} {F:List Gn.Sg} {ret loops count size:Int} (h:Gn.St B g R P w nv nl fv F ret loops count size):Gn.St B g R (P+1) (w.setCell ⟨g,4,none⟩ (.int .i64 (loops+1))) nv nl fv F ret (loops+1) count size∧Gn.Fw B w (w.setCell ⟨g,4,none⟩ (.int .i64 (loops+1))):=by
 have hb:=h.bd
 exact h.putW (by omega) 4 _ rfl ⟨hb.1,by omega,by omega,by omega⟩
theorem Gn.St.dn {B g R P:Nat} {w:World} {nv:Value} {nl:List (ByteArray × Int)} {fv:Value} {F:List Gn.Sg} {ret loops count size:Int} (h:Gn.St B g R P w nv nl fv F ret (loops+1) count size) (h0:0≤loops):Gn.St B g R P (w.setCell ⟨g,4,none⟩ (.int .i64 loops)) nv nl fv F ret loops count size∧Gn.Fw B w (w.setCell ⟨g,4,none⟩ (.int .i64 loops)):=by
 have hb:=h.bd
 exact h.putW (by omega) 4 _ rfl ⟨hb.1,by omega,by omega,by omega⟩
theorem Gn.loop_any (B g R m:Nat) (HSM:Hid (Gn.SomeIs B g R m)) (n:Nat) (hm:((n:Int) - 1).toNat=m) (hn:n≤100) {P:Nat} {w:World} {nv:Value} {nl:List (ByteArray × Int)} {fv:Value} {F:List Gn.Sg} {ret loops count size:Int} (h:Gn.St B g R P w nv nl fv F ret loops count size) (hP:P+4 * Gn.mb m≤700000000) :
    Calls Tryz.prog 121 #[.pointer (some ⟨g,0,none⟩),.int .i64 (n:Int)] w (Gn.BPost B g R (P+4 * Gn.mb m) (4 * Gn.mb m) w nl fv F ret loops):=by
  have HE2:Hid (Gn.ExprW B g R 2):=Gn.expr_anyW B g R 2
  have HS:Hid (Gn.St B g R P w nv nl fv F ret loops count size):=h
  have hmp:=Gn.mb_pos m
  have HM:Hid (((n:Int) - 1).toNat=m):=hm
  have hwd:wrap64 ((n:Int) - 1)=(n:Int) - 1:=IntWalk.wrap64_in _ (by omega)
  have hgw:g < w.heap.size:=(Array.getElem?_eq_some_iff.1 h.box).1
  have hlb:=h.bd.2.1
  have hwl:wrap64 (loops+1)=loops+1:=IntWalk.wrap64_in _ (by omega)
  have hwl2:wrap64 (loops+1 - 1)=loops:=by rw [show loops+1 - 1=loops by omega];exact IntWalk.wrap64_in _ (by omega)
  have b1:P≤800000000:=by omega
  have b2:P+1≤1000000000:=by omega
  have b3:P+2≤900000000:=by omega
  obtain ⟨q,HQ⟩:∃ q,Hid (nl.length+1=q):=⟨_,(rfl:nl.length+1=_)⟩
  have hqb:q≤P+1:=by have h1:=h.nbd.1;have h2:=HQ.out;omega
  have b4:P+1+1+1+1+3 * Gn.mb m+10≤700000000:=by omega
  have b5:(3+1)+(3 * Gn.mb m+10)≤1000000000:=by omega
  have b6:(3+1)+(3 * Gn.mb m+10)+1≤1000000000:=by omega
  have e2:Gn.eb 2=2500:=rfl
  have b7:P+1+1+1+1+3 * Gn.mb m+10≤1000000000:=by omega
  have b8:P+1+1+1+1+3 * Gn.mb m+10+1≤1000000000:=by omega
  have b9:P+1+1+1+1+3 * Gn.mb m+10+1+1+Gn.eb 2≤700000000:=by omega
  have b10:Gn.eb 2+((3+1)+(3 * Gn.mb m+10)+1)≤1000000000:=by omega
  have b11:2 * 1+1≤Gn.eb 2:=by omega
  have b12:P+1+1+1+1+3 * Gn.mb m+10+1+1≤P+1+1+1+1+3 * Gn.mb m+10+1+1+Gn.eb 2:=by omega
  have b13:(1+1)+(Gn.eb 2+((3+1)+(3 * Gn.mb m+10)+1)+1)≤1000000000:=by omega
  clear e2
  have hn1:(-1:Int)≤(n:Int) - 1:=by omega
  clear h hm
  go_enter Tryz.func121,Tryz.ntmps121
  go_wp2_with (first
    | (go_at_call 118;refine (Gn.fresh_any HS.out b1).mono ?_;rintro e w1 ⟨x,rfl,hx,hs1,hf1⟩;have g0:=hs1.cells.1;clear HS)
    | (go_at_call 8;refine (Gn.pickI hs1 8 (by decide) (by decide) b2).mono ?_;rintro e w2 ⟨v,rfl,hv,hs2,hf2⟩;have hwt:=Gn.wr3 hv;clear g0 hs1)
    | (go_at_call 100;refine (Gn.int_any _ _ w2).mono ?_;rintro e w3 ⟨a3,n3,c3,rfl,hr3,hb3⟩;clear b2)
    | (go_at_call 77;refine (Gn.over1 ⟨10,0,0,0,x,0⟩ (Nat.le_trans hx (by decide)) hr3 (by decide)).mono ?_;rintro e w4 ⟨a4,n4,c4,rfl,hr4,hb4⟩;have hs4:=(hs2.below hb3).below hb4;have HF4:Hid (Gn.Fw B w w4):=((hf1.trans hf2).trans (Gn.Fw.of_below hb3)).trans (Gn.Fw.of_below hb4);have hz3:w.heap.size≤w3.heap.size:=((hf1.trans hf2).trans (Gn.Fw.of_below (B:=B) hb3)).size;have hz4:=hb4.size;have g1:=hs4.cells.2.1;obtain ⟨V,hV⟩:∃ V,w4.alloc (.cells #[.string x,.int .i64 (3+v)] 140)=V:=⟨_,rfl⟩;clear hs2 hf1 hf2 hb3 hb4 hr3)
    | (at_builtin;(refine Gn.wp_name rfl _ _ rfl hs4 x (3+v) hx (Gn.ty3 hv) b3 hV rfl rfl ?_;intro na c5 w5 hc5 hs5 hf5;obtain ⟨hc5,hd5⟩:=hc5;rw [HQ.out] at hs5 hf5 ⊢;obtain ⟨nl5,hnl5⟩:∃ l,nl++[(x,3+v)]=l:=⟨_,rfl⟩;have hq5:=Gn.len_one hnl5 HQ.out;rw [hnl5] at hs5;clear hs4 g1 b3 hV V hnl5))
    | (go_at_call 98;refine (Gn.leaf_any _ _ (Nat.le_trans hx (by decide)) _).mono ?_;rintro e w6 ⟨a6,n6,c6,rfl,hr6,hb6⟩;have hs6:=hs5.below hb6;have hf6:=hf5.trans (Gn.Fw.of_below hb6);clear hs5 hf5 hc5 hd5 hb6)
    | (go_at_call 100;refine (Gn.int_any _ _ w6).mono ?_;rintro e w7 ⟨a7,n7,c7,rfl,hr7,hb7⟩;have hs7:=hs6.below hb7;have hf7:=hf6.trans (Gn.Fw.of_below hb7);have hr67:=hr6.fw (Gn.Fw.of_below (B:=B) hb7);clear hs6 hf6 hb7 hr6)
    | (go_at_call 99;refine (Gn.bin _ hr67 hr7 (by decide)).mono ?_;rintro e w8 ⟨a8,n8,c8,rfl,hr8,hb8⟩;have hs8:=hs7.below hb8;have hf8:=hf7.trans (Gn.Fw.of_below hb8);have hz8:=hf8.size;clear hs7 hf7 hb8 hr67 hr7)
    | (go_at_call 77;refine (Gn.over1 ⟨11,0,0,0,x,0⟩ (Nat.le_trans hx (by decide)) hr8 (by decide)).mono ?_;rintro e w9 ⟨a9,n9,c9,rfl,hr9,hb9⟩;have hs9:=hs8.below hb9;have hf9:=(Gn.Fw.of_below (B:=B) hb9);have k1:=hs9.cells.2.1;have k4:=hs9.cells.2.2.2.2.1;have f4:=hs9.froz 4;clear hs8 hb9 hr8)
    | (go_at_call 101;refine (HSM.out ((n:Int) - 1) hn1 HM.out _ _ _ _ _ _ _ _ _ _ hs9.up.1 b4).mono ?_;rintro e w11 ⟨a11,n11,c11,k,nv11,nl11,count11,size11,rfl,hk,hr11,hs11,hn11,hf11⟩
       obtain ⟨na11,nc11,rfl,hc1,hc2⟩:=Gn.rowCap hs11.names
       obtain ⟨V1,hV1⟩:∃ V,w11.setCell ⟨g,4,none⟩ (.int .i64 loops)=V:=⟨_,rfl⟩
       obtain ⟨hs12,hf12⟩:=hs11.dn hlb.1
       rw [hV1] at hs12 hf12
       have j4:=hs11.cells.2.2.2.2.1
       have e4:=hs11.froz 4
       obtain ⟨hs13,hf13⟩:=hs12.cutName q (Nat.le_trans (Nat.le_of_eq hq5.symm) hn11)
       have j1:=hs12.cells.2.1
       have e1:=hs12.froz 1
       obtain ⟨V2,hV2⟩:∃ V,V1.setCell ⟨g,1,none⟩ (.slice na11 q nc11)=V:=⟨_,rfl⟩
       rw [hV2] at hs13 hf13
       have hfa:=(hs9.up.2.trans hf11).trans (hf12.trans hf13)
       have hru:=hr9.fw hfa
       have hrb:=hr11.fw (hf12.trans hf13)
       have hfb:=hf9.trans hfa
       have hzb:=hfb.size
       have hnq:q≤nl11.length:=Nat.le_trans (Nat.le_of_eq hq5.symm) hn11
       obtain ⟨q11,HQ11⟩:∃ q,Hid (nl11.length=q):=⟨_,(rfl:nl11.length=_)⟩
       rw [HQ11.out] at j1 hc1 hnq
       have hwk:=Gn.wrk hk
       clear hs9 hs11 hs12 hf11 hf12 hf13 hr9 hr11 hf9 hfa k1 k4 f4
       have hzg:g < w8.heap.size:=Nat.lt_of_lt_of_le hgw (Nat.le_trans (Nat.le_trans hz3 hz4) hz8))
    | (at_builtin;refine Gn.wp_rows rfl _ _ rfl rfl rfl hru hrb hzb b5 ?_;intro a14 n14 c14 w14 hr14 hfr14 hst14
       have hs14:=hst14 _ _ _ _ _ _ _ _ _ _ _ _ hzg hs13
       have hf14:=hfr14 B w8 (Nat.le_refl _) hfb
       obtain ⟨V3,hV3⟩:∃ V,w14.alloc (.cells #[.int .i64 21,.int .i64 0,.int .i64 0,.int .i64 0,.string ⟨#[]⟩,.int .i64 (k+1)] 106)=V:=⟨_,rfl⟩
       have hb15:Below w14.heap.size w14 V3:=Gn.below_new hV3
       have hr15:=hr14.fw (Gn.Fw.of_below (B:=B) hb15)
       have hn15:=Gn.new_one w14 ⟨21,0,0,0,⟨#[]⟩,k+1⟩ Gn.no_text
       rw [show w14.alloc (.cells #[.int .i64 (Mill.Nd.mk 21 0 0 0 ⟨#[]⟩ (k+1)).kind,.int .i64 (Mill.Nd.mk 21 0 0 0 ⟨#[]⟩ (k+1)).op,.int .i64 (Mill.Nd.mk 21 0 0 0 ⟨#[]⟩ (k+1)).type,.int .i64 (Mill.Nd.mk 21 0 0 0 ⟨#[]⟩ (k+1)).n,.string (Mill.Nd.mk 21 0 0 0 ⟨#[]⟩ (k+1)).text,.int .i64 (Mill.Nd.mk 21 0 0 0 ⟨#[]⟩ (k+1)).kids] 106)=V3 from hV3] at hn15
       have hs15:=hs14.below hb15
       have hf15:=hf14.trans (Gn.Fw.of_below hb15)
       have hz15:=hf15.size
       clear hru hrb hs13 hfb hst14 hfr14 hs14 hf14 hr14 hb15 j4 e4 j1 e1)
    | (at_builtin;refine Gn.wp_rows rfl _ _ rfl rfl rfl hr15 hn15 hz15 b6 ?_;intro a16 n16 c16 w16 hr16 hfr16 hst16
       have hs16:=hst16 _ _ _ _ _ _ _ _ _ _ _ _ hzg hs15
       have hf16:=hfr16 B w8 (Nat.le_refl _) hf15
       clear hr15 hn15 hs15 hf15 hst16 hfr16
       clear hn11 hc1))
  have hfd0:Gn.Fw B w16 w16.drew:=Gn.Fw.of_below ((Below.refl _ w16).drew)
  have hsd:=hs16.below ((Below.refl _ w16).drew)
  have hfd:=hf16.trans hfd0
  refine wp_region_held_drew (S:=(fun W=>W.cell? ⟨g,0,none⟩=some (.pointer (some ⟨R,0,none⟩)))) (by kernel_rfl) (hs16.cells.1) (fun hHeld => ?_)
  refine Tk 0 (.string x) rfl ?_
  try simp [Act.put]
  refine Tk 2 (.int .i64 (3+v)) rfl ?_
  try simp [Act.put]
  refine Tk 3 (.pointer (some ⟨g,0,none⟩)) rfl ?_
  try simp [Act.put]
  refine Tk 4 (.pointer (some ⟨g,0,none⟩)) rfl ?_
  try simp [Act.put]
  refine Tk 5 (.pointer (some ⟨g,0,none⟩)) rfl ?_
  try simp [Act.put]
  refine Tk 6 (.pointer (some ⟨R,0,none⟩)) rfl ?_
  try simp [Act.put]
  refine wpAnyH_ready (rs:=[1]) (by kernel_rfl) (by simp) ?_
  refine AllReadyH.cons rfl (fun KK hK => ?_) AllReadyH.nil
  go_simp
  refine (Gn.leaf_any _ _ (Nat.le_trans hx (by decide)) w16.drew).mono ?_
  rintro e w17 ⟨a17,n17,c17,rfl,hr17,hb17⟩
  have hf17:=hfd.trans (Gn.Fw.of_below (B:=B) hb17)
  have hs17:=hsd.below hb17
  have hrc:=(hr16.fw hfd0).fw (Gn.Fw.of_below (B:=B) hb17)
  clear hsd hfd hb17
  go_wp2
  refine hK.out _ _ (hs17.cells.1) (fun hHeld => ?_)
  clear hK
  try simp [Act.put]
  refine wpAnyH_ready (rs:=[7]) (by kernel_rfl) (by simp) ?_
  refine AllReadyH.cons rfl (fun KK hK => ?_) AllReadyH.nil
  go_simp
  refine (Gn.pickI hs17 4 (by decide) (by decide) b7).mono ?_
  rintro e w18 ⟨v4,rfl,hv4,hs18,hf18⟩
  have hwv:=Gn.wr4 hv4
  have hwi:=Gn.wi4 hv4
  have hrd:=hrc.fw hf18
  have hre:=hr17.fw hf18
  have hf18:=hf17.trans hf18
  clear hrc hr17
  go_wp2
  refine hK.out _ _ (hs18.cells.1) (fun hHeld => ?_)
  clear hK
  try simp [Act.put]
  refine Tk 8 (.int .i64 (1+v4)) rfl ?_
  try simp [Act.put]
  refine wpAnyH_ready (rs:=[9]) (by kernel_rfl) (by simp) ?_
  refine AllReadyH.cons rfl (fun KK hK => ?_) AllReadyH.nil
  go_simp
  refine (Gn.int_any _ _ w18).mono ?_
  rintro e w19 ⟨a19,n19,c19,rfl,hr19,hb19⟩
  have hs19:=hs18.below hb19
  have hf19:=hf18.trans (Gn.Fw.of_below hb19)
  have hrf:=hrd.fw (Gn.Fw.of_below (B:=B) hb19)
  have hrg:=hre.fw (Gn.Fw.of_below (B:=B) hb19)
  clear hrd hre hb19
  go_wp2
  refine hK.out _ _ (hs19.cells.1) (fun hHeld => ?_)
  clear hK
  try simp [Act.put]
  refine wpAnyH_ready (rs:=[10]) (by kernel_rfl) (by simp) ?_
  refine AllReadyH.cons rfl (fun KK hK => ?_) AllReadyH.nil
  go_simp
  refine (Gn.bin _ hrg hr19 (by decide)).mono ?_
  rintro e w20 ⟨a20,n20,c20,rfl,hr20,hb20⟩
  have hs20:=hs19.below hb20
  have hf20:=hf19.trans (Gn.Fw.of_below hb20)
  have hrh:=hrf.fw (Gn.Fw.of_below (B:=B) hb20)
  have g0:=hs20.cells.1
  clear hrf hrg hr19 hb20
  go_wp2
  refine hK.out _ _ (hs20.cells.1) (fun hHeld => ?_)
  clear hK
  try simp [Act.put]
  refine Tk 11 (.slice a20 n20 c20) rfl ?_
  try simp [Act.put]
  refine wpAnyH_done (by kernel_rfl) ?_ _
  clear hs16 hf16 hr16 hfd0 hs17 hf17 hs18 hf18 hs19 hf19
  go_wp2_with (first
    | (go_at_call 8;refine (Gn.pickI hs20 10 (by decide) (by decide) b8).mono ?_;rintro e w21 ⟨v10,rfl,hv10,hs21,hf21⟩
       have hri:=hrh.fw hf21
       have hrj:=hr20.fw hf21
       have hf21:=hf20.trans hf21
       clear hs20 hf20 hrh hr20 g0)
    | (go_at_call 102;refine (HE2.out _ w21 _ _ _ _ _ _ _ _ 1 hs21 b9).mono ?_;rintro e w22 ⟨a22,n22,c22,size22,rfl,hr22,hs22,hf22⟩
       have hrk:=hri.fw hf22
       have hf22:=hf21.trans hf22
       clear hs21 hf21 hri hrj)
    | (go_at_call 77;refine (Gn.over2s ⟨13,0,0,0,⟨#[]⟩,0⟩ Gn.no_text hr22 hrk b10).mono ?_;rintro e w23 ⟨a23,n23,c23,rfl,hr23,hb23⟩
       have hs23:=hs22.below hb23
       have hf23:=(hf8.trans hf22).trans (Gn.Fw.of_below hb23)
       have hro:=hr4.fw hf23
       have hz23:w3.heap.size≤w23.heap.size:=Nat.le_trans hz4 hf23.size
       have hf24:=HF4.out.trans hf23
       clear hs22 hf22 hr22 hrk hb23)
    | (go_at_call 77;refine (Gn.over2s ⟨13,0,0,0,⟨#[]⟩,0⟩ Gn.no_text (hrj.mono (Nat.le_refl _) b11) hri b10).mono ?_;rintro e w23 ⟨a23,n23,c23,rfl,hr23,hb23⟩
       have hs23:=(hs21.below hb23).mono b12
       have hf23:=(hf8.trans hf21).trans (Gn.Fw.of_below hb23)
       have hro:=hr4.fw hf23
       have hz23:w3.heap.size≤w23.heap.size:=Nat.le_trans hz4 hf23.size
       have hf24:=HF4.out.trans hf23
       clear hs21 hf21 hri hrj hb23)
    | (at_builtin;refine Gn.wp_rows rfl _ _ rfl rfl rfl hro hr23 hz23 b13 ?_;intro a25 n25 c25 w25 hr25 hfr25 hst25
       have hs25:=hst25 _ _ _ _ _ _ _ _ _ _ _ _ (Nat.lt_of_lt_of_le hgw hz3) hs23
       have hf25:=hfr25 B w hz3 hf24
       clear hro hr23 hs23 hf23 hf24 hst25 hfr25))
  all_goals
    go_ret
    refine ⟨a25,n25,c25,_,_,_,_,rfl,hr25.mono hz3 (by have e2:Gn.eb 2=2500:=rfl;omega),hs25.mono (by have e2:Gn.eb 2=2500:=rfl;omega), ?_,hf25⟩
    rw [List.length_take,HQ11.out,Nat.min_eq_left hnq,← HQ.out];omega
end Go.Proofs.YtfoimmnlojjfbaaGreatDoor
