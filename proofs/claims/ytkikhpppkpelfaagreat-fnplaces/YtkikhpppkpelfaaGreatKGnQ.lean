import Derived.Test.YtkikhpppkpelfaaGreatKGnN
set_option maxRecDepth 100000
set_option maxHeartbeats 4000000
namespace Go.Proofs.YtkikhpppkpelfaaGreat
open Go.RowKit
theorem Gn.lawPlaces (a:Option Addr) (n c:Nat) (w:World) (hB:Mill.Bytes w w.heap.size (.slice a n c) n) (hc:n≤c) (hn:n≤9223372036854775807) :
    Calls Tryz.prog 3 #[.slice a n c] w fun e w'=>e = .returned (.bool true)∧Below w.heap.size w w':=by
  by_cases hsm:n≤1048576
  · have HD:Hid (Calls Tryz.prog 4 #[.slice a n c] w (Gn.DLPost w)):=Gn.drawLay w _ n hB (fun a m c h=>by injection h;subst_vars;assumption) hsm
    go_enter Tryz.func3,Tryz.ntmps3
    go_wp2_with (first
      | (go_at_call 4;refine HD.out.mono ?_;rintro e w1 ⟨pa,pn,pc,sa,sn,sc,fs,ss,rfl,hfp,hfs,hbp,hbs,hb1⟩;obtain ⟨L,C,HL⟩:∃ L C,Hid (Bx.lay fs ss=(L,C)):=⟨_,_,rfl⟩;have HI:=Gn.lay_i HL hbp hbs;have HS:=Gn.lay_s HL hbp hbs;clear HD;have k1:=Gn.up1 w1 (.cells #[.slice pa pn pc] 25);have c1:=Gn.new1 w1 (.slice pa pn pc) 25;have hbL:=Gn.lay_bd HL.out hbp hbs;have nC:(C != C)=false:=(by simp))
      | (go_at_call 5;refine (HI.out _ _ _ (hfp.below k1) (hfs.below k1)).mono ?_;clear HI;rintro e w2 ⟨qa,qc,rfl,ho2,hb2⟩;have P2:Hid (Gn.Pz (w2.alloc (.cells #[.slice qa L.length qc] 25)) w1.heap.size w2.heap.size _ _ _ fs ss L):=Gn.pz_mk hfp hfs hb2 ho2;have p2:=P2.out.p;have hw2:Below w.heap.size w (w2.alloc (.cells #[.slice qa L.length qc] 25)):=Gn.bl (Gn.bl (Gn.bl hb1 k1 hb1.size) hb2 (Nat.le_trans hb1.size k1.size)) (Gn.up1 _ _) (Nat.le_trans hb1.size (Nat.le_trans k1.size hb2.size));clear k1 c1 hfp hfs hb1 hb2 ho2)
      | (go_at_call 6;refine (HS.out _ _ _ P2.out.fp P2.out.fs).mono ?_;clear HS;rintro e w3 ⟨ra,rc,rfl,ho3,hb3⟩;have P3:Hid (Gn.Pz (w3.alloc (.cells #[.slice ra L.length rc] 25)) w1.heap.size w2.heap.size _ _ _ fs ss L):=(P2.out.below hb3).below (Gn.up1 _ _);have O3:Hid (Bx.Off (w3.alloc (.cells #[.slice ra L.length rc] 25)) (.slice ra L.length rc) L):=(Bx.own_off ho3).below (Gn.up1 _ _);have p3:=P3.out.p;have q3:=P3.out.q;have r3:=Gn.new1 w3 (.slice ra L.length rc) 25;have hw3:Below w.heap.size w (w3.alloc (.cells #[.slice ra L.length rc] 25)):=Gn.bl (Gn.bl hw2 hb3 hw2.size) (Gn.up1 _ _) (Nat.le_trans hw2.size hb3.size);clear P2 p2 hw2 ho3 hb3)
      | (go_at_call 7;refine (Gn.wFiles_same L _ _ _ P3.out.fq O3.out (by have:=hbL.1;omega)).mono ?_;rintro e w4 ⟨rfl,hb4⟩;have P4:Hid (Gn.Pz w4 w1.heap.size w2.heap.size _ _ _ fs ss L):=P3.out.below hb4;have p4:=P4.out.p;have q4:=P4.out.q;have hw4:Below w.heap.size w w4:=Gn.bl hw3 hb4 hw3.size;clear O3 P3 p3 q3 r3 hw3 hb4)
      | (go_at_call 8;have HLd:=Gn.laid_of HL (by assumption);refine (Gn.valid_i HL (by assumption) hbL _ _ P4.out.fq).mono ?_;rintro e w5 ⟨rfl,hb5⟩;have P5:Hid (Gn.Pz w5 w1.heap.size w2.heap.size _ _ _ fs ss L):=P4.out.below hb5;have p5:=P5.out.p;have q5:=P5.out.q;have hw5:Below w.heap.size w w5:=Gn.bl hw4 hb5 hw4.size;clear P4 p4 q4 hw4 hb5))
    · rename_i hC
      have hl0:((L.length:Int) == 0)=true:=by rw [Gn.lay_no HL (by simpa using hC)];rfl
      exact bodyPost_ret (v:=.bool true) (by simp [results,Tryz.results3,go_sem,hl0]) rfl ⟨rfl,hw4⟩
    · obtain ⟨hpn,hpn2⟩:=hbp.le P5.out.fp
      obtain ⟨hsn,hsn2⟩:=hbs.le P5.out.fs
      have HPN:Hid (pn=fs.length):=hpn
      have HSN:Hid (sn=ss.length):=hsn
      have HBP:Hid (Gn.Bd 50 fs):=hbp
      have HBS:Hid (Gn.Bd 50 ss):=hbs
      have HBL:Hid (Gn.Bd 100 L):=hbL
      clear hpn hsn hbp hbs hbL HL nC
      generalize L.length=ln at *
      go_loopw [9] (fun t9 wr => ∃ j:Int,(0≤j∧j≤(pn:Int))∧t9 = .int .i64 j∧Below w5.heap.size w5 wr) (fun t9 _=>((pn:Int) - intOf t9).toNat)
      case atStart=>exact ⟨0,by omega,rfl,Below.refl _ _⟩
      case round =>
        obtain ⟨j,hj,rfl,hbw⟩:=hrel
        have PR:Hid (Gn.Pz wr w1.heap.size w2.heap.size _ _ _ fs ss L):=P5.out.below hbw
        have p6:=PR.out.p
        have q6:=PR.out.q
        by_cases hlt:j < (pn:Int)
        · obtain ⟨k,hk⟩:∃ k,j.toNat=k:=⟨_,rfl⟩
          have hkn:k < fs.length:=by rw [← HPN.out];omega
          obtain ⟨a0,cap0,e0,hc0⟩:=PR.out.fp
          injection e0 with e1 e2 e3
          subst e1 e3
          obtain ⟨g,o,rfl,hg,n6,t6⟩:=hc0 k hkn
          clear hc0
          have hwj:wrap64 (j+1)=j+1:=IntWalk.wrap64_in _ (by omega)
          obtain ⟨nm,HNM⟩:∃ nm,Hid (fs[k].name=nm):=⟨_,(rfl:fs[k].name=_)⟩
          obtain ⟨tx,HTX⟩:∃ tx,Hid (fs[k].text=tx):=⟨_,(rfl:fs[k].text=_)⟩
          obtain ⟨zc,zt,HZ⟩:∃ zc zt,Hid (Bx.seeP L 1 nm=(zc,zt)):=⟨_,_,rfl⟩
          rw [HNM.out] at n6
          rw [HTX.out] at t6
          clear e2
          have HLN:Hid (Bx.Off wr (.slice qa ln qc) L):=PR.out.fq
          have HOP:Hid (Bx.Off wr (.slice (some ⟨g,o,none⟩) pn pc) fs):=PR.out.fp
          have HOS:Hid (Bx.Off wr (.slice sa sn sc) ss):=PR.out.fs
          have hnm:nm.size≤1048576:=by rw [← HNM.out];exact (HBP.out.big _ (List.getElem_mem hkn)).1
          have HC1:Hid (∀ W,Below wr.heap.size wr W→Below wr.heap.size wr W∧W.cell? ⟨w1.heap.size,0,none⟩=some (.slice (some ⟨g,o,none⟩) pn pc)∧W.cell? ⟨w2.heap.size,0,none⟩=some (.slice qa ln qc)∧W.cell? ⟨g,o+k * 2,none⟩=some (.string nm)∧W.cell? ⟨g,o+k * 2+1,none⟩=some (.string tx)):=fun W hW=>⟨hW,by rw [hW.cell (p:=⟨w1.heap.size,0,none⟩) PR.out.lp];exact p6,by rw [hW.cell (p:=⟨w2.heap.size,0,none⟩) PR.out.lq];exact q6,by rw [hW.cell (p:=⟨g,o+k * 2,none⟩) hg];exact n6,by rw [hW.cell (p:=⟨g,o+k * 2+1,none⟩) hg];exact t6⟩
          have HY:Hid (∀ W,Below wr.heap.size wr W→Calls Tryz.prog 9 #[.agg #[.slice (some ⟨g,o,none⟩) pn pc],.int .i64 1,.string nm] W fun e w'=>e = .returned (.agg #[.int .i64 0,.string tx])∧Below W.heap.size W w'):=fun W hW=>Gn.see_i (by omega) HBP.out 1 nm hnm 0 tx (by rw [← HNM.out,← HTX.out];exact HLd.out.old k hkn) W _ (HOP.out.below hW)
          have HZ1:Hid (∀ W,Below wr.heap.size wr W→Calls Tryz.prog 9 #[.agg #[.slice qa ln qc],.int .i64 1,.string nm] W fun e w'=>e = .returned (.agg #[.int .i64 zc,.string zt])∧Below W.heap.size W w'):=fun W hW=>Gn.see_i (by omega) HBL.out 1 nm hnm zc zt HZ.out W _ (HLN.out.below hW)
          obtain ⟨b,hbi⟩:∃ b:Bool,(b=true ↔ ∃ d ∈ ss,d.name=nm):=(Classical.em (∃ d ∈ ss,d.name=nm)).elim (fun h=>⟨true,iff_of_true rfl h⟩) (fun h=>⟨false,iff_of_false (by decide) h⟩)
          have HBI:Hid (b=false→zc=0∧zt=tx):=fun hb=>by
            have h4:=HLd.out.kept k hkn (fun h5=>by rw [HNM.out] at h5;rw [hbi.2 h5] at hb;cases hb)
            rw [HNM.out,HTX.out,HZ.out] at h4
            injection h4 with h5 h6
            exact ⟨h5,h6⟩
          have HWL:Hid (∀ W,Below wr.heap.size wr W→Calls Tryz.prog 10 #[.slice sa sn sc,.string nm] W fun e w'=>e = .returned (.bool b)∧W=w'):=fun W hW=>(Gn.wLaid_any ss _ nm W (HOS.out.below hW) (by have:=HBS.out.1;omega)).mono fun e w' ⟨h1,b',h2,h3⟩=>⟨by rw [h2];congr 2;exact Bool.eq_iff_iff.2 (h3.trans hbi.symm),h1.symm⟩
          clear hbi
          have HP5:Hid (Gn.Pz w5 w1.heap.size w2.heap.size _ _ _ fs ss L):=P5.out
          clear HNM HTX HZ HLd HBP HBS HBL HLN HOP HOS PR P5 p5 q5 n6 t6 hkn
          have hlp:=HP5.out.lp
          have hlq:=HP5.out.lq
          have hlz:=hbw.size
          replace hlp:=Nat.lt_of_lt_of_le hlp hlz
          replace hlq:=Nat.lt_of_lt_of_le hlq hlz
          go_upto_region 15 with fail
          go_cut [10] (fun s10 wx => ∃ b,s10 = .pointer (some ⟨b,0,none⟩)∧wr.heap.size≤b∧b < wx.heap.size∧wx.cell? ⟨b,0,none⟩=some (.int .i64 0)∧wx.cell? ⟨b,1,none⟩=some (.string tx)∧Below wr.heap.size wr wx)
          case first =>
            have hr0:Below wr.heap.size wr wr.drew:=(Below.refl _ _).drew
            have hr1:Below wr.heap.size wr (wr.alloc (.cells #[.int .i64 0,.string ⟨#[]⟩] 33)).drew:=(Gn.up1 _ _).drew
            go_region_held3 (fun W=>Below wr.heap.size wr W∧W.cell? ⟨w1.heap.size,0,none⟩=some (.slice (some ⟨g,o,none⟩) pn pc)∧W.cell? ⟨w2.heap.size,0,none⟩=some (.slice qa ln qc)∧W.cell? ⟨g,o+k * 2,none⟩=some (.string nm)∧W.cell? ⟨g,o+k * 2+1,none⟩=some (.string tx)) (first | with_reducible exact HC1.out _ hr0 | with_reducible exact HC1.out _ hr1 | with_reducible exact HC1.out _ h6 | with_reducible exact HC1.out _ (h6.alloc h6.size _) | with_reducible exact HC1.out _ h7) (first | (go_at_call 9;with_reducible refine (HY.out _ hr0).mono ?_;rintro e w6 ⟨rfl,hb6⟩;have h6:Below wr.heap.size wr w6:=Gn.bl hr0 hb6 hr0.size) | (go_at_call 9;with_reducible refine (HY.out _ hr1).mono ?_;rintro e w6 ⟨rfl,hb6⟩;have h6:Below wr.heap.size wr w6:=Gn.bl hr1 hb6 hr1.size;obtain ⟨x0,x1,x2,x3⟩:=Gn.rep_cells hb6;have h7:Below wr.heap.size wr ((w6.setCell ⟨wr.heap.size,0,none⟩ (.int .i64 0)).setCell ⟨wr.heap.size,1,none⟩ (.string tx)):=Below.setCell (Below.setCell h6 (Nat.le_refl _) _) (Nat.le_refl _) _))
            · go_wp2_with fail
              go_meet
              exact ⟨_,rfl,h6.size,Gn.lt1 _ _,(Gn.rep_new w6 0 tx _).1,(Gn.rep_new w6 0 tx _).2,h6.alloc h6.size _⟩
            · go_wp2_with fail
              go_meet
              exact ⟨_,rfl,Nat.le_refl _,Nat.lt_of_lt_of_le (Gn.lt1 _ _) (Nat.le_trans hb6.size (by simp [World.setCell])),(Gn.rep_set hb6 0 tx).1,(Gn.rep_set hb6 0 tx).2,h7⟩
          case rest =>
            obtain ⟨by1,rfl,hy0,hy1,y0,y1,hbc⟩:=hcut
            obtain ⟨-,p7,q7,n7,t7⟩:=HC1.out wc hbc
            have hz7:=hbc.size
            have HC2:Hid (∀ W,Below wc.heap.size wc W→Below wc.heap.size wc W∧W.cell? ⟨w1.heap.size,0,none⟩=some (.slice (some ⟨g,o,none⟩) pn pc)∧W.cell? ⟨w2.heap.size,0,none⟩=some (.slice qa ln qc)∧W.cell? ⟨g,o+k * 2,none⟩=some (.string nm)∧W.cell? ⟨g,o+k * 2+1,none⟩=some (.string tx)∧W.cell? ⟨by1,0,none⟩=some (.int .i64 0)∧W.cell? ⟨by1,1,none⟩=some (.string tx)):=fun W hW=>⟨hW,by rw [hW.cell (p:=⟨w1.heap.size,0,none⟩) (Nat.lt_of_lt_of_le hlp hz7)];exact p7,by rw [hW.cell (p:=⟨w2.heap.size,0,none⟩) (Nat.lt_of_lt_of_le hlq hz7)];exact q7,by rw [hW.cell (p:=⟨g,o+k * 2,none⟩) (Nat.lt_of_lt_of_le hg hz7)];exact n7,by rw [hW.cell (p:=⟨g,o+k * 2+1,none⟩) (Nat.lt_of_lt_of_le hg hz7)];exact t7,by rw [hW.cell (p:=⟨by1,0,none⟩) (hy1)];exact y0,by rw [hW.cell (p:=⟨by1,1,none⟩) (hy1)];exact y1⟩
            have HZ2:Hid (∀ W,Below wc.heap.size wc W→Calls Tryz.prog 9 #[.agg #[.slice qa ln qc],.int .i64 1,.string nm] W fun e w'=>e = .returned (.agg #[.int .i64 zc,.string zt])∧Below W.heap.size W w'):=fun W hW=>HZ1.out W (hbc.trans (hW.mono hz7))
            clear HC1 HY
            go_upto_region 16 with fail
            go_cut [11] (fun s11 wx => ∃ b,s11 = .pointer (some ⟨b,0,none⟩)∧wc.heap.size≤b∧b < wx.heap.size∧wx.cell? ⟨b,0,none⟩=some (.int .i64 zc)∧wx.cell? ⟨b,1,none⟩=some (.string zt)∧Below wc.heap.size wc wx)
            case first =>
              have hr0:Below wc.heap.size wc wc.drew:=(Below.refl _ _).drew
              have hr1:Below wc.heap.size wc (wc.alloc (.cells #[.int .i64 0,.string ⟨#[]⟩] 33)).drew:=(Gn.up1 _ _).drew
              go_region_held3 (fun W=>Below wc.heap.size wc W∧W.cell? ⟨w1.heap.size,0,none⟩=some (.slice (some ⟨g,o,none⟩) pn pc)∧W.cell? ⟨w2.heap.size,0,none⟩=some (.slice qa ln qc)∧W.cell? ⟨g,o+k * 2,none⟩=some (.string nm)∧W.cell? ⟨g,o+k * 2+1,none⟩=some (.string tx)∧W.cell? ⟨by1,0,none⟩=some (.int .i64 0)∧W.cell? ⟨by1,1,none⟩=some (.string tx)) (first | with_reducible exact HC2.out _ hr0 | with_reducible exact HC2.out _ hr1 | with_reducible exact HC2.out _ h6 | with_reducible exact HC2.out _ (h6.alloc h6.size _) | with_reducible exact HC2.out _ h7) (first | (go_at_call 9;with_reducible refine (HZ2.out _ hr0).mono ?_;rintro e w6 ⟨rfl,hb6⟩;have h6:Below wc.heap.size wc w6:=Gn.bl hr0 hb6 hr0.size) | (go_at_call 9;with_reducible refine (HZ2.out _ hr1).mono ?_;rintro e w6 ⟨rfl,hb6⟩;have h6:Below wc.heap.size wc w6:=Gn.bl hr1 hb6 hr1.size;obtain ⟨x0,x1,x2,x3⟩:=Gn.rep_cells hb6;have h7:Below wc.heap.size wc ((w6.setCell ⟨wc.heap.size,0,none⟩ (.int .i64 zc)).setCell ⟨wc.heap.size,1,none⟩ (.string zt)):=Below.setCell (Below.setCell h6 (Nat.le_refl _) _) (Nat.le_refl _) _))
              · go_wp2_with fail
                go_meet
                exact ⟨_,rfl,h6.size,Gn.lt1 _ _,(Gn.rep_new w6 zc zt _).1,(Gn.rep_new w6 zc zt _).2,h6.alloc h6.size _⟩
              · go_wp2_with fail
                go_meet
                exact ⟨_,rfl,Nat.le_refl _,Nat.lt_of_lt_of_le (Gn.lt1 _ _) (Nat.le_trans hb6.size (by simp [World.setCell])),(Gn.rep_set hb6 zc zt).1,(Gn.rep_set hb6 zc zt).2,h7⟩
            case rest =>
              obtain ⟨bz1,rfl,hv0,hv1,z0,z1,hbd⟩:=hcut
              obtain ⟨-,p8,q8,n8,t8,y8,y9⟩:=HC2.out wc hbd
              have hz8:=hbd.size
              have hbd2:Below wr.heap.size wr wc:=hbc.trans (hbd.mono hz7)
              clear HC2 HZ2 HZ1
              have hEQ1:∀ w,(Op.equalIn 10000 33 (.agg #[.int .i64 0,.string tx]) (.agg #[.int .i64 0,.string tx])).run Tryz.prog w = .ok true w:=fun w=>(Gn.eqReply 0 0 tx tx w).trans (by simp)
              have hgd:=Gn.guardReply
              go_upto_region 17 with fail
              cases b with
              | true =>
                go_quiet (first | (go_at_call 10;refine Jb.quiet (HWL.out _ (Jb.below_drewN _ hbd2))))
                go_wp2_with fail
                exact ⟨⟨j+1,by omega,rfl,Jb.below_drewN _ (Gn.bl hbw hbd2 hbw.size)⟩,by simp only [intOf];omega⟩
              | false =>
                obtain ⟨rfl,rfl⟩:=HBI.out rfl
                go_quiet (first | (go_at_call 10;refine Jb.quiet (HWL.out _ (Jb.below_drewN _ hbd2))))
                go_wp2_with fail
                exact ⟨⟨j+1,by omega,rfl,Jb.below_drewN _ (Gn.bl hbw hbd2 hbw.size)⟩,by simp only [intOf];omega⟩
        · clear PR HBP p5 q5
          have hbw0:=hbw
          go_wp2_with fail
          go_loopw [12] (fun t12 wr => ∃ j:Int,(0≤j∧j≤(sn:Int))∧t12 = .int .i64 j∧Below w5.heap.size w5 wr) (fun t12 _=>((sn:Int) - intOf t12).toNat)
          case atStart=>exact ⟨0,by omega,rfl,hbw0⟩
          case round =>
            clear p6 q6 hj hlt hbw0 hbw
            obtain ⟨i,hi,rfl,hbw⟩:=hrel
            have PR:=P5.out.below hbw
            have q6:=PR.q
            by_cases hlt:i < (sn:Int)
            · obtain ⟨k,hk⟩:∃ k,i.toNat=k:=⟨_,rfl⟩
              have hkn:k < ss.length:=by rw [← HSN.out];omega
              obtain ⟨a0,cap0,e0,hc0⟩:=PR.fs
              injection e0 with e1 e2 e3
              subst e1 e3
              obtain ⟨g,o,rfl,hg,n6,t6⟩:=hc0 k hkn
              clear e2
              have HC0:Hid (∀ m (hm:m < ss.length),wr.cell? ⟨g,o+m * 2,none⟩=some (.string ss[m].name)∧wr.cell? ⟨g,o+m * 2+1,none⟩=some (.string ss[m].text)):=fun m hm=>by obtain ⟨g',o',e,_,h1,h2⟩:=hc0 m hm;injection e with e;injection e with e1 e2;subst e1 e2;exact ⟨h1,h2⟩
              clear hc0
              have hwi:wrap64 (i+1)=i+1:=IntWalk.wrap64_in _ (by omega)
              obtain ⟨nm,HNM⟩:∃ nm,Hid (ss[k].name=nm):=⟨_,(rfl:ss[k].name=_)⟩
              obtain ⟨tx,HTX⟩:∃ tx,Hid (ss[k].text=tx):=⟨_,(rfl:ss[k].text=_)⟩
              rw [HNM.out] at n6
              rw [HTX.out] at t6
              have hnm:nm.size≤1048576:=by rw [← HNM.out];exact (HBS.out.big _ (List.getElem_mem hkn)).1
              have HLN:Hid (Bx.Off wr (.slice qa ln qc) L):=PR.fq
              have HST:Hid (Gn.Last ss k k nm tx):=by rw [← HNM.out,← HTX.out];exact Gn.Last.start hkn
              have hlq:=PR.lq
              obtain ⟨wb,HWB⟩:∃ wb,Hid (wb=wr):=⟨_,(rfl:wr=_)⟩
              have hb5:Below w5.heap.size w5 wb:=by rw [HWB.out];exact hbw
              have HQB:Hid (∀ W,Below wb.heap.size wb W→Bx.Off W (.slice qa ln qc) L∧W.cell? ⟨w2.heap.size,0,none⟩=some (.slice qa ln qc)∧W.cell? ⟨g,o+k * 2,none⟩=some (.string nm)∧∀ m (hm:m < ss.length),W.cell? ⟨g,o+m * 2,none⟩=some (.string ss[m].name)∧W.cell? ⟨g,o+m * 2+1,none⟩=some (.string ss[m].text)):=fun W hW=>by
                rw [HWB.out] at hW
                exact ⟨HLN.out.below hW,by rw [hW.cell (p:=⟨w2.heap.size,0,none⟩) hlq];exact q6,by rw [hW.cell (p:=⟨g,o+k * 2,none⟩) hg];exact n6,fun m hm=>⟨by rw [hW.cell (p:=⟨g,o+m * 2,none⟩) hg];exact (HC0.out m hm).1,by rw [hW.cell (p:=⟨g,o+m * 2+1,none⟩) hg];exact (HC0.out m hm).2⟩⟩
              have hlqb:w2.heap.size < wb.heap.size:=by rw [HWB.out];exact hlq
              have hgb:g < wb.heap.size:=by rw [HWB.out];exact hg
              clear HNM HTX HLN HC0 PR P5 HBS
              go_wp2_with fail
              go_loopw [13,14] (fun t13 t14 wr => ∃ (m:Int) (t:ByteArray),(i≤m∧m≤(sn:Int))∧t13 = .string t∧t14 = .int .i64 m∧Hid (Gn.Last ss k m.toNat nm t)∧Below wb.heap.size wb wr) (fun _ t14 _=>((sn:Int) - intOf t14).toNat)
              case atStart=>exact ⟨i,tx,by omega,rfl,rfl,by rw [hk];exact HST.out,by rw [HWB.out];exact Below.refl _ _⟩
              case round =>
                clear HWB hbw n6 t6 hg hlq q6 HST
                obtain ⟨m,t,hm,rfl,rfl,hLa,hbw⟩:=hrel
                by_cases hlm:m < (sn:Int)
                · obtain ⟨r,hr⟩:∃ r,m.toNat=r:=⟨_,rfl⟩
                  have hrn:r < ss.length:=by rw [← HSN.out];omega
                  obtain ⟨-,-,n7,hcs⟩:=HQB.out wr hbw
                  obtain ⟨r6,s6⟩:=hcs r hrn
                  clear hcs
                  have hwm:wrap64 (m+1)=m+1:=IntWalk.wrap64_in _ (by omega)
                  have hmt:(m+1).toNat=r+1:=by omega
                  have hik:k≤r:=by omega
                  by_cases hnn:ss[r].name=nm
                  · have HNX:Hid (Gn.Last ss k (r+1) nm ss[r].text):=by rw [hr] at hLa;exact hLa.out.next hrn hik hnn
                    have hbe:(ss[r].name.toList == nm.toList)=true:=by rw [Bx.beq_eq0];simpa using hnn
                    clear hnn hLa hik
                    generalize ss[r].name=x2 at *
                    generalize ss[r].text=t2 at *
                    go_wp2_with fail
                    go_quiet (fail)
                    go_wp2_with fail
                    exact ⟨⟨m+1,t2,by omega,rfl,rfl,by rw [hmt];exact HNX,Jb.below_drewN _ hbw⟩,by simp only [intOf];omega⟩
                  · have HNX:Hid (Gn.Last ss k (r+1) nm t):=by rw [hr] at hLa;exact hLa.out.same hrn hnn
                    have hbe:(ss[r].name.toList == nm.toList)=false:=by rw [Bx.beq_eq0];simpa using hnn
                    clear hnn hLa hik
                    generalize ss[r].name=x2 at *
                    generalize ss[r].text=t2 at *
                    go_wp2_with fail
                    go_quiet (fail)
                    go_wp2_with fail
                    exact ⟨⟨m+1,t,by omega,rfl,rfl,by rw [hmt];exact HNX,Jb.below_drewN _ hbw⟩,by simp only [intOf];omega⟩
                · have hLb:Gn.Last ss k ss.length nm t:=by rw [← HSN.out,show sn=m.toNat by omega];exact hLa.out
                  obtain ⟨e1,e2,l,e3,hl1,hl2,hl3⟩:=Gn.Last.done HLd.out hLb
                  obtain ⟨hqo,q7,n7,-⟩:=HQB.out wr hbw
                  have HS1:Hid (∀ W,Below wr.heap.size wr W→Calls Tryz.prog 9 #[.agg #[.slice qa ln qc],.int .i64 1,.string nm] W fun e w'=>e = .returned (.agg #[.int .i64 0,.string t])∧Below W.heap.size W w'):=fun W hW=>Gn.see_i (by omega) HBL.out 1 nm hnm 0 t e1 W _ (hqo.below hW)
                  have HS2:Hid (∀ W,Below wr.heap.size wr W→Calls Tryz.prog 9 #[.agg #[.slice qa ln qc],.int .i64 2,.string nm] W fun e w'=>e = .returned (.agg #[.int .i64 0,.string ⟨#[]⟩])∧Below W.heap.size W w'):=fun W hW=>Gn.see_i (by omega) HBL.out 2 nm hnm 0 _ e2 W _ (hqo.below hW)
                  have HS3:Hid (∀ W,Below wr.heap.size wr W→Calls Tryz.prog 9 #[.agg #[.slice qa ln qc],.int .i64 3,.string nm] W fun e w'=>e = .returned (.agg #[.int .i64 0,.string l])∧Below W.heap.size W w'):=fun W hW=>Gn.see_i (by omega) HBL.out 3 nm hnm 0 l e3 W _ (hqo.below hW)
                  have hzb:=hbw.size
                  have HC1:Hid (∀ W,Below wr.heap.size wr W→Below wr.heap.size wr W∧W.cell? ⟨w2.heap.size,0,none⟩=some (.slice qa ln qc)∧W.cell? ⟨g,o+k * 2,none⟩=some (.string nm)):=fun W hW=>⟨hW,by rw [hW.cell (p:=⟨w2.heap.size,0,none⟩) (Nat.lt_of_lt_of_le hlqb hzb)];exact q7,by rw [hW.cell (p:=⟨g,o+k * 2,none⟩) (Nat.lt_of_lt_of_le hgb hzb)];exact n7⟩
                  clear hLa hLb e1 e2 e3 hqo HQB HLd HBL
                  have hEQ1:∀ w,(Op.equalIn 10000 33 (.agg #[.int .i64 0,.string t]) (.agg #[.int .i64 0,.string t])).run Tryz.prog w = .ok true w:=fun w=>(Gn.eqReply 0 0 t t w).trans (by simp)
                  have hEQ2:∀ w,(Op.equalIn 10000 33 (.agg #[.int .i64 0,.string ⟨#[]⟩]) (.agg #[.int .i64 0,.string ⟨#[]⟩])).run Tryz.prog w = .ok true w:=fun w=>(Gn.eqReply 0 0 ⟨#[]⟩ ⟨#[]⟩ w).trans (by simp)
                  have hgd:=Gn.guardReply
                  have hr0:Below wr.heap.size wr wr.drew:=(Below.refl _ _).drew
                  go_upto_region 28 with fail
                  go_region_held3 (fun W=>Below wr.heap.size wr W∧W.cell? ⟨w2.heap.size,0,none⟩=some (.slice qa ln qc)∧W.cell? ⟨g,o+k * 2,none⟩=some (.string nm)) (first | with_reducible exact HC1.out _ hr0 | with_reducible exact HC1.out _ h8 | with_reducible exact HC1.out _ h7) (first | (go_at_call 9;with_reducible refine (HS1.out _ hr0).mono ?_;rintro e v7 ⟨rfl,hb7⟩;have h7:Below wr.heap.size wr v7:=Gn.bl hr0 hb7 hr0.size) | (go_at_call 9;with_reducible refine (HS2.out _ h7).mono ?_;rintro e v8 ⟨rfl,hb8⟩;have h8:Below wr.heap.size wr v8:=Gn.bl h7 hb8 h7.size))
                  obtain ⟨-,q8,n8⟩:=HC1.out v8 h8
                  have hz8:=h8.size
                  have HC2:Hid (∀ W,Below v8.heap.size v8 W→Below v8.heap.size v8 W∧W.cell? ⟨w2.heap.size,0,none⟩=some (.slice qa ln qc)∧W.cell? ⟨g,o+k * 2,none⟩=some (.string nm)):=fun W hW=>⟨hW,by rw [hW.cell (p:=⟨w2.heap.size,0,none⟩) (Nat.lt_of_lt_of_le (Nat.lt_of_lt_of_le hlqb hzb) hz8)];exact q8,by rw [hW.cell (p:=⟨g,o+k * 2,none⟩) (Nat.lt_of_lt_of_le (Nat.lt_of_lt_of_le hgb hzb) hz8)];exact n8⟩
                  have HS4:Hid (∀ W,Below v8.heap.size v8 W→Calls Tryz.prog 9 #[.agg #[.slice qa ln qc],.int .i64 3,.string nm] W fun e w'=>e = .returned (.agg #[.int .i64 0,.string l])∧Below W.heap.size W w'):=fun W hW=>HS3.out W (Gn.bl h8 hW h8.size)
                  clear HC1 HS1 HS2 HS3 hr0 h7 hb7 hb8
                  go_upto_region 30 with fail
                  go_cut [15] (fun s15 wx => ∃ b,s15 = .pointer (some ⟨b,0,none⟩)∧v8.heap.size≤b∧b < wx.heap.size∧wx.cell? ⟨b,0,none⟩=some (.int .i64 0)∧wx.cell? ⟨b,1,none⟩=some (.string l)∧Below v8.heap.size v8 wx)
                  case first =>
                    have hr0:Below v8.heap.size v8 v8.drew:=(Below.refl _ _).drew
                    have hr1:Below v8.heap.size v8 (v8.alloc (.cells #[.int .i64 0,.string ⟨#[]⟩] 33)).drew:=(Gn.up1 _ _).drew
                    go_region_held3 (fun W=>Below v8.heap.size v8 W∧W.cell? ⟨w2.heap.size,0,none⟩=some (.slice qa ln qc)∧W.cell? ⟨g,o+k * 2,none⟩=some (.string nm)) (first | with_reducible exact HC2.out _ hr0 | with_reducible exact HC2.out _ hr1 | with_reducible exact HC2.out _ h6 | with_reducible exact HC2.out _ (h6.alloc h6.size _) | with_reducible exact HC2.out _ h7) (first | (go_at_call 9;with_reducible refine (HS4.out _ hr0).mono ?_;rintro e w6 ⟨rfl,hb6⟩;have h6:Below v8.heap.size v8 w6:=Gn.bl hr0 hb6 hr0.size) | (go_at_call 9;with_reducible refine (HS4.out _ hr1).mono ?_;rintro e w6 ⟨rfl,hb6⟩;have h6:Below v8.heap.size v8 w6:=Gn.bl hr1 hb6 hr1.size;obtain ⟨x0,x1,x2,x3⟩:=Gn.rep_cells hb6;have h7:Below v8.heap.size v8 ((w6.setCell ⟨v8.heap.size,0,none⟩ (.int .i64 0)).setCell ⟨v8.heap.size,1,none⟩ (.string l)):=Below.setCell (Below.setCell h6 (Nat.le_refl _) _) (Nat.le_refl _) _))
                    · go_wp2_with fail
                      go_meet
                      exact ⟨_,rfl,h6.size,Gn.lt1 _ _,(Gn.rep_new w6 0 l _).1,(Gn.rep_new w6 0 l _).2,h6.alloc h6.size _⟩
                    · go_wp2_with fail
                      go_meet
                      exact ⟨_,rfl,Nat.le_refl _,Nat.lt_of_lt_of_le (Gn.lt1 _ _) (Nat.le_trans hb6.size (by simp [World.setCell])),(Gn.rep_set hb6 0 l).1,(Gn.rep_set hb6 0 l).2,h7⟩
                  case rest =>
                    obtain ⟨bl,rfl,hy0,hy1,y0,y1,hbc⟩:=hcut
                    obtain ⟨-,q9,n9⟩:=HC2.out wc hbc
                    clear HC2 HS4
                    have hbf:Below w5.heap.size w5 wc:=Gn.bl (Gn.bl (Gn.bl hb5 hbw hb5.size) h8 (Nat.le_trans hb5.size hzb)) hbc (Nat.le_trans hb5.size (Nat.le_trans hzb hz8))
                    have hSL:∀ w,(Instr.slice 9 (.string l) none (some (.int .i64 (nm.size:Int))) none).run Tryz.prog w = .ok (.string nm) w:=fun w=>Gn.cut_text hl1 hl2 w
                    have hIX:∀ w,(Instr.index 9 (.string l) (.int .i64 (nm.size:Int))).run Tryz.prog w = .ok (.int .u8 10) w:=fun w=>Gn.at_text hl1 hl3 w
                    have hle:decide ((l.size:Int)≤(nm.size:Int))=false:=by simp;omega
                    clear hl2 hl3
                    go_upto_region 32 with fail
                    go_quiet (fail)
                    go_wp2_with fail
                    exact ⟨⟨i+1,by omega,rfl,Jb.below_drewN _ hbf⟩,by simp only [intOf];omega⟩
            · go_wp2_with fail
              go_ret
              exact ⟨rfl,Gn.bl hw5 hbw hw5.size⟩
  · have hd:decide ((1048576:Int) < (n:Int))=true:=by simp;omega
    go_enter Tryz.func3,Tryz.ntmps3
    go_wp2_with fail
    go_ret
    exact ⟨rfl,Below.refl _ _⟩
end Go.Proofs.YtkikhpppkpelfaaGreat
