import Derived.Test.YtlcckaffhnjneaaGreatDoorKPaF
set_option maxRecDepth 100000
set_option maxHeartbeats 2000000
namespace Go.Proofs.YtlcckaffhnjneaaGreatDoor
open Go.RowKit
variable {ts:List (Mill.Piece × Nat)} {g:Nat} {a:Option Addr} {c:Nat} {s:Pa.S} {w:World}
def Pa.SingleIs (ts:List (Mill.Piece × Nat)) (g:Nat) (a:Option Addr) (c:Nat) (n:Nat):Prop := ∀ (s:Pa.S) (w:World) (R:Pa.Nds × Pa.S),Pa.single ts n s=some R→s.bad=false→R.1.length≤1000000→Pa.D ts g a c s w →
 Calls Tryz.prog 109 #[.pointer (some ⟨g,0,none⟩)] w (Pa.Out ts g a c R w)
theorem Pa.out_of {R:Pa.Nds × Pa.S} {l:Pa.Nds} {s':Pa.S} {va:Option Addr} {vc n:Nat} {e:Ending} {w':World} (hR:(l,s')=R) (he:e = .returned (.slice va n vc)) (hn:l.length=n) (hr:Pa.Row w.heap.size w' (.slice va l.length vc) l) (hD:Pa.D ts g a c s' w') (hF:Pa.Fr g w w'):Pa.Out ts g a c R w e w':=by
 subst hR;subst hn;exact ⟨va,vc,he,hr,hD,hF⟩
def Pa.lenV : Value→Nat
 | .slice _ n _=>n
 | _=>0
theorem Pa.exprL_len : ∀ (m r:Nat) (l:Pa.Nds) (s:Pa.S) (R:Pa.Nds × Pa.S),Pa.exprL ts m r l s=some R→l.length≤R.1.length
 | 0,r,l,s,R,h=>by simp [Pa.exprL] at h
 | m+1,r,l,s,R,h=>by
  rw [Pa.exprL] at h
  split at h
  ·simp at h;subst h;simp
  ·split at h
   ·simp at h;subst h;simp
   ·split at h
    ·simp at h
    ·split at h
     ·simp at h;subst h;simp
     ·have:=Pa.exprL_len m _ _ _ R h
      simp at this ⊢;omega
theorem Pa.expr_next (n:Nat) (ih:∀ m,m≤n→Pa.ExprIs ts g a c m) (ihs:∀ m,m≤n→Pa.SingleIs ts g a c m):Pa.ExprIs ts g a c (n+1):=by
 intro r s w R hr1 hr6 hR hl hD
 have hgw:=hD.lt
 obtain ⟨c0,c1,c2,f1,f2⟩:=hD.cells
 rw [Pa.expr] at hR
 cases hb:s.bad with
 | true =>
  rw [hb] at hR c2
  simp only [if_true,Option.some.injEq] at hR
  subst hR
  clear hb
  have hB0:∀ V,Below w.heap.size w (w.alloc V):=fun V=>(Below.refl _ _).alloc (Nat.le_refl _) _
  have hr0:Pa.Row w.heap.size (w.alloc (.cells #[] 43)) (.slice (some ⟨w.heap.size,0,none⟩) 0 0) []:=Pa.new_nds w _ (Nat.le_refl _) [] (by simp) #[] rfl
  go_enter Tryz.func81,Tryz.ntmps81
  go_wp2_with fail
  go_ret
  exact ⟨_,_,rfl,hr0,hD.below (hB0 _),Pa.Fr.of_below (hB0 _)⟩
 | false =>
  rw [hb] at hR c2
  simp only [Bool.false_eq_true,if_false] at hR
  by_cases h5:5 < r
  ·rw [if_pos h5] at hR
   have h5':(5:Int) < (r:Int):=by omega
   have HE:=ihs n (Nat.le_refl _) s w R hR hb hl hD
   clear hR hb
   go_enter Tryz.func81,Tryz.ntmps81
   go_wp2_with (first | (go_at_call 109;refine HE.mono ?_;rintro e W1 ⟨va,vc,rfl,hr1,hD1,hF1⟩))
   go_ret
   exact ⟨_,_,rfl,hr1,hD1,hF1⟩
  ·rw [if_neg h5] at hR
   have h5':¬ (5:Int) < (r:Int):=by omega
   have hw1:wrap64 ((r:Int)+1)=((r+1:Nat):Int):=by rw [wrap64];omega
   cases hE:Pa.expr ts n (r+1) s with
   | none=>rw [hE] at hR;simp at hR
   | some x =>
    rw [hE] at hR
    simp only at hR
    have hlx:=Pa.exprL_len _ _ _ _ _ hR
    have HE:=ih n (Nat.le_refl _) (r+1) s w x (by omega) (by omega) hE (by omega) hD
    have HR:Hid (Pa.exprL ts n r x.1 x.2=some R):=hR
    clear hR hb hE
    go_enter Tryz.func81,Tryz.ntmps81
    go_wp2_with (first | (go_at_call 81;refine HE.mono ?_;rintro e W1 ⟨va,vc,rfl,hrw1,hD1,hF1⟩))
    go_loopw [5,6] (fun ov _ wr => ∃ (m:Nat) (l:Pa.Nds) (s':Pa.S) (oa:Option Addr) (oc:Nat),m≤n∧ov = .slice oa l.length oc∧Pa.Row w.heap.size wr (.slice oa l.length oc) l∧Pa.D ts g a c s' wr∧Pa.Fr g w wr∧Pa.exprL ts m r l s'=some R) (fun ov _ _=>R.1.length+1 - Pa.lenV ov)
    case atStart=>exact ⟨n,x.1,x.2,_,_,Nat.le_refl _,rfl,hrw1,hD1,hF1,HR.out⟩
    case round =>
     obtain ⟨m,l,s',oa,oc,hm,rfl,hrw,hDr,hFr,hL⟩:=hrel
     obtain ⟨m,rfl⟩:∃ m',m=m'+1:=by
      cases m with
      | zero=>simp [Pa.exprL] at hL
      | succ m=>exact ⟨m,rfl⟩
     have hlen:=Pa.exprL_len _ _ _ _ _ hL
     rw [Pa.exprL] at hL
     clear c0 c1 c2 f1 f2
     obtain ⟨c0,c1,c2,f1,f2⟩:=hDr.cells
     cases hb:s'.bad with
     | true =>
      rw [hb] at hL c2
      simp only [if_true,Option.some.injEq] at hL
      subst hL
      clear hb
      go_wp2_with fail
      go_ret
      exact ⟨_,_,rfl,hrw,hDr,hFr⟩
     | false =>
      rw [hb] at hL c2
      simp only [Bool.false_eq_true,if_false] at hL
      clear hb
      by_cases hM:Pa.mk ts r s'=0
      ·rw [if_pos hM] at hL
       simp only [Option.some.injEq] at hL
       subst hL
       go_wp2_with (first | (go_at_call 110;refine (Pa.mark_any r (by omega) hDr).mono ?_;rintro e W2 ⟨rfl,hD2,hF2⟩;rw [hM];rw [if_pos hM] at hD2))
       go_ret
       exact ⟨_,_,rfl,hF2.own hrw hgw,hD2,hFr.trans hF2⟩
      ·rw [if_neg hM] at hL
       cases hE2:Pa.expr ts m (r+1) (Pa.nx s') with
       | none=>rw [hE2] at hL;simp at hL
       | some y =>
        rw [hE2] at hL
        simp only at hL
        obtain ⟨M,HM⟩:∃ M,Hid (Pa.mk ts r s'=M):=⟨_,rfl⟩
        rw [HM.out] at hL hM
        have hMI:¬ (M:Int)=0:=by omega
        have hMb:((M:Int) == 0)=false:=by simp;omega
        by_cases h3:r=3
        ·rw [if_pos h3] at hL
         have hb3:((r:Int) == 3)=true:=by simp;omega
         clear h3
         simp only [Option.some.injEq] at hL
         have hlen3:=congrArg (fun z=>z.1.length) hL
         simp only [List.length_append,List.length_cons,List.length_nil] at hlen3
         have HE2:Hid (∀ W,Pa.D ts g a c (Pa.nx s') W→Calls Tryz.prog 81 #[.pointer (some ⟨g,0,none⟩),.int .i64 ((r+1:Nat):Int)] W (Pa.Out ts g a c y W)):=fun W hW=>ih m (by omega) (r+1) _ W y (by omega) (by omega) hE2 (by omega) hW
         have hb2:l.length+y.1.length≤1000000:=by omega
         have hb3':l.length+y.1.length+1≤1000000:=by omega
         have HL:Hid ((l++y.1++[⟨6,(M:Int),0,0,⟨#[]⟩,2⟩],y.2)=R):=hL
         clear hL hE2 hlen hlen3
         go_wp2_with (first
          | (go_at_call 110;refine (Pa.mark_any r (by omega) hDr).mono ?_;rintro e W2 ⟨rfl,hD2,hF2⟩;rw [HM.out] at hD2 ⊢;rw [if_neg hM] at hD2;have hr2:=hF2.own hrw hgw)
          | (go_at_call 81;refine (HE2.out _ hD2).mono ?_;rintro e W3 ⟨va3,vc3,rfl,hr3,hD3,hF3⟩;have hr2':=hF3.own hr2 hgw;have hs3:=hF3.size)
          | (at_builtin;refine Pa.wp_nds rfl _ _ rfl rfl rfl hr2' hr3 (by have:=hFr.size;have:=hF2.size;omega) hb2 ?_;intro a4 c4 W4 hr4 hDg hFg hsz;have hD4:=hDg _ _ _ _ _ hD3 hgw;have hF4:=hFg g w ((hFr.trans hF2).trans hF3) (Nat.le_refl _);clear hDg hFg hr2' hr3 hr2)
          | (at_builtin;refine Pa.wp_nd (l:=l++y.1) rfl _ _ rfl ⟨6,(M:Int),0,0,⟨#[]⟩,2⟩ rfl (by simp) rfl hr4 (by have:=hF4.size;omega) hb3' ?_;intro a5 c5 W5 hr5 hDg hFg hsz5;have hD5:=hDg _ _ _ _ _ hD4 hgw;have hF5:=hFg g w hF4 (Nat.le_refl _);clear hDg hFg hr4))
         go_ret
         exact Pa.out_of HL.out rfl (by simp;try omega) hr5 hD5 hF5
        ·rw [if_neg h3] at hL
         have hb3:((r:Int) == 3)=false:=by simp;omega
         have hb4:¬ (r:Int)=3:=by omega
         clear h3
         have hlen3:=Pa.exprL_len _ _ _ _ _ hL
         simp only [List.length_append,List.length_cons,List.length_nil] at hlen3
         have HE2:Hid (∀ W,Pa.D ts g a c (Pa.nx s') W→Calls Tryz.prog 81 #[.pointer (some ⟨g,0,none⟩),.int .i64 ((r+1:Nat):Int)] W (Pa.Out ts g a c y W)):=fun W hW=>ih m (by omega) (r+1) _ W y (by omega) (by omega) hE2 (by omega) hW
         have hb2:l.length+y.1.length≤1000000:=by omega
         have hb3':l.length+y.1.length+1≤1000000:=by omega
         have HL:Hid (Pa.exprL ts m r (l++y.1++[⟨6,(M:Int),0,0,⟨#[]⟩,2⟩]) y.2=some R):=hL
         clear hL hE2 hlen
         go_wp2_with (first
          | (go_at_call 110;refine (Pa.mark_any r (by omega) hDr).mono ?_;rintro e W2 ⟨rfl,hD2,hF2⟩;rw [HM.out] at hD2 ⊢;rw [if_neg hM] at hD2;have hr2:=hF2.own hrw hgw)
          | (go_at_call 81;refine (HE2.out _ hD2).mono ?_;rintro e W3 ⟨va3,vc3,rfl,hr3,hD3,hF3⟩;have hr2':=hF3.own hr2 hgw;have hs3:=hF3.size)
          | (at_builtin;refine Pa.wp_nds rfl _ _ rfl rfl rfl hr2' hr3 (by have:=hFr.size;have:=hF2.size;omega) hb2 ?_;intro a4 c4 W4 hr4 hDg hFg hsz;have hD4:=hDg _ _ _ _ _ hD3 hgw;have hF4:=hFg g w ((hFr.trans hF2).trans hF3) (Nat.le_refl _);clear hDg hFg hr2' hr3 hr2)
          | (at_builtin;refine Pa.wp_nd (l:=l++y.1) rfl _ _ rfl ⟨6,(M:Int),0,0,⟨#[]⟩,2⟩ rfl (by simp) rfl hr4 (by have:=hF4.size;omega) hb3' ?_;intro a5 c5 W5 hr5 hDg hFg hsz5;have hD5:=hDg _ _ _ _ _ hD4 hgw;have hF5:=hFg g w hF4 (Nat.le_refl _);clear hDg hFg hr4))
         refine ⟨⟨m,l++y.1++[⟨6,(M:Int),0,0,⟨#[]⟩,2⟩],y.2,a5,c5,by omega, ?_,hr5,hD5,hF5,HL.out⟩, ?_⟩
         ·simp;try omega
         ·simp [Pa.lenV];omega
variable {ts:List (Mill.Piece × Nat)} {g:Nat} {a:Option Addr} {c:Nat} {s:Pa.S} {w:World}
theorem Pa.D.alloc (h:Pa.D ts g a c s w) (o:Obj):Pa.D ts g a c s (w.alloc o):=h.below ((Below.refl _ _).alloc (Nat.le_refl _) _)
theorem Pa.Fr.alloc {w':World} (h:Pa.Fr g w w') (o:Obj):Pa.Fr g w (w'.alloc o):=h.trans (Pa.Fr.of_below ((Below.refl _ _).alloc (Nat.le_refl _) _))
theorem Pa.out_new {Z:World} {e:Ending} (d:Mill.Nd) (hD:Pa.D ts g a c s Z) (hF:Pa.Fr g w Z) (he:e = .returned (.slice (some ⟨Z.heap.size,0,none⟩) 1 1)):Pa.Out ts g a c ([d],s) w e (Z.alloc (.cells #[.int .i64 d.kind,.int .i64 d.op,.int .i64 d.type,.int .i64 d.n,.string d.text,.int .i64 d.kids] 43)) :=
 ⟨_,_,he,Pa.new_nds Z w.heap.size hF.size [d] (by simp) #[.int .i64 d.kind,.int .i64 d.op,.int .i64 d.type,.int .i64 d.n,.string d.text,.int .i64 d.kids] rfl,hD.alloc _,hF.alloc _⟩
theorem Pa.word_true (hk:Pa.kind ts s=2) (hx:Pa.tx ts s.p=[116,114,117,101]) (hD:Pa.D ts g a c s w) :
  Calls Tryz.prog 126 #[.pointer (some ⟨g,0,none⟩)] w (Pa.Out ts g a c ([⟨3,0,0,1,⟨#[]⟩,0⟩],Pa.nx s) w):=by
 have hgw:=hD.lt
 obtain ⟨hs1,hs2⟩:=hD.sum
 have hp:=(Pa.kind_lt hk (by decide)).1
 have hlen:=hD.len
 have hcap:=hD.cap
 obtain ⟨c0,c1,c2,f1,f2⟩:=hD.cells
 obtain ⟨b,rfl,hbg,k0,k1,k2,k3,z,k4⟩:=hD.tok hp
 rw [hx] at k1
 simp only [Mill.ba] at k1
 have hpn:(s.p:Int) < (ts.length:Int):=by omega
 have hpz:(0:Int)≤(s.p:Int):=by omega
 have hq:∀ q,Below w.heap.size w (w.drewN q):=fun q=>Pa.below_drewN _ (Below.refl _ _)
 go_enter Tryz.func126,Tryz.ntmps126
 go_wp2_with fail
 go_quiet (fail)
 go_wp2_with fail
 go_ret
 have hD1:=((hD.below (hq nq)).nx hp)
 have hF1:Pa.Fr g w ((w.drewN nq).setCell ⟨g,1,none⟩ (.int .i64 ((s.p:Int)+1))):=(Pa.Fr.of_below (hq nq)).trans (Pa.Fr.set _ _ _)
 exact Pa.out_new ⟨3,0,0,1,⟨#[]⟩,0⟩ (hD1.alloc _) (hF1.alloc _) (by simp [go_sem])
theorem Pa.word_false (hk:Pa.kind ts s=2) (hx:Pa.tx ts s.p=[102,97,108,115,101]) (hD:Pa.D ts g a c s w) :
  Calls Tryz.prog 126 #[.pointer (some ⟨g,0,none⟩)] w (Pa.Out ts g a c ([⟨3,0,0,0,⟨#[]⟩,0⟩],Pa.nx s) w):=by
 have hgw:=hD.lt
 obtain ⟨hs1,hs2⟩:=hD.sum
 have hp:=(Pa.kind_lt hk (by decide)).1
 have hlen:=hD.len
 have hcap:=hD.cap
 obtain ⟨c0,c1,c2,f1,f2⟩:=hD.cells
 obtain ⟨b,rfl,hbg,k0,k1,k2,k3,z,k4⟩:=hD.tok hp
 rw [hx] at k1
 simp only [Mill.ba] at k1
 have hpn:(s.p:Int) < (ts.length:Int):=by omega
 have hpz:(0:Int)≤(s.p:Int):=by omega
 have hq:∀ q,Below w.heap.size w (w.drewN q):=fun q=>Pa.below_drewN _ (Below.refl _ _)
 go_enter Tryz.func126,Tryz.ntmps126
 go_wp2_with fail
 go_quiet (fail)
 go_wp2_with fail
 go_ret
 have hD1:=((hD.below (hq nq)).nx hp)
 have hF1:Pa.Fr g w ((w.drewN nq).setCell ⟨g,1,none⟩ (.int .i64 ((s.p:Int)+1))):=(Pa.Fr.of_below (hq nq)).trans (Pa.Fr.set _ _ _)
 exact Pa.out_new ⟨3,0,0,0,⟨#[]⟩,0⟩ (hD1.alloc _) (hF1.alloc _) (by simp [go_sem])
theorem Pa.word_conv (n:Nat) (ih:∀ m,m≤n→Pa.ExprIs ts g a c m) (hk:Pa.kind ts s=2) (h1:¬ Pa.tx ts s.p=[116,114,117,101]) (h2:¬ Pa.tx ts s.p=[102,97,108,115,101]) (h3:3≤Pa.ix Pa.words (Pa.tx ts s.p)) (R:Pa.Nds × Pa.S) (hR:Pa.built ts (n+1) 1 (Pa.nx s)=some R) (hl:R.1.length+1≤1000000) (hD:Pa.D ts g a c s w) :
  Calls Tryz.prog 126 #[.pointer (some ⟨g,0,none⟩)] w (Pa.Out ts g a c (R.1++[⟨9,0,(Pa.ix Pa.words (Pa.tx ts s.p):Int),0,⟨#[]⟩,1⟩],R.2) w):=by
 have hgw:=hD.lt
 obtain ⟨hs1,hs2⟩:=hD.sum
 have hp:=(Pa.kind_lt hk (by decide)).1
 have hlen:=hD.len
 have hcap:=hD.cap
 obtain ⟨c0,c1,c2,f1,f2⟩:=hD.cells
 obtain ⟨b,rfl,hbg,k0,k1,k2,k3,z,k4⟩:=hD.tok hp
 have hpn:(s.p:Int) < (ts.length:Int):=by omega
 have hpz:(0:Int)≤(s.p:Int):=by omega
 have hq:∀ q,Below w.heap.size w (w.drewN q):=fun q=>Pa.below_drewN _ (Below.refl _ _)
 have HT:=Pa.typeOf_ix (Pa.tx ts s.p)
 have h10:Pa.ix Pa.words (Pa.tx ts s.p)≤10:=Pa.ix_le _ _
 have e1:¬ (Mill.ba (Pa.tx ts s.p)).toList=[116,114,117,101]:=by rw [Pa.ba_list];exact h1
 have e1b:((Mill.ba (Pa.tx ts s.p)).toList == [116,114,117,101])=false:=by rw [Pa.ba_list];simpa using h1
 have e2:¬ (Mill.ba (Pa.tx ts s.p)).toList=[102,97,108,115,101]:=by rw [Pa.ba_list];exact h2
 have e2b:((Mill.ba (Pa.tx ts s.p)).toList == [102,97,108,115,101])=false:=by rw [Pa.ba_list];simpa using h2
 obtain ⟨t,ht⟩:∃ t:Nat,Pa.ix Pa.words (Pa.tx ts s.p)=t:=⟨_,rfl⟩
 rw [ht] at HT h3 h10 ⊢
 clear ht
 generalize Mill.ba (Pa.tx ts s.p)=X at *
 have HI:Hid ((decide (3≤(t:Int)) && decide ((t:Int)≤10))=true):=by rw [Hid];simp only [Bool.and_eq_true,decide_eq_true_eq];omega
 go_enter Tryz.func126,Tryz.ntmps126
 go_wp2_with fail
 go_quiet (fail)
 go_wp2_with (first
  | (go_at_call 45;refine (Pa.type_is _ _ HT _).mono ?_;rintro e w' ⟨rfl,rfl⟩)
  | (go_at_call 50;refine (l1Integer_is _ true HI _).mono ?_;rintro e w' ⟨rfl,rfl⟩)
  | (go_at_call 139;refine (Pa.built_any n ih 1 (by omega) R hR (by omega) ((hD.below (hq nq)).nx hp)).mono ?_;rintro e W1 ⟨va,vc,rfl,hr1,hD1,hF1⟩;have hF0:Pa.Fr g w W1:=((Pa.Fr.of_below (hq nq)).trans (Pa.Fr.set _ _ _)).trans hF1;have hr1':=Pa.own_mono hr1 ((Pa.Fr.of_below (hq nq)).trans (Pa.Fr.set (g:=g) _ 1 (.int .i64 ((s.p:Int)+1)))).size;clear hr1)
  | (at_builtin;refine Pa.wp_nd (l:=R.1) rfl _ _ rfl ⟨9,0,(t:Int),0,⟨#[]⟩,1⟩ rfl rfl rfl hr1' hF0.size hl ?_;intro a5 c5 W5 hr5 hDg hFg hsz5;have hD5:=hDg _ _ _ _ _ hD1 hgw;have hF5:=hFg g w hF0 (Nat.le_refl _);clear hDg hFg))
 go_ret
 exact Pa.out_of rfl rfl (by simp) hr5 hD5 hF5
end Go.Proofs.YtlcckaffhnjneaaGreatDoor
