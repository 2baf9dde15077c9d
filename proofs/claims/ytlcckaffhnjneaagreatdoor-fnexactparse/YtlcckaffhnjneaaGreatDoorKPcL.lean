import Derived.Test.YtlcckaffhnjneaaGreatDoorKPcI
set_option maxRecDepth 100000
set_option maxHeartbeats 2000000
namespace Go.Proofs.YtlcckaffhnjneaaGreatDoor
open Go.RowKit
variable {ts:List (Mill.Piece × Nat)} {g:Nat} {a:Option Addr} {c E i j:Nat} {w W W2:World}
theorem Pa.bin_at (hB:Pa.Tb g w) (o:Nat) (h:o≤18):w.cell? ⟨6,o * 2+1,none⟩=some (.int .i64 (Pa.rk o:Int)):=by
 have h2:=hB.b (o * 2+1)
 have h18:o=0∨o=1∨o=2∨o=3∨o=4∨o=5∨o=6∨o=7∨o=8∨o=9∨o=10∨o=11∨o=12∨o=13∨o=14∨o=15∨o=16∨o=17∨o=18:=by omega
 rcases h18 with rfl | rfl | rfl | rfl | rfl | rfl | rfl | rfl | rfl | rfl | rfl | rfl | rfl | rfl | rfl | rfl | rfl | rfl | rfl <;> exact h2 _ rfl
theorem Pa.mop_le (ts:List (Mill.Piece × Nat)) (i:Nat):Pa.mop ts i≤18:=by
 unfold Pa.mop
 split
 ·have:=Pa.ix_le Pa.marks2 (Pa.tx ts i)
  have e:Pa.marks2.length=18:=rfl
  omega
 ·omega
theorem Pa.mop_lt (h:Pa.mop ts i≠0):i < ts.length:=by
 by_cases hp:i < ts.length
 ·exact hp
 ·simp [Pa.mop,Pa.kd_end hp] at h
theorem Pa.rk_le (o:Nat):Pa.rk o≤5:=by unfold Pa.rk;(repeat' (first | omega | split))
theorem Pa.rank_next (n:Nat) (ih:∀ m,m≤n→Pa.RankIs ts g a c E m) (ihu:Pa.UnmIs ts g a c E n):Pa.RankIs ts g a c E (n+1):=by
 intro l i w r hl1 hl6 hr hB hP
 have hT:Pa.Pt ts g a c E i w w:=⟨hP,Pa.Fr.refl _ _⟩
 have hgw:=hP.lt
 have hll:(l:Int)≤6∧(1:Int)≤(l:Int):=by omega
 rw [Pa.rank] at hr
 cases h1:Pa.unm ts n i with
 | none=>rw [h1,Pa.bd_none] at hr;simp at hr
 | some q =>
  rw [h1] at hr
  have HU:=ihu i w q h1 hB hP
  cases q with
  | error k =>
   rw [Pa.bd_err,Option.some.injEq] at hr
   subst hr
   go_enter Tryz.func137,Tryz.ntmps137
   go_wp2_with (go_at_call 143;refine HU.mono ?_;rintro e V ⟨rfl,hF⟩;unfold Pa.pan)
   exact ⟨rfl,rfl,hF⟩
  | ok x =>
   rw [Pa.bd_ok] at hr
   have HR:Hid (Pa.rankL ts n l 5 x.1 x.2=some r):=hr
   clear hr
   go_enter Tryz.func137,Tryz.ntmps137
   go_wp2_with (go_at_call 143;refine HU.mono ?_;rintro e V ⟨ty,y,rfl,hR,hT'⟩;replace hT:=hT.to hT';clear hT')
   go_loopw [5,6,7,8] (fun lv mv _ _ wr => ∃ (m M:Nat) (MZ:Int) (t:Mill.Tr) (p:Nat) (ty:TypeId) (y:Value),m≤n∧M≤5∧lv = .iface ty y∧mv = .int .i64 MZ∧Hid (MZ=(M:Int))∧Pa.Rb w.heap.size wr t (.iface ty y)∧Pa.Pt ts g a c E p w wr∧Pa.rankL ts m l M t p=some r) (fun _ _ _ _ wr=>Pa.leftP g ts.length wr)
   case atStart=>exact ⟨n,5,5,x.1,x.2,ty,y,Nat.le_refl _,by omega,rfl,rfl,rfl,hR,hT,HR.out⟩
   case round =>
    clear hR hT
    obtain ⟨m,M,MZ,t,p,ty,y,hm,hM,rfl,rfl,HMZ,hR,hT,hL⟩:=hrel
    obtain ⟨m,rfl⟩:∃ m',m=m'+1:=by
     cases m with
     | zero=>simp [Pa.rankL] at hL
     | succ m=>exact ⟨m,rfl⟩
    rw [Pa.rankL] at hL
    obtain ⟨o,HO⟩:∃ o,Hid (Pa.mop ts p=o):=⟨_,rfl⟩
    have ho18:o≤18:=by rw [← HO.out];exact Pa.mop_le ts p
    rw [HO.out] at hL
    obtain ⟨K,HK⟩:∃ K,Hid (Pa.rk o=K):=⟨_,rfl⟩
    rw [HK.out] at hL
    have hK5:K≤5:=by rw [← HK.out];exact Pa.rk_le o
    have hoI:(o:Int) < 19:=by omega
    have hoz:(0:Int)≤(o:Int):=by omega
    by_cases hout:K < l∨M < K
    ·rw [if_pos hout,Option.some.injEq] at hL
     subst hL
     by_cases hk1:K < l
     ·have hk1I:(K:Int) < (l:Int):=by omega
      go_wp2_with (go_at_call 144;refine (Pa.binOp_any (hB.fr hT.2) hT.1).mono ?_;rintro e V ⟨rfl,hT'⟩;rw [HO.out];replace hR:=hR.fr hT'.2 hgw;replace hT:=hT.to hT';clear hT';have hbc:=Pa.bin_at (hB.fr hT.2) o ho18;rw [HK.out] at hbc)
      go_ret
      exact ⟨ty,y,rfl,hR,hT⟩
     ·have hk1I:¬ (K:Int) < (l:Int):=by omega
      have hk2I:MZ < (K:Int):=by rw [HMZ.out];omega
      go_wp2_with (go_at_call 144;refine (Pa.binOp_any (hB.fr hT.2) hT.1).mono ?_;rintro e V ⟨rfl,hT'⟩;rw [HO.out];replace hR:=hR.fr hT'.2 hgw;replace hT:=hT.to hT';clear hT';have hbc:=Pa.bin_at (hB.fr hT.2) o ho18;rw [HK.out] at hbc)
      go_ret
      exact ⟨ty,y,rfl,hR,hT⟩
    ·rw [if_neg hout] at hL
     obtain ⟨Z,HZ⟩:∃ Z:Int,Hid ((K:Int)=Z):=⟨_,rfl⟩
     have hk1I:¬ Z < (l:Int):=by rw [← HZ.out];omega
     have hk2I:¬ MZ < Z:=by rw [← HZ.out,HMZ.out];omega
     have ho0:o≠0:=by
      intro e
      rw [e] at HK
      have:K=0:=HK.out.symm
      omega
     have hp:p < ts.length:=Pa.mop_lt (by rw [HO.out];exact ho0)
     obtain ⟨hs1,hs2⟩:=hT.1.sum
     have hw1:wrap64 (Z+1)=Z+1:=by rw [← HZ.out,wrap64];omega
     have HLP:Hid (Pa.leftP g ts.length wr=ts.length+1 - p):=hT.1.left
     clear hout hll ho0
     cases h2:Pa.rank ts m (K+1) (p+1) with
     | none=>rw [h2,Pa.bd_none] at hL;simp at hL
     | some q2 =>
      rw [h2] at hL
      have HE:Hid (∀ W,Pa.Tb g W→Pa.P ts g a c E (p+1) W→Calls Tryz.prog 137 #[.pointer (some ⟨g,0,none⟩),.int .i64 (Z+1)] W (Pa.Ans ts g a c E q2 W)):=fun W hb hp=>by
       have:=ih m (by omega) (K+1) (p+1) W q2 (by omega) (by omega) h2 hb hp
       rw [← HZ.out]
       exact this
      cases q2 with
      | error k =>
       rw [Pa.bd_err,Option.some.injEq] at hL
       subst hL
       go_wp2_with (first
        | (go_at_call 144;refine (Pa.binOp_any (hB.fr hT.2) hT.1).mono ?_;rintro e V ⟨rfl,hT'⟩;rw [HO.out];replace hR:=hR.fr hT'.2 hgw;replace hT:=hT.to hT';clear hT';have hbc:=Pa.bin_at (hB.fr hT.2) o ho18;rw [HK.out,HZ.out] at hbc;obtain ⟨c0,c1,c2,f1⟩:=hT.1.cells)
        | (go_at_call 137;refine (HE.out _ (hB.fr (hT.2.trans (Pa.Fr.set _ _ _))) (hT.1.nx hp)).mono ?_;rintro e V ⟨rfl,hF'⟩;have hF:=(hT.2.trans (Pa.Fr.set _ _ _)).trans hF';unfold Pa.pan))
       exact ⟨rfl,rfl,hF⟩
      | ok x2 =>
       rw [Pa.bd_ok] at hL
       have hlt:=(Pa.lt_all ts m).rank _ _ _ h2
       by_cases hK3:K=3
       ·rw [if_pos hK3] at hL
        have HL:Hid (Pa.rankL ts m l 2 (Pa.br 6 (o:Int) 0 [] [t,x2.1]) x2.2=some r):=hL
        have hz3:(Z == 3)=true:=by rw [← HZ.out];simp;omega
        have hw3:wrap64 (Z - 1)=2:=by rw [← HZ.out,wrap64];omega
        clear hL hK3
        go_wp2_with (first
         | (go_at_call 144;refine (Pa.binOp_any (hB.fr hT.2) hT.1).mono ?_;rintro e V ⟨rfl,hT'⟩;rw [HO.out];replace hR:=hR.fr hT'.2 hgw;replace hT:=hT.to hT';clear hT';have hbc:=Pa.bin_at (hB.fr hT.2) o ho18;rw [HK.out,HZ.out] at hbc;obtain ⟨c0,c1,c2,f1⟩:=hT.1.cells)
         | (go_at_call 137;refine (HE.out _ (hB.fr (hT.2.trans (Pa.Fr.set _ _ _))) (hT.1.nx hp)).mono ?_;rintro e V3 ⟨ty2,y2,rfl,hR2,hT'⟩;replace hR:=(hR.fr (Pa.Fr.set (g:=g) _ 1 (.int .i64 ((p:Int)+1))) hgw).fr hT'.2 hgw;replace hR2:=hR2.mono (hT.2.trans (Pa.Fr.set (g:=g) _ 1 (.int .i64 ((p:Int)+1)))).size;have hT2:Pa.Pt ts g a c E x2.2 w V3:=⟨hT'.1,(hT.2.trans (Pa.Fr.set _ _ _)).trans hT'.2⟩;replace hT:=hT2;clear hT2 hT' c0 c1 c2 f1))
        have hRR:=Pa.rb_bin (o:Int) hR hR2
        rw [hw3];clear hw3
        refine ⟨⟨m,2,2,_,x2.2,_,_,Nat.le_of_lt hm,by omega,rfl,rfl,rfl,hRR,hT,HL.out⟩, ?_⟩
        rw [HLP.out,hT.1.left];have h3:=hT.1.le;clear hs1 hs2 hw1;omega
       ·rw [if_neg hK3] at hL
        have HL:Hid (Pa.rankL ts m l K (Pa.br 6 (o:Int) 0 [] [t,x2.1]) x2.2=some r):=hL
        have hz3:(Z == 3)=false:=by rw [← HZ.out];simp;omega
        have hz3':¬ Z=3:=by rw [← HZ.out];omega
        clear hL hK3
        go_wp2_with (first
         | (go_at_call 144;refine (Pa.binOp_any (hB.fr hT.2) hT.1).mono ?_;rintro e V ⟨rfl,hT'⟩;rw [HO.out];replace hR:=hR.fr hT'.2 hgw;replace hT:=hT.to hT';clear hT';have hbc:=Pa.bin_at (hB.fr hT.2) o ho18;rw [HK.out,HZ.out] at hbc;obtain ⟨c0,c1,c2,f1⟩:=hT.1.cells)
         | (go_at_call 137;refine (HE.out _ (hB.fr (hT.2.trans (Pa.Fr.set _ _ _))) (hT.1.nx hp)).mono ?_;rintro e V3 ⟨ty2,y2,rfl,hR2,hT'⟩;replace hR:=(hR.fr (Pa.Fr.set (g:=g) _ 1 (.int .i64 ((p:Int)+1))) hgw).fr hT'.2 hgw;replace hR2:=hR2.mono (hT.2.trans (Pa.Fr.set (g:=g) _ 1 (.int .i64 ((p:Int)+1)))).size;have hT2:Pa.Pt ts g a c E x2.2 w V3:=⟨hT'.1,(hT.2.trans (Pa.Fr.set _ _ _)).trans hT'.2⟩;replace hT:=hT2;clear hT2 hT' c0 c1 c2 f1))
        have hRR:=Pa.rb_bin (o:Int) hR hR2
        refine ⟨⟨m,K,Z,_,x2.2,_,_,Nat.le_of_lt hm,hK5,rfl,rfl,HZ.out.symm,hRR,hT,HL.out⟩, ?_⟩
        rw [HLP.out,hT.1.left];have h3:=hT.1.le;clear hs1 hs2 hw1;omega
end Go.Proofs.YtlcckaffhnjneaaGreatDoor
