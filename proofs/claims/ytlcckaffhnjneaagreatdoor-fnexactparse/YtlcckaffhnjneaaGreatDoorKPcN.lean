import Derived.Test.YtlcckaffhnjneaaGreatDoorKPcM
import Derived.Test.YtlcckaffhnjneaaGreatDoorKPdA
import Derived.Test.YtlcckaffhnjneaaGreatDoorKTreeU
set_option maxRecDepth 100000
set_option maxHeartbeats 2000000
namespace Go.Proofs.YtlcckaffhnjneaaGreatDoor
open Go.RowKit
variable {ts:List (Mill.Piece × Nat)} {g:Nat} {a:Option Addr} {c E i j:Nat} {w W W2:World}
theorem Pa.kids_le (o:Nat):(Mill.builtKids (o:Int)).toNat≤3:=by unfold Mill.builtKids;(repeat' (first | omega | split)) <;> decide
theorem Pa.wty_le : Pa.wty ts i≤10:=by
 unfold Pa.wty
 split
 ·have:=Pa.ix_le Pa.words (Pa.tx ts i)
  simpa [Pa.words] using this
 ·omega
theorem Pa.wd_ix (k:Nat) (kZ:Int) (hk:k < 13) (hz:kZ=(k:Int)) (W:World):Sem.run Tryz.prog (Instr.index 171 (.agg Pa.wC.toArray) (.int .i64 kZ)) W = .ok (.agg #[.string ⟨(([]::Pa.builts).getD k []).toArray⟩,.int .i64 (Mill.builtKids (k:Int))]) W:=by
 subst hz
 have h:k=0∨k=1∨k=2∨k=3∨k=4∨k=5∨k=6∨k=7∨k=8∨k=9∨k=10∨k=11∨k=12:=by omega
 rcases h with rfl | rfl | rfl | rfl | rfl | rfl | rfl | rfl | rfl | rfl | rfl | rfl | rfl <;> (show _=_;kernel_rfl)
theorem Pa.word_next (hG:Pa.Good ts) (n:Nat) (ihl:∀ (K:Nat) (i:Nat) (w:World) (r:Except Nat (List Mill.Tr × Nat)),K≤3→Pa.brest ts n K i=some r→Pa.Tb g w→Pa.P ts g a c E i w→Calls Tryz.prog 149 #[.pointer (some ⟨g,0,none⟩),.int .i64 (K:Int)] w (Pa.AnsL ts g a c E r w)) (ihb:Pa.BrkIs ts g a c E n):Pa.WordIs ts g a c E (n+1):=by
 intro i w r hk2 hr hB hP
 have hT:Pa.Pt ts g a c E i w w:=⟨hP,Pa.Fr.refl _ _⟩
 have hgw:=hP.lt
 have mkA:True:=trivial
 have mkB:True:=trivial
 rw [Pa.iword] at hr
 cases hA:Pa.st ts 2 [116,114,117,101] i with
 | true =>
  rw [hA,if_pos rfl,Option.some.injEq] at hr
  subst hr
  go_enter Tryz.func146,Tryz.ntmps146
  go_wp2_with (have _t:=mkA;go_at_call 93;refine (Pa.takesW_any [116,114,117,101] hT.1).mono ?_;rintro e W1 ⟨rfl,hT'⟩;rw [hA] at hT' ⊢;replace hT:Pa.Pt ts g a c E (i+1) w W1:=hT.to hT';clear hT';clear mkA)
  go_ret
  exact ⟨_,_,rfl,Pa.rb_bool _ _ 1,hT⟩
 | false =>
  rw [hA,if_neg (by decide)] at hr
  cases hC:Pa.st ts 2 [102,97,108,115,101] i with
  | true =>
   rw [hC,if_pos rfl,Option.some.injEq] at hr
   subst hr
   go_enter Tryz.func146,Tryz.ntmps146
   go_wp2_with (first | (have _t:=mkA;go_at_call 93;refine (Pa.takesW_any [116,114,117,101] hT.1).mono ?_;rintro e W1 ⟨rfl,hT'⟩;rw [hA] at hT' ⊢;replace hT:Pa.Pt ts g a c E i w W1:=hT.to hT';clear hT';clear mkA) | (have _t:=mkB;go_at_call 93;refine (Pa.takesW_any [102,97,108,115,101] hT.1).mono ?_;rintro e W1 ⟨rfl,hT'⟩;rw [hC] at hT' ⊢;replace hT:Pa.Pt ts g a c E (i+1) w W1:=hT.to hT';clear hT';clear mkB))
   go_ret
   exact ⟨_,_,rfl,Pa.rb_bool _ _ 0,hT⟩
  | false =>
   rw [hC,if_neg (by decide)] at hr
   go_enter Tryz.func146,Tryz.ntmps146
   go_wp2_with (first | (have _t:=mkA;go_at_call 93;refine (Pa.takesW_any [116,114,117,101] hT.1).mono ?_;rintro e W1 ⟨rfl,hT'⟩;rw [hA] at hT' ⊢;replace hT:Pa.Pt ts g a c E i w W1:=hT.to hT';clear hT';clear mkA) | (have _t:=mkB;go_at_call 93;refine (Pa.takesW_any [102,97,108,115,101] hT.1).mono ?_;rintro e W1 ⟨rfl,hT'⟩;rw [hC] at hT' ⊢;replace hT:Pa.Pt ts g a c E i w W1:=hT.to hT';clear hT';clear mkB) | (refine wpList_load_mid rfl 171 _ rfl 2 0 rfl Pa.wC (.array 13 170) (hB.fr hT.2).d Tryz.underlying171 rfl (by kernel_rfl) ?_))
   have HR:Hid ((if Pa.bop ts i≠0 then Pa.bd (Pa.brest ts n (Mill.builtKids (Pa.bop ts i)).toNat (i+1)) fun us j=>some (.ok (Pa.br 8 (Pa.bop ts i) 0 [] us,j)) else if Pa.wty ts i < 3 then some (.error i) else Pa.bd (Pa.brk ts n (i+1)) fun t j=>some (.ok (Pa.br 9 0 (Pa.wty ts i) [] [t],j)))=some r):=hr
   clear hr
   go_loopw [17,3,4] (fun v _ _ wr => ∃ (k:Nat) (kZ:Int),k≤13∧v = .int .i64 kZ∧Hid (kZ=(k:Int))∧Pa.Pt ts g a c E i w wr∧Hid (∀ m,m < k→Pa.st ts 2 (([]::Pa.builts).getD m []) i=false)) (fun v _ _ _=>30 - (intOf v).toNat)
   case atStart=>exact ⟨0,0,by omega,rfl,rfl,hT,fun m hm=>by omega⟩
   case round =>
    clear hT
    obtain ⟨k,kZ,hk,rfl,HK,hT,HNO⟩:=hrel
    by_cases hk4:k < 13
    ·have hz4:kZ < 13:=by rw [HK.out];omega
     have hw1:wrap64 (kZ+1)=kZ+1:=by rw [HK.out,wrap64];omega
     obtain ⟨T,HT⟩:∃ T,Hid (([]::Pa.builts).getD k []=T):=⟨_,rfl⟩
     obtain ⟨J,HJ⟩:∃ J,Hid (Mill.builtKids (k:Int)=J):=⟨_,rfl⟩
     have hix:∀ W,Sem.run Tryz.prog (Instr.index 171 (.agg Pa.wC.toArray) (.int .i64 kZ)) W = .ok (.agg #[.string ⟨T.toArray⟩,.int .i64 J]) W:=by rw [← HT.out,← HJ.out];exact Pa.wd_ix k kZ hk4 HK.out
     have hgn:wr.heap.size≠g:=Nat.ne_of_gt hT.1.lt
     replace hT:Pa.Pt ts g a c E i w (wr.alloc (.cells #[.string ⟨T.toArray⟩,.int .i64 J] 170)):=hT.to ⟨hT.1.below ((Below.refl _ _).alloc (Nat.le_refl _) _),Pa.Fr.of_below ((Below.refl _ _).alloc (Nat.le_refl _) _)⟩
     cases hI:Pa.st ts 2 T i with
     | false =>
      go_wp2_with (go_at_call 93;refine (Pa.takesW_any T hT.1).mono ?_;rintro e W1 ⟨rfl,hT'⟩;rw [hI] at hT' ⊢;replace hT:Pa.Pt ts g a c E i w W1:=hT.to hT';clear hT')
      go_roundw
      case rel=>exact ⟨k+1,kZ+1,by omega,by rw [hw1],by rw [Hid,HK.out];omega,hT,fun m hm=>Pa.no_step HNO.out (by rw [HT.out];exact hI) m hm⟩
      case measure=>rw [hw1];simp [intOf,HK.out];clear hw1;omega
     | true =>
      have hk0:k≠0:=by
       rintro rfl
       have:T=[]:=HT.out.symm
       subst this
       rw [hG.sw0] at hI
       simp at hI
      have hU:Pa.bop ts i=k:=Pa.tab_yes 2 Pa.builts (by decide) (by decide) k (by simp [Pa.builts];omega) (by rw [HT.out];exact hI)
      have hr:=HR.out
      rw [hU,if_pos hk0] at hr
      have hJn:0≤J:=by rw [← HJ.out];exact Pa.kids_nn k
      have hJ3:J.toNat≤3:=by rw [← HJ.out];exact Pa.kids_le k
      have HJ3:Hid (J.toNat≤3):=hJ3
      rw [HJ.out] at hr
      have hc1:(wr.alloc (.cells #[.string ⟨T.toArray⟩,.int .i64 J] 170)).cell? ⟨wr.heap.size,1,none⟩=some (.int .i64 J):=by simp [go_sem]
      have hsz:wr.heap.size < (wr.alloc (.cells #[.string ⟨T.toArray⟩,.int .i64 J] 170)).heap.size:=by simp
      cases h2:Pa.brest ts n J.toNat (i+1) with
      | none=>rw [h2,Pa.bd_none] at hr;simp at hr
      | some q =>
       rw [h2] at hr
       have HE:Hid (∀ W,Pa.Tb g W→Pa.P ts g a c E (i+1) W→Calls Tryz.prog 149 #[.pointer (some ⟨g,0,none⟩),.int .i64 J] W (Pa.AnsL ts g a c E q W)):=fun W hb hp=>by
        have h3:=ihl J.toNat (i+1) W q hJ3 h2 hb hp
        rw [Int.toNat_of_nonneg hJn] at h3
        exact h3
       clear hJn hJ3
       cases q with
       | error e =>
        rw [Pa.bd_err,Option.some.injEq] at hr
        subst hr
        go_wp2_with (first | (go_at_call 93;refine (Pa.takesW_any T hT.1).mono ?_;rintro e W1 ⟨rfl,hT'⟩;rw [hI] at hT' ⊢;have hc2:=(hT'.2.cell (o:=1) hsz hgn).trans hc1;replace hT:Pa.Pt ts g a c E (i+1) w W1:=hT.to hT';clear hT') | (go_at_call 149;refine (HE.out _ (hB.fr hT.2) hT.1).mono ?_;rintro e V ⟨rfl,hF'⟩;have hF:=hT.2.trans hF';unfold Pa.pan))
        exact ⟨rfl,rfl,hF⟩
       | ok x =>
        rw [Pa.bd_ok,Option.some.injEq] at hr
        subst hr
        go_wp2_with (first | (go_at_call 93;refine (Pa.takesW_any T hT.1).mono ?_;rintro e W1 ⟨rfl,hT'⟩;rw [hI] at hT' ⊢;have hc2:=(hT'.2.cell (o:=1) hsz hgn).trans hc1;replace hT:Pa.Pt ts g a c E (i+1) w W1:=hT.to hT';clear hT') | (go_at_call 149;refine (HE.out _ (hB.fr hT.2) hT.1).mono ?_;rintro e V ⟨va,vc,rfl,hR,hT'⟩;replace hR:=hR.mono hT.2.size;replace hT:=hT.to hT';clear hT'))
        go_ret
        have hl:x.1.length≤100000:=by rw [Pa.brest_len h2];exact Nat.le_trans (HJ3.out) (by decide)
        have hRR:=Pa.rb_built (k:Int) hR hl
        rw [HK.out]
        exact ⟨_,_,rfl,hRR,hT⟩
    ·have hU:Pa.bop ts i=0:=Pa.tab_no 2 Pa.builts (by decide) fun m hm=>HNO.out m (by simp [Pa.builts] at hm;omega)
     have hr:=HR.out
     clear HR HNO
     rw [hU] at hr
     simp only [ne_eq,not_true_eq_false,if_false] at hr
     have hz4:¬ kZ < 13:=by rw [HK.out];omega
     obtain ⟨hs1,hs2⟩:=hT.1.sum
     have HP:Hid (Pa.wty ts i≠0→i < ts.length):=Pa.wty_lt
     have HW10:Hid (Pa.wty ts i≤10):=Pa.wty_le
     have HF:Hid (Pa.fl ts E i = .agg #[.int .i64 6,.int .i64 (Pa.tat ts E i:Int)]):=rfl
     have HWT:Hid (∀ W,Pa.Tb g W→Pa.P ts g a c E i W→Calls Tryz.prog 97 #[.pointer (some ⟨g,0,none⟩)] W fun e w'=>e = .returned (.int .i64 (Pa.wty ts i:Int))∧Pa.Pt ts g a c E i W w'):=fun W hb hp=>Pa.wordType_any hb hp
     generalize Pa.wty ts i=Y at *
     obtain ⟨YZ,HY⟩:∃ YZ:Int,Hid ((Y:Int)=YZ):=⟨_,rfl⟩
     rw [HY.out] at HWT
     by_cases h3:Y < 3
     ·rw [if_pos h3,Option.some.injEq] at hr
      subst hr
      have hy3:¬ (3:Int)≤YZ:=by rw [← HY.out];clear hs1 hs2;omega
      have HI:Hid ((decide (3≤YZ) && decide (YZ≤10))=false):=by rw [Hid];simp [hy3]
      generalize ((Pa.tat ts E i:Nat):Int)=Q at *
      go_wp2_with (first | (go_at_call 97;refine (HWT.out _ (hB.fr hT.2) hT.1).mono ?_;rintro e W1 ⟨rfl,hT'⟩;replace hT:=hT.to hT';clear hT') | (go_at_call 99;refine (isIntType_is YZ false HI _).mono ?_;rintro e W3 ⟨rfl,rfl⟩) | (go_at_call 94;refine (Pa.fault_any hT.1).mono ?_;rintro e W2 ⟨rfl,hW2⟩;rw [HF.out];have hF:=(hT.to ⟨hT.1.below hW2,Pa.Fr.of_below hW2⟩).2))
      exact ⟨rfl,by unfold Pa.pan;rw [HF.out],hF⟩
     ·rw [if_neg h3] at hr
      have hy3:(3:Int)≤YZ:=by rw [← HY.out];clear hs1 hs2;omega
      have hy10:YZ≤10:=by have h10:=HW10.out;rw [← HY.out];clear hs1 hs2;omega
      have hp:=HP.out (by clear hs1 hs2;omega)
      have HI:Hid ((decide (3≤YZ) && decide (YZ≤10))=true):=by rw [Hid];simp [hy3,hy10]
      cases h2:Pa.brk ts n (i+1) with
      | none=>rw [h2,Pa.bd_none] at hr;simp at hr
      | some q =>
       rw [h2] at hr
       have HE:Hid (∀ W,Pa.Tb g W→Pa.P ts g a c E (i+1) W→Calls Tryz.prog 147 #[.pointer (some ⟨g,0,none⟩)] W (Pa.Ans ts g a c E q W)):=fun W hb hp=>ihb (i+1) W q h2 hb hp
       cases q with
       | error e =>
        rw [Pa.bd_err,Option.some.injEq] at hr
        subst hr
        go_wp2_with (first | (go_at_call 97;refine (HWT.out _ (hB.fr hT.2) hT.1).mono ?_;rintro e W1 ⟨rfl,hT'⟩;replace hT:=hT.to hT';clear hT';obtain ⟨c0,c1,c2,f1⟩:=hT.1.cells) | (go_at_call 99;refine (isIntType_is YZ true HI _).mono ?_;rintro e W3 ⟨rfl,rfl⟩) | (go_at_call 147;replace hT:=hT.to ⟨hT.1.nx hp,Pa.Fr.set _ _ _⟩;refine (HE.out _ (hB.fr hT.2) hT.1).mono ?_;rintro e V ⟨rfl,hF'⟩;have hF:=hT.2.trans hF';unfold Pa.pan))
        exact ⟨rfl,rfl,hF⟩
       | ok x =>
        rw [Pa.bd_ok,Option.some.injEq] at hr
        subst hr
        go_wp2_with (first | (go_at_call 97;refine (HWT.out _ (hB.fr hT.2) hT.1).mono ?_;rintro e W1 ⟨rfl,hT'⟩;replace hT:=hT.to hT';clear hT';obtain ⟨c0,c1,c2,f1⟩:=hT.1.cells) | (go_at_call 99;refine (isIntType_is YZ true HI _).mono ?_;rintro e W3 ⟨rfl,rfl⟩) | (go_at_call 147;replace hT:=hT.to ⟨hT.1.nx hp,Pa.Fr.set _ _ _⟩;refine (HE.out _ (hB.fr hT.2) hT.1).mono ?_;rintro e V ⟨ty,y,rfl,hR,hT'⟩;replace hR:=hR.mono hT.2.size;replace hT:=hT.to hT';clear hT'))
        go_ret
        have hRR:=Pa.rb_conv (Y:Int) hR
        rw [← HY.out]
        exact ⟨_,_,rfl,hRR,hT⟩
variable {ts:List (Mill.Piece × Nat)} {g:Nat} {a:Option Addr} {c E i j:Nat} {w W W2:World}
def Pa.BrestIs (ts:List (Mill.Piece × Nat)) (g:Nat) (a:Option Addr) (c E n:Nat):Prop := ∀ (K:Nat) (i:Nat) (w:World) (r:Except Nat (List Mill.Tr × Nat)),K≤3→Pa.brest ts n K i=some r→Pa.Tb g w→Pa.P ts g a c E i w→Calls Tryz.prog 149 #[.pointer (some ⟨g,0,none⟩),.int .i64 (K:Int)] w (Pa.AnsL ts g a c E r w)
structure Pa.Eis (ts:List (Mill.Piece × Nat)) (g:Nat) (a:Option Addr) (c E n:Nat):Prop where
 rank:Pa.RankIs ts g a c E n
 unm:Pa.UnmIs ts g a c E n
 call:Pa.CallIs ts g a c E n
 word:Pa.WordIs ts g a c E n
 brk:Pa.BrkIs ts g a c E n
 brest:Pa.BrestIs ts g a c E n
theorem Pa.e_all (hG:Pa.Good ts) (n:Nat):∀ m,m≤n→Pa.Eis ts g a c E m:=by
 induction n with
 | zero =>
  intro m hm
  obtain rfl:m=0:=by omega
  exact ⟨fun l i w r _ _ h=>by simp [Pa.rank] at h,fun i w r h=>by simp [Pa.unm] at h,fun x i w r h=>by simp [Pa.call] at h,fun i w r _ h=>by simp [Pa.iword] at h,fun i w r h=>by simp [Pa.brk] at h,fun K i w r _ h=>by simp [Pa.brest] at h⟩
 | succ n ih =>
  intro m hm
  by_cases e:m≤n
  ·exact ih m e
  obtain rfl:m=n+1:=by omega
  have hn:=ih n (Nat.le_refl _)
  have hr:∀ m,m≤n→Pa.RankIs ts g a c E m:=fun m h=>(ih m h).rank
  exact ⟨Pa.rank_next n hr hn.unm,fun i w r h hB hP=>Pa.unm_next hG n hn.unm hn.call hn.word hn.brk r h hB hP,fun x i w r h hB hP=>Pa.call_any n x hr r h hB hP,Pa.word_next hG n hn.brest hn.brk,fun i w r h hB hP=>Pa.brk_any n hn.rank r h hB hP,fun K i w r hK h hB hP=>Pa.brest_any n hr K hK r h hB hP⟩
theorem Pa.val_any (hG:Pa.Good ts) (n:Nat) (r:Except Nat (Mill.Tr × Nat)) (hr:Pa.rank ts n 1 i=some r) (hB:Pa.Tb g w) (hP:Pa.P ts g a c E i w) :
  Calls Tryz.prog 120 #[.pointer (some ⟨g,0,none⟩)] w (Pa.Ans ts g a c E r w):=Pa.value_any n (Pa.e_all hG n n (Nat.le_refl _)).rank r hr hB hP
theorem Pa.clr_any (hG:Pa.Good ts) (n:Nat) (x:List UInt8) (r:Except Nat (List Mill.Tr × Nat)) (hr:Pa.call ts n i=some r) (hB:Pa.Tb g w) (hP:Pa.P ts g a c E i w) :
  Calls Tryz.prog 138 #[.pointer (some ⟨g,0,none⟩),.string (Mill.ba x)] w (Pa.AnsC ts g a c E x r w):=(Pa.e_all hG n n (Nat.le_refl _)).call x i w r hr hB hP
end Go.Proofs.YtlcckaffhnjneaaGreatDoor
