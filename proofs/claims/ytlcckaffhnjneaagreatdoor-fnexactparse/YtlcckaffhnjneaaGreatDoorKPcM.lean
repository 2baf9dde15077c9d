import Derived.Test.YtlcckaffhnjneaaGreatDoorKPcL
import Derived.Test.YtlcckaffhnjneaaGreatDoorKPdA
set_option maxRecDepth 100000
set_option maxHeartbeats 2000000
namespace Go.Proofs.YtlcckaffhnjneaaGreatDoor
open Go.RowKit
variable {ts:List (Mill.Piece × Nat)} {g:Nat} {a:Option Addr} {c E i j:Nat} {w W W2:World}
theorem Pa.Good.mne (hG:Pa.Good ts) (h:Pa.kd ts i=5):Pa.tx ts i≠[]:=by
 have h1:=hG.mark i h
 intro e
 rw [e] at h1
 revert h1
 decide
theorem Pa.Good.st0 (hG:Pa.Good ts) (i:Nat):Pa.st ts 5 [] i=false:=by
 cases h:Pa.st ts 5 [] i with
 | false=>rfl
 | true=>simp only [Pa.st,Bool.and_eq_true,beq_iff_eq] at h;exact absurd h.2 (hG.mne h.1)
theorem Pa.Good.sw0 (hG:Pa.Good ts) (i:Nat):Pa.st ts 2 [] i=false:=by
 cases h:Pa.st ts 2 [] i with
 | false=>rfl
 | true=>simp only [Pa.st,Bool.and_eq_true,beq_iff_eq] at h;exact absurd h.2 (hG.ne i h.1)
theorem Pa.un_ix (k:Nat) (kZ:Int) (hk:k < 4) (hz:kZ=(k:Int)) (W:World):Sem.run Tryz.prog (Instr.index 216 (.agg Pa.uC.toArray) (.int .i64 kZ)) W = .ok (.string ⟨(([]::Pa.marks1).getD k []).toArray⟩) W:=by
 subst hz
 have h:k=0∨k=1∨k=2∨k=3:=by omega
 rcases h with rfl | rfl | rfl | rfl <;> (show _=_;kernel_rfl)
def Pa.CallIs (ts:List (Mill.Piece × Nat)) (g:Nat) (a:Option Addr) (c E n:Nat):Prop := ∀ (x:List UInt8) (i:Nat) (w:World) (r:Except Nat (List Mill.Tr × Nat)),Pa.call ts n i=some r→Pa.Tb g w→Pa.P ts g a c E i w →
 Calls Tryz.prog 138 #[.pointer (some ⟨g,0,none⟩),.string (Mill.ba x)] w (Pa.AnsC ts g a c E x r w)
def Pa.WordIs (ts:List (Mill.Piece × Nat)) (g:Nat) (a:Option Addr) (c E n:Nat):Prop := ∀ (i:Nat) (w:World) (r:Except Nat (Mill.Tr × Nat)),Pa.kd ts i=2→Pa.iword ts n i=some r→Pa.Tb g w→Pa.P ts g a c E i w →
 Calls Tryz.prog 146 #[.pointer (some ⟨g,0,none⟩)] w (Pa.Ans ts g a c E r w)
def Pa.BrkIs (ts:List (Mill.Piece × Nat)) (g:Nat) (a:Option Addr) (c E n:Nat):Prop := ∀ (i:Nat) (w:World) (r:Except Nat (Mill.Tr × Nat)),Pa.brk ts n i=some r→Pa.Tb g w→Pa.P ts g a c E i w →
 Calls Tryz.prog 147 #[.pointer (some ⟨g,0,none⟩)] w (Pa.Ans ts g a c E r w)
theorem Pa.kd_in (h:Pa.kd ts i≠0):i < ts.length:=by
 by_cases hp:i < ts.length
 ·exact hp
 ·rw [Pa.kd_end hp] at h;exact absurd rfl h
theorem Pa.unm_next (hG:Pa.Good ts) (n:Nat) (ihu:Pa.UnmIs ts g a c E n)
  (ihc:Pa.CallIs ts g a c E n) (ihw:Pa.WordIs ts g a c E n) (ihb:Pa.BrkIs ts g a c E n) (r:Except Nat (Mill.Tr × Nat)) (hr:Pa.unm ts (n+1) i=some r) (hB:Pa.Tb g w) (hP:Pa.P ts g a c E i w) :
  Calls Tryz.prog 143 #[.pointer (some ⟨g,0,none⟩)] w (Pa.Ans ts g a c E r w):=by
 have hT:Pa.Pt ts g a c E i w w:=⟨hP,Pa.Fr.refl _ _⟩
 have hgw:=hP.lt
 have HR:Hid (Pa.unm ts (n+1) i=some r):=hr
 clear hr
 go_enter Tryz.func143,Tryz.ntmps143
 go_wp2_with (refine wpList_load_mid rfl 216 _ rfl 7 0 rfl Pa.uC (.array 4 9) hB.u Tryz.underlying216 rfl (by kernel_rfl) ?_)
 go_loopw [7,3,4] (fun v _ _ wr => ∃ (k:Nat) (kZ:Int),k≤4∧v = .int .i64 kZ∧Hid (kZ=(k:Int))∧Pa.Pt ts g a c E i w wr∧Hid (∀ m,m < k→Pa.st ts 5 (([]::Pa.marks1).getD m []) i=false)) (fun v _ _ _=>30 - (intOf v).toNat)
 case atStart=>exact ⟨0,0,by omega,rfl,rfl,hT,fun m hm=>by omega⟩
 case round =>
  clear hT
  obtain ⟨k,kZ,hk,rfl,HK,hT,HNO⟩:=hrel
  by_cases hk4:k < 4
  ·have hix:=Pa.un_ix k kZ hk4 HK.out
   have hz4:kZ < 4:=by rw [HK.out];omega
   have hw1:wrap64 (kZ+1)=kZ+1:=by rw [HK.out,wrap64];omega
   obtain ⟨T,HT⟩:∃ T,Hid (([]::Pa.marks1).getD k []=T):=⟨_,rfl⟩
   rw [HT.out] at hix
   cases hI:Pa.st ts 5 T i with
   | false =>
    go_wp2_with ((go_at_call 68;refine (Pa.takesM_any T hT.1).mono ?_;rintro e W1 ⟨rfl,hT'⟩;rw [hI] at hT' ⊢;replace hT:=hT.to hT';clear hT'))
    go_roundw
    case rel=>exact ⟨k+1,kZ+1,by omega,by rw [hw1],by rw [Hid,HK.out];omega,hT,fun m hm=>Pa.no_step HNO.out (by rw [HT.out];exact hI) m hm⟩
    case measure=>rw [hw1];simp [intOf,HK.out];clear hw1;omega
   | true =>
    have hk0:k≠0:=by
     rintro rfl
     have:T=[]:=HT.out.symm
     subst this
     rw [hG.st0] at hI
     simp at hI
    have hU:Pa.iun ts i=k:=Pa.tab_yes 5 Pa.marks1 (by decide) (by decide) k (by simp [Pa.marks1];omega) (by rw [HT.out];exact hI)
    have hr:=HR.out
    rw [Pa.unm,hU,if_pos hk0] at hr
    cases h2:Pa.unm ts n (i+1) with
    | none=>rw [h2,Pa.bd_none] at hr;simp at hr
    | some q =>
     rw [h2] at hr
     have HE:Hid (∀ W,Pa.Tb g W→Pa.P ts g a c E (i+1) W→Calls Tryz.prog 143 #[.pointer (some ⟨g,0,none⟩)] W (Pa.Ans ts g a c E q W)):=fun W hb hp=>ihu (i+1) W q h2 hb hp
     cases q with
     | error e =>
      rw [Pa.bd_err,Option.some.injEq] at hr
      subst hr
      clear hix
      have hix:∀ W,Sem.run Tryz.prog (Instr.index 216 (.agg Pa.uC.toArray) (.int .i64 kZ)) W = .ok (.string ⟨T.toArray⟩) W:=by rw [← HT.out];exact Pa.un_ix k kZ hk4 HK.out
      go_wp2_with (first
       | (go_at_call 68;refine (Pa.takesM_any T hT.1).mono ?_;rintro e W1 ⟨rfl,hT'⟩;rw [hI] at hT' ⊢;replace hT:=hT.to hT';clear hT')
       | (go_at_call 143;refine (HE.out _ (hB.fr hT.2) hT.1).mono ?_;rintro e V ⟨rfl,hF'⟩;have hF:=hT.2.trans hF';unfold Pa.pan))
      exact ⟨rfl,rfl,hF⟩
     | ok x =>
      rw [Pa.bd_ok,Option.some.injEq] at hr
      subst hr
      go_wp2_with (first
       | (go_at_call 68;refine (Pa.takesM_any T hT.1).mono ?_;rintro e W1 ⟨rfl,hT'⟩;rw [hI] at hT' ⊢;replace hT:=hT.to hT';clear hT')
       | (go_at_call 143;refine (HE.out _ (hB.fr hT.2) hT.1).mono ?_;rintro e V ⟨ty,y,rfl,hR,hT'⟩;replace hR:=hR.mono hT.2.size;replace hT:=hT.to hT';clear hT'))
      go_ret
      have hRR:=Pa.rb_un (k:Int) hR
      rw [HK.out]
      exact ⟨_,_,rfl,hRR,hT⟩
  ·have hU:Pa.iun ts i=0:=Pa.tab_no 5 Pa.marks1 (by decide) fun m hm=>HNO.out m (by simp [Pa.marks1] at hm;omega)
   have hr:=HR.out
   clear HR HNO
   rw [Pa.unm,hU] at hr
   simp only [ne_eq,not_true_eq_false,if_false] at hr
   have hz4:¬ kZ < 4:=by rw [HK.out];omega
   obtain ⟨hs1,hs2⟩:=hT.1.sum
   have HP:Hid (Pa.kd ts i≠0→i < ts.length):=Pa.kd_in
   have HN:Hid (Pa.tokV ts E i = .agg #[.int .i64 (Pa.kd ts i),.string (Mill.ba (Pa.tx ts i)),.int .i64 (Pa.ty ts i),.int .i64 (Pa.nm ts i),.int .i64 (Pa.tat ts E i:Int)]):=rfl
   have ihw':Hid (Pa.kd ts i=2→∀ (w:World) (r:Except Nat (Mill.Tr × Nat)),Pa.iword ts n i=some r→Pa.Tb g w→Pa.P ts g a c E i w→Calls Tryz.prog 146 #[.pointer (some ⟨g,0,none⟩)] w (Pa.Ans ts g a c E r w)):=fun h w r=>ihw i w r h
   clear ihw
   obtain ⟨X,HX⟩:∃ X,Hid (Mill.ba (Pa.tx ts i)=X):=⟨_,rfl⟩
   rw [HX.out] at HN
   generalize Pa.kd ts i=KK at *
   generalize Pa.ty ts i=Y at *
   generalize Pa.nm ts i=Z at *
   generalize ((Pa.tat ts E i:Nat):Int)=Q at *
   by_cases k3:KK=3
   ·subst k3
    rw [if_pos rfl,Option.some.injEq] at hr
    subst hr
    have hp:=HP.out (by decide)
    go_wp2_with (go_at_call 95;refine (Pa.next_any hT.1).mono ?_;rintro e W1 ⟨rfl,hW1⟩;rw [HN.out];have hgn:W1.heap.size≠g:=Nat.ne_of_gt (Nat.lt_of_lt_of_le hT.1.lt hW1.size);replace hT:=(hT.to ⟨hT.1.below hW1,Pa.Fr.of_below hW1⟩).to ⟨(hT.1.below hW1).below ((Below.refl _ _).alloc (Nat.le_refl _) (.cells #[.int .i64 3,.string X,.int .i64 Y,.int .i64 Z,.int .i64 Q] 41)),Pa.Fr.of_below ((Below.refl _ _).alloc (Nat.le_refl _) _)⟩;obtain ⟨c0,c1,c2,f1⟩:=hT.1.cells)
    go_ret
    exact ⟨_,_,rfl,Pa.rb_int _ _ Y Z,hT.to ⟨hT.1.nx hp,Pa.Fr.set _ _ _⟩⟩
   rw [if_neg k3] at hr
   by_cases k4:KK=4
   ·subst k4
    rw [if_pos rfl,Option.some.injEq] at hr
    subst hr
    have hp:=HP.out (by decide)
    have hRT:∀ B W,Pa.Rb B W (Pa.lf 2 0 0 0 (Pa.tx ts i)) (.iface 158 (.agg #[.string X])):=fun B W=>by rw [← HX.out];exact Pa.rb_text B W _
    go_wp2_with (go_at_call 95;refine (Pa.next_any hT.1).mono ?_;rintro e W1 ⟨rfl,hW1⟩;rw [HN.out];have hgn:W1.heap.size≠g:=Nat.ne_of_gt (Nat.lt_of_lt_of_le hT.1.lt hW1.size);replace hT:=(hT.to ⟨hT.1.below hW1,Pa.Fr.of_below hW1⟩).to ⟨(hT.1.below hW1).below ((Below.refl _ _).alloc (Nat.le_refl _) (.cells #[.int .i64 4,.string X,.int .i64 Y,.int .i64 Z,.int .i64 Q] 41)),Pa.Fr.of_below ((Below.refl _ _).alloc (Nat.le_refl _) _)⟩;obtain ⟨c0,c1,c2,f1⟩:=hT.1.cells)
    go_ret
    exact ⟨_,_,rfl,hRT _ _,hT.to ⟨hT.1.nx hp,Pa.Fr.set _ _ _⟩⟩
   rw [if_neg k4] at hr
   by_cases k1:KK=1
   ·subst k1
    rw [if_pos rfl] at hr
    have hp:=HP.out (by decide)
    cases hI:Pa.st ts 5 [40] (i+1) with
    | false =>
     rw [hI] at hr
     simp only [Bool.false_eq_true,if_false,Option.some.injEq] at hr
     subst hr
     go_wp2_with (first | (go_at_call 95;refine (Pa.next_any hT.1).mono ?_;rintro e W1 ⟨rfl,hW1⟩;rw [HN.out];have hgn:W1.heap.size≠g:=Nat.ne_of_gt (Nat.lt_of_lt_of_le hT.1.lt hW1.size);replace hT:=(hT.to ⟨hT.1.below hW1,Pa.Fr.of_below hW1⟩).to ⟨(hT.1.below hW1).below ((Below.refl _ _).alloc (Nat.le_refl _) (.cells #[.int .i64 1,.string X,.int .i64 Y,.int .i64 Z,.int .i64 Q] 41)),Pa.Fr.of_below ((Below.refl _ _).alloc (Nat.le_refl _) _)⟩;obtain ⟨c0,c1,c2,f1⟩:=hT.1.cells) | (go_at_call 118;refine (Pa.stands_any 5 [40] (hT.1.nx hp)).mono ?_;rintro e W2 ⟨rfl,hW2⟩;rw [hI];replace hT:=(hT.to ⟨hT.1.nx hp,Pa.Fr.set _ _ _⟩).to ⟨(hT.1.nx hp).below hW2,Pa.Fr.of_below hW2⟩;have ct:=hW2.cell (p:=⟨W1.heap.size,1,none⟩) (by simp)))
     go_ret
     rw [← HX.out]
     exact ⟨_,_,rfl,Pa.rb_name _ _ _,hT⟩
    | true =>
     rw [hI,if_pos rfl] at hr
     cases h2:Pa.call ts n (i+1) with
     | none=>rw [h2,Pa.bd_none] at hr;simp at hr
     | some q =>
      rw [h2] at hr
      have HE:Hid (∀ W,Pa.Tb g W→Pa.P ts g a c E (i+1) W→Calls Tryz.prog 138 #[.pointer (some ⟨g,0,none⟩),.string X] W (Pa.AnsC ts g a c E (Pa.tx ts i) q W)):=fun W hb hp=>by rw [← HX.out];exact ihc (Pa.tx ts i) (i+1) W q h2 hb hp
      cases q with
      | error e =>
       rw [Pa.bd_err,Option.some.injEq] at hr
       subst hr
       go_wp2_with (first | (go_at_call 95;refine (Pa.next_any hT.1).mono ?_;rintro e W1 ⟨rfl,hW1⟩;rw [HN.out];have hgn:W1.heap.size≠g:=Nat.ne_of_gt (Nat.lt_of_lt_of_le hT.1.lt hW1.size);replace hT:=(hT.to ⟨hT.1.below hW1,Pa.Fr.of_below hW1⟩).to ⟨(hT.1.below hW1).below ((Below.refl _ _).alloc (Nat.le_refl _) (.cells #[.int .i64 1,.string X,.int .i64 Y,.int .i64 Z,.int .i64 Q] 41)),Pa.Fr.of_below ((Below.refl _ _).alloc (Nat.le_refl _) _)⟩;obtain ⟨c0,c1,c2,f1⟩:=hT.1.cells) | (go_at_call 118;refine (Pa.stands_any 5 [40] (hT.1.nx hp)).mono ?_;rintro e W2 ⟨rfl,hW2⟩;rw [hI];replace hT:=(hT.to ⟨hT.1.nx hp,Pa.Fr.set _ _ _⟩).to ⟨(hT.1.nx hp).below hW2,Pa.Fr.of_below hW2⟩;have ct:=hW2.cell (p:=⟨W1.heap.size,1,none⟩) (by simp)) | (go_at_call 138;refine (HE.out _ (hB.fr hT.2) hT.1).mono ?_;rintro e V ⟨rfl,hF'⟩;have hF:=hT.2.trans hF';unfold Pa.pan))
       exact ⟨rfl,rfl,hF⟩
      | ok x =>
       rw [Pa.bd_ok,Option.some.injEq] at hr
       subst hr
       have hx3:=hT.1.len
       go_wp2_with (first | (go_at_call 95;refine (Pa.next_any hT.1).mono ?_;rintro e W1 ⟨rfl,hW1⟩;rw [HN.out];have hgn:W1.heap.size≠g:=Nat.ne_of_gt (Nat.lt_of_lt_of_le hT.1.lt hW1.size);replace hT:=(hT.to ⟨hT.1.below hW1,Pa.Fr.of_below hW1⟩).to ⟨(hT.1.below hW1).below ((Below.refl _ _).alloc (Nat.le_refl _) (.cells #[.int .i64 1,.string X,.int .i64 Y,.int .i64 Z,.int .i64 Q] 41)),Pa.Fr.of_below ((Below.refl _ _).alloc (Nat.le_refl _) _)⟩;obtain ⟨c0,c1,c2,f1⟩:=hT.1.cells) | (go_at_call 118;refine (Pa.stands_any 5 [40] (hT.1.nx hp)).mono ?_;rintro e W2 ⟨rfl,hW2⟩;rw [hI];replace hT:=(hT.to ⟨hT.1.nx hp,Pa.Fr.set _ _ _⟩).to ⟨(hT.1.nx hp).below hW2,Pa.Fr.of_below hW2⟩;have ct:=hW2.cell (p:=⟨W1.heap.size,1,none⟩) (by simp)) | (go_at_call 138;refine (HE.out _ (hB.fr hT.2) hT.1).mono ?_;rintro e V ⟨va,vc,rfl,hR,hT'⟩;replace hR:=hR.mono hT.2.size;replace hT:=hT.to hT';clear hT'))
       go_ret
       exact ⟨_,_,rfl,Pa.rb_call _ hR (by have h3:=Pa.call_len h2;have h4:=hT.1.le;clear hs1 hs2;omega),hT⟩
   rw [if_neg k1] at hr
   by_cases k2:KK=2
   ·subst k2
    rw [if_pos rfl] at hr
    have HE:Hid (∀ W,Pa.Tb g W→Pa.P ts g a c E i W→Calls Tryz.prog 146 #[.pointer (some ⟨g,0,none⟩)] W (Pa.Ans ts g a c E r W)):=fun W hb hp=>ihw'.out rfl W _ hr hb hp
    clear ihw' hr
    cases r with
    | error e =>
     go_wp2_with (first | (go_at_call 95;refine (Pa.next_any hT.1).mono ?_;rintro e W1 ⟨rfl,hW1⟩;rw [HN.out];have hgn:W1.heap.size≠g:=Nat.ne_of_gt (Nat.lt_of_lt_of_le hT.1.lt hW1.size);replace hT:=(hT.to ⟨hT.1.below hW1,Pa.Fr.of_below hW1⟩).to ⟨(hT.1.below hW1).below ((Below.refl _ _).alloc (Nat.le_refl _) (.cells #[.int .i64 2,.string X,.int .i64 Y,.int .i64 Z,.int .i64 Q] 41)),Pa.Fr.of_below ((Below.refl _ _).alloc (Nat.le_refl _) _)⟩;obtain ⟨c0,c1,c2,f1⟩:=hT.1.cells) | (go_at_call 146;refine (HE.out _ (hB.fr hT.2) hT.1).mono ?_;rintro e V ⟨rfl,hF'⟩;have hF:=hT.2.trans hF';unfold Pa.pan))
     exact ⟨rfl,rfl,hF⟩
    | ok x =>
     go_wp2_with (first | (go_at_call 95;refine (Pa.next_any hT.1).mono ?_;rintro e W1 ⟨rfl,hW1⟩;rw [HN.out];have hgn:W1.heap.size≠g:=Nat.ne_of_gt (Nat.lt_of_lt_of_le hT.1.lt hW1.size);replace hT:=(hT.to ⟨hT.1.below hW1,Pa.Fr.of_below hW1⟩).to ⟨(hT.1.below hW1).below ((Below.refl _ _).alloc (Nat.le_refl _) (.cells #[.int .i64 2,.string X,.int .i64 Y,.int .i64 Z,.int .i64 Q] 41)),Pa.Fr.of_below ((Below.refl _ _).alloc (Nat.le_refl _) _)⟩;obtain ⟨c0,c1,c2,f1⟩:=hT.1.cells) | (go_at_call 146;refine (HE.out _ (hB.fr hT.2) hT.1).mono ?_;rintro e V ⟨ty,y,rfl,hR,hT'⟩;replace hR:=hR.mono hT.2.size;replace hT:=hT.to hT';clear hT'))
     go_ret
     exact ⟨_,_,rfl,hR,hT⟩
   rw [if_neg k2] at hr
   have b3:(KK == 3)=false:=by simpa using k3
   have b4:(KK == 4)=false:=by simpa using k4
   have b1:(KK == 1)=false:=by simpa using k1
   have b2:(KK == 2)=false:=by simpa using k2
   cases r with
   | error e =>
    go_wp2_with (first | (go_at_call 95;refine (Pa.next_any hT.1).mono ?_;rintro e W1 ⟨rfl,hW1⟩;rw [HN.out];have hgn:W1.heap.size≠g:=Nat.ne_of_gt (Nat.lt_of_lt_of_le hT.1.lt hW1.size);replace hT:=(hT.to ⟨hT.1.below hW1,Pa.Fr.of_below hW1⟩).to ⟨(hT.1.below hW1).below ((Below.refl _ _).alloc (Nat.le_refl _) (.cells #[.int .i64 KK,.string X,.int .i64 Y,.int .i64 Z,.int .i64 Q] 41)),Pa.Fr.of_below ((Below.refl _ _).alloc (Nat.le_refl _) _)⟩;obtain ⟨c0,c1,c2,f1⟩:=hT.1.cells) | (go_at_call 147;refine (ihb _ _ _ hr (hB.fr hT.2) hT.1).mono ?_;rintro e V ⟨rfl,hF'⟩;have hF:=hT.2.trans hF';unfold Pa.pan))
    exact ⟨rfl,rfl,hF⟩
   | ok x =>
    go_wp2_with (first | (go_at_call 95;refine (Pa.next_any hT.1).mono ?_;rintro e W1 ⟨rfl,hW1⟩;rw [HN.out];have hgn:W1.heap.size≠g:=Nat.ne_of_gt (Nat.lt_of_lt_of_le hT.1.lt hW1.size);replace hT:=(hT.to ⟨hT.1.below hW1,Pa.Fr.of_below hW1⟩).to ⟨(hT.1.below hW1).below ((Below.refl _ _).alloc (Nat.le_refl _) (.cells #[.int .i64 KK,.string X,.int .i64 Y,.int .i64 Z,.int .i64 Q] 41)),Pa.Fr.of_below ((Below.refl _ _).alloc (Nat.le_refl _) _)⟩;obtain ⟨c0,c1,c2,f1⟩:=hT.1.cells) | (go_at_call 147;refine (ihb _ _ _ hr (hB.fr hT.2) hT.1).mono ?_;rintro e V ⟨ty,y,rfl,hR,hT'⟩;replace hR:=hR.mono hT.2.size;replace hT:=hT.to hT';clear hT'))
    go_ret
    exact ⟨_,_,rfl,hR,hT⟩
end Go.Proofs.YtlcckaffhnjneaaGreatDoor
