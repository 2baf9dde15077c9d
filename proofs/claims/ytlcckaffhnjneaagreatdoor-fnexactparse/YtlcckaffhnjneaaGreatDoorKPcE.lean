import Derived.Test.YtlcckaffhnjneaaGreatDoorKPaL
set_option maxRecDepth 100000
set_option maxHeartbeats 4000000
namespace Go.Proofs.YtlcckaffhnjneaaGreatDoor
open Go.RowKit
variable {ts:List (Mill.Piece × Nat)} {g:Nat} {a:Option Addr} {c E i j:Nat} {w W W2:World}
theorem Pa.wty_lt (h:Pa.wty ts i≠0):i < ts.length:=by
 by_cases hp:i < ts.length
 ·exact hp
 ·simp [Pa.wty,Pa.kd_end hp] at h
theorem Pa.typeWord_ok (h:Pa.wty ts i≠0) (hB:Pa.Tb g w) (hP:Pa.P ts g a c E i w) :
  Calls Tryz.prog 70 #[.pointer (some ⟨g,0,none⟩)] w fun e w'=>e = .returned (.int .i64 (Pa.wty ts i:Int))∧Pa.Pt ts g a c E (i+1) w w':=by
 obtain ⟨hs1,hs2⟩:=hP.sum
 have hp:=Pa.wty_lt h
 obtain ⟨t,ht⟩:∃ t:Int,(Pa.wty ts i:Int)=t:=⟨_,rfl⟩
 have hz:¬ t=0:=by omega
 have hzb:(t == 0)=false:=by simpa using hz
 rw [ht]
 go_enter Tryz.func70,Tryz.ntmps70
 go_wp2_with (go_at_call 97;refine (Pa.wordType_any hB hP).mono ?_;rintro e W1 ⟨rfl,hT⟩;rw [ht];obtain ⟨c0,c1,c2,f1⟩:=hT.1.cells)
 go_ret
 exact ⟨rfl,hT.1.nx hp,hT.2.trans (Pa.Fr.set _ _ _)⟩
theorem Pa.typeWord_no (h:Pa.wty ts i=0) (hB:Pa.Tb g w) (hP:Pa.P ts g a c E i w) :
  Calls Tryz.prog 70 #[.pointer (some ⟨g,0,none⟩)] w fun e w'=>e=Pa.pan ts E i∧Pa.Pt ts g a c E i w w':=by
 have HF:Hid (Pa.fl ts E i = .agg #[.int .i64 6,.int .i64 (Pa.tat ts E i:Int)]):=rfl
 unfold Pa.pan
 rw [HF.out]
 generalize ((Pa.tat ts E i:Nat):Int)=Q at *
 go_enter Tryz.func70,Tryz.ntmps70
 go_wp2_with (first
  | (go_at_call 97;refine (Pa.wordType_any hB hP).mono ?_;rintro e W1 ⟨rfl,hT⟩;rw [h])
  | (go_at_call 94;refine (Pa.fault_any hT.1).mono ?_;rintro e W2 ⟨rfl,hW2⟩;rw [HF.out];have hT2:=hT.to ⟨hT.1.below hW2,Pa.Fr.of_below hW2⟩))
 exact ⟨rfl,rfl,hT2⟩
theorem Pa.binOp_any (hB:Pa.Tb g w) (hP:Pa.P ts g a c E i w) :
  Calls Tryz.prog 144 #[.pointer (some ⟨g,0,none⟩)] w fun e w'=>e = .returned (.int .i64 (Pa.mop ts i:Int))∧Pa.Pt ts g a c E i w w':=by
 obtain ⟨R,HR⟩:∃ R,Hid (Pa.mop ts i=R):=⟨_,rfl⟩
 rw [HR.out]
 go_enter Tryz.func144,Tryz.ntmps144
 go_wp2_with (refine wpList_load_mid rfl 212 _ rfl 6 0 rfl Pa.bC (.array 19 211) hB.b Tryz.underlying212 rfl (by kernel_rfl) ?_)
 go_loopw [6,3,4] (fun v _ _ wr => ∃ k:Nat,k≤19∧v = .int .i64 (k:Int)∧Pa.P ts g a c E i wr∧Pa.Fr g w wr∧∀ m,m < k→Pa.st ts 5 (([]::Pa.marks2).getD m []) i=false) (fun v _ _ _=>30 - (intOf v).toNat)
 case atStart=>exact ⟨0,by omega,rfl,hP,Pa.Fr.refl _ _,fun m hm=>by omega⟩
 case round =>
  obtain ⟨k,hk,rfl,hPr,hFr,hno⟩:=hrel
  have HNO:Hid (∀ m,m < k→Pa.st ts 5 (([]::Pa.marks2).getD m []) i=false):=hno
  clear hno
  have hk2:k=0∨k=1∨k=2∨k=3∨k=4∨k=5∨k=6∨k=7∨k=8∨k=9∨k=10∨k=11∨k=12∨k=13∨k=14∨k=15∨k=16∨k=17∨k=18∨k=19:=by omega
  rcases hk2 with rfl | rfl | rfl | rfl | rfl | rfl | rfl | rfl | rfl | rfl | rfl | rfl | rfl | rfl | rfl | rfl | rfl | rfl | rfl | rfl
  ·have hix:∀ W,Sem.run Tryz.prog (Instr.index 212 (.agg Pa.bC.toArray) (.int .i64 0)) W = .ok (.agg #[.string ⟨#[]⟩,.int .i64 0]) W:=fun _=>by kernel_rfl
   cases hI:Pa.st ts 5 [] i with
   | true =>
    have e:R=0:=by rw [← HR.out];exact Pa.tab_yes 5 Pa.marks2 (by decide) (by decide) 0 (by decide) hI
    subst e
    go_wp2_with (go_at_call 118;refine (Pa.stands_any 5 [] (hPr.below ((Below.refl _ _).alloc (Nat.le_refl _) _))).mono ?_;rintro e W1 ⟨rfl,hW1⟩;rw [hI])
    go_ret
    exact ⟨rfl,(hPr.below ((Below.refl _ _).alloc (Nat.le_refl _) _)).below hW1,((hFr.trans (Pa.Fr.of_below ((Below.refl _ _).alloc (Nat.le_refl _) _))).trans (Pa.Fr.of_below hW1))⟩
   | false =>
    go_wp2_with (go_at_call 118;refine (Pa.stands_any 5 [] (hPr.below ((Below.refl _ _).alloc (Nat.le_refl _) _))).mono ?_;rintro e W1 ⟨rfl,hW1⟩;rw [hI])
    go_roundw
    case rel=>exact ⟨1,by omega,by simp,(hPr.below ((Below.refl _ _).alloc (Nat.le_refl _) _)).below hW1,((hFr.trans (Pa.Fr.of_below ((Below.refl _ _).alloc (Nat.le_refl _) _))).trans (Pa.Fr.of_below hW1)),fun m hm=>Pa.no_step HNO.out hI m hm⟩
    case measure=>simp [intOf]
  ·have hix:∀ W,Sem.run Tryz.prog (Instr.index 212 (.agg Pa.bC.toArray) (.int .i64 1)) W = .ok (.agg #[.string ⟨#[124,124]⟩,.int .i64 1]) W:=fun _=>by kernel_rfl
   cases hI:Pa.st ts 5 [124,124] i with
   | true =>
    have e:R=1:=by rw [← HR.out];exact Pa.tab_yes 5 Pa.marks2 (by decide) (by decide) 1 (by decide) hI
    subst e
    go_wp2_with (go_at_call 118;refine (Pa.stands_any 5 [124,124] (hPr.below ((Below.refl _ _).alloc (Nat.le_refl _) _))).mono ?_;rintro e W1 ⟨rfl,hW1⟩;rw [hI])
    go_ret
    exact ⟨rfl,(hPr.below ((Below.refl _ _).alloc (Nat.le_refl _) _)).below hW1,((hFr.trans (Pa.Fr.of_below ((Below.refl _ _).alloc (Nat.le_refl _) _))).trans (Pa.Fr.of_below hW1))⟩
   | false =>
    go_wp2_with (go_at_call 118;refine (Pa.stands_any 5 [124,124] (hPr.below ((Below.refl _ _).alloc (Nat.le_refl _) _))).mono ?_;rintro e W1 ⟨rfl,hW1⟩;rw [hI])
    go_roundw
    case rel=>exact ⟨2,by omega,by simp,(hPr.below ((Below.refl _ _).alloc (Nat.le_refl _) _)).below hW1,((hFr.trans (Pa.Fr.of_below ((Below.refl _ _).alloc (Nat.le_refl _) _))).trans (Pa.Fr.of_below hW1)),fun m hm=>Pa.no_step HNO.out hI m hm⟩
    case measure=>simp [intOf]
  ·have hix:∀ W,Sem.run Tryz.prog (Instr.index 212 (.agg Pa.bC.toArray) (.int .i64 2)) W = .ok (.agg #[.string ⟨#[38,38]⟩,.int .i64 2]) W:=fun _=>by kernel_rfl
   cases hI:Pa.st ts 5 [38,38] i with
   | true =>
    have e:R=2:=by rw [← HR.out];exact Pa.tab_yes 5 Pa.marks2 (by decide) (by decide) 2 (by decide) hI
    subst e
    go_wp2_with (go_at_call 118;refine (Pa.stands_any 5 [38,38] (hPr.below ((Below.refl _ _).alloc (Nat.le_refl _) _))).mono ?_;rintro e W1 ⟨rfl,hW1⟩;rw [hI])
    go_ret
    exact ⟨rfl,(hPr.below ((Below.refl _ _).alloc (Nat.le_refl _) _)).below hW1,((hFr.trans (Pa.Fr.of_below ((Below.refl _ _).alloc (Nat.le_refl _) _))).trans (Pa.Fr.of_below hW1))⟩
   | false =>
    go_wp2_with (go_at_call 118;refine (Pa.stands_any 5 [38,38] (hPr.below ((Below.refl _ _).alloc (Nat.le_refl _) _))).mono ?_;rintro e W1 ⟨rfl,hW1⟩;rw [hI])
    go_roundw
    case rel=>exact ⟨3,by omega,by simp,(hPr.below ((Below.refl _ _).alloc (Nat.le_refl _) _)).below hW1,((hFr.trans (Pa.Fr.of_below ((Below.refl _ _).alloc (Nat.le_refl _) _))).trans (Pa.Fr.of_below hW1)),fun m hm=>Pa.no_step HNO.out hI m hm⟩
    case measure=>simp [intOf]
  ·have hix:∀ W,Sem.run Tryz.prog (Instr.index 212 (.agg Pa.bC.toArray) (.int .i64 3)) W = .ok (.agg #[.string ⟨#[61,61]⟩,.int .i64 3]) W:=fun _=>by kernel_rfl
   cases hI:Pa.st ts 5 [61,61] i with
   | true =>
    have e:R=3:=by rw [← HR.out];exact Pa.tab_yes 5 Pa.marks2 (by decide) (by decide) 3 (by decide) hI
    subst e
    go_wp2_with (go_at_call 118;refine (Pa.stands_any 5 [61,61] (hPr.below ((Below.refl _ _).alloc (Nat.le_refl _) _))).mono ?_;rintro e W1 ⟨rfl,hW1⟩;rw [hI])
    go_ret
    exact ⟨rfl,(hPr.below ((Below.refl _ _).alloc (Nat.le_refl _) _)).below hW1,((hFr.trans (Pa.Fr.of_below ((Below.refl _ _).alloc (Nat.le_refl _) _))).trans (Pa.Fr.of_below hW1))⟩
   | false =>
    go_wp2_with (go_at_call 118;refine (Pa.stands_any 5 [61,61] (hPr.below ((Below.refl _ _).alloc (Nat.le_refl _) _))).mono ?_;rintro e W1 ⟨rfl,hW1⟩;rw [hI])
    go_roundw
    case rel=>exact ⟨4,by omega,by simp,(hPr.below ((Below.refl _ _).alloc (Nat.le_refl _) _)).below hW1,((hFr.trans (Pa.Fr.of_below ((Below.refl _ _).alloc (Nat.le_refl _) _))).trans (Pa.Fr.of_below hW1)),fun m hm=>Pa.no_step HNO.out hI m hm⟩
    case measure=>simp [intOf]
  ·have hix:∀ W,Sem.run Tryz.prog (Instr.index 212 (.agg Pa.bC.toArray) (.int .i64 4)) W = .ok (.agg #[.string ⟨#[33,61]⟩,.int .i64 3]) W:=fun _=>by kernel_rfl
   cases hI:Pa.st ts 5 [33,61] i with
   | true =>
    have e:R=4:=by rw [← HR.out];exact Pa.tab_yes 5 Pa.marks2 (by decide) (by decide) 4 (by decide) hI
    subst e
    go_wp2_with (go_at_call 118;refine (Pa.stands_any 5 [33,61] (hPr.below ((Below.refl _ _).alloc (Nat.le_refl _) _))).mono ?_;rintro e W1 ⟨rfl,hW1⟩;rw [hI])
    go_ret
    exact ⟨rfl,(hPr.below ((Below.refl _ _).alloc (Nat.le_refl _) _)).below hW1,((hFr.trans (Pa.Fr.of_below ((Below.refl _ _).alloc (Nat.le_refl _) _))).trans (Pa.Fr.of_below hW1))⟩
   | false =>
    go_wp2_with (go_at_call 118;refine (Pa.stands_any 5 [33,61] (hPr.below ((Below.refl _ _).alloc (Nat.le_refl _) _))).mono ?_;rintro e W1 ⟨rfl,hW1⟩;rw [hI])
    go_roundw
    case rel=>exact ⟨5,by omega,by simp,(hPr.below ((Below.refl _ _).alloc (Nat.le_refl _) _)).below hW1,((hFr.trans (Pa.Fr.of_below ((Below.refl _ _).alloc (Nat.le_refl _) _))).trans (Pa.Fr.of_below hW1)),fun m hm=>Pa.no_step HNO.out hI m hm⟩
    case measure=>simp [intOf]
  ·have hix:∀ W,Sem.run Tryz.prog (Instr.index 212 (.agg Pa.bC.toArray) (.int .i64 5)) W = .ok (.agg #[.string ⟨#[60]⟩,.int .i64 3]) W:=fun _=>by kernel_rfl
   cases hI:Pa.st ts 5 [60] i with
   | true =>
    have e:R=5:=by rw [← HR.out];exact Pa.tab_yes 5 Pa.marks2 (by decide) (by decide) 5 (by decide) hI
    subst e
    go_wp2_with (go_at_call 118;refine (Pa.stands_any 5 [60] (hPr.below ((Below.refl _ _).alloc (Nat.le_refl _) _))).mono ?_;rintro e W1 ⟨rfl,hW1⟩;rw [hI])
    go_ret
    exact ⟨rfl,(hPr.below ((Below.refl _ _).alloc (Nat.le_refl _) _)).below hW1,((hFr.trans (Pa.Fr.of_below ((Below.refl _ _).alloc (Nat.le_refl _) _))).trans (Pa.Fr.of_below hW1))⟩
   | false =>
    go_wp2_with (go_at_call 118;refine (Pa.stands_any 5 [60] (hPr.below ((Below.refl _ _).alloc (Nat.le_refl _) _))).mono ?_;rintro e W1 ⟨rfl,hW1⟩;rw [hI])
    go_roundw
    case rel=>exact ⟨6,by omega,by simp,(hPr.below ((Below.refl _ _).alloc (Nat.le_refl _) _)).below hW1,((hFr.trans (Pa.Fr.of_below ((Below.refl _ _).alloc (Nat.le_refl _) _))).trans (Pa.Fr.of_below hW1)),fun m hm=>Pa.no_step HNO.out hI m hm⟩
    case measure=>simp [intOf]
  ·have hix:∀ W,Sem.run Tryz.prog (Instr.index 212 (.agg Pa.bC.toArray) (.int .i64 6)) W = .ok (.agg #[.string ⟨#[60,61]⟩,.int .i64 3]) W:=fun _=>by kernel_rfl
   cases hI:Pa.st ts 5 [60,61] i with
   | true =>
    have e:R=6:=by rw [← HR.out];exact Pa.tab_yes 5 Pa.marks2 (by decide) (by decide) 6 (by decide) hI
    subst e
    go_wp2_with (go_at_call 118;refine (Pa.stands_any 5 [60,61] (hPr.below ((Below.refl _ _).alloc (Nat.le_refl _) _))).mono ?_;rintro e W1 ⟨rfl,hW1⟩;rw [hI])
    go_ret
    exact ⟨rfl,(hPr.below ((Below.refl _ _).alloc (Nat.le_refl _) _)).below hW1,((hFr.trans (Pa.Fr.of_below ((Below.refl _ _).alloc (Nat.le_refl _) _))).trans (Pa.Fr.of_below hW1))⟩
   | false =>
    go_wp2_with (go_at_call 118;refine (Pa.stands_any 5 [60,61] (hPr.below ((Below.refl _ _).alloc (Nat.le_refl _) _))).mono ?_;rintro e W1 ⟨rfl,hW1⟩;rw [hI])
    go_roundw
    case rel=>exact ⟨7,by omega,by simp,(hPr.below ((Below.refl _ _).alloc (Nat.le_refl _) _)).below hW1,((hFr.trans (Pa.Fr.of_below ((Below.refl _ _).alloc (Nat.le_refl _) _))).trans (Pa.Fr.of_below hW1)),fun m hm=>Pa.no_step HNO.out hI m hm⟩
    case measure=>simp [intOf]
  ·have hix:∀ W,Sem.run Tryz.prog (Instr.index 212 (.agg Pa.bC.toArray) (.int .i64 7)) W = .ok (.agg #[.string ⟨#[62]⟩,.int .i64 3]) W:=fun _=>by kernel_rfl
   cases hI:Pa.st ts 5 [62] i with
   | true =>
    have e:R=7:=by rw [← HR.out];exact Pa.tab_yes 5 Pa.marks2 (by decide) (by decide) 7 (by decide) hI
    subst e
    go_wp2_with (go_at_call 118;refine (Pa.stands_any 5 [62] (hPr.below ((Below.refl _ _).alloc (Nat.le_refl _) _))).mono ?_;rintro e W1 ⟨rfl,hW1⟩;rw [hI])
    go_ret
    exact ⟨rfl,(hPr.below ((Below.refl _ _).alloc (Nat.le_refl _) _)).below hW1,((hFr.trans (Pa.Fr.of_below ((Below.refl _ _).alloc (Nat.le_refl _) _))).trans (Pa.Fr.of_below hW1))⟩
   | false =>
    go_wp2_with (go_at_call 118;refine (Pa.stands_any 5 [62] (hPr.below ((Below.refl _ _).alloc (Nat.le_refl _) _))).mono ?_;rintro e W1 ⟨rfl,hW1⟩;rw [hI])
    go_roundw
    case rel=>exact ⟨8,by omega,by simp,(hPr.below ((Below.refl _ _).alloc (Nat.le_refl _) _)).below hW1,((hFr.trans (Pa.Fr.of_below ((Below.refl _ _).alloc (Nat.le_refl _) _))).trans (Pa.Fr.of_below hW1)),fun m hm=>Pa.no_step HNO.out hI m hm⟩
    case measure=>simp [intOf]
  ·have hix:∀ W,Sem.run Tryz.prog (Instr.index 212 (.agg Pa.bC.toArray) (.int .i64 8)) W = .ok (.agg #[.string ⟨#[62,61]⟩,.int .i64 3]) W:=fun _=>by kernel_rfl
   cases hI:Pa.st ts 5 [62,61] i with
   | true =>
    have e:R=8:=by rw [← HR.out];exact Pa.tab_yes 5 Pa.marks2 (by decide) (by decide) 8 (by decide) hI
    subst e
    go_wp2_with (go_at_call 118;refine (Pa.stands_any 5 [62,61] (hPr.below ((Below.refl _ _).alloc (Nat.le_refl _) _))).mono ?_;rintro e W1 ⟨rfl,hW1⟩;rw [hI])
    go_ret
    exact ⟨rfl,(hPr.below ((Below.refl _ _).alloc (Nat.le_refl _) _)).below hW1,((hFr.trans (Pa.Fr.of_below ((Below.refl _ _).alloc (Nat.le_refl _) _))).trans (Pa.Fr.of_below hW1))⟩
   | false =>
    go_wp2_with (go_at_call 118;refine (Pa.stands_any 5 [62,61] (hPr.below ((Below.refl _ _).alloc (Nat.le_refl _) _))).mono ?_;rintro e W1 ⟨rfl,hW1⟩;rw [hI])
    go_roundw
    case rel=>exact ⟨9,by omega,by simp,(hPr.below ((Below.refl _ _).alloc (Nat.le_refl _) _)).below hW1,((hFr.trans (Pa.Fr.of_below ((Below.refl _ _).alloc (Nat.le_refl _) _))).trans (Pa.Fr.of_below hW1)),fun m hm=>Pa.no_step HNO.out hI m hm⟩
    case measure=>simp [intOf]
  ·have hix:∀ W,Sem.run Tryz.prog (Instr.index 212 (.agg Pa.bC.toArray) (.int .i64 9)) W = .ok (.agg #[.string ⟨#[43]⟩,.int .i64 4]) W:=fun _=>by kernel_rfl
   cases hI:Pa.st ts 5 [43] i with
   | true =>
    have e:R=9:=by rw [← HR.out];exact Pa.tab_yes 5 Pa.marks2 (by decide) (by decide) 9 (by decide) hI
    subst e
    go_wp2_with (go_at_call 118;refine (Pa.stands_any 5 [43] (hPr.below ((Below.refl _ _).alloc (Nat.le_refl _) _))).mono ?_;rintro e W1 ⟨rfl,hW1⟩;rw [hI])
    go_ret
    exact ⟨rfl,(hPr.below ((Below.refl _ _).alloc (Nat.le_refl _) _)).below hW1,((hFr.trans (Pa.Fr.of_below ((Below.refl _ _).alloc (Nat.le_refl _) _))).trans (Pa.Fr.of_below hW1))⟩
   | false =>
    go_wp2_with (go_at_call 118;refine (Pa.stands_any 5 [43] (hPr.below ((Below.refl _ _).alloc (Nat.le_refl _) _))).mono ?_;rintro e W1 ⟨rfl,hW1⟩;rw [hI])
    go_roundw
    case rel=>exact ⟨10,by omega,by simp,(hPr.below ((Below.refl _ _).alloc (Nat.le_refl _) _)).below hW1,((hFr.trans (Pa.Fr.of_below ((Below.refl _ _).alloc (Nat.le_refl _) _))).trans (Pa.Fr.of_below hW1)),fun m hm=>Pa.no_step HNO.out hI m hm⟩
    case measure=>simp [intOf]
  ·have hix:∀ W,Sem.run Tryz.prog (Instr.index 212 (.agg Pa.bC.toArray) (.int .i64 10)) W = .ok (.agg #[.string ⟨#[45]⟩,.int .i64 4]) W:=fun _=>by kernel_rfl
   cases hI:Pa.st ts 5 [45] i with
   | true =>
    have e:R=10:=by rw [← HR.out];exact Pa.tab_yes 5 Pa.marks2 (by decide) (by decide) 10 (by decide) hI
    subst e
    go_wp2_with (go_at_call 118;refine (Pa.stands_any 5 [45] (hPr.below ((Below.refl _ _).alloc (Nat.le_refl _) _))).mono ?_;rintro e W1 ⟨rfl,hW1⟩;rw [hI])
    go_ret
    exact ⟨rfl,(hPr.below ((Below.refl _ _).alloc (Nat.le_refl _) _)).below hW1,((hFr.trans (Pa.Fr.of_below ((Below.refl _ _).alloc (Nat.le_refl _) _))).trans (Pa.Fr.of_below hW1))⟩
   | false =>
    go_wp2_with (go_at_call 118;refine (Pa.stands_any 5 [45] (hPr.below ((Below.refl _ _).alloc (Nat.le_refl _) _))).mono ?_;rintro e W1 ⟨rfl,hW1⟩;rw [hI])
    go_roundw
    case rel=>exact ⟨11,by omega,by simp,(hPr.below ((Below.refl _ _).alloc (Nat.le_refl _) _)).below hW1,((hFr.trans (Pa.Fr.of_below ((Below.refl _ _).alloc (Nat.le_refl _) _))).trans (Pa.Fr.of_below hW1)),fun m hm=>Pa.no_step HNO.out hI m hm⟩
    case measure=>simp [intOf]
  ·have hix:∀ W,Sem.run Tryz.prog (Instr.index 212 (.agg Pa.bC.toArray) (.int .i64 11)) W = .ok (.agg #[.string ⟨#[124]⟩,.int .i64 4]) W:=fun _=>by kernel_rfl
   cases hI:Pa.st ts 5 [124] i with
   | true =>
    have e:R=11:=by rw [← HR.out];exact Pa.tab_yes 5 Pa.marks2 (by decide) (by decide) 11 (by decide) hI
    subst e
    go_wp2_with (go_at_call 118;refine (Pa.stands_any 5 [124] (hPr.below ((Below.refl _ _).alloc (Nat.le_refl _) _))).mono ?_;rintro e W1 ⟨rfl,hW1⟩;rw [hI])
    go_ret
    exact ⟨rfl,(hPr.below ((Below.refl _ _).alloc (Nat.le_refl _) _)).below hW1,((hFr.trans (Pa.Fr.of_below ((Below.refl _ _).alloc (Nat.le_refl _) _))).trans (Pa.Fr.of_below hW1))⟩
   | false =>
    go_wp2_with (go_at_call 118;refine (Pa.stands_any 5 [124] (hPr.below ((Below.refl _ _).alloc (Nat.le_refl _) _))).mono ?_;rintro e W1 ⟨rfl,hW1⟩;rw [hI])
    go_roundw
    case rel=>exact ⟨12,by omega,by simp,(hPr.below ((Below.refl _ _).alloc (Nat.le_refl _) _)).below hW1,((hFr.trans (Pa.Fr.of_below ((Below.refl _ _).alloc (Nat.le_refl _) _))).trans (Pa.Fr.of_below hW1)),fun m hm=>Pa.no_step HNO.out hI m hm⟩
    case measure=>simp [intOf]
  ·have hix:∀ W,Sem.run Tryz.prog (Instr.index 212 (.agg Pa.bC.toArray) (.int .i64 12)) W = .ok (.agg #[.string ⟨#[94]⟩,.int .i64 4]) W:=fun _=>by kernel_rfl
   cases hI:Pa.st ts 5 [94] i with
   | true =>
    have e:R=12:=by rw [← HR.out];exact Pa.tab_yes 5 Pa.marks2 (by decide) (by decide) 12 (by decide) hI
    subst e
    go_wp2_with (go_at_call 118;refine (Pa.stands_any 5 [94] (hPr.below ((Below.refl _ _).alloc (Nat.le_refl _) _))).mono ?_;rintro e W1 ⟨rfl,hW1⟩;rw [hI])
    go_ret
    exact ⟨rfl,(hPr.below ((Below.refl _ _).alloc (Nat.le_refl _) _)).below hW1,((hFr.trans (Pa.Fr.of_below ((Below.refl _ _).alloc (Nat.le_refl _) _))).trans (Pa.Fr.of_below hW1))⟩
   | false =>
    go_wp2_with (go_at_call 118;refine (Pa.stands_any 5 [94] (hPr.below ((Below.refl _ _).alloc (Nat.le_refl _) _))).mono ?_;rintro e W1 ⟨rfl,hW1⟩;rw [hI])
    go_roundw
    case rel=>exact ⟨13,by omega,by simp,(hPr.below ((Below.refl _ _).alloc (Nat.le_refl _) _)).below hW1,((hFr.trans (Pa.Fr.of_below ((Below.refl _ _).alloc (Nat.le_refl _) _))).trans (Pa.Fr.of_below hW1)),fun m hm=>Pa.no_step HNO.out hI m hm⟩
    case measure=>simp [intOf]
  ·have hix:∀ W,Sem.run Tryz.prog (Instr.index 212 (.agg Pa.bC.toArray) (.int .i64 13)) W = .ok (.agg #[.string ⟨#[42]⟩,.int .i64 5]) W:=fun _=>by kernel_rfl
   cases hI:Pa.st ts 5 [42] i with
   | true =>
    have e:R=13:=by rw [← HR.out];exact Pa.tab_yes 5 Pa.marks2 (by decide) (by decide) 13 (by decide) hI
    subst e
    go_wp2_with (go_at_call 118;refine (Pa.stands_any 5 [42] (hPr.below ((Below.refl _ _).alloc (Nat.le_refl _) _))).mono ?_;rintro e W1 ⟨rfl,hW1⟩;rw [hI])
    go_ret
    exact ⟨rfl,(hPr.below ((Below.refl _ _).alloc (Nat.le_refl _) _)).below hW1,((hFr.trans (Pa.Fr.of_below ((Below.refl _ _).alloc (Nat.le_refl _) _))).trans (Pa.Fr.of_below hW1))⟩
   | false =>
    go_wp2_with (go_at_call 118;refine (Pa.stands_any 5 [42] (hPr.below ((Below.refl _ _).alloc (Nat.le_refl _) _))).mono ?_;rintro e W1 ⟨rfl,hW1⟩;rw [hI])
    go_roundw
    case rel=>exact ⟨14,by omega,by simp,(hPr.below ((Below.refl _ _).alloc (Nat.le_refl _) _)).below hW1,((hFr.trans (Pa.Fr.of_below ((Below.refl _ _).alloc (Nat.le_refl _) _))).trans (Pa.Fr.of_below hW1)),fun m hm=>Pa.no_step HNO.out hI m hm⟩
    case measure=>simp [intOf]
  ·have hix:∀ W,Sem.run Tryz.prog (Instr.index 212 (.agg Pa.bC.toArray) (.int .i64 14)) W = .ok (.agg #[.string ⟨#[47]⟩,.int .i64 5]) W:=fun _=>by kernel_rfl
   cases hI:Pa.st ts 5 [47] i with
   | true =>
    have e:R=14:=by rw [← HR.out];exact Pa.tab_yes 5 Pa.marks2 (by decide) (by decide) 14 (by decide) hI
    subst e
    go_wp2_with (go_at_call 118;refine (Pa.stands_any 5 [47] (hPr.below ((Below.refl _ _).alloc (Nat.le_refl _) _))).mono ?_;rintro e W1 ⟨rfl,hW1⟩;rw [hI])
    go_ret
    exact ⟨rfl,(hPr.below ((Below.refl _ _).alloc (Nat.le_refl _) _)).below hW1,((hFr.trans (Pa.Fr.of_below ((Below.refl _ _).alloc (Nat.le_refl _) _))).trans (Pa.Fr.of_below hW1))⟩
   | false =>
    go_wp2_with (go_at_call 118;refine (Pa.stands_any 5 [47] (hPr.below ((Below.refl _ _).alloc (Nat.le_refl _) _))).mono ?_;rintro e W1 ⟨rfl,hW1⟩;rw [hI])
    go_roundw
    case rel=>exact ⟨15,by omega,by simp,(hPr.below ((Below.refl _ _).alloc (Nat.le_refl _) _)).below hW1,((hFr.trans (Pa.Fr.of_below ((Below.refl _ _).alloc (Nat.le_refl _) _))).trans (Pa.Fr.of_below hW1)),fun m hm=>Pa.no_step HNO.out hI m hm⟩
    case measure=>simp [intOf]
  ·have hix:∀ W,Sem.run Tryz.prog (Instr.index 212 (.agg Pa.bC.toArray) (.int .i64 15)) W = .ok (.agg #[.string ⟨#[37]⟩,.int .i64 5]) W:=fun _=>by kernel_rfl
   cases hI:Pa.st ts 5 [37] i with
   | true =>
    have e:R=15:=by rw [← HR.out];exact Pa.tab_yes 5 Pa.marks2 (by decide) (by decide) 15 (by decide) hI
    subst e
    go_wp2_with (go_at_call 118;refine (Pa.stands_any 5 [37] (hPr.below ((Below.refl _ _).alloc (Nat.le_refl _) _))).mono ?_;rintro e W1 ⟨rfl,hW1⟩;rw [hI])
    go_ret
    exact ⟨rfl,(hPr.below ((Below.refl _ _).alloc (Nat.le_refl _) _)).below hW1,((hFr.trans (Pa.Fr.of_below ((Below.refl _ _).alloc (Nat.le_refl _) _))).trans (Pa.Fr.of_below hW1))⟩
   | false =>
    go_wp2_with (go_at_call 118;refine (Pa.stands_any 5 [37] (hPr.below ((Below.refl _ _).alloc (Nat.le_refl _) _))).mono ?_;rintro e W1 ⟨rfl,hW1⟩;rw [hI])
    go_roundw
    case rel=>exact ⟨16,by omega,by simp,(hPr.below ((Below.refl _ _).alloc (Nat.le_refl _) _)).below hW1,((hFr.trans (Pa.Fr.of_below ((Below.refl _ _).alloc (Nat.le_refl _) _))).trans (Pa.Fr.of_below hW1)),fun m hm=>Pa.no_step HNO.out hI m hm⟩
    case measure=>simp [intOf]
  ·have hix:∀ W,Sem.run Tryz.prog (Instr.index 212 (.agg Pa.bC.toArray) (.int .i64 16)) W = .ok (.agg #[.string ⟨#[38]⟩,.int .i64 5]) W:=fun _=>by kernel_rfl
   cases hI:Pa.st ts 5 [38] i with
   | true =>
    have e:R=16:=by rw [← HR.out];exact Pa.tab_yes 5 Pa.marks2 (by decide) (by decide) 16 (by decide) hI
    subst e
    go_wp2_with (go_at_call 118;refine (Pa.stands_any 5 [38] (hPr.below ((Below.refl _ _).alloc (Nat.le_refl _) _))).mono ?_;rintro e W1 ⟨rfl,hW1⟩;rw [hI])
    go_ret
    exact ⟨rfl,(hPr.below ((Below.refl _ _).alloc (Nat.le_refl _) _)).below hW1,((hFr.trans (Pa.Fr.of_below ((Below.refl _ _).alloc (Nat.le_refl _) _))).trans (Pa.Fr.of_below hW1))⟩
   | false =>
    go_wp2_with (go_at_call 118;refine (Pa.stands_any 5 [38] (hPr.below ((Below.refl _ _).alloc (Nat.le_refl _) _))).mono ?_;rintro e W1 ⟨rfl,hW1⟩;rw [hI])
    go_roundw
    case rel=>exact ⟨17,by omega,by simp,(hPr.below ((Below.refl _ _).alloc (Nat.le_refl _) _)).below hW1,((hFr.trans (Pa.Fr.of_below ((Below.refl _ _).alloc (Nat.le_refl _) _))).trans (Pa.Fr.of_below hW1)),fun m hm=>Pa.no_step HNO.out hI m hm⟩
    case measure=>simp [intOf]
  ·have hix:∀ W,Sem.run Tryz.prog (Instr.index 212 (.agg Pa.bC.toArray) (.int .i64 17)) W = .ok (.agg #[.string ⟨#[60,60]⟩,.int .i64 5]) W:=fun _=>by kernel_rfl
   cases hI:Pa.st ts 5 [60,60] i with
   | true =>
    have e:R=17:=by rw [← HR.out];exact Pa.tab_yes 5 Pa.marks2 (by decide) (by decide) 17 (by decide) hI
    subst e
    go_wp2_with (go_at_call 118;refine (Pa.stands_any 5 [60,60] (hPr.below ((Below.refl _ _).alloc (Nat.le_refl _) _))).mono ?_;rintro e W1 ⟨rfl,hW1⟩;rw [hI])
    go_ret
    exact ⟨rfl,(hPr.below ((Below.refl _ _).alloc (Nat.le_refl _) _)).below hW1,((hFr.trans (Pa.Fr.of_below ((Below.refl _ _).alloc (Nat.le_refl _) _))).trans (Pa.Fr.of_below hW1))⟩
   | false =>
    go_wp2_with (go_at_call 118;refine (Pa.stands_any 5 [60,60] (hPr.below ((Below.refl _ _).alloc (Nat.le_refl _) _))).mono ?_;rintro e W1 ⟨rfl,hW1⟩;rw [hI])
    go_roundw
    case rel=>exact ⟨18,by omega,by simp,(hPr.below ((Below.refl _ _).alloc (Nat.le_refl _) _)).below hW1,((hFr.trans (Pa.Fr.of_below ((Below.refl _ _).alloc (Nat.le_refl _) _))).trans (Pa.Fr.of_below hW1)),fun m hm=>Pa.no_step HNO.out hI m hm⟩
    case measure=>simp [intOf]
  ·have hix:∀ W,Sem.run Tryz.prog (Instr.index 212 (.agg Pa.bC.toArray) (.int .i64 18)) W = .ok (.agg #[.string ⟨#[62,62]⟩,.int .i64 5]) W:=fun _=>by kernel_rfl
   cases hI:Pa.st ts 5 [62,62] i with
   | true =>
    have e:R=18:=by rw [← HR.out];exact Pa.tab_yes 5 Pa.marks2 (by decide) (by decide) 18 (by decide) hI
    subst e
    go_wp2_with (go_at_call 118;refine (Pa.stands_any 5 [62,62] (hPr.below ((Below.refl _ _).alloc (Nat.le_refl _) _))).mono ?_;rintro e W1 ⟨rfl,hW1⟩;rw [hI])
    go_ret
    exact ⟨rfl,(hPr.below ((Below.refl _ _).alloc (Nat.le_refl _) _)).below hW1,((hFr.trans (Pa.Fr.of_below ((Below.refl _ _).alloc (Nat.le_refl _) _))).trans (Pa.Fr.of_below hW1))⟩
   | false =>
    go_wp2_with (go_at_call 118;refine (Pa.stands_any 5 [62,62] (hPr.below ((Below.refl _ _).alloc (Nat.le_refl _) _))).mono ?_;rintro e W1 ⟨rfl,hW1⟩;rw [hI])
    go_roundw
    case rel=>exact ⟨19,by omega,by simp,(hPr.below ((Below.refl _ _).alloc (Nat.le_refl _) _)).below hW1,((hFr.trans (Pa.Fr.of_below ((Below.refl _ _).alloc (Nat.le_refl _) _))).trans (Pa.Fr.of_below hW1)),fun m hm=>Pa.no_step HNO.out hI m hm⟩
    case measure=>simp [intOf]
  ·have e:R=0:=by rw [← HR.out];exact Pa.tab_no 5 Pa.marks2 (by decide) HNO.out
   subst e
   go_wp2_with fail
   go_ret
   exact ⟨rfl,hPr,hFr⟩
end Go.Proofs.YtlcckaffhnjneaaGreatDoor
