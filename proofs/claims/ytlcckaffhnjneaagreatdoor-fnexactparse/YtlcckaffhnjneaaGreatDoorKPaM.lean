import Derived.Test.YtlcckaffhnjneaaGreatDoorKPaL
set_option maxRecDepth 100000
set_option maxHeartbeats 2000000
namespace Go.Proofs.YtlcckaffhnjneaaGreatDoor
open Go.RowKit
variable {ts:List (Mill.Piece × Nat)} {g:Nat} {a:Option Addr} {c:Nat} {s:Pa.S} {w:World}
theorem Pa.single_name (n:Nat) (ih:∀ m,m≤n→Pa.ExprIs ts g a c m) (hk:Pa.kind ts s=1) (hI:Pa.is ts [40] (Pa.nx s)=true) (R:Pa.Nds × Nat × Pa.S) (hR:Pa.exprs ts (n+1) (Pa.nx (Pa.nx s))=some R) (hl:R.1.length+1≤1000000) (hk2:R.2.1≤1000000) (hD:Pa.D ts g a c s w) :
  Calls Tryz.prog 109 #[.pointer (some ⟨g,0,none⟩)] w (Pa.Out ts g a c (R.1++[⟨7,0,0,0,Mill.ba (Pa.tx ts s.p),(R.2.1:Int)⟩],R.2.2) w):=by
 have hgw:=hD.lt
 have HN:Hid (Pa.name ts s=Pa.nx s):=by simp [Hid,Pa.name,hk]
 have HT:Hid (Pa.nameT ts s=Pa.tx ts s.p):=by simp [Hid,Pa.nameT,hk]
 have HO:=Pa.is_opt hI
 obtain ⟨X,HX⟩:∃ X,Hid (Mill.ba (Pa.tx ts s.p)=X):=⟨_,rfl⟩
 rw [HX.out]
 go_enter Tryz.func109,Tryz.ntmps109
 go_wp2_with (first
  | (go_at_call 44;refine (Pa.kind_any hD).mono ?_;rintro e W1 ⟨rfl,hW1⟩;have hD1:=hD.below hW1;have hF1:Pa.Fr g w W1:=Pa.Fr.of_below hW1;rw [hk])
  | (go_at_call 24;refine (Pa.name_any hD1).mono ?_;rintro e W2 ⟨rfl,hD2,hF2⟩;rw [HT.out,HX.out];rw [HN.out] at hD2;have hF2':=hF1.trans hF2)
  | (go_at_call 25;refine (Pa.opt_any [40] hD2).mono ?_;rintro e W3 ⟨rfl,hD3,hF3⟩;rw [hI];rw [HO] at hD3;have hF3':=hF2'.trans hF3)
  | (go_at_call 82;refine (Pa.exprs_any n ih R hR (by omega) hk2 hD3).mono ?_;rintro e W4 ⟨va,vc,rfl,hr4,hD4,hF4⟩;have hF4':=hF3'.trans hF4;have hr4':=Pa.own_mono hr4 hF3'.size;clear hr4)
  | (at_builtin;refine Pa.wp_nd (l:=R.1) rfl _ _ rfl ⟨7,0,0,0,X,(R.2.1:Int)⟩ rfl rfl rfl hr4' hF4'.size hl ?_;intro a5 c5 W5 hr5 hDg hFg hsz5;have hD5:=hDg _ _ _ _ _ hD4 hgw;have hF5:=hFg g w hF4' (Nat.le_refl _);clear hDg hFg))
 go_ret
 exact Pa.out_of rfl rfl (by simp) hr5 hD5 hF5
theorem Pa.single_nm (hk:Pa.kind ts s=1) (hI:Pa.is ts [40] (Pa.nx s)=false) (hD:Pa.D ts g a c s w) :
  Calls Tryz.prog 109 #[.pointer (some ⟨g,0,none⟩)] w (Pa.Out ts g a c ([⟨4,0,0,0,Mill.ba (Pa.tx ts s.p),0⟩],Pa.nx s) w):=by
 have hgw:=hD.lt
 have HN:Hid (Pa.name ts s=Pa.nx s):=by simp [Hid,Pa.name,hk]
 have HT:Hid (Pa.nameT ts s=Pa.tx ts s.p):=by simp [Hid,Pa.nameT,hk]
 have HO:=Pa.not_opt hI
 obtain ⟨X,HX⟩:∃ X,Hid (Mill.ba (Pa.tx ts s.p)=X):=⟨_,rfl⟩
 rw [HX.out]
 go_enter Tryz.func109,Tryz.ntmps109
 go_wp2_with (first
  | (go_at_call 44;refine (Pa.kind_any hD).mono ?_;rintro e W1 ⟨rfl,hW1⟩;have hD1:=hD.below hW1;have hF1:Pa.Fr g w W1:=Pa.Fr.of_below hW1;rw [hk])
  | (go_at_call 24;refine (Pa.name_any hD1).mono ?_;rintro e W2 ⟨rfl,hD2,hF2⟩;rw [HT.out,HX.out];rw [HN.out] at hD2;have hF2':=hF1.trans hF2)
  | (go_at_call 25;refine (Pa.opt_any [40] hD2).mono ?_;rintro e W3 ⟨rfl,hD3,hF3⟩;rw [hI];rw [HO] at hD3;have hF3':=hF2'.trans hF3))
 go_ret
 exact Pa.out_new ⟨4,0,0,0,X,0⟩ hD3 hF3' rfl
theorem Pa.single_word (hk:Pa.kind ts s=2) (R:Pa.Nds × Pa.S) (hW:∀ W,Pa.D ts g a c s W→Calls Tryz.prog 126 #[.pointer (some ⟨g,0,none⟩)] W (Pa.Out ts g a c R W)) (hD:Pa.D ts g a c s w) :
  Calls Tryz.prog 109 #[.pointer (some ⟨g,0,none⟩)] w (Pa.Out ts g a c R w):=by
 have HW:Hid (∀ W,Pa.D ts g a c s W→Calls Tryz.prog 126 #[.pointer (some ⟨g,0,none⟩)] W (Pa.Out ts g a c R W)):=hW
 clear hW
 go_enter Tryz.func109,Tryz.ntmps109
 go_wp2_with (first
  | (go_at_call 44;refine (Pa.kind_any hD).mono ?_;rintro e W1 ⟨rfl,hW1⟩;have hD1:=hD.below hW1;have hF1:Pa.Fr g w W1:=Pa.Fr.of_below hW1;rw [hk])
  | (go_at_call 126;refine (HW.out _ hD1).mono ?_;rintro e W2 ⟨va,vc,rfl,hr2,hD2,hF2⟩))
 go_ret
 exact ⟨_,_,rfl,Pa.own_mono hr2 hF1.size,hD2,hF1.trans hF2⟩
theorem Pa.un_is (op:Nat) (h:1≤op∧op≤3) (hI:∀ k,1≤k→k < op→Pa.is ts (Pa.m1 k) s=false) (h2:Pa.is ts (Pa.m1 op) s=true):Pa.un ts s=op:=by
 have h3:op=1∨op=2∨op=3:=by omega
 rcases h3 with rfl | rfl | rfl
 ·simp [Pa.m1] at h2;simp [Pa.un,h2]
 ·have a:=hI 1 (by omega) (by omega);simp [Pa.m1] at h2 a;simp [Pa.un,h2,a]
 ·have a:=hI 1 (by omega) (by omega);have b:=hI 2 (by omega) (by omega);simp [Pa.m1] at h2 a b;simp [Pa.un,h2,a,b]
theorem Pa.un_not (hI:∀ k,1≤k→k < 4→Pa.is ts (Pa.m1 k) s=false):Pa.un ts s=0:=by
 have a:=hI 1 (by omega) (by omega);have b:=hI 2 (by omega) (by omega);have c:=hI 3 (by omega) (by omega)
 simp [Pa.m1] at a b c;simp [Pa.un,a,b,c]
theorem Pa.single_un (hk:Pa.kind ts s≠1∧Pa.kind ts s≠2∧Pa.kind ts s≠3∧Pa.kind ts s≠4) (hu:Pa.un ts s≠0) (R:Pa.Nds × Pa.S) (hS:∀ W,Pa.D ts g a c (Pa.nx s) W→Calls Tryz.prog 109 #[.pointer (some ⟨g,0,none⟩)] W (Pa.Out ts g a c R W)) (hl:R.1.length+1≤1000000) (hD:Pa.D ts g a c s w) :
  Calls Tryz.prog 109 #[.pointer (some ⟨g,0,none⟩)] w (Pa.Out ts g a c (R.1++[⟨5,(Pa.un ts s:Int),0,0,⟨#[]⟩,1⟩],R.2) w):=by
 have hgw:=hD.lt
 have HS:Hid (∀ W,Pa.D ts g a c (Pa.nx s) W→Calls Tryz.prog 109 #[.pointer (some ⟨g,0,none⟩)] W (Pa.Out ts g a c R W)):=hS
 clear hS
 obtain ⟨K,hK⟩:∃ K,Pa.kind ts s=K:=⟨_,rfl⟩
 rw [hK] at hk
 obtain ⟨k1,k2,k3,k4⟩:=hk
 have kb1:(K == 1)=false:=by simpa using k1
 have kb2:(K == 2)=false:=by simpa using k2
 have kb3:(K == 3)=false:=by simpa using k3
 have kb4:(K == 4)=false:=by simpa using k4
 obtain ⟨U,HU⟩:∃ U,Hid (Pa.un ts s=U):=⟨_,rfl⟩
 rw [HU.out] at hu ⊢
 go_enter Tryz.func109,Tryz.ntmps109
 go_wp2_with (first
  | (go_at_call 44;refine (Pa.kind_any hD).mono ?_;rintro e W1 ⟨rfl,hW1⟩;have hD1:=hD.below hW1;have hF1:Pa.Fr g w W1:=Pa.Fr.of_below hW1;rw [hK]))
 go_loopw [7] (fun v wr => ∃ op:Nat,1≤op∧op≤4∧v = .int .i64 (op:Int)∧Pa.D ts g a c s wr∧Pa.Fr g w wr∧∀ k,1≤k→k < op→Pa.is ts (Pa.m1 k) s=false) (fun v _=>20 - (intOf v).toNat)
 case atStart=>exact ⟨1,by omega,by omega,rfl,hD1,hF1,fun k h1 h2=>by omega⟩
 case round =>
  obtain ⟨op,h1,h4,rfl,hDr,hFr,hnot⟩:=hrel
  have h3:op≤3:=by
   by_cases h:op≤3
   ·exact h
   ·have e:op=4:=by omega
    subst e
    exact absurd (HU.out.symm.trans (Pa.un_not hnot)) hu
  have h3':(op:Int)≤3:=by omega
  have HNOT:Hid (∀ k,1≤k→k < op→Pa.is ts (Pa.m1 k) s=false):=hnot
  cases hI:Pa.is ts (Pa.m1 op) s with
  | true =>
   have hUo:op=U:=by rw [← HU.out,Pa.un_is op ⟨h1,h3⟩ hnot hI]
   subst hUo
   clear hnot
   have HO:=Pa.is_opt hI
   go_wp2_with (first
    | (go_at_call 127;refine (Pa.l2UnMark_any op _).mono ?_;rintro e w' ⟨rfl,rfl⟩)
    | (go_at_call 25;refine (Pa.opt_any (Pa.m1 op) hDr).mono ?_;rintro e W3 ⟨rfl,hD3,hF3⟩;rw [hI];rw [HO] at hD3;have hF3':=hFr.trans hF3)
    | (go_at_call 109;refine (HS.out _ hD3).mono ?_;rintro e W4 ⟨va,vc,rfl,hr4,hD4,hF4⟩;have hF4':=hF3'.trans hF4;have hr4':=Pa.own_mono hr4 hF3'.size;clear hr4)
    | (at_builtin;refine Pa.wp_nd (l:=R.1) rfl _ _ rfl ⟨5,(op:Int),0,0,⟨#[]⟩,1⟩ rfl rfl rfl hr4' hF4'.size hl ?_;intro a5 c5 W5 hr5 hDg hFg hsz5;have hD5:=hDg _ _ _ _ _ hD4 hgw;have hF5:=hFg g w hF4' (Nat.le_refl _);clear hDg hFg))
   go_ret
   exact Pa.out_of rfl rfl (by simp) hr5 hD5 hF5
  | false =>
   have HO:=Pa.not_opt hI
   clear hnot
   go_wp2_with (first
    | (go_at_call 127;refine (Pa.l2UnMark_any op _).mono ?_;rintro e w' ⟨rfl,rfl⟩)
    | (go_at_call 25;refine (Pa.opt_any (Pa.m1 op) hDr).mono ?_;rintro e W3 ⟨rfl,hD3,hF3⟩;rw [hI];rw [HO] at hD3;have hF3':=hFr.trans hF3))
   go_roundw
   case rel =>
    refine ⟨op+1,by omega,by omega,by simp,hD3,hF3',fun k hk1 hk2 => ?_⟩
    by_cases e:k=op
    ·subst e;exact hI
    ·exact HNOT.out k hk1 (by omega)
   case measure=>simp [intOf];omega
theorem Pa.un0 (h:Pa.un ts s=0) (k:Nat) (h1:1≤k) (h2:k≤3):Pa.is ts (Pa.m1 k) s=false:=by
 have h3:k=1∨k=2∨k=3:=by omega
 unfold Pa.un at h
 cases a:Pa.is ts [45] s <;> cases b:Pa.is ts [33] s <;> cases c:Pa.is ts [126] s <;> simp [a,b,c] at h
 rcases h3 with rfl | rfl | rfl <;> simp [Pa.m1,a,b,c]
theorem Pa.single_bad (hk:Pa.kind ts s≠1∧Pa.kind ts s≠2∧Pa.kind ts s≠3∧Pa.kind ts s≠4) (hu:Pa.un ts s=0) (hb:(Pa.need ts [40] s).bad=true) (hD:Pa.D ts g a c s w) :
  Calls Tryz.prog 109 #[.pointer (some ⟨g,0,none⟩)] w (Pa.Out ts g a c ([],Pa.need ts [40] s) w):=by
 have hgw:=hD.lt
 obtain ⟨K,hK⟩:∃ K,Pa.kind ts s=K:=⟨_,rfl⟩
 rw [hK] at hk
 obtain ⟨k1,k2,k3,k4⟩:=hk
 have kb1:(K == 1)=false:=by simpa using k1
 have kb2:(K == 2)=false:=by simpa using k2
 have kb3:(K == 3)=false:=by simpa using k3
 have kb4:(K == 4)=false:=by simpa using k4
 go_enter Tryz.func109,Tryz.ntmps109
 go_wp2_with (first
  | (go_at_call 44;refine (Pa.kind_any hD).mono ?_;rintro e W1 ⟨rfl,hW1⟩;have hD1:=hD.below hW1;have hF1:Pa.Fr g w W1:=Pa.Fr.of_below hW1;rw [hK]))
 go_loopw [7] (fun v wr => ∃ op:Nat,1≤op∧op≤4∧v = .int .i64 (op:Int)∧Pa.D ts g a c s wr∧Pa.Fr g w wr) (fun v _=>20 - (intOf v).toNat)
 case atStart=>exact ⟨1,by omega,by omega,rfl,hD1,hF1⟩
 case round =>
  obtain ⟨op,h1,h4,rfl,hDr,hFr⟩:=hrel
  by_cases h3:op≤3
  ·have h3':(op:Int)≤3:=by omega
   have hI:=Pa.un0 hu op h1 h3
   have HO:=Pa.not_opt hI
   go_wp2_with (first
    | (go_at_call 127;refine (Pa.l2UnMark_any op _).mono ?_;rintro e w' ⟨rfl,rfl⟩)
    | (go_at_call 25;refine (Pa.opt_any (Pa.m1 op) hDr).mono ?_;rintro e W3 ⟨rfl,hD3,hF3⟩;rw [hI];rw [HO] at hD3;have hF3':=hFr.trans hF3))
   go_roundw
   case rel=>exact ⟨op+1,by omega,by omega,by simp,hD3,hF3'⟩
   case measure=>simp [intOf];omega
  ·have e:op=4:=by omega
   subst e
   go_wp2_with (go_at_call 23;refine (Pa.need_any [40] hDr).mono ?_;rintro e W3 ⟨rfl,hD3,hF3⟩;have hF3':=hFr.trans hF3;obtain ⟨c0,c1,c2,f1,f2⟩:=hD3.cells;rw [hb] at c2)
   go_ret
   exact ⟨_,_,rfl,Pa.new_nds _ _ hF3'.size [] (by simp) #[] rfl,hD3.alloc _,hF3'.alloc _⟩
theorem Pa.single_br (hk:Pa.kind ts s≠1∧Pa.kind ts s≠2∧Pa.kind ts s≠3∧Pa.kind ts s≠4) (hu:Pa.un ts s=0) (hb:(Pa.need ts [40] s).bad=false) (R:Pa.Nds × Pa.S) (hS:∀ W,Pa.D ts g a c (Pa.need ts [40] s) W→Calls Tryz.prog 81 #[.pointer (some ⟨g,0,none⟩),.int .i64 ((1:Nat):Int)] W (Pa.Out ts g a c R W)) (hD:Pa.D ts g a c s w) :
  Calls Tryz.prog 109 #[.pointer (some ⟨g,0,none⟩)] w (Pa.Out ts g a c (R.1,Pa.need ts [41] R.2) w):=by
 have hgw:=hD.lt
 obtain ⟨K,hK⟩:∃ K,Pa.kind ts s=K:=⟨_,rfl⟩
 rw [hK] at hk
 obtain ⟨k1,k2,k3,k4⟩:=hk
 have kb1:(K == 1)=false:=by simpa using k1
 have kb2:(K == 2)=false:=by simpa using k2
 have kb3:(K == 3)=false:=by simpa using k3
 have kb4:(K == 4)=false:=by simpa using k4
 have HS:Hid (∀ W,Pa.D ts g a c (Pa.need ts [40] s) W→Calls Tryz.prog 81 #[.pointer (some ⟨g,0,none⟩),.int .i64 ((1:Nat):Int)] W (Pa.Out ts g a c R W)):=hS
 clear hS
 have mkA:True:=trivial
 go_enter Tryz.func109,Tryz.ntmps109
 go_wp2_with (first
  | (go_at_call 44;refine (Pa.kind_any hD).mono ?_;rintro e W1 ⟨rfl,hW1⟩;have hD1:=hD.below hW1;have hF1:Pa.Fr g w W1:=Pa.Fr.of_below hW1;rw [hK]))
 go_loopw [7] (fun v wr => ∃ op:Nat,1≤op∧op≤4∧v = .int .i64 (op:Int)∧Pa.D ts g a c s wr∧Pa.Fr g w wr) (fun v _=>20 - (intOf v).toNat)
 case atStart=>exact ⟨1,by omega,by omega,rfl,hD1,hF1⟩
 case round =>
  obtain ⟨op,h1,h4,rfl,hDr,hFr⟩:=hrel
  by_cases h3:op≤3
  ·have h3':(op:Int)≤3:=by omega
   have hI:=Pa.un0 hu op h1 h3
   have HO:=Pa.not_opt hI
   go_wp2_with (first
    | (go_at_call 127;refine (Pa.l2UnMark_any op _).mono ?_;rintro e w' ⟨rfl,rfl⟩)
    | (go_at_call 25;refine (Pa.opt_any (Pa.m1 op) hDr).mono ?_;rintro e W3 ⟨rfl,hD3,hF3⟩;rw [hI];rw [HO] at hD3;have hF3':=hFr.trans hF3))
   go_roundw
   case rel=>exact ⟨op+1,by omega,by omega,by simp,hD3,hF3'⟩
   case measure=>simp [intOf];omega
  ·have e:op=4:=by omega
   subst e
   go_wp2_with (first
    | (have _t:=mkA;go_at_call 23;refine (Pa.need_any [40] hDr).mono ?_;rintro e W3 ⟨rfl,hD3,hF3⟩;have hF3':=hFr.trans hF3;obtain ⟨c0,c1,c2,f1,f2⟩:=hD3.cells;rw [hb] at c2;clear mkA)
    | (go_at_call 81;refine (HS.out _ hD3).mono ?_;rintro e W4 ⟨va,vc,rfl,hr4,hD4,hF4⟩;have hF4':=hF3'.trans hF4;have hr4':=Pa.own_mono hr4 hF3'.size;clear hr4)
    | (go_at_call 23;refine (Pa.need_any [41] hD4).mono ?_;rintro e W5 ⟨rfl,hD5,hF5⟩))
   go_ret
   exact ⟨_,_,rfl,hF5.own hr4' hgw,hD5,hF4'.trans hF5⟩
end Go.Proofs.YtlcckaffhnjneaaGreatDoor
