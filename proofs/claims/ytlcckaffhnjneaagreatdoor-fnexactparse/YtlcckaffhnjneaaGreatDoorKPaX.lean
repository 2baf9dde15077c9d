import Derived.Test.YtlcckaffhnjneaaGreatDoorKPaT
set_option maxRecDepth 100000
set_option maxHeartbeats 4000000
namespace Go.Proofs.YtlcckaffhnjneaaGreatDoor
open Go.RowKit
variable {ts:List (Mill.Piece × Nat)} {g:Nat} {a:Option Addr} {c:Nat} {s:Pa.S} {w:World}
theorem Pa.Ce.start {s2:Pa.S} {W:World} (hD:Pa.D ts g a c s2 W) (hF:Pa.Fr g w W) (hr:Pa.Row w.heap.size W (.slice (some ⟨w.heap.size,0,none⟩) 0 0) []) (hg:g < w.heap.size) (hs:w.heap.size < W.heap.size) (X:ByteArray):Pa.Ce ts g a c w W.heap.size ⟨23,0,0,0,X,1⟩ s2 (W.alloc (.cells #[.int .i64 23,.int .i64 0,.int .i64 0,.int .i64 0,.string X,.int .i64 1] 43)) (some ⟨w.heap.size,0,none⟩) 0 []:=by
 refine ⟨⟨hD.alloc _,hF.alloc _,by omega,heap_alloc_new W _,by omega⟩,Mill.own_below hr ((Below.refl _ _).alloc (Nat.le_refl _) _), ?_,hg⟩
 simp only [Value.ownBlock]
 intro e;injection e with e;omega
theorem Pa.fn_badY (S0:Pa.S) (hS0:Pa.fnO ts s=S0) (hb:S0.bad=true) (hAr:Pa.is ts [45,62] S0=false) (RB:Pa.Nds × Pa.S) (hBl:(∀ W,Pa.D ts g a c S0 W→Calls Tryz.prog 27 #[.pointer (some ⟨g,0,none⟩)] W (Pa.Out ts g a c RB W))) (hl:RB.1.length+1≤1000000) (hD:Pa.D ts g a c s w) :
  Calls Tryz.prog 11 #[.pointer (some ⟨g,0,none⟩)] w (Pa.Out ts g a c ([]++RB.1++[⟨23,0,0,0,Mill.ba (Pa.nameT ts (Pa.need ts [102,110] s)),1⟩],RB.2) w):=by
 have hgw:=hD.lt
 obtain ⟨W0,hW0⟩:∃ W,w.alloc (.cells #[] 43)=W:=⟨_,rfl⟩
 have hr0:Pa.Row w.heap.size W0 (.slice (some ⟨w.heap.size,0,none⟩) 0 0) []:=by rw [← hW0];exact Pa.new_nds w _ (Nat.le_refl _) [] (by simp) #[] rfl
 have hB0:Below w.heap.size w W0:=by rw [← hW0];exact (Below.refl _ _).alloc (Nat.le_refl _) _
 have hW0s:W0.heap.size=w.heap.size+1:=by rw [← hW0];simp
 have hD0:=hD.below hB0
 have hF0:Pa.Fr g w W0:=Pa.Fr.of_below hB0
 obtain ⟨X,HX⟩:∃ X,Hid (Mill.ba (Pa.nameT ts (Pa.need ts [102,110] s))=X):=⟨_,rfl⟩
 have mkA:True:=trivial
 have mkB:True:=trivial
 rw [HX.out]
 have HBl:Hid (∀ W,Pa.D ts g a c S0 W→Calls Tryz.prog 27 #[.pointer (some ⟨g,0,none⟩)] W (Pa.Out ts g a c RB W)):=hBl
 have HS0:Hid (Pa.need ts [40] (Pa.name ts (Pa.need ts [102,110] s))=S0):=hS0
 have hlm:([]:List Mill.Nd).length+RB.1.length≤1000000:=by simp;omega
 have hll:RB.1.length+1≤1000000:=hl
 have mkC:True:=trivial
 have mkT:True:=trivial
 clear hBl
 go_enter Tryz.func11,Tryz.ntmps11
 go_wp2_with (first
  | (have _t:=mkA;go_at_call 23;refine (Pa.need_any [102,110] hD0).mono ?_;rintro e V1 ⟨rfl,hD1,hF1⟩;have hr1:=hF1.own hr0 hgw;have hF1':=hF0.trans hF1;have hs1:=hF1.size;clear mkA)
  | (have _t:=hr1;go_at_call 24;refine (Pa.name_any hD1).mono ?_;rintro e V2 ⟨rfl,hD2,hF2⟩;have hr2:=hF2.own hr1 hgw;rw [HX.out];have hc:=Pa.Ce.start hD2 (hF1'.trans hF2) hr2 hgw (by have:=hF2.size;omega) X;clear hr1 hr2)
  | (have _t:=mkB;go_at_call 23;refine (Pa.need_any [40] hc.1.D).mono ?_;rintro e V3 ⟨rfl,hT⟩;replace hc:=hc.to hT;rw [HS0.out] at hc;clear mkB hT;obtain ⟨c0,c1,c2,f1,f2⟩:=hc.1.D.cells;rw [hb] at c2)
  | (have _t:=mkC;go_at_call 25;refine (Pa.opt_any [45,62] hc.1.D).mono ?_;rintro e V5 ⟨rfl,hT⟩;replace hc:=hc.to hT;clear hT mkC;rw [hAr];rw [Pa.not_opt hAr] at hc)
  | (go_at_call 27;refine (HBl.out _ hc.1.D).mono ?_;rintro e V7 ⟨va7,vc7,rfl,hr7,hT⟩;replace hc:=hc.to hT;clear hT;have mkD:True:=trivial)
  | (have _t:=mkD;at_builtin;refine Pa.wp_midE (l:=[]) rfl _ _ rfl hc rfl rfl rfl hr7 hlm ?_;intro a8 c8 W8 hc8;clear mkD hr7;replace hc:=hc8;clear hc8;obtain ⟨⟨n0,n1,n2,n3,n4,n5⟩,nf⟩:=hc.1.cells)
  | (at_builtin;refine Pa.wp_oneE (l:=[]++RB.1) rfl _ _ rfl ⟨23,0,0,0,X,1⟩ hc rfl (by simp) rfl hll ?_;intro a9 c9 W9 hcE))
 go_ret
 exact hcE.out rfl rfl (by simp)
theorem Pa.fn_noneY (S0:Pa.S) (hS0:Pa.fnO ts s=S0) (hb:S0.bad=false) (hI:Pa.is ts [41] S0=true) (hAr:Pa.is ts [45,62] (Pa.nx S0)=true) (RB:Pa.Nds × Pa.S) (hBl:(∀ W,Pa.D ts g a c (Pa.typ ts (Pa.nx (Pa.nx S0))) W→Calls Tryz.prog 27 #[.pointer (some ⟨g,0,none⟩)] W (Pa.Out ts g a c RB W))) (hl:RB.1.length+1≤1000000) (hD:Pa.D ts g a c s w) :
  Calls Tryz.prog 11 #[.pointer (some ⟨g,0,none⟩)] w (Pa.Out ts g a c ([]++RB.1++[⟨23,0,(Pa.typT ts (Pa.nx (Pa.nx S0)):Int),0,Mill.ba (Pa.nameT ts (Pa.need ts [102,110] s)),1⟩],RB.2) w):=by
 have hgw:=hD.lt
 obtain ⟨W0,hW0⟩:∃ W,w.alloc (.cells #[] 43)=W:=⟨_,rfl⟩
 have hr0:Pa.Row w.heap.size W0 (.slice (some ⟨w.heap.size,0,none⟩) 0 0) []:=by rw [← hW0];exact Pa.new_nds w _ (Nat.le_refl _) [] (by simp) #[] rfl
 have hB0:Below w.heap.size w W0:=by rw [← hW0];exact (Below.refl _ _).alloc (Nat.le_refl _) _
 have hW0s:W0.heap.size=w.heap.size+1:=by rw [← hW0];simp
 have hD0:=hD.below hB0
 have hF0:Pa.Fr g w W0:=Pa.Fr.of_below hB0
 obtain ⟨X,HX⟩:∃ X,Hid (Mill.ba (Pa.nameT ts (Pa.need ts [102,110] s))=X):=⟨_,rfl⟩
 have mkA:True:=trivial
 have mkB:True:=trivial
 rw [HX.out]
 have HBl:Hid (∀ W,Pa.D ts g a c (Pa.typ ts (Pa.nx (Pa.nx S0))) W→Calls Tryz.prog 27 #[.pointer (some ⟨g,0,none⟩)] W (Pa.Out ts g a c RB W)):=hBl
 have HS0:Hid (Pa.need ts [40] (Pa.name ts (Pa.need ts [102,110] s))=S0):=hS0
 have hlm:([]:List Mill.Nd).length+RB.1.length≤1000000:=by simp;omega
 have hll:RB.1.length+1≤1000000:=hl
 have mkC:True:=trivial
 have mkT:True:=trivial
 clear hBl
 go_enter Tryz.func11,Tryz.ntmps11
 go_wp2_with (first
  | (have _t:=mkA;go_at_call 23;refine (Pa.need_any [102,110] hD0).mono ?_;rintro e V1 ⟨rfl,hD1,hF1⟩;have hr1:=hF1.own hr0 hgw;have hF1':=hF0.trans hF1;have hs1:=hF1.size;clear mkA)
  | (have _t:=hr1;go_at_call 24;refine (Pa.name_any hD1).mono ?_;rintro e V2 ⟨rfl,hD2,hF2⟩;have hr2:=hF2.own hr1 hgw;rw [HX.out];have hc:=Pa.Ce.start hD2 (hF1'.trans hF2) hr2 hgw (by have:=hF2.size;omega) X;clear hr1 hr2)
  | (have _t:=mkB;go_at_call 23;refine (Pa.need_any [40] hc.1.D).mono ?_;rintro e V3 ⟨rfl,hT⟩;replace hc:=hc.to hT;rw [HS0.out] at hc;clear mkB hT;obtain ⟨c0,c1,c2,f1,f2⟩:=hc.1.D.cells;rw [hb] at c2)
  | (have _t:=c2;go_at_call 25;refine (Pa.opt_any [41] hc.1.D).mono ?_;rintro e V4 ⟨rfl,hT⟩;replace hc:=hc.to hT;clear hT c0 c1 c2 f1 f2;rw [hI];rw [Pa.is_opt hI] at hc)
  | (have _t:=mkC;go_at_call 25;refine (Pa.opt_any [45,62] hc.1.D).mono ?_;rintro e V5 ⟨rfl,hT⟩;replace hc:=hc.to hT;clear hT mkC;rw [hAr];rw [Pa.is_opt hAr] at hc)
  | (have _t:=mkT;go_at_call 26;refine (Pa.typ_any hc.1.D).mono ?_;rintro e V6 ⟨rfl,hT⟩;replace hc:=hc.to hT;clear hT mkT;obtain ⟨⟨n0,n1,n2,n3,n4,n5⟩,nf⟩:=hc.1.cells;replace hc:=hc.set 2 (.int .i64 (Pa.typT ts (Pa.nx (Pa.nx S0)):Int)) ⟨23,0,(Pa.typT ts (Pa.nx (Pa.nx S0)):Int),0,X,1⟩ rfl)
  | (go_at_call 27;refine (HBl.out _ hc.1.D).mono ?_;rintro e V7 ⟨va7,vc7,rfl,hr7,hT⟩;replace hc:=hc.to hT;clear hT;clear n0 n1 n2 n3 n4 n5 nf;have mkD:True:=trivial)
  | (have _t:=mkD;at_builtin;refine Pa.wp_midE (l:=[]) rfl _ _ rfl hc rfl rfl rfl hr7 hlm ?_;intro a8 c8 W8 hc8;clear mkD hr7;replace hc:=hc8;clear hc8;obtain ⟨⟨n0,n1,n2,n3,n4,n5⟩,nf⟩:=hc.1.cells)
  | (at_builtin;refine Pa.wp_oneE (l:=[]++RB.1) rfl _ _ rfl ⟨23,0,(Pa.typT ts (Pa.nx (Pa.nx S0)):Int),0,X,1⟩ hc rfl (by simp) rfl hll ?_;intro a9 c9 W9 hcE))
 go_ret
 exact hcE.out rfl rfl (by simp)
theorem Pa.fn_noneN (S0:Pa.S) (hS0:Pa.fnO ts s=S0) (hb:S0.bad=false) (hI:Pa.is ts [41] S0=true) (hAr:Pa.is ts [45,62] (Pa.nx S0)=false) (RB:Pa.Nds × Pa.S) (hBl:(∀ W,Pa.D ts g a c (Pa.nx S0) W→Calls Tryz.prog 27 #[.pointer (some ⟨g,0,none⟩)] W (Pa.Out ts g a c RB W))) (hl:RB.1.length+1≤1000000) (hD:Pa.D ts g a c s w) :
  Calls Tryz.prog 11 #[.pointer (some ⟨g,0,none⟩)] w (Pa.Out ts g a c ([]++RB.1++[⟨23,0,0,0,Mill.ba (Pa.nameT ts (Pa.need ts [102,110] s)),1⟩],RB.2) w):=by
 have hgw:=hD.lt
 obtain ⟨W0,hW0⟩:∃ W,w.alloc (.cells #[] 43)=W:=⟨_,rfl⟩
 have hr0:Pa.Row w.heap.size W0 (.slice (some ⟨w.heap.size,0,none⟩) 0 0) []:=by rw [← hW0];exact Pa.new_nds w _ (Nat.le_refl _) [] (by simp) #[] rfl
 have hB0:Below w.heap.size w W0:=by rw [← hW0];exact (Below.refl _ _).alloc (Nat.le_refl _) _
 have hW0s:W0.heap.size=w.heap.size+1:=by rw [← hW0];simp
 have hD0:=hD.below hB0
 have hF0:Pa.Fr g w W0:=Pa.Fr.of_below hB0
 obtain ⟨X,HX⟩:∃ X,Hid (Mill.ba (Pa.nameT ts (Pa.need ts [102,110] s))=X):=⟨_,rfl⟩
 have mkA:True:=trivial
 have mkB:True:=trivial
 rw [HX.out]
 have HBl:Hid (∀ W,Pa.D ts g a c (Pa.nx S0) W→Calls Tryz.prog 27 #[.pointer (some ⟨g,0,none⟩)] W (Pa.Out ts g a c RB W)):=hBl
 have HS0:Hid (Pa.need ts [40] (Pa.name ts (Pa.need ts [102,110] s))=S0):=hS0
 have hlm:([]:List Mill.Nd).length+RB.1.length≤1000000:=by simp;omega
 have hll:RB.1.length+1≤1000000:=hl
 have mkC:True:=trivial
 have mkT:True:=trivial
 clear hBl
 go_enter Tryz.func11,Tryz.ntmps11
 go_wp2_with (first
  | (have _t:=mkA;go_at_call 23;refine (Pa.need_any [102,110] hD0).mono ?_;rintro e V1 ⟨rfl,hD1,hF1⟩;have hr1:=hF1.own hr0 hgw;have hF1':=hF0.trans hF1;have hs1:=hF1.size;clear mkA)
  | (have _t:=hr1;go_at_call 24;refine (Pa.name_any hD1).mono ?_;rintro e V2 ⟨rfl,hD2,hF2⟩;have hr2:=hF2.own hr1 hgw;rw [HX.out];have hc:=Pa.Ce.start hD2 (hF1'.trans hF2) hr2 hgw (by have:=hF2.size;omega) X;clear hr1 hr2)
  | (have _t:=mkB;go_at_call 23;refine (Pa.need_any [40] hc.1.D).mono ?_;rintro e V3 ⟨rfl,hT⟩;replace hc:=hc.to hT;rw [HS0.out] at hc;clear mkB hT;obtain ⟨c0,c1,c2,f1,f2⟩:=hc.1.D.cells;rw [hb] at c2)
  | (have _t:=c2;go_at_call 25;refine (Pa.opt_any [41] hc.1.D).mono ?_;rintro e V4 ⟨rfl,hT⟩;replace hc:=hc.to hT;clear hT c0 c1 c2 f1 f2;rw [hI];rw [Pa.is_opt hI] at hc)
  | (have _t:=mkC;go_at_call 25;refine (Pa.opt_any [45,62] hc.1.D).mono ?_;rintro e V5 ⟨rfl,hT⟩;replace hc:=hc.to hT;clear hT mkC;rw [hAr];rw [Pa.not_opt hAr] at hc)
  | (go_at_call 27;refine (HBl.out _ hc.1.D).mono ?_;rintro e V7 ⟨va7,vc7,rfl,hr7,hT⟩;replace hc:=hc.to hT;clear hT;have mkD:True:=trivial)
  | (have _t:=mkD;at_builtin;refine Pa.wp_midE (l:=[]) rfl _ _ rfl hc rfl rfl rfl hr7 hlm ?_;intro a8 c8 W8 hc8;clear mkD hr7;replace hc:=hc8;clear hc8;obtain ⟨⟨n0,n1,n2,n3,n4,n5⟩,nf⟩:=hc.1.cells)
  | (at_builtin;refine Pa.wp_oneE (l:=[]++RB.1) rfl _ _ rfl ⟨23,0,0,0,X,1⟩ hc rfl (by simp) rfl hll ?_;intro a9 c9 W9 hcE))
 go_ret
 exact hcE.out rfl rfl (by simp)
variable {ts:List (Mill.Piece × Nat)} {g:Nat} {a:Option Addr} {c:Nat} {s:Pa.S} {w:World}
theorem Pa.parsL_len : ∀ (m:Nat) (l:Pa.Nds) (s:Pa.S) (R:Pa.Nds × Pa.S),Pa.parsL ts m l s=some R→l.length≤R.1.length
 | 0,l,s,R,h=>by simp [Pa.parsL] at h
 | m+1,l,s,R,h=>by
  rw [Pa.parsL] at h
  split at h
  ·simp at h;subst h;simp
  ·split at h
   ·have:=Pa.parsL_len m _ _ R h
    simp at this ⊢;omega
   ·simp at h;subst h;simp
theorem Pa.Ce.par {s2 s3:Pa.S} {W W2:World} {nb:Nat} {d:Mill.Nd} {va:Option Addr} {vc:Nat} {l:List Mill.Nd} {Y:ByteArray} (h:Pa.Ce ts g a c w nb d s2 W va vc l) (hT:Pa.To ts g a c s3 (W.alloc (.cells #[.int .i64 22,.int .i64 0,.int .i64 0,.int .i64 0,.string Y,.int .i64 0] 43)) W2) :
  W2.heap[W.heap.size]? = some (.cells #[.int .i64 22,.int .i64 0,.int .i64 0,.int .i64 0,.string Y,.int .i64 0] 43)∧(∀ k,W2.frozen? ⟨W.heap.size,k,none⟩=false)∧nb < W.heap.size∧(Value.slice va l.length vc).ownBlock≠some W.heap.size:=by
 have h1:W2.heap[W.heap.size]? = some (.cells #[.int .i64 22,.int .i64 0,.int .i64 0,.int .i64 0,.string Y,.int .i64 0] 43) :=
  (hT.2.keep _ (by simp) (by have:=h.1.lt;have:=h.1.gn;omega)).trans (heap_alloc_new _ _)
 exact ⟨h1,fun k=>by simp [World.frozen?,h1],h.1.lt,fun e=>by have:=(h.blk e).1;omega⟩
theorem Pa.par_cells {W V3:World} {pb:Nat} {Y:ByteArray} {v:Value} (h:W.heap[pb]? = some (.cells #[.int .i64 22,.int .i64 0,.int .i64 0,.int .i64 0,.string Y,.int .i64 0] 43)) (hV:W.setCell ⟨pb,2,none⟩ v=V3):V3.cell? ⟨pb,0,none⟩=some (.int .i64 22)∧V3.cell? ⟨pb,1,none⟩=some (.int .i64 0)∧V3.cell? ⟨pb,2,none⟩=some v∧V3.cell? ⟨pb,3,none⟩=some (.int .i64 0)∧V3.cell? ⟨pb,4,none⟩=some (.string Y)∧V3.cell? ⟨pb,5,none⟩=some (.int .i64 0):=by
 have h3:V3.heap[pb]? = some (.cells #[.int .i64 22,.int .i64 0,v,.int .i64 0,.string Y,.int .i64 0] 43):=by
  rw [← hV];simp [World.setCell,Array.getElem?_modify,h]
 refine ⟨?_, ?_, ?_, ?_, ?_, ?_⟩ <;> (rw [Lib.cell_of_heap h3];rfl)
theorem Pa.fn_parY (n:Nat) (S0:Pa.S) (hS0:Pa.fnO ts s=S0) (hb:S0.bad=false) (hI:Pa.is ts [41] S0=false) (A:Pa.Nds × Pa.S) (hA:Pa.parsL ts n [] S0=some A) (hAr:Pa.is ts [45,62] (Pa.need ts [41] A.2)=true) (RB:Pa.Nds × Pa.S) (hBl:(∀ W,Pa.D ts g a c (Pa.typ ts (Pa.nx (Pa.need ts [41] A.2))) W→Calls Tryz.prog 27 #[.pointer (some ⟨g,0,none⟩)] W (Pa.Out ts g a c RB W))) (hl:A.1.length+RB.1.length+1≤1000000) (hD:Pa.D ts g a c s w) :
  Calls Tryz.prog 11 #[.pointer (some ⟨g,0,none⟩)] w (Pa.Out ts g a c (A.1++RB.1++[⟨23,0,(Pa.typT ts (Pa.nx (Pa.need ts [41] A.2)):Int),0,Mill.ba (Pa.nameT ts (Pa.need ts [102,110] s)),(A.1.length:Int)+1⟩],RB.2) w):=by
 have hgw:=hD.lt
 obtain ⟨W0,hW0⟩:∃ W,w.alloc (.cells #[] 43)=W:=⟨_,rfl⟩
 have hr0:Pa.Row w.heap.size W0 (.slice (some ⟨w.heap.size,0,none⟩) 0 0) []:=by rw [← hW0];exact Pa.new_nds w _ (Nat.le_refl _) [] (by simp) #[] rfl
 have hB0:Below w.heap.size w W0:=by rw [← hW0];exact (Below.refl _ _).alloc (Nat.le_refl _) _
 have hW0s:W0.heap.size=w.heap.size+1:=by rw [← hW0];simp
 have hD0:=hD.below hB0
 have hF0:Pa.Fr g w W0:=Pa.Fr.of_below hB0
 obtain ⟨X,HX⟩:∃ X,Hid (Mill.ba (Pa.nameT ts (Pa.need ts [102,110] s))=X):=⟨_,rfl⟩
 have mkA:True:=trivial
 have mkB:True:=trivial
 rw [HX.out]
 have HBl:Hid (∀ W,Pa.D ts g a c (Pa.typ ts (Pa.nx (Pa.need ts [41] A.2))) W→Calls Tryz.prog 27 #[.pointer (some ⟨g,0,none⟩)] W (Pa.Out ts g a c RB W)):=hBl
 have HA:Hid (Pa.parsL ts n [] S0=some A):=hA
 have HS0:Hid (Pa.need ts [40] (Pa.name ts (Pa.need ts [102,110] s))=S0):=hS0
 have hlm:A.1.length+RB.1.length≤1000000:=by omega
 have hll:A.1.length+RB.1.length+1≤1000000:=hl
 have mkC:True:=trivial
 have mkT:True:=trivial
 have mkR:True:=trivial
 have mkN:True:=trivial
 have mkK:True:=trivial
 clear hBl hA
 go_enter Tryz.func11,Tryz.ntmps11
 go_wp2_with (first
  | (have _t:=mkA;go_at_call 23;refine (Pa.need_any [102,110] hD0).mono ?_;rintro e V1 ⟨rfl,hD1,hF1⟩;have hr1:=hF1.own hr0 hgw;have hF1':=hF0.trans hF1;have hs1:=hF1.size;clear mkA)
  | (have _t:=hr1;go_at_call 24;refine (Pa.name_any hD1).mono ?_;rintro e V2 ⟨rfl,hD2,hF2⟩;have hr2:=hF2.own hr1 hgw;rw [HX.out];have hc:=Pa.Ce.start hD2 (hF1'.trans hF2) hr2 hgw (by have:=hF2.size;omega) X;clear hr1 hr2)
  | (have _t:=mkB;go_at_call 23;refine (Pa.need_any [40] hc.1.D).mono ?_;rintro e V3 ⟨rfl,hT⟩;replace hc:=hc.to hT;rw [HS0.out] at hc;clear mkB hT;obtain ⟨c0,c1,c2,f1,f2⟩:=hc.1.D.cells;rw [hb] at c2)
  | (have _t:=c2;go_at_call 25;refine (Pa.opt_any [41] hc.1.D).mono ?_;rintro e V4 ⟨rfl,hT⟩;replace hc:=hc.to hT;clear hT c0 c1 c2 f1 f2;rw [hI];rw [Pa.not_opt hI] at hc))
 obtain ⟨nb,hnb⟩:∃ nb,V2.heap.size=nb:=⟨_,rfl⟩
 rw [hnb] at hc ⊢
 clear hnb
 go_loopw [3,5] (fun ov _ wr => ∃ (m:Nat) (l:Pa.Nds) (s':Pa.S) (oa:Option Addr) (oc:Nat),m≤n∧ov = .slice oa l.length oc∧Pa.Ce ts g a c w nb ⟨23,0,0,0,X,(l.length:Int)+1⟩ s' wr oa oc l∧Pa.parsL ts m l s'=some A) (fun ov _ _=>A.1.length+1 - Pa.lenV ov)
 case atStart=>exact ⟨n,[],S0,_,_,Nat.le_refl _,rfl,hc,HA.out⟩
 case round =>
  clear hc
  obtain ⟨m,l,s',oa,oc,hm,rfl,hc,hL⟩:=hrel
  obtain ⟨m,rfl⟩:∃ m',m=m'+1:=by
   cases m with
   | zero=>simp [Pa.parsL] at hL
   | succ m=>exact ⟨m,rfl⟩
  have hlen:=Pa.parsL_len _ _ _ _ hL
  rw [Pa.parsL] at hL
  obtain ⟨c0,c1,c2,f1,f2⟩:=hc.1.D.cells
  cases hb2:s'.bad with
  | true =>
   rw [hb2] at hL c2
   simp only [if_true,Option.some.injEq] at hL
   have e1:l=A.1:=congrArg Prod.fst hL
   have e2:s'=A.2:=congrArg Prod.snd hL
   subst e1
   subst e2
   clear hL hb2 hlen
   go_wp2_with (first
    | (have _t:=mkR;go_at_call 23;refine (Pa.need_any [41] hc.1.D).mono ?_;rintro e V4 ⟨rfl,hT⟩;replace hc:=hc.to hT;clear hT mkR)
    | (have _t:=mkC;go_at_call 25;refine (Pa.opt_any [45,62] hc.1.D).mono ?_;rintro e V5 ⟨rfl,hT⟩;replace hc:=hc.to hT;clear hT mkC;rw [hAr];rw [Pa.is_opt hAr] at hc)
    | (have _t:=mkT;go_at_call 26;refine (Pa.typ_any hc.1.D).mono ?_;rintro e V6 ⟨rfl,hT⟩;replace hc:=hc.to hT;clear hT mkT;obtain ⟨⟨n0,n1,n2,n3,n4,n5⟩,nf⟩:=hc.1.cells;replace hc:=hc.set 2 (.int .i64 (Pa.typT ts (Pa.nx (Pa.need ts [41] A.2)):Int)) ⟨23,0,(Pa.typT ts (Pa.nx (Pa.need ts [41] A.2)):Int),0,X,(A.1.length:Int)+1⟩ rfl)
    | (go_at_call 27;refine (HBl.out _ hc.1.D).mono ?_;rintro e V7 ⟨va7,vc7,rfl,hr7,hT⟩;replace hc:=hc.to hT;clear hT;clear n0 n1 n2 n3 n4 n5 nf;have mkD:True:=trivial)
    | (have _t:=mkD;at_builtin;refine Pa.wp_midE (l:=A.1) rfl _ _ rfl hc rfl rfl rfl hr7 hlm ?_;intro a8 c8 W8 hc8;clear mkD hr7;replace hc:=hc8;clear hc8;obtain ⟨⟨n0,n1,n2,n3,n4,n5⟩,nf⟩:=hc.1.cells)
    | (at_builtin;refine Pa.wp_oneE (l:=A.1++RB.1) rfl _ _ rfl ⟨23,0,(Pa.typT ts (Pa.nx (Pa.need ts [41] A.2)):Int),0,X,(A.1.length:Int)+1⟩ hc rfl (by simp) rfl hll ?_;intro a9 c9 W9 hcE))
   go_ret
   exact hcE.out (by simp) rfl (by simp;try omega)
  | false =>
   rw [hb2] at hL c2
   simp only [Bool.false_eq_true,if_false] at hL
   clear hb2
   obtain ⟨Y,HY⟩:∃ Y,Hid (Mill.ba (Pa.nameT ts s')=Y):=⟨_,rfl⟩
   obtain ⟨t,Ht⟩:∃ t,Hid (Pa.typT ts (Pa.name ts s')=t):=⟨_,rfl⟩
   rw [HY.out,Ht.out] at hL
   have hw1:wrap64 ((l.length:Int)+1+1)=(l.length:Int)+1+1:=by rw [wrap64];omega
   have hl1:l.length+1≤1000000:=by omega
   cases hI2:Pa.is ts [44] (Pa.typ ts (Pa.name ts s')) with
   | true =>
    rw [hI2] at hL
    simp only [if_true] at hL
    have hlen2:=Pa.parsL_len _ _ _ _ hL
    simp only [List.length_append,List.length_cons,List.length_nil] at hlen2
    have HL:Hid (Pa.parsL ts m (l++[⟨22,0,(t:Int),0,Y,0⟩]) (Pa.nx (Pa.typ ts (Pa.name ts s')))=some A):=hL
    clear hL
    go_wp2_with (first
    | (have _t:=mkN;go_at_call 24;refine (Pa.name_any hc.1.D).mono ?_;rintro e V1 ⟨rfl,hT⟩;replace hc:=hc.to hT;clear hT mkN c0 c1 c2 f1 f2;rw [HY.out];have mkP:True:=trivial)
    | (have _t:=mkP;go_at_call 26;refine (Pa.typ_any (hc.alloc _).1.D).mono ?_;rintro e V2 ⟨rfl,hT⟩;clear mkP;obtain ⟨q,qf,hpb,hpo⟩:=hc.par hT;replace hc:=(hc.alloc _).to hT;rw [Ht.out];clear hT;obtain ⟨pb,hpb2⟩:∃ pb,V1.heap.size=pb:=⟨_,rfl⟩;rw [hpb2] at q qf hpb hpo;have pq2:V2.cell? ⟨pb,2,none⟩=some (.int .i64 0):=(by rw [Lib.cell_of_heap q];rfl);have hcq:=hc.other 2 (.int .i64 (t:Int)) hpb hpo;obtain ⟨V3,hV3⟩:∃ V3,V2.setCell ⟨pb,2,none⟩ (.int .i64 (t:Int))=V3:=⟨_,rfl⟩;obtain ⟨q0,q1,q2,q3,q4,q5⟩:=Pa.par_cells q hV3;rw [hV3] at hcq;replace hc:=hcq;clear hcq;have mkO:True:=trivial)
    | (have _t:=mkO;at_builtin;refine Pa.wp_oneE (l:=l) rfl _ _ rfl ⟨22,0,(t:Int),0,Y,0⟩ hc rfl rfl rfl hl1 ?_;intro a4 c4 W4 hc4;clear mkO q0 q1 q2 q3 q4 q5 hV3 pq2;replace hc:=hc4;clear hc4;obtain ⟨⟨n0,n1,n2,n3,n4,n5⟩,nf⟩:=hc.1.cells;replace hc:=hc.set 5 (.int .i64 ((l.length:Int)+1+1)) ⟨23,0,0,0,X,((l++[(⟨22,0,(t:Int),0,Y,0⟩:Mill.Nd)]).length:Int)+1⟩ (by simp))
    | (have _t:=mkK;go_at_call 25;refine (Pa.opt_any [44] hc.1.D).mono ?_;rintro e V5 ⟨rfl,hT⟩;replace hc:=hc.to hT;clear hT mkK n0 n1 n2 n3 n4 n5 nf;rw [hI2];rw [Pa.is_opt hI2] at hc))
    refine ⟨⟨m,l++[⟨22,0,(t:Int),0,Y,0⟩],_,a4,c4,by omega, ?_,hc,HL.out⟩, ?_⟩
    ·simp
    ·simp [Pa.lenV];omega
   | false =>
    rw [hI2] at hL
    simp only [Bool.false_eq_true,if_false,Option.some.injEq] at hL
    have e1:l++[⟨22,0,(t:Int),0,Y,0⟩]=A.1:=congrArg Prod.fst hL
    have e2:Pa.typ ts (Pa.name ts s')=A.2:=congrArg Prod.snd hL
    have HE1:Hid (l++[⟨22,0,(t:Int),0,Y,0⟩]=A.1):=e1
    have HE2:Hid (Pa.typ ts (Pa.name ts s')=A.2):=e2
    clear hL e1 e2 hlen
    go_wp2_with (first
    | (have _t:=mkN;go_at_call 24;refine (Pa.name_any hc.1.D).mono ?_;rintro e V1 ⟨rfl,hT⟩;replace hc:=hc.to hT;clear hT mkN c0 c1 c2 f1 f2;rw [HY.out];have mkP:True:=trivial)
    | (have _t:=mkP;go_at_call 26;refine (Pa.typ_any (hc.alloc _).1.D).mono ?_;rintro e V2 ⟨rfl,hT⟩;clear mkP;obtain ⟨q,qf,hpb,hpo⟩:=hc.par hT;replace hc:=(hc.alloc _).to hT;rw [Ht.out];clear hT;obtain ⟨pb,hpb2⟩:∃ pb,V1.heap.size=pb:=⟨_,rfl⟩;rw [hpb2] at q qf hpb hpo;have pq2:V2.cell? ⟨pb,2,none⟩=some (.int .i64 0):=(by rw [Lib.cell_of_heap q];rfl);have hcq:=hc.other 2 (.int .i64 (t:Int)) hpb hpo;obtain ⟨V3,hV3⟩:∃ V3,V2.setCell ⟨pb,2,none⟩ (.int .i64 (t:Int))=V3:=⟨_,rfl⟩;obtain ⟨q0,q1,q2,q3,q4,q5⟩:=Pa.par_cells q hV3;rw [hV3] at hcq;replace hc:=hcq;clear hcq;have mkO:True:=trivial)
    | (have _t:=mkO;at_builtin;refine Pa.wp_oneE (l:=l) rfl _ _ rfl ⟨22,0,(t:Int),0,Y,0⟩ hc rfl rfl rfl hl1 ?_;intro a4 c4 W4 hc4;clear mkO q0 q1 q2 q3 q4 q5 hV3 pq2;replace hc:=hc4;clear hc4;obtain ⟨⟨n0,n1,n2,n3,n4,n5⟩,nf⟩:=hc.1.cells;replace hc:=hc.set 5 (.int .i64 ((l.length:Int)+1+1)) ⟨23,0,0,0,X,((l++[(⟨22,0,(t:Int),0,Y,0⟩:Mill.Nd)]).length:Int)+1⟩ (by simp))
    | (have _t:=mkK;go_at_call 25;refine (Pa.opt_any [44] hc.1.D).mono ?_;rintro e V5 ⟨rfl,hT⟩;replace hc:=hc.to hT;clear hT mkK n0 n1 n2 n3 n4 n5 nf;rw [hI2];rw [Pa.not_opt hI2] at hc;rw [HE1.out,HE2.out] at hc;clear HE2)
     | (have _t:=mkR;go_at_call 23;refine (Pa.need_any [41] hc.1.D).mono ?_;rintro e V4 ⟨rfl,hT⟩;replace hc:=hc.to hT;clear hT mkR)
     | (have _t:=mkC;go_at_call 25;refine (Pa.opt_any [45,62] hc.1.D).mono ?_;rintro e V5 ⟨rfl,hT⟩;replace hc:=hc.to hT;clear hT mkC;rw [hAr];rw [Pa.is_opt hAr] at hc)
     | (have _t:=mkT;go_at_call 26;refine (Pa.typ_any hc.1.D).mono ?_;rintro e V6 ⟨rfl,hT⟩;replace hc:=hc.to hT;clear hT mkT;obtain ⟨⟨n0,n1,n2,n3,n4,n5⟩,nf⟩:=hc.1.cells;replace hc:=hc.set 2 (.int .i64 (Pa.typT ts (Pa.nx (Pa.need ts [41] A.2)):Int)) ⟨23,0,(Pa.typT ts (Pa.nx (Pa.need ts [41] A.2)):Int),0,X,(A.1.length:Int)+1⟩ rfl)
     | (go_at_call 27;refine (HBl.out _ hc.1.D).mono ?_;rintro e V7 ⟨va7,vc7,rfl,hr7,hT⟩;replace hc:=hc.to hT;clear hT;clear n0 n1 n2 n3 n4 n5 nf;have mkD:True:=trivial)
     | (have _t:=mkD;at_builtin;refine Pa.wp_midE (l:=A.1) rfl _ _ rfl hc rfl (by rw [← HE1.out];simp) rfl hr7 hlm ?_;intro a8 c8 W8 hc8;clear mkD hr7;replace hc:=hc8;clear hc8;obtain ⟨⟨n0,n1,n2,n3,n4,n5⟩,nf⟩:=hc.1.cells)
     | (at_builtin;refine Pa.wp_oneE (l:=A.1++RB.1) rfl _ _ rfl ⟨23,0,(Pa.typT ts (Pa.nx (Pa.need ts [41] A.2)):Int),0,X,(A.1.length:Int)+1⟩ hc rfl (by simp) rfl hll ?_;intro a9 c9 W9 hcE))
    go_ret
    exact hcE.out (by simp) rfl (by simp;try omega)
theorem Pa.fn_parN (n:Nat) (S0:Pa.S) (hS0:Pa.fnO ts s=S0) (hb:S0.bad=false) (hI:Pa.is ts [41] S0=false) (A:Pa.Nds × Pa.S) (hA:Pa.parsL ts n [] S0=some A) (hAr:Pa.is ts [45,62] (Pa.need ts [41] A.2)=false) (RB:Pa.Nds × Pa.S) (hBl:(∀ W,Pa.D ts g a c (Pa.need ts [41] A.2) W→Calls Tryz.prog 27 #[.pointer (some ⟨g,0,none⟩)] W (Pa.Out ts g a c RB W))) (hl:A.1.length+RB.1.length+1≤1000000) (hD:Pa.D ts g a c s w) :
  Calls Tryz.prog 11 #[.pointer (some ⟨g,0,none⟩)] w (Pa.Out ts g a c (A.1++RB.1++[⟨23,0,0,0,Mill.ba (Pa.nameT ts (Pa.need ts [102,110] s)),(A.1.length:Int)+1⟩],RB.2) w):=by
 have hgw:=hD.lt
 obtain ⟨W0,hW0⟩:∃ W,w.alloc (.cells #[] 43)=W:=⟨_,rfl⟩
 have hr0:Pa.Row w.heap.size W0 (.slice (some ⟨w.heap.size,0,none⟩) 0 0) []:=by rw [← hW0];exact Pa.new_nds w _ (Nat.le_refl _) [] (by simp) #[] rfl
 have hB0:Below w.heap.size w W0:=by rw [← hW0];exact (Below.refl _ _).alloc (Nat.le_refl _) _
 have hW0s:W0.heap.size=w.heap.size+1:=by rw [← hW0];simp
 have hD0:=hD.below hB0
 have hF0:Pa.Fr g w W0:=Pa.Fr.of_below hB0
 obtain ⟨X,HX⟩:∃ X,Hid (Mill.ba (Pa.nameT ts (Pa.need ts [102,110] s))=X):=⟨_,rfl⟩
 have mkA:True:=trivial
 have mkB:True:=trivial
 rw [HX.out]
 have HBl:Hid (∀ W,Pa.D ts g a c (Pa.need ts [41] A.2) W→Calls Tryz.prog 27 #[.pointer (some ⟨g,0,none⟩)] W (Pa.Out ts g a c RB W)):=hBl
 have HA:Hid (Pa.parsL ts n [] S0=some A):=hA
 have HS0:Hid (Pa.need ts [40] (Pa.name ts (Pa.need ts [102,110] s))=S0):=hS0
 have hlm:A.1.length+RB.1.length≤1000000:=by omega
 have hll:A.1.length+RB.1.length+1≤1000000:=hl
 have mkC:True:=trivial
 have mkT:True:=trivial
 have mkR:True:=trivial
 have mkN:True:=trivial
 have mkK:True:=trivial
 clear hBl hA
 go_enter Tryz.func11,Tryz.ntmps11
 go_wp2_with (first
  | (have _t:=mkA;go_at_call 23;refine (Pa.need_any [102,110] hD0).mono ?_;rintro e V1 ⟨rfl,hD1,hF1⟩;have hr1:=hF1.own hr0 hgw;have hF1':=hF0.trans hF1;have hs1:=hF1.size;clear mkA)
  | (have _t:=hr1;go_at_call 24;refine (Pa.name_any hD1).mono ?_;rintro e V2 ⟨rfl,hD2,hF2⟩;have hr2:=hF2.own hr1 hgw;rw [HX.out];have hc:=Pa.Ce.start hD2 (hF1'.trans hF2) hr2 hgw (by have:=hF2.size;omega) X;clear hr1 hr2)
  | (have _t:=mkB;go_at_call 23;refine (Pa.need_any [40] hc.1.D).mono ?_;rintro e V3 ⟨rfl,hT⟩;replace hc:=hc.to hT;rw [HS0.out] at hc;clear mkB hT;obtain ⟨c0,c1,c2,f1,f2⟩:=hc.1.D.cells;rw [hb] at c2)
  | (have _t:=c2;go_at_call 25;refine (Pa.opt_any [41] hc.1.D).mono ?_;rintro e V4 ⟨rfl,hT⟩;replace hc:=hc.to hT;clear hT c0 c1 c2 f1 f2;rw [hI];rw [Pa.not_opt hI] at hc))
 obtain ⟨nb,hnb⟩:∃ nb,V2.heap.size=nb:=⟨_,rfl⟩
 rw [hnb] at hc ⊢
 clear hnb
 go_loopw [3,5] (fun ov _ wr => ∃ (m:Nat) (l:Pa.Nds) (s':Pa.S) (oa:Option Addr) (oc:Nat),m≤n∧ov = .slice oa l.length oc∧Pa.Ce ts g a c w nb ⟨23,0,0,0,X,(l.length:Int)+1⟩ s' wr oa oc l∧Pa.parsL ts m l s'=some A) (fun ov _ _=>A.1.length+1 - Pa.lenV ov)
 case atStart=>exact ⟨n,[],S0,_,_,Nat.le_refl _,rfl,hc,HA.out⟩
 case round =>
  clear hc
  obtain ⟨m,l,s',oa,oc,hm,rfl,hc,hL⟩:=hrel
  obtain ⟨m,rfl⟩:∃ m',m=m'+1:=by
   cases m with
   | zero=>simp [Pa.parsL] at hL
   | succ m=>exact ⟨m,rfl⟩
  have hlen:=Pa.parsL_len _ _ _ _ hL
  rw [Pa.parsL] at hL
  obtain ⟨c0,c1,c2,f1,f2⟩:=hc.1.D.cells
  cases hb2:s'.bad with
  | true =>
   rw [hb2] at hL c2
   simp only [if_true,Option.some.injEq] at hL
   have e1:l=A.1:=congrArg Prod.fst hL
   have e2:s'=A.2:=congrArg Prod.snd hL
   subst e1
   subst e2
   clear hL hb2 hlen
   go_wp2_with (first
    | (have _t:=mkR;go_at_call 23;refine (Pa.need_any [41] hc.1.D).mono ?_;rintro e V4 ⟨rfl,hT⟩;replace hc:=hc.to hT;clear hT mkR)
    | (have _t:=mkC;go_at_call 25;refine (Pa.opt_any [45,62] hc.1.D).mono ?_;rintro e V5 ⟨rfl,hT⟩;replace hc:=hc.to hT;clear hT mkC;rw [hAr];rw [Pa.not_opt hAr] at hc)
    | (go_at_call 27;refine (HBl.out _ hc.1.D).mono ?_;rintro e V7 ⟨va7,vc7,rfl,hr7,hT⟩;replace hc:=hc.to hT;clear hT;have mkD:True:=trivial)
    | (have _t:=mkD;at_builtin;refine Pa.wp_midE (l:=A.1) rfl _ _ rfl hc rfl rfl rfl hr7 hlm ?_;intro a8 c8 W8 hc8;clear mkD hr7;replace hc:=hc8;clear hc8;obtain ⟨⟨n0,n1,n2,n3,n4,n5⟩,nf⟩:=hc.1.cells)
    | (at_builtin;refine Pa.wp_oneE (l:=A.1++RB.1) rfl _ _ rfl ⟨23,0,0,0,X,(A.1.length:Int)+1⟩ hc rfl (by simp) rfl hll ?_;intro a9 c9 W9 hcE))
   go_ret
   exact hcE.out (by simp) rfl (by simp;try omega)
  | false =>
   rw [hb2] at hL c2
   simp only [Bool.false_eq_true,if_false] at hL
   clear hb2
   obtain ⟨Y,HY⟩:∃ Y,Hid (Mill.ba (Pa.nameT ts s')=Y):=⟨_,rfl⟩
   obtain ⟨t,Ht⟩:∃ t,Hid (Pa.typT ts (Pa.name ts s')=t):=⟨_,rfl⟩
   rw [HY.out,Ht.out] at hL
   have hw1:wrap64 ((l.length:Int)+1+1)=(l.length:Int)+1+1:=by rw [wrap64];omega
   have hl1:l.length+1≤1000000:=by omega
   cases hI2:Pa.is ts [44] (Pa.typ ts (Pa.name ts s')) with
   | true =>
    rw [hI2] at hL
    simp only [if_true] at hL
    have hlen2:=Pa.parsL_len _ _ _ _ hL
    simp only [List.length_append,List.length_cons,List.length_nil] at hlen2
    have HL:Hid (Pa.parsL ts m (l++[⟨22,0,(t:Int),0,Y,0⟩]) (Pa.nx (Pa.typ ts (Pa.name ts s')))=some A):=hL
    clear hL
    go_wp2_with (first
    | (have _t:=mkN;go_at_call 24;refine (Pa.name_any hc.1.D).mono ?_;rintro e V1 ⟨rfl,hT⟩;replace hc:=hc.to hT;clear hT mkN c0 c1 c2 f1 f2;rw [HY.out];have mkP:True:=trivial)
    | (have _t:=mkP;go_at_call 26;refine (Pa.typ_any (hc.alloc _).1.D).mono ?_;rintro e V2 ⟨rfl,hT⟩;clear mkP;obtain ⟨q,qf,hpb,hpo⟩:=hc.par hT;replace hc:=(hc.alloc _).to hT;rw [Ht.out];clear hT;obtain ⟨pb,hpb2⟩:∃ pb,V1.heap.size=pb:=⟨_,rfl⟩;rw [hpb2] at q qf hpb hpo;have pq2:V2.cell? ⟨pb,2,none⟩=some (.int .i64 0):=(by rw [Lib.cell_of_heap q];rfl);have hcq:=hc.other 2 (.int .i64 (t:Int)) hpb hpo;obtain ⟨V3,hV3⟩:∃ V3,V2.setCell ⟨pb,2,none⟩ (.int .i64 (t:Int))=V3:=⟨_,rfl⟩;obtain ⟨q0,q1,q2,q3,q4,q5⟩:=Pa.par_cells q hV3;rw [hV3] at hcq;replace hc:=hcq;clear hcq;have mkO:True:=trivial)
    | (have _t:=mkO;at_builtin;refine Pa.wp_oneE (l:=l) rfl _ _ rfl ⟨22,0,(t:Int),0,Y,0⟩ hc rfl rfl rfl hl1 ?_;intro a4 c4 W4 hc4;clear mkO q0 q1 q2 q3 q4 q5 hV3 pq2;replace hc:=hc4;clear hc4;obtain ⟨⟨n0,n1,n2,n3,n4,n5⟩,nf⟩:=hc.1.cells;replace hc:=hc.set 5 (.int .i64 ((l.length:Int)+1+1)) ⟨23,0,0,0,X,((l++[(⟨22,0,(t:Int),0,Y,0⟩:Mill.Nd)]).length:Int)+1⟩ (by simp))
    | (have _t:=mkK;go_at_call 25;refine (Pa.opt_any [44] hc.1.D).mono ?_;rintro e V5 ⟨rfl,hT⟩;replace hc:=hc.to hT;clear hT mkK n0 n1 n2 n3 n4 n5 nf;rw [hI2];rw [Pa.is_opt hI2] at hc))
    refine ⟨⟨m,l++[⟨22,0,(t:Int),0,Y,0⟩],_,a4,c4,by omega, ?_,hc,HL.out⟩, ?_⟩
    ·simp
    ·simp [Pa.lenV];omega
   | false =>
    rw [hI2] at hL
    simp only [Bool.false_eq_true,if_false,Option.some.injEq] at hL
    have e1:l++[⟨22,0,(t:Int),0,Y,0⟩]=A.1:=congrArg Prod.fst hL
    have e2:Pa.typ ts (Pa.name ts s')=A.2:=congrArg Prod.snd hL
    have HE1:Hid (l++[⟨22,0,(t:Int),0,Y,0⟩]=A.1):=e1
    have HE2:Hid (Pa.typ ts (Pa.name ts s')=A.2):=e2
    clear hL e1 e2 hlen
    go_wp2_with (first
    | (have _t:=mkN;go_at_call 24;refine (Pa.name_any hc.1.D).mono ?_;rintro e V1 ⟨rfl,hT⟩;replace hc:=hc.to hT;clear hT mkN c0 c1 c2 f1 f2;rw [HY.out];have mkP:True:=trivial)
    | (have _t:=mkP;go_at_call 26;refine (Pa.typ_any (hc.alloc _).1.D).mono ?_;rintro e V2 ⟨rfl,hT⟩;clear mkP;obtain ⟨q,qf,hpb,hpo⟩:=hc.par hT;replace hc:=(hc.alloc _).to hT;rw [Ht.out];clear hT;obtain ⟨pb,hpb2⟩:∃ pb,V1.heap.size=pb:=⟨_,rfl⟩;rw [hpb2] at q qf hpb hpo;have pq2:V2.cell? ⟨pb,2,none⟩=some (.int .i64 0):=(by rw [Lib.cell_of_heap q];rfl);have hcq:=hc.other 2 (.int .i64 (t:Int)) hpb hpo;obtain ⟨V3,hV3⟩:∃ V3,V2.setCell ⟨pb,2,none⟩ (.int .i64 (t:Int))=V3:=⟨_,rfl⟩;obtain ⟨q0,q1,q2,q3,q4,q5⟩:=Pa.par_cells q hV3;rw [hV3] at hcq;replace hc:=hcq;clear hcq;have mkO:True:=trivial)
    | (have _t:=mkO;at_builtin;refine Pa.wp_oneE (l:=l) rfl _ _ rfl ⟨22,0,(t:Int),0,Y,0⟩ hc rfl rfl rfl hl1 ?_;intro a4 c4 W4 hc4;clear mkO q0 q1 q2 q3 q4 q5 hV3 pq2;replace hc:=hc4;clear hc4;obtain ⟨⟨n0,n1,n2,n3,n4,n5⟩,nf⟩:=hc.1.cells;replace hc:=hc.set 5 (.int .i64 ((l.length:Int)+1+1)) ⟨23,0,0,0,X,((l++[(⟨22,0,(t:Int),0,Y,0⟩:Mill.Nd)]).length:Int)+1⟩ (by simp))
    | (have _t:=mkK;go_at_call 25;refine (Pa.opt_any [44] hc.1.D).mono ?_;rintro e V5 ⟨rfl,hT⟩;replace hc:=hc.to hT;clear hT mkK n0 n1 n2 n3 n4 n5 nf;rw [hI2];rw [Pa.not_opt hI2] at hc;rw [HE1.out,HE2.out] at hc;clear HE2)
     | (have _t:=mkR;go_at_call 23;refine (Pa.need_any [41] hc.1.D).mono ?_;rintro e V4 ⟨rfl,hT⟩;replace hc:=hc.to hT;clear hT mkR)
     | (have _t:=mkC;go_at_call 25;refine (Pa.opt_any [45,62] hc.1.D).mono ?_;rintro e V5 ⟨rfl,hT⟩;replace hc:=hc.to hT;clear hT mkC;rw [hAr];rw [Pa.not_opt hAr] at hc)
     | (go_at_call 27;refine (HBl.out _ hc.1.D).mono ?_;rintro e V7 ⟨va7,vc7,rfl,hr7,hT⟩;replace hc:=hc.to hT;clear hT;have mkD:True:=trivial)
     | (have _t:=mkD;at_builtin;refine Pa.wp_midE (l:=A.1) rfl _ _ rfl hc rfl (by rw [← HE1.out];simp) rfl hr7 hlm ?_;intro a8 c8 W8 hc8;clear mkD hr7;replace hc:=hc8;clear hc8;obtain ⟨⟨n0,n1,n2,n3,n4,n5⟩,nf⟩:=hc.1.cells)
     | (at_builtin;refine Pa.wp_oneE (l:=A.1++RB.1) rfl _ _ rfl ⟨23,0,0,0,X,(A.1.length:Int)+1⟩ hc rfl (by simp) rfl hll ?_;intro a9 c9 W9 hcE))
    go_ret
    exact hcE.out (by simp) rfl (by simp;try omega)
variable {ts:List (Mill.Piece × Nat)} {g:Nat} {a:Option Addr} {c:Nat} {s:Pa.S} {w:World}
theorem Pa.fn_any (n:Nat) (hn:n≤500000) (R:Pa.Nds × Pa.S) (hR:Pa.fn ts (n+1) s=some R) (hl:R.1.length≤1000000) (hD:Pa.D ts g a c s w) :
  Calls Tryz.prog 11 #[.pointer (some ⟨g,0,none⟩)] w (Pa.Out ts g a c R w):=by
 have hY:∀ (s':Pa.S) (r:Pa.Nds × Pa.S),Pa.block ts n s'=some r→r.1.length≤1000000→∀ W,Pa.D ts g a c s' W→Calls Tryz.prog 27 #[.pointer (some ⟨g,0,none⟩)] W (Pa.Out ts g a c r W):=fun s' r h1 h2 W hW=>(Pa.three n hn).1 s' W r h1 h2 hW
 rw [Pa.fn] at hR
 obtain ⟨S0,hS0⟩:∃ S0,Pa.fnO ts s=S0:=⟨_,rfl⟩
 rw [hS0] at hR
 cases hb:S0.bad with
 | true =>
  rw [hb,if_pos rfl] at hR
  have hAr:Pa.is ts [45,62] S0=false:=by simp [Pa.is,hb]
  simp only [hAr,Bool.false_eq_true,if_false,Option.map_eq_some_iff] at hR
  obtain ⟨r,hr,rfl⟩:=hR
  exact Pa.fn_badY S0 hS0 hb hAr r (hY _ r hr (by simp at hl;omega)) (by simpa using hl) hD
 | false =>
  rw [hb,if_neg (by simp)] at hR
  cases hI:Pa.is ts [41] S0 with
  | true =>
   rw [hI,if_pos rfl] at hR
   cases hAr:Pa.is ts [45,62] (Pa.nx S0) with
   | true =>
    simp only [hAr,if_true,Option.map_eq_some_iff] at hR
    obtain ⟨r,hr,rfl⟩:=hR
    exact Pa.fn_noneY S0 hS0 hb hI hAr r (hY _ r hr (by simp at hl;omega)) (by simpa using hl) hD
   | false =>
    simp only [hAr,Bool.false_eq_true,if_false,Option.map_eq_some_iff] at hR
    obtain ⟨r,hr,rfl⟩:=hR
    exact Pa.fn_noneN S0 hS0 hb hI hAr r (hY _ r hr (by simp at hl;omega)) (by simpa using hl) hD
  | false =>
   rw [hI,if_neg (by simp)] at hR
   cases hA:Pa.parsL ts n [] S0 with
   | none=>rw [hA] at hR;simp at hR
   | some A =>
    rw [hA] at hR
    simp only [Option.map_some] at hR
    cases hAr:Pa.is ts [45,62] (Pa.need ts [41] A.2) with
    | true =>
     simp only [hAr,if_true,Option.map_eq_some_iff] at hR
     obtain ⟨r,hr,rfl⟩:=hR
     exact Pa.fn_parY n S0 hS0 hb hI A hA hAr r (hY _ r hr (by simp at hl;omega)) (by simp at hl ⊢;omega) hD
    | false =>
     simp only [hAr,Bool.false_eq_true,if_false,Option.map_eq_some_iff] at hR
     obtain ⟨r,hr,rfl⟩:=hR
     exact Pa.fn_parN n S0 hS0 hb hI A hA hAr r (hY _ r hr (by simp at hl;omega)) (by simp at hl ⊢;omega) hD
inductive Pa.Res where
 | no (c:Int) (p:Nat)
 | yes (ns:List Mill.Nd)
def Pa.Post (r:Pa.Res) (w:World) (e:Ending) (w':World):Prop:=Below w.heap.size w w'∧match r with
 | .no c p=>e = .returned (.tuple #[.agg #[.slice none 0 0],.agg #[.int .i64 c,.int .i64 (p:Int)]])
 | .yes ns => ∃ va vc,e = .returned (.tuple #[.agg #[.slice va ns.length vc],.agg #[.int .i64 0,.int .i64 0]])∧Pa.Row w.heap.size w' (.slice va ns.length vc) ns
def Pa.atOf (ts:List (Mill.Piece × Nat)) (n p:Nat):Nat:=match ts[p]? with | some q=>q.2 | none=>n
def Pa.root (out:Pa.Nds) (k:Nat):Pa.Nds:=out++[⟨24,0,0,0,⟨#[]⟩,(k:Int)⟩]
def Pa.ends (ts:List (Mill.Piece × Nat)) (n:Nat) (r:Pa.Nds × Nat × Pa.S):Pa.Res:=if r.2.2.bad then .no 6 (Pa.atOf ts n r.2.2.p) else if Mill.valid (Pa.root r.1 r.2.1) then .yes (Pa.root r.1 r.2.1) else .no 7 0
theorem Pa.tokCs_at (ts:List (Mill.Piece × Nat)) (i:Nat) (h:i < ts.length) (j:Nat) (hj:j < 5):(Mill.tokCs ts)[i * 5+j]? = (Mill.tokC ts[i])[j]?:=by
 induction ts generalizing i with
 | nil=>simp at h
 | cons t r ih =>
  cases i with
  | zero =>
   simp only [Mill.tokCs,List.flatMap_cons,Nat.zero_mul,Nat.zero_add]
   rw [List.getElem?_append_left (by simp [Mill.tokC];omega)];rfl
  | succ i =>
   simp only [Mill.tokCs,List.flatMap_cons]
   rw [List.getElem?_append_right (by simp [Mill.tokC];omega)]
   have e:(i+1) * 5+j - (Mill.tokC t).length=i * 5+j:=by simp [Mill.tokC];omega
   rw [e]
   exact ih i (by simpa using h)
theorem Pa.own_tks {w:World} {B:Nat} {v:Value} (h:w.ownsRow B 41 5 v ts.length (Mill.tokCs ts)):∃ a c,v = .slice a ts.length c∧ts.length≤c∧Pa.Tks w a ts w.heap.size:=by
 rcases h.2 with ⟨rfl,h0⟩ | ⟨g,cap,cur,rfl,hg,hgg,hnc,_⟩
 ·exact ⟨none,0,by rw [h0],by omega,fun i hi=>by omega⟩
 ·refine ⟨_,_,rfl,hnc,fun i hi=>⟨g,rfl,(Array.getElem?_eq_some_iff.1 hgg).1,fun j u hu => ?_⟩⟩
  have hj:j < 5:=by have:=(List.getElem?_eq_some_iff.1 hu).1;simpa [Mill.tokC] using this
  rw [h.cellAt (i * 5+j) (by omega),← hu]
  exact Pa.tokCs_at ts i hi j hj
variable {ts:List (Mill.Piece × Nat)} {w:World}
theorem Pa.progL_len : ∀ (m k:Nat) (l:Pa.Nds) (s:Pa.S) (R:Pa.Nds × Nat × Pa.S),Pa.progL ts m k l s=some R→l.length≤R.1.length
 | 0,k,l,s,R,h=>by simp [Pa.progL] at h
 | m+1,k,l,s,R,h=>by
  rw [Pa.progL] at h
  split at h
  ·split at h
   ·simp at h
   ·have:=Pa.progL_len m _ _ _ R h
    simp at this ⊢;omega
  ·simp at h;subst h;simp
theorem Pa.root_at {W:World} {B k:Nat} {z:Int} {l:List Mill.Nd} {a':Option Addr} {c':Nat} (hz:z=(k:Int)) (hr:Pa.Row B W (.slice a' (l++[(⟨24,0,0,0,⟨#[]⟩,z⟩:Mill.Nd)]).length c') (l++[(⟨24,0,0,0,⟨#[]⟩,z⟩:Mill.Nd)])):Mill.NodesAt W (.slice a' (l.length+1) c') (Pa.root l k):=by
 subst hz
 have h:=Mill.nodesAt_own hr
 rw [List.length_append] at h
 exact h
theorem Pa.root_row {W:World} {B k:Nat} {z:Int} {l:List Mill.Nd} {a':Option Addr} {c':Nat} (hz:z=(k:Int)) (hr:Pa.Row B W (.slice a' (l++[(⟨24,0,0,0,⟨#[]⟩,z⟩:Mill.Nd)]).length c') (l++[(⟨24,0,0,0,⟨#[]⟩,z⟩:Mill.Nd)])):W.ownsRow B 43 6 (.slice a' (l.length+1) c') (l.length+1) (Mill.ndCs (Pa.root l k)):=by
 subst hz
 unfold Pa.Row at hr
 rw [List.length_append] at hr
 exact hr
theorem Pa.root_len {W:World} {B k:Nat} {l:List Mill.Nd} {a':Option Addr} {c':Nat} (hr:W.ownsRow B 43 6 (.slice a' (l.length+1) c') (l.length+1) (Mill.ndCs (Pa.root l k))):W.ownsRow B 43 6 (.slice a' (Pa.root l k).length c') (Pa.root l k).length (Mill.ndCs (Pa.root l k)):=by
 have e:(Pa.root l k).length=l.length+1:=by simp [Pa.root]
 rw [e];exact hr
theorem Pa.res_cells {W1:World} (hb:Below ((w.alloc (.cells #[.slice none 0 0] 24)).alloc (.cells #[.int .i64 0,.int .i64 0] 26)).heap.size ((w.alloc (.cells #[.slice none 0 0] 24)).alloc (.cells #[.int .i64 0,.int .i64 0] 26)) W1) :
  W1.cell? ⟨w.heap.size,0,none⟩=some (.slice none 0 0)∧W1.cell? ⟨w.heap.size+1,0,none⟩=some (.int .i64 0)∧W1.cell? ⟨w.heap.size+1,1,none⟩=some (.int .i64 0)∧W1.frozen? ⟨w.heap.size,0,none⟩=false∧W1.frozen? ⟨w.heap.size+1,0,none⟩=false∧W1.frozen? ⟨w.heap.size+1,1,none⟩=false:=by
 have e:=Mill.bcell hb
 refine ⟨?_, ?_, ?_, ?_, ?_, ?_⟩
 ·rw [e.1 _ _ (by simp only [World.size_alloc];omega)];simp [go_sem]
 ·rw [e.1 _ _ (by simp only [World.size_alloc];omega)];simp [go_sem]
 ·rw [e.1 _ _ (by simp only [World.size_alloc];omega)];simp [go_sem]
 ·rw [e.2 _ _ (by simp only [World.size_alloc];omega)];simp [go_sem]
 ·rw [e.2 _ _ (by simp only [World.size_alloc];omega)];simp [go_sem]
 ·rw [e.2 _ _ (by simp only [World.size_alloc];omega)];simp [go_sem]
theorem Pa.res_end {V:World} {n:Nat} {x0 x1 x2 a b c:Value} (q0:V.cell? ⟨n,0,none⟩=some x0) (q1:V.cell? ⟨n+1,0,none⟩=some x1) (q2:V.cell? ⟨n+1,1,none⟩=some x2) :
  (((V.setCell ⟨n,0,none⟩ a).setCell ⟨n+1,0,none⟩ b).setCell ⟨n+1,1,none⟩ c).cell? ⟨n,0,none⟩=some a∧(((V.setCell ⟨n,0,none⟩ a).setCell ⟨n+1,0,none⟩ b).setCell ⟨n+1,1,none⟩ c).cell? ⟨n+1,0,none⟩=some b∧(((V.setCell ⟨n,0,none⟩ a).setCell ⟨n+1,0,none⟩ b).setCell ⟨n+1,1,none⟩ c).cell? ⟨n+1,1,none⟩=some c:=by
 refine ⟨?_, ?_, ?_⟩
 ·rw [World.cell?_setCell_other _ _ _ _ (by simp),World.cell?_setCell_other _ _ _ _ (by simp),World.cell?_setCell_same _ _ _ q0]
 ·rw [World.cell?_setCell_other _ _ _ _ (by simp)]
  exact World.cell?_setCell_same _ _ _ (by rw [World.cell?_setCell_other _ _ _ _ (by simp)];exact q1)
 ·exact World.cell?_setCell_same _ _ _ (by rw [World.cell?_setCell_other _ _ _ _ (by simp),World.cell?_setCell_other _ _ _ _ (by simp)];exact q2)
theorem Pa.res_below {V:World} {a b c:Value} (hb:Below w.heap.size w V):Below w.heap.size w (((V.setCell ⟨w.heap.size,0,none⟩ a).setCell ⟨w.heap.size+1,0,none⟩ b).setCell ⟨w.heap.size+1,1,none⟩ c) :=
 ((hb.setCell (p:=⟨w.heap.size,0,none⟩) (Nat.le_refl _) _).setCell (p:=⟨w.heap.size+1,0,none⟩) (by simp) _).setCell (p:=⟨w.heap.size+1,1,none⟩) (by simp) _
theorem Pa.specParse_bad (src:ByteArray) (r:List (Mill.Piece × Nat) × Int × Nat) (hr:Mill.scan src=r) (h0:r.2.1≠0) (hs:∀ W,Calls Tryz.prog 10 #[.string src] W fun e w'=>Mill.ScanPost W (Mill.scan src) e w') :
  Calls Tryz.prog 4 #[.string src] w (Pa.Post (.no r.2.1 r.2.2) w):=by
 rw [hr] at hs
 have HS:Hid (∀ W,Calls Tryz.prog 10 #[.string src] W fun e w'=>Mill.ScanPost W r e w'):=hs
 obtain ⟨C,hC⟩:∃ C,r.2.1=C:=⟨_,rfl⟩
 obtain ⟨P,hP⟩:∃ P,r.2.2=P:=⟨_,rfl⟩
 rw [hC] at h0 ⊢
 rw [hP]
 have h0b:(C != 0)=true:=by simpa using h0
 clear hs
 go_enter Tryz.func4,Tryz.ntmps4
 go_wp2_with (go_at_call 10;refine (HS.out _).mono ?_;rintro e W1 ⟨v,rfl,hown,hb⟩;rw [hC,hP];simp only [Mill.faultV];obtain ⟨va,vc,rfl⟩:=Pa.rowLen hown)
 have hw1:w.heap.size+2≤W1.heap.size:=by have:=hb.size;simpa using this
 have HB:Hid (Below w.heap.size w W1):=(((Below.refl _ w).alloc (Nat.le_refl _) _).alloc (by simp) _).trans (hb.mono (by simp;omega))
 obtain ⟨q0,q1,q2,z0,z1,z2⟩:=Pa.res_cells hb
 obtain ⟨V1,hV1⟩:∃ V,W1.alloc (.cells #[.int .i64 C,.int .i64 (P:Int)] 26)=V:=⟨_,rfl⟩
 have hbV:Below W1.heap.size W1 V1:=by rw [← hV1];exact (Below.refl _ _).alloc (Nat.le_refl _) _
 have e:=Mill.bcell hbV
 rw [← e.1 _ _ (by omega)] at q0 q1 q2
 rw [← e.2 _ _ (by omega)] at z0 z1 z2
 have p0:V1.cell? ⟨W1.heap.size,0,none⟩=some (.int .i64 C):=by rw [← hV1];simp [go_sem]
 have p1:V1.cell? ⟨W1.heap.size,1,none⟩=some (.int .i64 (P:Int)):=by rw [← hV1];simp [go_sem]
 have HBV:Hid (Below w.heap.size w V1):=HB.out.trans (hbV.mono (by omega))
 have hne0:W1.heap.size≠w.heap.size:=by omega
 have hne1:W1.heap.size≠w.heap.size+1:=by omega
 rw [hV1]
 clear hV1 hbV e hown hb HB
 obtain ⟨fb,hfb⟩:∃ fb,W1.heap.size=fb:=⟨_,rfl⟩
 rw [hfb] at p0 p1 hne0 hne1 ⊢
 clear hfb hw1
 go_region
 go_wp2_with fail
 obtain ⟨y0,y1,y2⟩:=Pa.res_end (a:=.slice none 0 0) (b:=.int .i64 C) (c:=.int .i64 (P:Int)) q0 q1 q2
 have hbE:=Pa.res_below (a:=.slice none 0 0) (b:=.int .i64 C) (c:=.int .i64 (P:Int)) HBV.out
 obtain ⟨V2,hV2⟩:∃ V2,(((V1.setCell ⟨w.heap.size,0,none⟩ (.slice none 0 0)).setCell ⟨w.heap.size+1,0,none⟩ (.int .i64 C)).setCell ⟨w.heap.size+1,1,none⟩ (.int .i64 (P:Int)))=V2:=⟨_,rfl⟩
 rw [hV2] at y0 y1 y2 hbE ⊢
 clear hV2
 refine bodyPost_ret (v:=.tuple #[.agg #[.slice none 0 0],.agg #[.int .i64 C,.int .i64 (P:Int)]]) (by simp [results,Tryz.results4,go_sem,y0,y1,y2]) rfl ?_
 exact ⟨Pa.below_drew hbE,rfl⟩
theorem Pa.specParse_ok (src:ByteArray) (N:Nat) (hN:N≤500000) (ts:List (Mill.Piece × Nat)) (P:Nat) (hr:Mill.scan src=(ts,0,P)) (hlen:ts.length≤12000) (R:Pa.Nds × Nat × Pa.S) (hR:Pa.progL ts N 0 [] ⟨0,false⟩=some R) (hl:R.1.length+1≤1000000) (hs:∀ W,Calls Tryz.prog 10 #[.string src] W fun e w'=>Mill.ScanPost W (Mill.scan src) e w') :
  Calls Tryz.prog 4 #[.string src] w (Pa.Post (Pa.ends ts src.size R) w):=by
 rw [hr] at hs
 have HS:Hid (∀ W,Calls Tryz.prog 10 #[.string src] W fun e w'=>Mill.ScanPost W (ts,0,P) e w'):=hs
 have HR:Hid (Pa.progL ts N 0 [] ⟨0,false⟩=some R):=hR
 clear hs hr hR
 go_enter Tryz.func4,Tryz.ntmps4
 go_wp2_with (go_at_call 10;refine (HS.out _).mono ?_;rintro e W1 ⟨v,rfl,hown,hb⟩;simp only [Mill.faultV];obtain ⟨ta,tc,rfl,htc,htk⟩:=Pa.own_tks hown)
 have hw1:w.heap.size+2≤W1.heap.size:=by have:=hb.size;simpa using this
 have HB:Hid (Below w.heap.size w W1):=(((Below.refl _ w).alloc (Nat.le_refl _) _).alloc (by simp) _).trans (hb.mono (by simp;omega))
 have hq:=Pa.res_cells hb
 obtain ⟨V0,hV0⟩:∃ V,(W1.alloc (.cells #[.int .i64 0,.int .i64 (P:Int)] 26)).alloc (.cells #[.slice ta ts.length tc,.int .i64 0,.bool false] 38)=V:=⟨_,rfl⟩
 have hbV:Below W1.heap.size W1 V0:=by rw [← hV0];exact ((Below.refl _ _).alloc (Nat.le_refl _) _).alloc (by simp) _
 have hsz:V0.heap.size=W1.heap.size+2:=by rw [← hV0];simp
 have hD0:Pa.D ts (W1.heap.size+1) ta tc ⟨0,false⟩ V0:=by
  refine ⟨?_, ?_,Nat.zero_le _,hlen,htc⟩
  ·rw [← hV0]
   have:=heap_alloc_new (W1.alloc (.cells #[.int .i64 0,.int .i64 (P:Int)] 26)) (.cells #[.slice ta ts.length tc,.int .i64 0,.bool false] 38)
   rw [World.size_alloc] at this
   exact this
  ·intro i hi
   obtain ⟨b,h1,h2,h3⟩:=htk i hi
   exact ⟨b,h1,by omega,fun j v hv=>by rw [hbV.cell (p:=⟨b,i * 5+j,none⟩) h2];exact h3 j v hv⟩
 obtain ⟨g,hg⟩:∃ g,W1.heap.size+1=g:=⟨_,rfl⟩
 have hg2:w.heap.size+2 < g:=by omega
 have hgV:g < V0.heap.size:=by omega
 rw [hg] at hD0
 have e:=Mill.bcell hbV
 obtain ⟨q0,q1,q2,z0,z1,z2⟩:=hq
 rw [← e.1 _ _ (by omega)] at q0 q1 q2
 rw [← e.2 _ _ (by omega)] at z0 z1 z2
 have HBV:Hid (Below w.heap.size w V0):=HB.out.trans (hbV.mono (by omega))
 have HQ:Hid (∀ V,Pa.Fr g V0 V→(V.cell? ⟨w.heap.size,0,none⟩=some (.slice none 0 0)∧V.cell? ⟨w.heap.size+1,0,none⟩=some (.int .i64 0)∧V.cell? ⟨w.heap.size+1,1,none⟩=some (.int .i64 0)∧V.frozen? ⟨w.heap.size,0,none⟩=false∧V.frozen? ⟨w.heap.size+1,0,none⟩=false∧V.frozen? ⟨w.heap.size+1,1,none⟩=false)∧Below w.heap.size w V):=fun V hF =>
  ⟨⟨(hF.cell (by omega) (by omega)).trans q0,(hF.cell (by omega) (by omega)).trans q1,(hF.cell (by omega) (by omega)).trans q2,(hF.frozen (by omega) (by omega)).trans z0,(hF.frozen (by omega) (by omega)).trans z1,(hF.frozen (by omega) (by omega)).trans z2⟩,HBV.out.trans (hF.below (by omega) (by omega))⟩
 have hr0:Pa.Row V0.heap.size (V0.alloc (.cells #[] 43)) (.slice (some ⟨W1.heap.size+1+1,0,none⟩) 0 0) []:=by
  have:=Pa.new_nds V0 _ (Nat.le_refl _) [] (by simp) #[] rfl
  rw [hsz] at this ⊢;exact this
 obtain ⟨V1,hV1⟩:∃ V,V0.alloc (.cells #[] 43)=V:=⟨_,rfl⟩
 have hF1:Pa.Fr g V0 V1:=by rw [← hV1];exact (Pa.Fr.refl _ _).alloc _
 have hD1:Pa.D ts g ta tc ⟨0,false⟩ V1:=by rw [← hV1];exact hD0.alloc _
 rw [hV1] at hr0
 rw [hV0,hV1,hg]
 rw [hg] at hr0
 have hg3:w.heap.size+2 < V0.heap.size:=by omega
 clear hV0 hV1 hbV e hown hb HB htk q0 q1 q2 z0 z1 z2 hD0 HBV hsz hg hw1
 go_loopw [7,8] (fun ov kv wr => ∃ (m k:Nat) (z:Int) (l:Pa.Nds) (s':Pa.S) (oa:Option Addr) (oc:Nat),m≤N∧ov = .slice oa l.length oc∧kv = .int .i64 z∧Hid (z=(k:Int))∧Pa.Row V0.heap.size wr (.slice oa l.length oc) l∧Pa.D ts g ta tc s' wr∧Pa.Fr g V0 wr∧Pa.progL ts m k l s'=some R∧k≤N - m) (fun _ kv _=>N+1 - (intOf kv).toNat)
 case atStart=>exact ⟨N,0,0,[],_,_,_,Nat.le_refl _,rfl,rfl,rfl,hr0,hD1,hF1,HR.out,by omega⟩
 case round =>
  obtain ⟨m,k,z,l,s',oa,oc,hm,rfl,rfl,HZ,hrw,hDr,hFr,hL,hkm⟩:=hrel
  obtain ⟨m,rfl⟩:∃ m',m=m'+1:=by
   cases m with
   | zero=>simp [Pa.progL] at hL
   | succ m=>exact ⟨m,rfl⟩
  have hlen2:=Pa.progL_len _ _ _ _ _ hL
  rw [Pa.progL] at hL
  obtain ⟨c0,c1,c2,f1,f2⟩:=hDr.cells
  by_cases hgo:s'.bad=false∧s'.p < ts.length
  ·rw [if_pos hgo] at hL
   have hb:=hgo.1
   have hp:=hgo.2
   rw [hb] at c2
   have hpI:(s'.p:Int) < (ts.length:Int):=by omega
   cases hE:Pa.fn ts m s' with
   | none=>rw [hE] at hL;simp at hL
   | some r =>
    rw [hE] at hL
    simp only at hL
    have hlen3:=Pa.progL_len _ _ _ _ _ hL
    simp only [List.length_append] at hlen3
    have hb2:l.length+r.1.length≤1000000:=by omega
    obtain ⟨m2,rfl⟩:∃ m',m=m'+1:=by
     cases m with
     | zero=>simp [Pa.fn] at hE
     | succ m=>exact ⟨m,rfl⟩
    have HE:Hid (∀ W,Pa.D ts g ta tc s' W→Calls Tryz.prog 11 #[.pointer (some ⟨g,0,none⟩)] W (Pa.Out ts g ta tc r W)):=fun W hW=>Pa.fn_any m2 (by omega) r hE (by omega) hW
    have HL:Hid (Pa.progL ts (m2+1) (k+1) (l++r.1) r.2=some R):=hL
    have hwk:wrap64 (z+1)=z+1:=by rw [HZ.out,wrap64];omega
    clear hL hE hlen2 hlen3 hgo hb HQ HS hr0 hF1 hD1 hg2 hg3 HR htc
    go_wp2_with (first
     | (go_at_call 11;refine (HE.out _ hDr).mono ?_;rintro e W2 ⟨va,vc,rfl,hr2,hD2,hF2⟩;have hr1':=hF2.own hrw hgV;have hF2':=hFr.trans hF2)
     | (at_builtin;refine Pa.wp_nds rfl _ _ rfl rfl rfl hr1' hr2 hF2'.size hb2 ?_;intro a' c' W3 hr3 hDg hFg hsz;have hD3:=hDg _ _ _ _ _ hD2 hgV;have hF3:=hFg g V0 hF2' (Nat.le_refl _);clear hDg hFg hr1' hr2 hsz c0 c1 c2 f1 f2))
    exact ⟨⟨m2+1,k+1,z+1,l++r.1,r.2,a',c',by omega,by simp,by rw [hwk],by rw [Hid,HZ.out];simp,hr3,hD3,hF3,HL.out,by omega⟩,by have:=HZ.out;simp [intOf];omega⟩
  ·rw [if_neg hgo] at hL
   simp only [Option.some.injEq] at hL
   subst hL
   obtain ⟨⟨q0,q1,q2,z0,z1,z2⟩,hbq⟩:=HQ.out wr hFr
   cases hb:s'.bad with
   | true =>
    rw [hb] at c2
    by_cases hp:s'.p < ts.length
    ·have hpI:(s'.p:Int) < (ts.length:Int):=by omega
     obtain ⟨b,hta,hbg,hcel⟩:=hDr.tks s'.p hp
     have k4:=hcel 4 _ rfl
     obtain ⟨Z,hZ⟩:∃ Z,(ts[s'.p]'hp).2=Z:=⟨_,rfl⟩
     rw [hZ] at k4
     have HEN:Hid (Pa.ends ts src.size (l,k,s') = .no 6 Z):=by simp [Hid,Pa.ends,hb,Pa.atOf,List.getElem?_eq_getElem hp,hZ]
     subst hta
     clear hb hcel hZ
     go_wp2_with fail
     obtain ⟨y0,y1,y2⟩:=Pa.res_end (a:=.slice none 0 0) (b:=.int .i64 6) (c:=.int .i64 (Z:Int)) q0 q1 q2
     have hbE:=Pa.res_below (a:=.slice none 0 0) (b:=.int .i64 6) (c:=.int .i64 (Z:Int)) hbq
     refine bodyPost_ret (v:=.tuple #[.agg #[.slice none 0 0],.agg #[.int .i64 6,.int .i64 (Z:Int)]]) (by simp [results,Tryz.results4,go_sem,y0,y1,y2]) rfl ?_
     rw [HEN.out]
     exact ⟨hbE,rfl⟩
    ·have hpI:¬ (s'.p:Int) < (ts.length:Int):=by omega
     have HEN:Hid (Pa.ends ts src.size (l,k,s') = .no 6 src.size):=by simp [Hid,Pa.ends,hb,Pa.atOf,List.getElem?_eq_none (Nat.le_of_not_lt hp)]
     clear hb
     go_wp2_with fail
     obtain ⟨y0,y1,y2⟩:=Pa.res_end (a:=.slice none 0 0) (b:=.int .i64 6) (c:=.int .i64 (src.size:Int)) q0 q1 q2
     have hbE:=Pa.res_below (a:=.slice none 0 0) (b:=.int .i64 6) (c:=.int .i64 (src.size:Int)) hbq
     refine bodyPost_ret (v:=.tuple #[.agg #[.slice none 0 0],.agg #[.int .i64 6,.int .i64 (src.size:Int)]]) (by simp [results,Tryz.results4,go_sem,y0,y1,y2]) rfl ?_
     rw [HEN.out]
     exact ⟨hbE,rfl⟩
   | false =>
    rw [hb] at c2
    have hp:¬ s'.p < ts.length:=fun h=>hgo ⟨hb,h⟩
    have hpI:¬ (s'.p:Int) < (ts.length:Int):=by omega
    have hl1:l.length+1≤1000000:=hl
    clear hgo
    have HZ2:Hid (z=(k:Int)):=HZ
    cases hV:Mill.valid (Pa.root l k) with
    | true =>
     have HEN:Hid (Pa.ends ts src.size (l,k,s') = .yes (Pa.root l k)):=by simp [Hid,Pa.ends,hb,hV]
     clear hb
     go_wp2_with (first
      | (at_builtin;refine Pa.wp_nd (l:=l) rfl _ _ rfl ⟨24,0,0,0,⟨#[]⟩,z⟩ rfl rfl rfl hrw hFr.size hl1 ?_;intro a5 c5 W5 hr5 hDg hFg hsz5;have hF5:=hFg g V0 hFr (Nat.le_refl _);clear hDg hFg hsz5;have hn5:=Pa.root_at HZ2.out hr5;have hr5':=Pa.root_row HZ2.out hr5;clear hr5 q0 q1 q2 z0 z1 z2 hbq)
      | (go_at_call 12;refine (specValidTree_any (Pa.root l k) (.slice a5 (l.length+1) c5) _ (Mill.nodesAt_below hn5 ((Below.refl _ _).alloc (Nat.le_refl _) _))).mono ?_;rintro e W6 ⟨rfl,hB6⟩;rw [hV];have hF6:Pa.Fr g V0 W6:=(hF5.alloc _).trans (Pa.Fr.of_below hB6);have t0:W6.cell? ⟨W5.heap.size,0,none⟩=some (.slice a5 (l.length+1) c5):=(by rw [hB6.cell (p:=⟨W5.heap.size,0,none⟩) (by simp)];simp [go_sem]);have hr6:=Mill.own_below (Mill.own_below hr5' ((Below.refl _ _).alloc (Nat.le_refl _) _)) hB6;obtain ⟨⟨q0,q1,q2,z0,z1,z2⟩,hbq⟩:=HQ.out W6 hF6;have hne6:W5.heap.size≠w.heap.size∧W5.heap.size≠w.heap.size+1:=(by have:=hF5.size;omega);clear hB6 hr5' hn5))
     obtain ⟨y0,y1,y2⟩:=Pa.res_end (a:=.slice a5 (l.length+1) c5) (b:=.int .i64 0) (c:=.int .i64 0) q0 q1 q2
     have hbE:=Pa.res_below (a:=.slice a5 (l.length+1) c5) (b:=.int .i64 0) (c:=.int .i64 0) hbq
     have hrE:=ownsRow_setCell_below (ownsRow_setCell_below (ownsRow_setCell_below hr6 (a:=⟨w.heap.size,0,none⟩) (by simp only;omega) (.slice a5 (l.length+1) c5)) (a:=⟨w.heap.size+1,0,none⟩) (by simp only;omega) (.int .i64 0)) (a:=⟨w.heap.size+1,1,none⟩) (by simp only;omega) (.int .i64 0)
     refine bodyPost_ret (v:=.tuple #[.agg #[.slice a5 (l.length+1) c5],.agg #[.int .i64 0,.int .i64 0]]) (by simp [results,Tryz.results4,go_sem,y0,y1,y2]) rfl ?_
     rw [HEN.out]
     exact ⟨hbE,a5,c5,by rw [Pa.root,List.length_append];rfl,Pa.own_mono (Pa.root_len hrE) (by omega)⟩
    | false =>
     have HEN:Hid (Pa.ends ts src.size (l,k,s') = .no 7 0):=by simp [Hid,Pa.ends,hb,hV]
     clear hb
     go_wp2_with (first
      | (at_builtin;refine Pa.wp_nd (l:=l) rfl _ _ rfl ⟨24,0,0,0,⟨#[]⟩,z⟩ rfl rfl rfl hrw hFr.size hl1 ?_;intro a5 c5 W5 hr5 hDg hFg hsz5;have hF5:=hFg g V0 hFr (Nat.le_refl _);clear hDg hFg hsz5;have hn5:=Pa.root_at HZ2.out hr5;have hr5':=Pa.root_row HZ2.out hr5;clear hr5 q0 q1 q2 z0 z1 z2 hbq)
      | (go_at_call 12;refine (specValidTree_any (Pa.root l k) (.slice a5 (l.length+1) c5) _ (Mill.nodesAt_below hn5 ((Below.refl _ _).alloc (Nat.le_refl _) _))).mono ?_;rintro e W6 ⟨rfl,hB6⟩;rw [hV];have hF6:Pa.Fr g V0 W6:=(hF5.alloc _).trans (Pa.Fr.of_below hB6);have t0:W6.cell? ⟨W5.heap.size,0,none⟩=some (.slice a5 (l.length+1) c5):=(by rw [hB6.cell (p:=⟨W5.heap.size,0,none⟩) (by simp)];simp [go_sem]);have hr6:=Mill.own_below (Mill.own_below hr5' ((Below.refl _ _).alloc (Nat.le_refl _) _)) hB6;obtain ⟨⟨q0,q1,q2,z0,z1,z2⟩,hbq⟩:=HQ.out W6 hF6;have hne6:W5.heap.size≠w.heap.size∧W5.heap.size≠w.heap.size+1:=(by have:=hF5.size;omega);clear hB6 hr5' hn5))
     obtain ⟨y0,y1,y2⟩:=Pa.res_end (a:=.slice none 0 0) (b:=.int .i64 7) (c:=.int .i64 0) q0 q1 q2
     have hbE:=Pa.res_below (a:=.slice none 0 0) (b:=.int .i64 7) (c:=.int .i64 0) hbq
     refine bodyPost_ret (v:=.tuple #[.agg #[.slice none 0 0],.agg #[.int .i64 7,.int .i64 0]]) (by simp [results,Tryz.results4,go_sem,y0,y1,y2]) rfl ?_
     rw [HEN.out]
     exact ⟨hbE,rfl⟩
end Go.Proofs.YtlcckaffhnjneaaGreatDoor
