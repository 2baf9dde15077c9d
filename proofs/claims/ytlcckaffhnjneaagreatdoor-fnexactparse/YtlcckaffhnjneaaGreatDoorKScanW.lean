import Derived.Test.YtlcckaffhnjneaaGreatDoorKScanR
import Derived.Lib.SmallJoins
set_option maxRecDepth 100000
set_option maxHeartbeats 2000000
namespace Go.Proofs.YtlcckaffhnjneaaGreatDoor
open Go.RowKit Go.Maps Go.WideMaps
structure Mill.Globs (w:World):Prop where
 tab:∀ t:Nat,3≤t→t≤10→w.cell? ⟨0,t,none⟩=some (.int .u64 (Mill.maxOf (t:Int)))
 err:∃ te pe,w.cell? ⟨5,0,none⟩=some (.iface te pe)
 big:0 < w.heap.size∧5 < w.heap.size
theorem Mill.Globs.below {w w':World} (h:Mill.Globs w) (hb:Below w.heap.size w w'):Mill.Globs w':=by
 have hbig:=h.big
 refine ⟨fun t h1 h2 => ?_, ?_,by have:=hb.size;omega⟩
 ·rw [hb.cell (p:=⟨0,t,none⟩) (show 0 < w.heap.size by omega)];exact h.tab t h1 h2
 ·rw [hb.cell (p:=⟨5,0,none⟩) (show 5 < w.heap.size by omega)];exact h.err
theorem Mill.Globs.alloc {w:World} (h:Mill.Globs w) (o:Obj):Mill.Globs (w.alloc o):=h.below ((Below.refl _ _).alloc (Nat.le_refl _) _)
theorem Mill.pu_below {w w':World} {e:TypeId} {s:ByteArray} (h:w'=w∨w'=Lib.bytesWorld w e s):Below w.heap.size w w':=by
 rcases h with rfl | rfl
 ·exact Below.refl _ _
 ·exact Joins.below_bytesWorld _ w e s (Nat.le_refl _)
theorem Mill.lit_inj {H:Type} {a b:Int} (h:(DataW.lit (.int .i64 a):DataW H) = .lit (.int .i64 b)):b=a:=by injection h with h1;injection h1 with _ h2;exact h2.symm
theorem Mill.parse_ok (l:List UInt8) (h0:l≠[]) (hd:∀ c ∈ l,Mill.isDig c=true) (h:Mill.val 0 l < 18446744073709551616):Lib.parseUintB 64 l = .ok (Mill.val 0 l):=by
 rw [Lib.parseUintB_64,Lib.parseMag,if_neg h0,Mill.parse_val l 0 hd (by omega),if_pos h]
theorem Mill.parse_range (l:List UInt8) (h0:l≠[]) (hd:∀ c ∈ l,Mill.isDig c=true) (h:¬ Mill.val 0 l < 18446744073709551616):Lib.parseUintB 64 l = .range:=by
 rw [Lib.parseUintB_64,Lib.parseMag,if_neg h0,Mill.parse_val l 0 hd (by omega),if_neg h]
theorem readInt_any (s:ByteArray) (b:Nat) (w:World) (hs:s.size≤1048576) (hM:Mill.Words w b) (hG:Mill.Globs w) (h1:1≤Mill.digLen (Mill.wordOf s.data.toList)) :
  Calls Tryz.prog 62 #[.string s,.map (some b)] w fun e w'=>e = .returned (Mill.pieceV (Mill.intP (Mill.wordOf s.data.toList)))∧Below w.heap.size w w':=by
 have hle:=Mill.wlen_le s 0
 have hwb:=Mill.word_ba0 s
 have hwl:=Mill.wlen0 s
 obtain ⟨n,HN⟩:∃ n,Hid (Mill.wlen s 0=n):=⟨_,(rfl:Mill.wlen s 0=_)⟩
 rw [HN.out] at hle hwb hwl
 have hhd:∀ c,(Mill.wordOf s.data.toList).head? = some c→s.data.toList.head? = some c:=fun c=>by
  unfold Mill.wordOf
  cases s.data.toList with
  | nil=>simp
  | cons a r=>intro h;cases ha:Mill.isTail a <;> simp [ha] at h ⊢;exact h
 obtain ⟨W,HW⟩:∃ W,Hid (Mill.wordOf s.data.toList=W):=⟨_,(rfl:Mill.wordOf s.data.toList=_)⟩
 rw [HW.out] at hwb hwl h1 hhd
 have hxl:(s.extract 0 n).data.toList=W:=by rw [hwb];rfl
 have hkl:=Mill.tw_le Mill.isDig W
 obtain ⟨k,HK0⟩:∃ k,Hid (Mill.digLen W=k):=⟨_,(rfl:Mill.digLen W=_)⟩
 have HK:Hid (Mill.digLen (s.extract 0 n).data.toList=k):=by rw [Hid,hxl];exact HK0.out
 have hkl2:k≤n:=by have:=HK0.out;unfold Mill.digLen at this;omega
 rw [HK0.out] at h1
 have hbs:=hM.lt
 have hxs:(s.extract 0 n).size≤1048576:=by rw [hwb,Mill.ba_size];omega
 have h0:0 < s.size:=by omega
 have hhead:=Mill.head_eq s h0
 obtain ⟨c0,r0,hcr,hcd⟩:=Mill.head_dig W (by rw [HK0.out];omega)
 have hs0:s[0]=c0:=by
  have:=hhd c0 (by rw [hcr];rfl)
  rw [hhead] at this;simpa using this
 have hA0:(1 < Mill.digLen W∧W.head? = some 48) ↔ (1 < k∧((s[0].toNat:Int) == 48)=true):=by
  rw [HK0.out,hcr,hs0]
  constructor
  ·rintro ⟨a,e⟩;simp at e;exact ⟨a,by rw [e];rfl⟩
  ·rintro ⟨a,e⟩;exact ⟨a,by rw [Mill.byte_eq c0 48 e];rfl⟩
 clear hs0 hhd hhead hcr hcd
 by_cases hA:1 < Mill.digLen W∧W.head? = some 48
 ·obtain ⟨hk1,h48⟩:=hA0.1 hA
  have HP:Hid (Mill.pieceV (Mill.intP (Mill.wordOf s.data.toList))=Mill.pieceV (Mill.bad 3)):=by rw [Hid,HW.out,Mill.intP_bad W (.inl hA)]
  clear hA hA0 hwb hwl hxl hkl
  go_enter Tryz.func62,Tryz.ntmps62
  go_wp2_with (first | (go_at_call 87;refine (wordSize_any _ _ hs).mono ?_;rintro e w1 ⟨rfl,hb1⟩;rw [HN.out];have hz1:=hb1.size;simp at hz1) | (go_at_call 89;refine (digitsSize_any _ _ hxs).mono ?_;rintro e w2 ⟨rfl,hb2⟩;rw [HK.out];have hz2:=hb2.size;have hbb2:=hb1.trans (hb2.mono (B':=(w.alloc _).heap.size) (by simp;omega));obtain ⟨hc,hf⟩:=Mill.bcell hbb2;have hM2:=Mill.map_below (hM.alloc _) hbb2;have hG2:=(hG.alloc _).below hbb2;obtain ⟨te,pe,hev⟩:=hG2.err))
  refine bodyPost_ret (v:=Mill.pieceV (Mill.bad 3)) (by simp [results,Tryz.results62,go_sem,hc,Mill.pieceV,Mill.bad,Mill.ba]) rfl ⟨Mill.ret_val HP.out.symm,Mill.below7 _ (Nat.le_refl _) _ hbb2 _ _ _ _ _ _ _⟩
 ·have hA1:¬ (1 < k∧((s[0].toNat:Int) == 48)=true):=fun h=>hA (hA0.2 h)
  obtain ⟨v,HI⟩:∃ v,Hid (Mill.ival W=v):=⟨_,(rfl:Mill.ival W=_)⟩
  have HX:Hid ((s.extract 0 k).data.toList=W.take k):=by
   rw [Hid,Lib.extract_data,← hxl,Lib.extract_data];simp;rw [List.take_take,Nat.min_eq_left hkl2]
  have hne:(s.extract 0 k).data.toList≠[]:=by
   rw [HX.out];intro e
   have:=congrArg List.length e
   rw [List.length_take,List.length_nil,← hwl] at this;omega
  have hdg:∀ c ∈ (s.extract 0 k).data.toList,Mill.isDig c=true:=by rw [HX.out,← HK0.out];exact Mill.take_dig W
  have HV:Hid (Mill.val 0 (s.extract 0 k).data.toList=v):=by rw [Hid,HX.out,← HK0.out];exact HI.out
  have hks:(s.extract 0 k).size≤1048576:=by rw [Mill.extract_ba,Mill.ba_size];simp;omega
  clear hA0 HX
  have HWL:Hid (n=W.length):=hwl
  clear hwl
  have h48:k≤1∨(1 < k∧((s[0].toNat:Int) == 48)=false):=by
   by_cases hk1:1 < k
   ·right
    cases h:((s[0].toNat:Int) == 48) with
    | true=>exact absurd ⟨hk1,h⟩ hA1
    | false=>exact ⟨hk1,rfl⟩
   ·left;omega
  clear hA1
  by_cases hkn:k < n
  ·obtain ⟨tn,HTn⟩:∃ tn:Nat,(tn:Int)=Mill.itype W:=⟨(Mill.itype W).toNat,by have:=(Mill.itype_bd W).1;omega⟩
   have htn:tn≤10:=by have:=(Mill.itype_bd W).2;omega
   have HT:Hid (Mill.itype W=(tn:Int)):=HTn.symm
   clear HTn
   have hxm:(s.extract k n).size≤maxLen:=by rw [Mill.extract_ba,Mill.ba_size];simp;unfold maxLen;omega
   have HL:Hid ((Mill.wordsD).atKey (.string (s.extract k n).data.toList) (.lit (.int .i64 0)) = .lit (.int .i64 (tn:Int))):=by
    have e:(s.extract k n).data.toList=W.drop k:=by
     rw [← hxl,Lib.extract_data,Lib.extract_data];simp [List.drop_take]
    rw [Hid,e,Mill.words_at,← HT.out,Mill.itype,HK0.out,if_pos (by rw [← HWL.out];exact hkn)]
   clear hxl hwb hkl
   rcases h48 with h48 | ⟨hk1,h48⟩
   all_goals
    by_cases hv:v < 18446744073709551616
    ·have hpu:=Mill.parse_ok _ hne hdg (by rw [HV.out];exact hv)
     rw [HV.out] at hpu
     have HPU:Hid (Lib.parseUintB 64 (s.extract 0 k).data.toList = .ok v):=hpu
     clear hpu
     by_cases hT:(tn:Int) < 3
     ·have HP:Hid (Mill.pieceV (Mill.intP (Mill.wordOf s.data.toList))=Mill.pieceV (Mill.bad 3)):=by rw [Hid,HW.out,Mill.intP_bad W (.inr (.inl (by rw [HT.out];exact hT)))]
      clear hne hdg
      go_enter Tryz.func62,Tryz.ntmps62
      go_wp2_with (first | (go_at_call 87;refine (wordSize_any _ _ hs).mono ?_;rintro e w1 ⟨rfl,hb1⟩;rw [HN.out];have hz1:=hb1.size;simp at hz1) | (go_at_call 89;refine (digitsSize_any _ _ hxs).mono ?_;rintro e w2 ⟨rfl,hb2⟩;rw [HK.out];have hz2:=hb2.size;have hbb2:=hb1.trans (hb2.mono (B':=(w.alloc _).heap.size) (by simp;omega));obtain ⟨hc,hf⟩:=Mill.bcell hbb2;have hM2:=Mill.map_below (hM.alloc _) hbb2;have hG2:=(hG.alloc _).below hbb2;obtain ⟨te,pe,hev⟩:=hG2.err) | (at_lookup;refine wpList_lookup_own_int _ rfl _ _ 102 rfl 9 3 .i64 Tryz.lawStr Tryz.underlying102 Tryz.underlying3 (Tryz.zeroInt _) b 35 _ rfl hM2 _ _ rfl (keyOf_string_mk Tryz.underlying9 hxm) ?_;intro c hat hwc;rw [Mill.lit_inj (HL.out.symm.trans hat)];clear hat hwc c) | (go_at_call 90;refine (Tryz.strconv_ParseUint_10_at64_ok _ (by omega) v HPU.out _).mono ?_;rintro e w3 ⟨rfl,hw3⟩;have hb3:=Mill.pu_below hw3;clear hw3;have hbb:=hbb2.trans (hb3.mono (B':=(w.alloc _).heap.size) (by simp;omega));have hz3:=hb3.size;have hg3:=(hG2.below hb3).tab tn;obtain ⟨hc3,hf3⟩:=Mill.bcell hbb))
      refine bodyPost_ret (v:=Mill.pieceV (Mill.bad 3)) (by simp [results,Tryz.results62,go_sem,hc3,Mill.pieceV,Mill.bad,Mill.ba]) rfl ⟨Mill.ret_val HP.out.symm,Mill.below7 _ (Nat.le_refl _) _ hbb _ _ _ _ _ _ _⟩
     ·by_cases hgr:Mill.maxOf (tn:Int) < (v:Int)
      ·have HP:Hid (Mill.pieceV (Mill.intP (Mill.wordOf s.data.toList))=Mill.pieceV (Mill.bad 3)):=by rw [Hid,HW.out,Mill.intP_bad W (.inr (.inr (by rw [HT.out,HI.out];exact hgr)))]
       clear hne hdg
       go_enter Tryz.func62,Tryz.ntmps62
       go_wp2_with (first | (go_at_call 87;refine (wordSize_any _ _ hs).mono ?_;rintro e w1 ⟨rfl,hb1⟩;rw [HN.out];have hz1:=hb1.size;simp at hz1) | (go_at_call 89;refine (digitsSize_any _ _ hxs).mono ?_;rintro e w2 ⟨rfl,hb2⟩;rw [HK.out];have hz2:=hb2.size;have hbb2:=hb1.trans (hb2.mono (B':=(w.alloc _).heap.size) (by simp;omega));obtain ⟨hc,hf⟩:=Mill.bcell hbb2;have hM2:=Mill.map_below (hM.alloc _) hbb2;have hG2:=(hG.alloc _).below hbb2;obtain ⟨te,pe,hev⟩:=hG2.err) | (at_lookup;refine wpList_lookup_own_int _ rfl _ _ 102 rfl 9 3 .i64 Tryz.lawStr Tryz.underlying102 Tryz.underlying3 (Tryz.zeroInt _) b 35 _ rfl hM2 _ _ rfl (keyOf_string_mk Tryz.underlying9 hxm) ?_;intro c hat hwc;rw [Mill.lit_inj (HL.out.symm.trans hat)];clear hat hwc c) | (go_at_call 90;refine (Tryz.strconv_ParseUint_10_at64_ok _ (by omega) v HPU.out _).mono ?_;rintro e w3 ⟨rfl,hw3⟩;have hb3:=Mill.pu_below hw3;clear hw3;have hbb:=hbb2.trans (hb3.mono (B':=(w.alloc _).heap.size) (by simp;omega));have hz3:=hb3.size;have hg3:=(hG2.below hb3).tab tn (by omega) (by omega);obtain ⟨hc3,hf3⟩:=Mill.bcell hbb))
       refine bodyPost_ret (v:=Mill.pieceV (Mill.bad 3)) (by simp [results,Tryz.results62,go_sem,hc3,Mill.pieceV,Mill.bad,Mill.ba]) rfl ⟨Mill.ret_val HP.out.symm,Mill.below7 _ (Nat.le_refl _) _ hbb _ _ _ _ _ _ _⟩
      ·have HP:Hid (Mill.pieceV (Mill.intP (Mill.wordOf s.data.toList)) = .agg #[.int .i64 3,.string ⟨#[]⟩,.int .i64 (tn:Int),.int .i64 (wrap64 (v:Int)),.int .i64 0,.int .i64 (n:Int),.int .i64 0]):=by
        rw [Hid,HW.out,Mill.intP_ok W (by rintro (h | h | h);exact hA h;(rw [HT.out] at h;exact hT h);(rw [HT.out,HI.out] at h;exact hgr h)),HT.out,HI.out,← HWL.out];rfl
       clear hne hdg
       go_enter Tryz.func62,Tryz.ntmps62
       go_wp2_with (first | (go_at_call 87;refine (wordSize_any _ _ hs).mono ?_;rintro e w1 ⟨rfl,hb1⟩;rw [HN.out];have hz1:=hb1.size;simp at hz1) | (go_at_call 89;refine (digitsSize_any _ _ hxs).mono ?_;rintro e w2 ⟨rfl,hb2⟩;rw [HK.out];have hz2:=hb2.size;have hbb2:=hb1.trans (hb2.mono (B':=(w.alloc _).heap.size) (by simp;omega));obtain ⟨hc,hf⟩:=Mill.bcell hbb2;have hM2:=Mill.map_below (hM.alloc _) hbb2;have hG2:=(hG.alloc _).below hbb2;obtain ⟨te,pe,hev⟩:=hG2.err) | (at_lookup;refine wpList_lookup_own_int _ rfl _ _ 102 rfl 9 3 .i64 Tryz.lawStr Tryz.underlying102 Tryz.underlying3 (Tryz.zeroInt _) b 35 _ rfl hM2 _ _ rfl (keyOf_string_mk Tryz.underlying9 hxm) ?_;intro c hat hwc;rw [Mill.lit_inj (HL.out.symm.trans hat)];clear hat hwc c) | (go_at_call 90;refine (Tryz.strconv_ParseUint_10_at64_ok _ (by omega) v HPU.out _).mono ?_;rintro e w3 ⟨rfl,hw3⟩;have hb3:=Mill.pu_below hw3;clear hw3;have hbb:=hbb2.trans (hb3.mono (B':=(w.alloc _).heap.size) (by simp;omega));have hz3:=hb3.size;have hg3:=(hG2.below hb3).tab tn (by omega) (by omega);obtain ⟨hc3,hf3⟩:=Mill.bcell hbb))
       refine bodyPost_ret (v:=.agg #[.int .i64 3,.string ⟨#[]⟩,.int .i64 (tn:Int),.int .i64 (wrap64 (v:Int)),.int .i64 0,.int .i64 (n:Int),.int .i64 0]) (by simp [results,Tryz.results62,go_sem,hc3]) rfl ⟨Mill.ret_val HP.out.symm,Mill.below7 _ (Nat.le_refl _) _ hbb _ _ _ _ _ _ _⟩
    ·have hpu:=Mill.parse_range _ hne hdg (by rw [HV.out];exact hv)
     have HPU:Hid (Lib.parseUintB 64 (s.extract 0 k).data.toList = .range):=hpu
     clear hpu
     have hmx:=Mill.maxOf_bd (tn:Int)
     have HP:Hid (Mill.pieceV (Mill.intP (Mill.wordOf s.data.toList))=Mill.pieceV (Mill.bad 3)):=by rw [Hid,HW.out,Mill.intP_bad W (.inr (.inr (by rw [HT.out,HI.out];omega)))]
     clear hne hdg hmx
     by_cases hT:(tn:Int) < 3
     all_goals
      go_enter Tryz.func62,Tryz.ntmps62
      go_wp2_with (first | (go_at_call 87;refine (wordSize_any _ _ hs).mono ?_;rintro e w1 ⟨rfl,hb1⟩;rw [HN.out];have hz1:=hb1.size;simp at hz1) | (go_at_call 89;refine (digitsSize_any _ _ hxs).mono ?_;rintro e w2 ⟨rfl,hb2⟩;rw [HK.out];have hz2:=hb2.size;have hbb2:=hb1.trans (hb2.mono (B':=(w.alloc _).heap.size) (by simp;omega));obtain ⟨hc,hf⟩:=Mill.bcell hbb2;have hM2:=Mill.map_below (hM.alloc _) hbb2;have hG2:=(hG.alloc _).below hbb2;obtain ⟨te,pe,hev⟩:=hG2.err) | (at_lookup;refine wpList_lookup_own_int _ rfl _ _ 102 rfl 9 3 .i64 Tryz.lawStr Tryz.underlying102 Tryz.underlying3 (Tryz.zeroInt _) b 35 _ rfl hM2 _ _ rfl (keyOf_string_mk Tryz.underlying9 hxm) ?_;intro c hat hwc;rw [Mill.lit_inj (HL.out.symm.trans hat)];clear hat hwc c) | (go_at_call 90;refine (Tryz.strconv_ParseUint_10_at64_range _ (by omega) HPU.out _ _ hev (.inr ⟨_,_,rfl⟩)).mono ?_;rintro e w3 ⟨NN,rfl,hNN,hcN,hb3⟩;clear hcN;have hbb:=hbb2.trans (hb3.mono (B':=(w.alloc _).heap.size) (by simp;omega));have hz3:=hb3.size;obtain ⟨hc3,hf3⟩:=Mill.bcell hbb))
      refine bodyPost_ret (v:=Mill.pieceV (Mill.bad 3)) (by simp [results,Tryz.results62,go_sem,hc3,Mill.pieceV,Mill.bad,Mill.ba]) rfl ⟨Mill.ret_val HP.out.symm,Mill.below7 _ (Nat.le_refl _) _ hbb _ _ _ _ _ _ _⟩
  ·have HT:Hid (Mill.itype W=10):=by rw [Hid,Mill.itype,HK0.out,if_neg (by rw [← HWL.out];exact hkn)]
   clear hxl hwb hkl
   rcases h48 with h48 | ⟨hk1,h48⟩
   all_goals
    have hT:¬ (10:Int) < 3:=by omega
    by_cases hv:v < 18446744073709551616
    ·have hpu:=Mill.parse_ok _ hne hdg (by rw [HV.out];exact hv)
     rw [HV.out] at hpu
     have HPU:Hid (Lib.parseUintB 64 (s.extract 0 k).data.toList = .ok v):=hpu
     clear hpu
     by_cases hgr:Mill.maxOf (10:Int) < (v:Int)
     ·have HP:Hid (Mill.pieceV (Mill.intP (Mill.wordOf s.data.toList))=Mill.pieceV (Mill.bad 3)):=by rw [Hid,HW.out,Mill.intP_bad W (.inr (.inr (by rw [HT.out,HI.out];exact hgr)))]
      clear hne hdg hT
      go_enter Tryz.func62,Tryz.ntmps62
      go_wp2_with (first | (go_at_call 87;refine (wordSize_any _ _ hs).mono ?_;rintro e w1 ⟨rfl,hb1⟩;rw [HN.out];have hz1:=hb1.size;simp at hz1) | (go_at_call 89;refine (digitsSize_any _ _ hxs).mono ?_;rintro e w2 ⟨rfl,hb2⟩;rw [HK.out];have hz2:=hb2.size;have hbb2:=hb1.trans (hb2.mono (B':=(w.alloc _).heap.size) (by simp;omega));obtain ⟨hc,hf⟩:=Mill.bcell hbb2;have hM2:=Mill.map_below (hM.alloc _) hbb2;have hG2:=(hG.alloc _).below hbb2;obtain ⟨te,pe,hev⟩:=hG2.err) | (go_at_call 90;refine (Tryz.strconv_ParseUint_10_at64_ok _ (by omega) v HPU.out _).mono ?_;rintro e w3 ⟨rfl,hw3⟩;have hb3:=Mill.pu_below hw3;clear hw3;have hbb:=hbb2.trans (hb3.mono (B':=(w.alloc _).heap.size) (by simp;omega));have hz3:=hb3.size;have hg3:=(hG2.below hb3).tab 10 (by omega) (by omega);obtain ⟨hc3,hf3⟩:=Mill.bcell hbb))
      refine bodyPost_ret (v:=Mill.pieceV (Mill.bad 3)) (by simp [results,Tryz.results62,go_sem,hc3,Mill.pieceV,Mill.bad,Mill.ba]) rfl ⟨Mill.ret_val HP.out.symm,Mill.below7 _ (Nat.le_refl _) _ hbb _ _ _ _ _ _ _⟩
     ·have HP:Hid (Mill.pieceV (Mill.intP (Mill.wordOf s.data.toList)) = .agg #[.int .i64 3,.string ⟨#[]⟩,.int .i64 (10:Int),.int .i64 (wrap64 (v:Int)),.int .i64 0,.int .i64 (n:Int),.int .i64 0]):=by
       rw [Hid,HW.out,Mill.intP_ok W (by rintro (h | h | h);exact hA h;(rw [HT.out] at h;exact hT h);(rw [HT.out,HI.out] at h;exact hgr h)),HT.out,HI.out,← HWL.out];rfl
      clear hne hdg hT
      go_enter Tryz.func62,Tryz.ntmps62
      go_wp2_with (first | (go_at_call 87;refine (wordSize_any _ _ hs).mono ?_;rintro e w1 ⟨rfl,hb1⟩;rw [HN.out];have hz1:=hb1.size;simp at hz1) | (go_at_call 89;refine (digitsSize_any _ _ hxs).mono ?_;rintro e w2 ⟨rfl,hb2⟩;rw [HK.out];have hz2:=hb2.size;have hbb2:=hb1.trans (hb2.mono (B':=(w.alloc _).heap.size) (by simp;omega));obtain ⟨hc,hf⟩:=Mill.bcell hbb2;have hM2:=Mill.map_below (hM.alloc _) hbb2;have hG2:=(hG.alloc _).below hbb2;obtain ⟨te,pe,hev⟩:=hG2.err) | (go_at_call 90;refine (Tryz.strconv_ParseUint_10_at64_ok _ (by omega) v HPU.out _).mono ?_;rintro e w3 ⟨rfl,hw3⟩;have hb3:=Mill.pu_below hw3;clear hw3;have hbb:=hbb2.trans (hb3.mono (B':=(w.alloc _).heap.size) (by simp;omega));have hz3:=hb3.size;have hg3:=(hG2.below hb3).tab 10 (by omega) (by omega);obtain ⟨hc3,hf3⟩:=Mill.bcell hbb))
      refine bodyPost_ret (v:=.agg #[.int .i64 3,.string ⟨#[]⟩,.int .i64 (10:Int),.int .i64 (wrap64 (v:Int)),.int .i64 0,.int .i64 (n:Int),.int .i64 0]) (by simp [results,Tryz.results62,go_sem,hc3]) rfl ⟨Mill.ret_val HP.out.symm,Mill.below7 _ (Nat.le_refl _) _ hbb _ _ _ _ _ _ _⟩
    ·have hpu:=Mill.parse_range _ hne hdg (by rw [HV.out];exact hv)
     have HPU:Hid (Lib.parseUintB 64 (s.extract 0 k).data.toList = .range):=hpu
     clear hpu
     have hmx:=Mill.maxOf_bd (10:Int)
     have HP:Hid (Mill.pieceV (Mill.intP (Mill.wordOf s.data.toList))=Mill.pieceV (Mill.bad 3)):=by rw [Hid,HW.out,Mill.intP_bad W (.inr (.inr (by rw [HT.out,HI.out];omega)))]
     clear hne hdg hmx hT
     go_enter Tryz.func62,Tryz.ntmps62
     go_wp2_with (first | (go_at_call 87;refine (wordSize_any _ _ hs).mono ?_;rintro e w1 ⟨rfl,hb1⟩;rw [HN.out];have hz1:=hb1.size;simp at hz1) | (go_at_call 89;refine (digitsSize_any _ _ hxs).mono ?_;rintro e w2 ⟨rfl,hb2⟩;rw [HK.out];have hz2:=hb2.size;have hbb2:=hb1.trans (hb2.mono (B':=(w.alloc _).heap.size) (by simp;omega));obtain ⟨hc,hf⟩:=Mill.bcell hbb2;have hM2:=Mill.map_below (hM.alloc _) hbb2;have hG2:=(hG.alloc _).below hbb2;obtain ⟨te,pe,hev⟩:=hG2.err) | (go_at_call 90;refine (Tryz.strconv_ParseUint_10_at64_range _ (by omega) HPU.out _ _ hev (.inr ⟨_,_,rfl⟩)).mono ?_;rintro e w3 ⟨NN,rfl,hNN,hcN,hb3⟩;clear hcN;have hbb:=hbb2.trans (hb3.mono (B':=(w.alloc _).heap.size) (by simp;omega));have hz3:=hb3.size;obtain ⟨hc3,hf3⟩:=Mill.bcell hbb))
     refine bodyPost_ret (v:=Mill.pieceV (Mill.bad 3)) (by simp [results,Tryz.results62,go_sem,hc3,Mill.pieceV,Mill.bad,Mill.ba]) rfl ⟨Mill.ret_val HP.out.symm,Mill.below7 _ (Nat.le_refl _) _ hbb _ _ _ _ _ _ _⟩
end Go.Proofs.YtlcckaffhnjneaaGreatDoor
