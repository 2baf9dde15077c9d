import Derived.Test.YtjlaedokfbcbpaaGreatDoorKPrkC
import Derived.Lib.SmallJoins
import Derived.RangeFuncNested
import Derived.RangeFuncBound
import Derived.RangeFuncCalls
import Derived.RangeFuncLeaves
import Derived.Shelf.Abstract
import Derived.Shelf.RegionOpen
import Derived.TacticsInMore
import Derived.LoopNIn
import Derived.LoopIn
set_option maxRecDepth 100000
set_option maxHeartbeats 2000000
namespace Go.Proofs.YtjlaedokfbcbpaaGreatDoor
open Proofs.Tryz
open Go.RowKit Go.Maps Go.WideMaps
structure Em (w:World):Prop where
 tab:∀ t:Nat,3<=t->t<=10->w.cell? (OK 1 t)=some (.int .u64 (Ce (t:Int)))
 err:∃ te pe,w.cell? (OK 7 0)=some (.iface te pe)
 big:1 < w.heap.size/\7 < w.heap.size
theorem Em.below {w w':World} (h:Em w) (hb:Below w.heap.size w w'):Em w':=by
 have a:=h.big;refine⟨fun t h1 h2 => ?_, ?_,by have:=hb.size;omega⟩
 ·rw[hb.cell (p:=(OK 1 t)) (show 1 < w.heap.size by omega)];exact h.tab t h1 h2
 ·rw[hb.cell (p:=(OK 7 0)) (show 7 < w.heap.size by omega)];exact h.err
theorem Em.alloc {w:World} (h:Em w) (o:Obj):Em (w.alloc o):=h.below (OP _ _)
theorem Lr {w w':World} {e:TypeId} {s:ByteArray} (h:w'=w\/w'=Lib.bytesWorld w e s):Below w.heap.size w w':=by
 rcases h with rfl|rfl
 ·exact OO _
 ·exact Joins.below_bytesWorld _ w e s ON
theorem Ox {H:Type} {a b:Int} (h:(DataW.lit (.int .i64 a):DataW H) = .lit (.int .i64 b)):b=a:=by injection h with h1;injection h1 with _ h2;exact h2.symm
theorem Vh (l:List UInt8) (h0:l≠[]) (hd:∀ c ∈ l,Cr c=true) (h:H9 0 l < 18446744073709551616):Lib.parseUintB 64 l = .ok (H9 0 l):=by
 rw[Lib.parseUintB_64,Lib.parseMag,if_neg h0,Pq l 0 hd OC,if_pos h]
theorem Rc (l:List UInt8) (h0:l≠[]) (hd:∀ c ∈ l,Cr c=true) (h:¬ H9 0 l < 18446744073709551616):Lib.parseUintB 64 l = .range:=by
 rw[Lib.parseUintB_64,Lib.parseMag,if_neg h0,Pq l 0 hd OC,if_neg h]
theorem DdScanWx115 {P:Prop} (h:P:=by
 refine bodyPost_ret (v:=A3 (Bi 3)) (by simp[results,results86,go_sem,A,A3,Bi,Aj]) rfl ⟨Fz N.out.symm,Ht _ ON _ l _ _ _ _ _ _ _⟩
 ):P:=h
theorem readInt_any (s:ByteArray) (b:Nat) (w:World) (hs:s.size<=1048576) (hM:M8 w b) (hG:Em w) (h1:1<=Ar (A5 s.data.toList)) :
  Calls prog 86 #[.string s,.map (some b)] w fun e w'=>e = .returned (A3 (E1 (A5 s.data.toList)))/\Below w.heap.size w w':=by
 have al:=Sf s 0;have E:=Vl s;have K:=Qcu s;obtain⟨n,S⟩:∃ n,Hid (D5 s 0=n):=⟨_,(rfl:D5 s 0=_)⟩;rw[S.out]at al E K;have ac:∀ c,(A5 s.data.toList).head? = some c->s.data.toList.head? = some c:=fun c=>by
  unfold A5;cases s.data.toList with
  | nil=>simp
  | cons a r=>intro h;cases ha:B5 a <;> simp[ha]at h |-;exact h
 obtain⟨W,T⟩:∃ W,Hid (A5 s.data.toList=W):=⟨_,(rfl:A5 s.data.toList=_)⟩;rw[T.out]at E K h1 ac;have L:(s.extract 0 n).data.toList=W:=by rw[E];rfl
 have ad:=Px Cr W;obtain⟨k,z⟩:∃ k,Hid (Ar W=k):=⟨_,(rfl:Ar W=_)⟩;have Z:Hid (Ar (s.extract 0 n).data.toList=k):=by rw[Hid,L];exact z.out
 have ah:k<=n:=by have:=z.out;unfold Ar at this;omega
 rw[z.out]at h1;have am:=hM.lt;have C:(s.extract 0 n).size<=1048576:=by rw[E,Lf];omega
 have h0:0 < s.size:=OC
 have O:=Qgq s h0;obtain⟨c0,r0,ab,ak⟩:=Vc W (by rw[z.out];omega);have ai:s[0]=c0:=by
  have:=ac c0 (by rw[ab];rfl);rw[O]at this;simpa using this
 have V:(1 < Ar W/\W.head? = some 48) ↔ (1 < k/\((s[0].toNat:Int) == 48)=true):=by
  rw[z.out,ab,ai];constructor
  ·rintro⟨a,e⟩;simp at e;exact⟨a,by rw[e];rfl⟩
  ·rintro⟨a,e⟩;exact⟨a,by rw[J6 c0 48 e];rfl⟩
 clear ai ac O ab ak;by_cases hA:1 < Ar W/\W.head? = some 48
 ·obtain⟨Q,D⟩:=V.1 hA;have N:Hid (A3 (E1 (A5 s.data.toList))=A3 (Bi 3)):=by rw[Hid,T.out,Ko W (.inl hA)]
  clear hA V E K L ad;go_enter func86,ntmps86;go_wp2_with (first|(go_at_call 103;refine(wordSize_any _ _ hs).mono ?_;rintro e w1 ⟨rfl,g⟩;rw[S.out];have m:=g.size;simp at m)|(go_at_call 120;refine(digitsSize_any _ _ C).mono ?_;rintro e w2 ⟨rfl,i⟩;rw[Z.out];have G:=i.size;have d:=g.trans (i.mono (B':=(w.alloc _).heap.size) OH);obtain⟨hc,hf⟩:=Eu d;have q:=Fv (hM.alloc _) d;have j:=(hG.alloc _).below d;obtain⟨te,pe,B⟩:=j.err));refine bodyPost_ret (v:=A3 (Bi 3)) (by simp[results,results86,go_sem,hc,A3,Bi,Aj]) rfl ⟨Fz N.out.symm,Ht _ ON _ d _ _ _ _ _ _ _⟩
 ·have ag:¬ (1 < k/\((s[0].toNat:Int) == 48)=true):=fun h=>hA (V.2 h)
  obtain⟨v,R⟩:∃ v,Hid (Jq W=v):=⟨_,(rfl:Jq W=_)⟩;have HX:Hid ((s.extract 0 k).data.toList=W.take k):=by
   rw[Hid,Lib.extract_data,<- L,Lib.extract_data];simp;rw[List.take_take,Nat.min_eq_left ah]
  have x:(s.extract 0 k).data.toList≠[]:=by
   rw[HX.out];intro e;have:=congrArg List.length e;rw[List.length_take,List.length_nil,<- K]at this;omega
  have u:∀ c ∈ (s.extract 0 k).data.toList,Cr c=true:=by rw[HX.out,<- z.out];exact Vj W
  have HV:Hid (H9 0 (s.extract 0 k).data.toList=v):=by rw[Hid,HX.out,<- z.out];exact R.out
  have an:(s.extract 0 k).size<=1048576:=by rw[Ik,Lf];simp;omega
  clear V HX;have U:Hid (n=W.length):=K;clear K;have D:k<=1\/(1 < k/\((s[0].toNat:Int) == 48)=false):=by
   by_cases Q:1 < k
   ·right;cases h:((s[0].toNat:Int) == 48) with
    | true=>exact absurd ⟨Q,h⟩ ag
    | false=>exact⟨Q,rfl⟩
   ·left;omega
  clear ag;by_cases hkn:k < n
  ·obtain⟨H,af⟩:∃ H:Nat,(H:Int)=C9 W:=⟨(C9 W).toNat,by have:=(Qz W).1;omega⟩;have ao:H<=10:=(by have:=(Qz W).2;omega);have I:Hid (C9 W=(H:Int)):=af.symm;clear af;have Y:(s.extract k n).size<=maxLen:=(by rw[Ik,Lf];simp;unfold maxLen;omega);have HL:Hid ((Hc).atKey (.string (s.extract k n).data.toList) (.lit (.int .i64 0)) = .lit (.int .i64 (H:Int))):=by
    have e:(s.extract k n).data.toList=W.drop k:=by
     rw[<- L,Lib.extract_data,Lib.extract_data];simp[List.drop_take]
    rw[Hid,e,Qeu,<- I.out,C9,z.out,if_pos (by rw[<- U.out];exact hkn)]
   clear L E ad;rcases D with D|⟨Q,D⟩
   all_goals
    by_cases hv:v < 18446744073709551616
    ·have p:=Vh _ x u (by rw[HV.out];exact hv);rw[HV.out]at p;have y:Hid (Lib.parseUintB 64 (s.extract 0 k).data.toList = .ok v):=p;clear p;by_cases hT:(H:Int) < 3
     ·have N:Hid (A3 (E1 (A5 s.data.toList))=A3 (Bi 3)):=(by rw[Hid,T.out,Ko W (.inr (.inl (by rw[I.out];exact hT)))]);clear x u;go_enter func86,ntmps86;go_wp2_with (first|(go_at_call 103;refine(wordSize_any _ _ hs).mono ?_;rintro e w1 ⟨rfl,g⟩;rw[S.out];have m:=g.size;simp at m)|(go_at_call 120;refine(digitsSize_any _ _ C).mono ?_;rintro e w2 ⟨rfl,i⟩;rw[Z.out];have G:=i.size;have d:=g.trans (i.mono (B':=(w.alloc _).heap.size) OH);obtain⟨hc,hf⟩:=Eu d;have q:=Fv (hM.alloc _) d;have j:=(hG.alloc _).below d;obtain⟨te,pe,B⟩:=j.err)|(at_lookup;refine wpList_lookup_own_int _ rfl _ _ 82 rfl 9 3 .i64 Tryz.lawStr underlying82 underlying3 (Tryz.zeroInt _) b 35 _ rfl q _ _ rfl (keyOf_string_mk underlying9 Y) ?_;intro c t F;rw[Ox (HL.out.symm.trans t)];clear t F c)|(go_at_call 121;refine(Tryz.strconv_ParseUint_10_at64_ok _ OC v y.out _).mono ?_;rintro e w3 ⟨rfl,o⟩;have f:=Lr o;clear o;have l:=d.trans (f.mono (B':=(w.alloc _).heap.size) OH);have M:=f.size;have X:=(j.below f).tab H;obtain⟨A,J⟩:=Eu l));exact DdScanWx115
     ·by_cases hgr:Ce (H:Int) < (v:Int)
      ·have N:Hid (A3 (E1 (A5 s.data.toList))=A3 (Bi 3)):=(by rw[Hid,T.out,Ko W (.inr (.inr (by rw[I.out,R.out];exact hgr)))]);clear x u;go_enter func86,ntmps86;go_wp2_with (first|(go_at_call 103;refine(wordSize_any _ _ hs).mono ?_;rintro e w1 ⟨rfl,g⟩;rw[S.out];have m:=g.size;simp at m)|(go_at_call 120;refine(digitsSize_any _ _ C).mono ?_;rintro e w2 ⟨rfl,i⟩;rw[Z.out];have G:=i.size;have d:=g.trans (i.mono (B':=(w.alloc _).heap.size) OH);obtain⟨hc,hf⟩:=Eu d;have q:=Fv (hM.alloc _) d;have j:=(hG.alloc _).below d;obtain⟨te,pe,B⟩:=j.err)|(at_lookup;refine wpList_lookup_own_int _ rfl _ _ 82 rfl 9 3 .i64 Tryz.lawStr underlying82 underlying3 (Tryz.zeroInt _) b 35 _ rfl q _ _ rfl (keyOf_string_mk underlying9 Y) ?_;intro c t F;rw[Ox (HL.out.symm.trans t)];clear t F c)|(go_at_call 121;refine(Tryz.strconv_ParseUint_10_at64_ok _ OC v y.out _).mono ?_;rintro e w3 ⟨rfl,o⟩;have f:=Lr o;clear o;have l:=d.trans (f.mono (B':=(w.alloc _).heap.size) OH);have M:=f.size;have X:=(j.below f).tab H OC OC;obtain⟨A,J⟩:=Eu l));exact DdScanWx115
      ·have N:Hid (A3 (E1 (A5 s.data.toList)) = .agg #[.int .i64 3,.string ⟨#[]⟩,.int .i64 (H:Int),.int .i64 (wrap64 (v:Int)),.int .i64 0,.int .i64 (n:Int),.int .i64 0]):=by
        rw[Hid,T.out,Xi W (by rintro(h|h|h);exact hA h;(rw[I.out]at h;exact hT h);(rw[I.out,R.out]at h;exact hgr h)),I.out,R.out,<- U.out];rfl
       clear x u;go_enter func86,ntmps86;go_wp2_with (first|(go_at_call 103;refine(wordSize_any _ _ hs).mono ?_;rintro e w1 ⟨rfl,g⟩;rw[S.out];have m:=g.size;simp at m)|(go_at_call 120;refine(digitsSize_any _ _ C).mono ?_;rintro e w2 ⟨rfl,i⟩;rw[Z.out];have G:=i.size;have d:=g.trans (i.mono (B':=(w.alloc _).heap.size) OH);obtain⟨hc,hf⟩:=Eu d;have q:=Fv (hM.alloc _) d;have j:=(hG.alloc _).below d;obtain⟨te,pe,B⟩:=j.err)|(at_lookup;refine wpList_lookup_own_int _ rfl _ _ 82 rfl 9 3 .i64 Tryz.lawStr underlying82 underlying3 (Tryz.zeroInt _) b 35 _ rfl q _ _ rfl (keyOf_string_mk underlying9 Y) ?_;intro c t F;rw[Ox (HL.out.symm.trans t)];clear t F c)|(go_at_call 121;refine(Tryz.strconv_ParseUint_10_at64_ok _ OC v y.out _).mono ?_;rintro e w3 ⟨rfl,o⟩;have f:=Lr o;clear o;have l:=d.trans (f.mono (B':=(w.alloc _).heap.size) OH);have M:=f.size;have X:=(j.below f).tab H OC OC;obtain⟨A,J⟩:=Eu l));refine bodyPost_ret (v:=.agg #[.int .i64 3,.string ⟨#[]⟩,.int .i64 (H:Int),.int .i64 (wrap64 (v:Int)),.int .i64 0,.int .i64 (n:Int),.int .i64 0]) (by simp[results,results86,go_sem,A]) rfl ⟨Fz N.out.symm,Ht _ ON _ l _ _ _ _ _ _ _⟩
    ·have p:=Rc _ x u (by rw[HV.out];exact hv);have y:Hid (Lib.parseUintB 64 (s.extract 0 k).data.toList = .range):=p;clear p;have ae:=Nn (H:Int);have N:Hid (A3 (E1 (A5 s.data.toList))=A3 (Bi 3)):=(by rw[Hid,T.out,Ko W (.inr (.inr (by rw[I.out,R.out];omega)))]);clear x u ae;by_cases hT:(H:Int) < 3;all_goals
      go_enter func86,ntmps86;go_wp2_with (first|(go_at_call 103;refine(wordSize_any _ _ hs).mono ?_;rintro e w1 ⟨rfl,g⟩;rw[S.out];have m:=g.size;simp at m)|(go_at_call 120;refine(digitsSize_any _ _ C).mono ?_;rintro e w2 ⟨rfl,i⟩;rw[Z.out];have G:=i.size;have d:=g.trans (i.mono (B':=(w.alloc _).heap.size) OH);obtain⟨hc,hf⟩:=Eu d;have q:=Fv (hM.alloc _) d;have j:=(hG.alloc _).below d;obtain⟨te,pe,B⟩:=j.err)|(at_lookup;refine wpList_lookup_own_int _ rfl _ _ 82 rfl 9 3 .i64 Tryz.lawStr underlying82 underlying3 (Tryz.zeroInt _) b 35 _ rfl q _ _ rfl (keyOf_string_mk underlying9 Y) ?_;intro c t F;rw[Ox (HL.out.symm.trans t)];clear t F c)|(go_at_call 121;refine(Tryz.strconv_ParseUint_10_at64_range _ OC y.out _ _ B (.inr ⟨_,_,rfl⟩)).mono ?_;rintro e w3 ⟨NN,rfl,aj,aa,f⟩;clear aa;have l:=d.trans (f.mono (B':=(w.alloc _).heap.size) OH);have M:=f.size;obtain⟨A,J⟩:=Eu l));exact DdScanWx115
  ·have I:Hid (C9 W=10):=(by rw[Hid,C9,z.out,if_neg (by rw[<- U.out];exact hkn)]);clear L E ad;rcases D with D|⟨Q,D⟩
   all_goals
    have hT:¬ (10:Int) < 3:=OC;by_cases hv:v < 18446744073709551616
    ·have p:=Vh _ x u (by rw[HV.out];exact hv);rw[HV.out]at p;have y:Hid (Lib.parseUintB 64 (s.extract 0 k).data.toList = .ok v):=p;clear p;by_cases hgr:Ce (10:Int) < (v:Int)
     ·have N:Hid (A3 (E1 (A5 s.data.toList))=A3 (Bi 3)):=(by rw[Hid,T.out,Ko W (.inr (.inr (by rw[I.out,R.out];exact hgr)))]);clear x u hT;go_enter func86,ntmps86;go_wp2_with (first|(go_at_call 103;refine(wordSize_any _ _ hs).mono ?_;rintro e w1 ⟨rfl,g⟩;rw[S.out];have m:=g.size;simp at m)|(go_at_call 120;refine(digitsSize_any _ _ C).mono ?_;rintro e w2 ⟨rfl,i⟩;rw[Z.out];have G:=i.size;have d:=g.trans (i.mono (B':=(w.alloc _).heap.size) OH);obtain⟨hc,hf⟩:=Eu d;have q:=Fv (hM.alloc _) d;have j:=(hG.alloc _).below d;obtain⟨te,pe,B⟩:=j.err)|(go_at_call 121;refine(Tryz.strconv_ParseUint_10_at64_ok _ OC v y.out _).mono ?_;rintro e w3 ⟨rfl,o⟩;have f:=Lr o;clear o;have l:=d.trans (f.mono (B':=(w.alloc _).heap.size) OH);have M:=f.size;have X:=(j.below f).tab 10 OC OC;obtain⟨A,J⟩:=Eu l));exact DdScanWx115
     ·have N:Hid (A3 (E1 (A5 s.data.toList)) = .agg #[.int .i64 3,.string ⟨#[]⟩,.int .i64 (10:Int),.int .i64 (wrap64 (v:Int)),.int .i64 0,.int .i64 (n:Int),.int .i64 0]):=by
       rw[Hid,T.out,Xi W (by rintro(h|h|h);exact hA h;(rw[I.out]at h;exact hT h);(rw[I.out,R.out]at h;exact hgr h)),I.out,R.out,<- U.out];rfl
      clear x u hT;go_enter func86,ntmps86;go_wp2_with (first|(go_at_call 103;refine(wordSize_any _ _ hs).mono ?_;rintro e w1 ⟨rfl,g⟩;rw[S.out];have m:=g.size;simp at m)|(go_at_call 120;refine(digitsSize_any _ _ C).mono ?_;rintro e w2 ⟨rfl,i⟩;rw[Z.out];have G:=i.size;have d:=g.trans (i.mono (B':=(w.alloc _).heap.size) OH);obtain⟨hc,hf⟩:=Eu d;have q:=Fv (hM.alloc _) d;have j:=(hG.alloc _).below d;obtain⟨te,pe,B⟩:=j.err)|(go_at_call 121;refine(Tryz.strconv_ParseUint_10_at64_ok _ OC v y.out _).mono ?_;rintro e w3 ⟨rfl,o⟩;have f:=Lr o;clear o;have l:=d.trans (f.mono (B':=(w.alloc _).heap.size) OH);have M:=f.size;have X:=(j.below f).tab 10 OC OC;obtain⟨A,J⟩:=Eu l));refine bodyPost_ret (v:=.agg #[.int .i64 3,.string ⟨#[]⟩,.int .i64 (10:Int),.int .i64 (wrap64 (v:Int)),.int .i64 0,.int .i64 (n:Int),.int .i64 0]) (by simp[results,results86,go_sem,A]) rfl ⟨Fz N.out.symm,Ht _ ON _ l _ _ _ _ _ _ _⟩
    ·have p:=Rc _ x u (by rw[HV.out];exact hv);have y:Hid (Lib.parseUintB 64 (s.extract 0 k).data.toList = .range):=p;clear p;have ae:=Nn (10:Int);have N:Hid (A3 (E1 (A5 s.data.toList))=A3 (Bi 3)):=(by rw[Hid,T.out,Ko W (.inr (.inr (by rw[I.out,R.out];omega)))]);clear x u ae hT;go_enter func86,ntmps86;go_wp2_with (first|(go_at_call 103;refine(wordSize_any _ _ hs).mono ?_;rintro e w1 ⟨rfl,g⟩;rw[S.out];have m:=g.size;simp at m)|(go_at_call 120;refine(digitsSize_any _ _ C).mono ?_;rintro e w2 ⟨rfl,i⟩;rw[Z.out];have G:=i.size;have d:=g.trans (i.mono (B':=(w.alloc _).heap.size) OH);obtain⟨hc,hf⟩:=Eu d;have q:=Fv (hM.alloc _) d;have j:=(hG.alloc _).below d;obtain⟨te,pe,B⟩:=j.err)|(go_at_call 121;refine(Tryz.strconv_ParseUint_10_at64_range _ OC y.out _ _ B (.inr ⟨_,_,rfl⟩)).mono ?_;rintro e w3 ⟨NN,rfl,aj,aa,f⟩;clear aa;have l:=d.trans (f.mono (B':=(w.alloc _).heap.size) OH);have M:=f.size;obtain⟨A,J⟩:=Eu l));exact DdScanWx115
open Go.RowKit
theorem Re {w wr:World} (hb:Below (w.heap.size+1) (w.alloc (.cells #[.int .i64 0,.string ByteArray.empty,.int .i64 0,.int .i64 0,.int .i64 0,.int .i64 0,.int .i64 0] 149)) wr) :
  wr.cell? (OK w.heap.size 0)=some (.int .i64 0)/\wr.cell? (OK w.heap.size 1)=some (.string ByteArray.empty)/\wr.cell? (OK w.heap.size 2)=some (.int .i64 0)/\wr.cell? (OK w.heap.size 3)=some (.int .i64 0)/\wr.cell? (OK w.heap.size 4)=some (.int .i64 0)/\wr.cell? (OK w.heap.size 5)=some (.int .i64 0)/\wr.cell? (OK w.heap.size 6)=some (.int .i64 0):=by
 refine⟨?_, ?_, ?_, ?_, ?_, ?_, ?_⟩
 ·rw[hb.cell (p:=(OK w.heap.size 0)) OF];simp[go_sem]
 ·rw[hb.cell (p:=(OK w.heap.size 1)) OF];simp[go_sem]
 ·rw[hb.cell (p:=(OK w.heap.size 2)) OF];simp[go_sem]
 ·rw[hb.cell (p:=(OK w.heap.size 3)) OF];simp[go_sem]
 ·rw[hb.cell (p:=(OK w.heap.size 4)) OF];simp[go_sem]
 ·rw[hb.cell (p:=(OK w.heap.size 5)) OF];simp[go_sem]
 ·rw[hb.cell (p:=(OK w.heap.size 6)) OF];simp[go_sem]
theorem Qm {w wr:World} (hb:Below (w.heap.size+1) (w.alloc (.cells #[.int .i64 0,.string ByteArray.empty,.int .i64 0,.int .i64 0,.int .i64 0,.int .i64 0,.int .i64 0] 149)) wr) :
  wr.frozen? (OK w.heap.size 0)=false/\wr.frozen? (OK w.heap.size 1)=false/\wr.frozen? (OK w.heap.size 2)=false/\wr.frozen? (OK w.heap.size 3)=false/\wr.frozen? (OK w.heap.size 4)=false/\wr.frozen? (OK w.heap.size 5)=false/\wr.frozen? (OK w.heap.size 6)=false/\w.heap.size < wr.heap.size:=by
 refine⟨?_, ?_, ?_, ?_, ?_, ?_, ?_, ?_⟩
 ·rw[hb.frozen (p:=(OK w.heap.size 0)) OF];simp[go_sem]
 ·rw[hb.frozen (p:=(OK w.heap.size 1)) OF];simp[go_sem]
 ·rw[hb.frozen (p:=(OK w.heap.size 2)) OF];simp[go_sem]
 ·rw[hb.frozen (p:=(OK w.heap.size 3)) OF];simp[go_sem]
 ·rw[hb.frozen (p:=(OK w.heap.size 4)) OF];simp[go_sem]
 ·rw[hb.frozen (p:=(OK w.heap.size 5)) OF];simp[go_sem]
 ·rw[hb.frozen (p:=(OK w.heap.size 6)) OF];simp[go_sem]
 ·have:=hb.size;simp at this;omega
theorem Ry {w wr:World} {o:Obj} (hb:Below (w.heap.size+1) (w.alloc o) wr) (c0 c1 c2 c3 c4 c5 c6:Value) :
  Below w.heap.size w (((((((wr.setCell (OK w.heap.size 0) c0).setCell (OK w.heap.size 1) c1).setCell (OK w.heap.size 2) c2).setCell (OK w.heap.size 3) c3).setCell (OK w.heap.size 4) c4).setCell (OK w.heap.size 5) c5).setCell (OK w.heap.size 6) c6) :=
 Ht _ ON o (by simpa using hb) _ _ _ _ _ _ _
theorem We (T e:TypeId) (w:World):Lib.IsBuilderF T e w.heap.size w.heap.size (Lib.byteCells []) (w.alloc (.cells #[.pointer none,.slice none 0 0] T)):=Lib.IsBuilderF.of (Lib.fresh_isBuilder T e w)
theorem Ml (s:ByteArray) (i:Nat):(s.extract i s.size).data.toList=s.data.toList.drop i:=by
 rw[Lib.extract_data,List.take_of_length_le OF]
theorem Xp (s:ByteArray) (i:Nat) (h:i+1 < s.size):Kq (s.extract i s.size)=(decide (0<=Br s[i]) && decide (0<=Br s[i+1])):=by
 rw[Kq,Ml,Bx s i OC,Bx s (i+1) OC]
theorem Qa9 (s:ByteArray) (i:Nat) (h:¬ i+1 < s.size):Kq (s.extract i s.size)=false:=by
 rw[Kq,Ml];have b:(s.data.toList.drop i).length<=1:=by simp;omega
 match s.data.toList.drop i,b with
 | [],_=>rfl
 | [a],_=>rfl
theorem Qeo (s:ByteArray) (i:Nat) (h:i+1 < s.size):J7 (s.extract i s.size)=16 * Br s[i]+Br s[i+1]:=by
 rw[J7,Ml,Bx s i OC,Bx s (i+1) OC]
theorem Oj (l:List UInt8) (h:Ef l.tail []=none):D1 l=Bi 4:=by rw[D1,h]
theorem Qbb (l t r:List UInt8) (h:Ef l.tail []=some (t,r)):D1 l=if 3000 < t.length then Bi 5 else ⟨4,t,0,0,l.length - r.length,0⟩:=by rw[D1,h]
def Xd (s:ByteArray) (w:World) (e:Ending) (w':World):Prop :=
 ((e = .returned (.tuple #[.string ⟨#[]⟩,.int .i64 0])/\D1 s.data.toList=Bi 4) \/
  ∃ (t:ByteArray) (n:Nat),1<=n/\n<=1048576/\t.size<=1048576/\e = .returned (.tuple #[.string t,.int .i64 (n:Int)])/\D1 s.data.toList=if 3000 < t.size then Bi 5 else ⟨4,t.data.toList,0,0,n,0⟩)/\Below w.heap.size w w'
theorem unquoted_any (s:ByteArray) (w:World) (h1:1<=s.size) (hs:s.size<=1048576) :
  Calls prog 122 #[.string s] w (Xd s w):=by
 have u:s.data.toList.tail=s.data.toList.drop 1:=by simp
 go_enter func122,ntmps122;go_wp2;go_loopw [5,6,7,8] (fun t _ _ _ wr => ∃ (i:Nat) (acc:List UInt8),1<=i/\i<=s.size/\acc.length<=i/\t = .int .i64 (i:Int)/\Lib.IsBuilderF 45 5 w.heap.size w.heap.size (Lib.byteCells acc) wr/\Below w.heap.size w wr/\Ef (s.data.toList.drop i) acc=Ef s.data.toList.tail []) (fun t _ _ _ _=>s.size - (intOf t).toNat);case atStart =>
  exact⟨1,[],by omega,by omega,by simp,rfl,We 45 5 w,OP _ _,by rw[u]⟩
 case round =>
  obtain⟨i,acc,U,V,M,rfl,D,c,d⟩:=hrel;clear u;by_cases hlt:i < s.size
  ·rw[Bx s i hlt]at d;cases h34:((s[i].toNat:Int) == 34) with
   | true =>
    have g:Hid (D1 s.data.toList=if 3000 < (⟨acc.toArray⟩:ByteArray).size then Bi 5 else ⟨4,(⟨acc.toArray⟩:ByteArray).data.toList,0,0,i+1,0⟩):=by
     rw[J6 _ 34 h34,T7]at d;rw[Hid,Qbb _ _ _ d.symm];have R:s.data.toList.length - (s.data.toList.drop (i+1)).length=i+1:=OH;have K:(⟨acc.toArray⟩:ByteArray).size=acc.length:=rfl;have S:(⟨acc.toArray⟩:ByteArray).data.toList=acc:=rfl;rw[R,K,S]
    clear d;have y:=c.size;go_wp2_with (go_at_call 16;refine(Tryz.Builder_String_any_k w.heap.size w.heap.size acc _ D y).mono ?_;rintro e J ⟨rfl,B,z,N⟩;have q:=c.trans z);exact bodyPost_ret (v:=.tuple #[.string ⟨acc.toArray⟩,.int .i64 ((i:Int)+1)]) (by simp[results,results122,go_sem]) rfl ⟨.inr ⟨⟨acc.toArray⟩,i+1,by omega,by omega,by have K:(⟨acc.toArray⟩:ByteArray).size=acc.length:=rfl;omega,by rw[show ((i+1:Nat):Int)=(i:Int)+1 by omega],g.out⟩,q⟩
   | false =>
    have f:s[i]≠34:=Dx _ 34 h34;cases h92:((s[i].toNat:Int) == 92) with
    | true =>
     have j:s[i]=92:=J6 _ 92 h92;rw[j]at d;have n:32<=(s[i].toNat:Int):=(by simp at h92;omega);have o:(s[i].toNat:Int)<=126:=(by simp at h92;omega);have y:=c.size;cases hrb:Kq (s.extract (i+1) s.size) with
     | true =>
      have A:i+1+1 < s.size:=by
       by_cases h:i+1+1 < s.size
       ·exact h
       ·rw[Qa9 s (i+1) h]at hrb;simp at hrb
      have l:=hrb;rw[Xp s (i+1) A,Bool.and_eq_true,decide_eq_true_eq,decide_eq_true_eq]at l;have F:=Qeo s (i+1) A;rw[Bx s (i+1) OC,Bx s (i+1+1) OC,Sb,if_pos l,<- F]at d;have T:=Qk (s[i+1].toNat:Int);have E:=Qk (s[i+1+1].toNat:Int);have x:0<=J7 (s.extract (i+1) s.size)/\J7 (s.extract (i+1) s.size)<=255:=by
       rw[F];unfold Br at *;omega
      obtain⟨v,I⟩:∃ v,Hid (J7 (s.extract (i+1) s.size)=v):=⟨_,(rfl:J7 (s.extract (i+1) s.size)=_)⟩;rw[I.out]at d x;obtain⟨G,H⟩:=x;have C:Hid (Ef (s.data.toList.drop (i+3)) (acc++[UInt8.ofNat v.toNat])=Ef s.data.toList.tail []):=d;have O:Hid (((UInt8.ofNat v.toNat).toNat:Int)=v):=Ra v G H;clear d f j l F T E;go_wp2_with (first
       | (go_at_call 153;refine(readByte_yes _ _ hrb).mono ?_;rintro e w' ⟨rfl,rfl⟩;rw[I.out])
       | (go_at_call 154;refine(Tryz.Builder_WriteByte_k w.heap.size w.heap.size _ _ _ D (by rw[Lib.byteCells_length];omega) y).mono ?_;rintro e J ⟨rfl,B,z,N⟩))
      go_roundw;case rel=>exact⟨i+3,acc++[UInt8.ofNat v.toNat],by omega,by omega,by simp;omega,by go_num,by rw[Gv,O.out];exact Or.inr B,c.trans z,C.out⟩
      case measure=>simp[intOf];omega
     | false =>
      have g:Hid (D1 s.data.toList=Bi 4):=by
       have k:Ef (92::s.data.toList.drop (i+1)) acc=none:=by
        by_cases A:i+1+1 < s.size
        ·rw[Xp s (i+1) A]at hrb;rw[Bx s (i+1) OC,Bx s (i+1+1) OC,Sb,if_neg (by
          rintro⟨a,b⟩
          rw[decide_eq_true a,decide_eq_true b]at hrb;simp at hrb)]
        ·exact Qcs _ _ OH
       rw[k]at d;rw[Hid,Oj _ d.symm]
      clear d f j;go_wp2_with (go_at_call 153;refine(readByte_no _ _ hrb).mono ?_;rintro e w' ⟨rfl,rfl⟩);exact bodyPost_ret (v:=.tuple #[.string ⟨#[]⟩,.int .i64 0]) (by simp[results,results122,go_sem]) rfl ⟨.inl ⟨rfl,g.out⟩,c⟩
    | false =>
     have m:s[i]≠92:=Dx _ 92 h92;by_cases hbr:32<=(s[i].toNat:Int)/\(s[i].toNat:Int)<=126
     ·obtain⟨n,o⟩:=hbr;have p:Ir s[i]=true:=by
       have P:(s[i].toNat:Int)≠34:=(by simpa using h34);have Q:(s[i].toNat:Int)≠92:=(by simpa using h92);simp[Ir,H3,n,o,P,Q]
      have C:Hid (Ef (s.data.toList.drop (i+1)) (acc++[s[i]])=Ef s.data.toList.tail []):=by
       rw[Vk _ _ _ f p]at d;exact d
      clear d f m p;have y:=c.size;go_wp2_with (go_at_call 154;refine(Tryz.Builder_WriteByte_k w.heap.size w.heap.size _ _ _ D (by rw[Lib.byteCells_length];omega) y).mono ?_;rintro e J ⟨rfl,B,z,N⟩);go_roundw;case rel=>exact⟨i+1,acc++[s[i]],by omega,by omega,by simp;omega,by go_num,by rw[Gv];exact Or.inr B,c.trans z,C.out⟩
      case measure=>simp[intOf];omega
     ·have r:Ir s[i]=false:=by
       simp[Ir,H3];intro a b;exact absurd ⟨a,b⟩ hbr
      have g:Hid (D1 s.data.toList=Bi 4):=by
       rw[Qg6 _ _ _ f r m]at d;rw[Hid,Oj _ d.symm]
      clear d f m r;by_cases h32:(s[i].toNat:Int) < 32
      ·go_wp2;exact bodyPost_ret (v:=.tuple #[.string ⟨#[]⟩,.int .i64 0]) (by simp[results,results122,go_sem]) rfl ⟨.inl ⟨rfl,g.out⟩,c⟩
      ·have L:126 < (s[i].toNat:Int):=OC;go_wp2;exact bodyPost_ret (v:=.tuple #[.string ⟨#[]⟩,.int .i64 0]) (by simp[results,results122,go_sem]) rfl ⟨.inl ⟨rfl,g.out⟩,c⟩
  ·have g:Hid (D1 s.data.toList=Bi 4):=by
    rw[List.drop_of_length_le OH]at d;rw[Hid,Oj _ (by rw[<- d];rfl)]
   clear d;go_wp2;exact bodyPost_ret (v:=.tuple #[.string ⟨#[]⟩,.int .i64 0]) (by simp[results,results122,go_sem]) rfl ⟨.inl ⟨rfl,g.out⟩,c⟩
theorem readText_any (s:ByteArray) (w:World) (h1:1<=s.size) (hs:s.size<=1048576) :
  Calls prog 87 #[.string s] w fun e w'=>e = .returned (A3 (D1 s.data.toList))/\Below w.heap.size w w':=by
 have m:Hid (∀ w,Calls prog 122 #[.string s] w (Xd s w)):=fun w=>unquoted_any s w h1 hs
 go_enter func87,ntmps87;go_wp2_with fail;go_at_call 122;refine(m.out _).mono ?_;rintro e u ⟨o,l⟩;have a:Below (w.heap.size+1) (w.alloc (.cells #[.int .i64 0,.string ByteArray.empty,.int .i64 0,.int .i64 0,.int .i64 0,.int .i64 0,.int .i64 0] 149)) u:=by simp only[World.size_alloc]at l;exact l
 obtain⟨d,f,g,h,i,j,k⟩:=Re a;obtain⟨x,y,z,A,B,C,D,F⟩:=Qm a;clear l m;rcases o with⟨rfl,b⟩|⟨t,n,q,r,E,rfl,b⟩
 ·have c:Hid (D1 s.data.toList=Bi 4):=b;clear b;go_wp2;refine bodyPost_ret (v:=A3 (Bi 4)) (by simp[results,results87,go_sem,d,f,g,h,i,j,k,A3,Bi,Aj]) rfl ⟨Fz (by rw[c.out]),Ry a _ _ _ _ _ _ _⟩
 ·have p:((n:Int) == 0)=false:=by simp;omega
  by_cases h3:3000 < t.size
  ·have c:Hid (D1 s.data.toList=Bi 5):=(by rw[Hid,b,if_pos h3]);clear b;go_wp2;refine bodyPost_ret (v:=A3 (Bi 5)) (by simp[results,results87,go_sem,d,f,g,h,i,j,k,A3,Bi,Aj]) rfl ⟨Fz (by rw[c.out]),Ry a _ _ _ _ _ _ _⟩
  ·have c:Hid (D1 s.data.toList=⟨4,t.data.toList,0,0,n,0⟩):=(by rw[Hid,b,if_neg h3]);clear b;go_wp2;refine bodyPost_ret (v:=A3 ⟨4,t.data.toList,0,0,n,0⟩) (by simp[results,results87,go_sem,d,f,g,h,i,j,k,A3,Aj]) rfl ⟨Fz (by rw[c.out]),Ry a _ _ _ _ _ _ _⟩
end Go.Proofs.YtjlaedokfbcbpaaGreatDoor
namespace Go.Proofs.YtjlaedokfbcbpaaGreatDoor
open Proofs.Tryz
open Go.RowKit Go.Shelf
attribute [local go_sem] Oper.semAt_some
theorem tokens_in (n:Nat) (s:ByteArray) (w:World) :
  CallsIn Fence.wide n prog 50 #[.string s] w fun e w'=>e = .returned (.func (.func 81) #[] #[.pointer (some (OK w.heap.size 0))])/\w'=w.alloc (.cells #[.string s] 9):=by
 refine callsIn_of_wp func50 rfl trivial ?_ rfl;simp only[ntmps50,List.size_toArray,List.length_cons,List.length_nil,Nat.reduceAdd,Nat.reduceSub,Array.replicate_succ,Array.replicate_zero,List.push_toArray,List.append_toArray,List.nil_append,List.cons_append];gi_wp2;go_ret;exact⟨rfl,rfl⟩
structure Mh (n₀:Nat) (W W':World):Prop where
 below:Below n₀ W W'
 walks:KeepsWalks W W'
 pieces:∀ (k:Nat) (c:Array Value) (fz:Nat × Nat),W.heap[k]? = some (Obj.cells c 149 fz)->W'.heap[k]? = W.heap[k]?
 strs:∀ (k:Nat) (c:Array Value) (fz:Nat × Nat),W.heap[k]? = some (Obj.cells c 9 fz)->W'.heap[k]? = W.heap[k]?
theorem Mh.trans {n₀:Nat} {A B C:World} (h:Mh n₀ A B) (k:Mh n₀ B C):Mh n₀ A C :=
 ⟨h.below.trans k.below,h.walks.trans k.walks,fun i c fz hi=>by
  have a:=h.pieces i c fz hi
  rw[k.pieces i c fz (a.trans hi),a],fun i c fz hi=>by
  have a:=h.strs i c fz hi
  rw[k.strs i c fz (a.trans hi),a]⟩
theorem Mh.put {n₀:Nat} {w:World} (hn:n₀<=w.heap.size) (W:World) (l:Nat) (o o':Obj) (hl:w.heap.size<=l) (h:W.heap[l]? = some o) (hc:o.isCells=false) (hw:o.isWalk=false):Mh n₀ W (W.putObj l o') :=
 ⟨belowK_b hn W l o o' hl h hc hw,walksK_b (w:=w) W l o o' hl h hc hw,fun k c fz hk=>World.putObj_heap_other (fun e=>by subst e;rw[hk]at h;cases h;simp[Obj.isCells]at hc),fun k c fz hk=>World.putObj_heap_other (fun e=>by subst e;rw[hk]at h;cases h;simp[Obj.isCells]at hc)⟩
def Ch : Nat->List UInt8->Nat->List (Ab × Nat)
 | 0,_,_=>[]
 | _+1,[],_=>[]
 | f+1,b::r,i=>if b=32\/b=10 then Ch f r (i+1)
   else if b=35 then Ch f ((b::r).drop (Ez (b::r))) (i+Ez (b::r))
   else if (Bb (b::r)).code≠0 then [(Bb (b::r),i)]
   else (Bb (b::r),i)::Ch f ((b::r).drop (Bb (b::r)).size) (i+(Bb (b::r)).size)
def Jp : List (Ab × Nat)->List (Ab × Nat)->List (Ab × Nat) × Int × Nat
 | acc,[]=>(acc,0,0)
 | acc,x::r=>if x.1.code≠0 then ([],x.1.code,x.2) else Jp (acc++[x]) r
theorem Np : ∀ (f:Nat) (l:List UInt8) (i:Nat) (acc:List (Ab × Nat)),Ew f l i acc=Jp acc (Ch f l i)
 | 0,_,_,_=>by rw[Ew,Ch,Jp]
 | _+1,[],_,_=>by rw[Ew,Ch,Jp]
 | f+1,b::r,i,acc=>by
  rw[Ew,Ch]
  by_cases h1:b=32\/b=10
  ·rw[if_pos h1,if_pos h1];exact Np f _ _ _
  ·rw[if_neg h1,if_neg h1]
   by_cases h2:b=35
   ·rw[if_pos h2,if_pos h2];exact Np f _ _ _
   ·rw[if_neg h2,if_neg h2]
    by_cases h3:(Bb (b::r)).code≠0
    ·rw[if_pos h3,if_pos h3,Jp,if_pos h3]
    ·rw[if_neg h3,if_neg h3,Jp,if_neg h3];exact Np f _ _ _
theorem Xq (f i:Nat) (b:UInt8) (r:List UInt8) (h:b=32\/b=10):Ch (f+1) (b::r) i=Ch f r (i+1):=by rw[Ch,if_pos h]
theorem Qg0 (f i:Nat) (b:UInt8) (r:List UInt8) (h:¬ (b=32\/b=10)) (h2:b=35):Ch (f+1) (b::r) i=Ch f ((b::r).drop (Ez (b::r))) (i+Ez (b::r)):=by rw[Ch,if_neg h,if_pos h2]
theorem Qgz (f i:Nat) (b:UInt8) (r:List UInt8) (h:¬ (b=32\/b=10)) (h2:b≠35) (h3:(Bb (b::r)).code≠0):Ch (f+1) (b::r) i=[(Bb (b::r),i)]:=by rw[Ch,if_neg h,if_neg h2,if_pos h3]
theorem Qg1 (f i:Nat) (b:UInt8) (r:List UInt8) (h:¬ (b=32\/b=10)) (h2:b≠35) (h3:(Bb (b::r)).code=0):Ch (f+1) (b::r) i=(Bb (b::r),i)::Ch f ((b::r).drop (Bb (b::r)).size) (i+(Bb (b::r)).size):=by rw[Ch,if_neg h,if_neg h2,if_neg (by simpa using h3)]
theorem Xr (f i:Nat):Ch f [] i=[]:=by cases f <;> rfl
def Ee (s:ByteArray):List (Ab × Nat):=Ch (s.size+1) s.data.toList 0
theorem Oz : ∀ (f:Nat) (l:List UInt8) (i:Nat),(Ch f l i).length<=f
 | 0,_,_=>by rw[Ch];simp
 | _+1,[],_=>by rw[Ch];simp
 | f+1,b::r,i=>by
  rw[Ch]
  repeat' split
  ·have:=Oz f r (i+1);omega
  ·have:=Oz f ((b::r).drop (Ez (b::r))) (i+Ez (b::r));omega
  ·simp
  ·have:=Oz f ((b::r).drop (Bb (b::r)).size) (i+(Bb (b::r)).size);simp only[List.length_cons];omega
theorem Qai : ∀ l:List UInt8,Lib.indexByte l 10=if Ez l < l.length then (Ez l:Int) else -1
 | []=>by simp[Lib.indexByte]
 | b::r=>by
  have a:=Qai r
  by_cases h:b=10
  ·subst h;simp[Lib.indexByte,Ez,R4]
  ·have c:(b == 10)=false:=by simpa using h
   have f:R4 b=true:=by simp[R4,h]
   have g:Ez (b::r)=Ez r+1:=by simp[Ez,f]
   rw[Lib.indexByte,c,g]
   simp only[Bool.false_eq_true,if_false,List.length_cons]
   by_cases h2:Ez r < r.length
   ·rw[if_pos h2]at a
    have d:((Ez r:Int) == -1)=false:=by simp
    rw[a,d,if_pos (show Ez r+1 < r.length+1 by omega)];simp
   ·rw[if_neg h2]at a
    rw[a,if_neg (show ¬ Ez r+1 < r.length+1 by omega)];simp
end Go.Proofs.YtjlaedokfbcbpaaGreatDoor
