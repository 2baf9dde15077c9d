import Derived.Test.YtlcckaffhnjneaaGreatDoorKPaJ
import Derived.Test.YtlcckaffhnjneaaGreatDoorKPcB
import Derived.Deep.MidRow
set_option maxRecDepth 100000
set_option maxHeartbeats 4000000
namespace Go.Proofs.YtlcckaffhnjneaaGreatDoor
open Go.RowKit
variable {ts:List (Mill.Piece × Nat)} {g:Nat} {a:Option Addr} {c:Nat} {s:Pa.S} {w:World}
theorem Pa.ix_iff (l:List (List UInt8)) (hn:l.Nodup) (x:List UInt8) (k:Nat) (hk:k < l.length):l[k]=x ↔ Pa.ix l x=k+1:=by
 unfold Pa.ix
 constructor
 ·intro h
  subst h
  rw [if_pos (List.getElem_mem hk),List.Nodup.idxOf_getElem hn]
 ·intro h
  by_cases hm:x ∈ l
  ·rw [if_pos hm] at h
   have h2:l.idxOf x=k:=by omega
   subst h2
   exact List.getElem_idxOf hk
  ·rw [if_neg hm] at h;omega
theorem Pa.builtWord_at : ∀ k (h:k < Pa.builts.length),Mill.builtWord ((k+1:Nat):Int)=⟨Pa.builts[k].toArray⟩:=by decide
theorem Pa.builts_is (x:List UInt8) (op:Nat) (h:1≤op∧op≤12):((Mill.builtWord (op:Int)).toList == (Mill.ba x).toList)=decide (op=Pa.ix Pa.builts x):=by
 have h1:=Pa.builtWord_at (op - 1) (by have:Pa.builts.length=12:=rfl;omega)
 rw [show op - 1+1=op by omega] at h1
 rw [h1,Pa.list_lit,Pa.ba_list]
 have h2:=Pa.ix_iff Pa.builts (by decide) x (op - 1) (by have:Pa.builts.length=12:=rfl;omega)
 rw [show op - 1+1=op by omega] at h2
 by_cases h3:Pa.builts[op - 1]'(by have:Pa.builts.length=12:=rfl;omega)=x
 ·rw [decide_eq_true (h2.1 h3).symm];simpa using h3
 ·rw [decide_eq_false (fun e=>h3 (h2.2 e.symm))];simpa using h3
theorem Pa.bw_is (op:Nat) (Y:ByteArray) (K:Nat) (hY:Hid (Mill.builtWord (op:Int)=Y)) (hK:Hid (Mill.builtKids (op:Int)=(K:Int))) (w:World) :
  Calls Tryz.prog 54 #[.int .i64 (op:Int)] w fun e w'=>e = .returned (.tuple #[.string Y,.int .i64 (K:Int)])∧w=w':=by rw [← hY.out,← hK.out];exact l1BuiltWord_any _ w
theorem Pa.kids_nat : ∀ (j:Nat),j≤12→∃ K:Nat,Hid (Mill.builtKids (j:Int)=(K:Int))∧K≤3:=by
 intro j hj
 have h:∀ j:Fin 13,∃ K:Fin 4,Mill.builtKids ((j.val:Nat):Int)=((K.val:Nat):Int):=by decide
 obtain ⟨K,hK⟩:=h ⟨j,by omega⟩
 exact ⟨K.val,hK,by omega⟩
theorem Pa.word_built (n:Nat) (ih:∀ m,m≤n→Pa.ExprIs ts g a c m) (hk:Pa.kind ts s=2) (h1:¬ Pa.tx ts s.p=[116,114,117,101]) (h2:¬ Pa.tx ts s.p=[102,97,108,115,101]) (h3:¬ 3≤Pa.ix Pa.words (Pa.tx ts s.p)) (h4:Pa.ix Pa.builts (Pa.tx ts s.p)≠0) (R:Pa.Nds × Pa.S) (hR:Pa.built ts (n+1) (Mill.builtKids (Pa.ix Pa.builts (Pa.tx ts s.p))).toNat (Pa.nx s)=some R) (hl:R.1.length+1≤1000000) (hD:Pa.D ts g a c s w) :
  Calls Tryz.prog 126 #[.pointer (some ⟨g,0,none⟩)] w (Pa.Out ts g a c (R.1++[⟨8,(Pa.ix Pa.builts (Pa.tx ts s.p):Int),0,0,⟨#[]⟩,Mill.builtKids (Pa.ix Pa.builts (Pa.tx ts s.p))⟩],R.2) w):=by
 have hgw:=hD.lt
 obtain ⟨hs1,hs2⟩:=hD.sum
 have hp:=(Pa.kind_lt hk (by decide)).1
 have hlen:=hD.len
 have hcap:=hD.cap
 obtain ⟨c0,c1,c2,f1,f2⟩:=hD.cells
 obtain ⟨b,rfl,hbg,k0,k1,k2,k3,z,k4⟩:=hD.tok hp
 have hpn:(s.p:Int) < (ts.length:Int):=by omega
 have hpz:(0:Int)≤(s.p:Int):=by omega
 have hq:∀ q,Below w.heap.size w (w.drewN q):=fun q=>Pa.below_drewN _ (Below.refl _ _)
 have HT:=Pa.typeOf_ix (Pa.tx ts s.p)
 have e1:¬ (Mill.ba (Pa.tx ts s.p)).toList=[116,114,117,101]:=by rw [Pa.ba_list];exact h1
 have e1b:((Mill.ba (Pa.tx ts s.p)).toList == [116,114,117,101])=false:=by rw [Pa.ba_list];simpa using h1
 have e2:¬ (Mill.ba (Pa.tx ts s.p)).toList=[102,97,108,115,101]:=by rw [Pa.ba_list];exact h2
 have e2b:((Mill.ba (Pa.tx ts s.p)).toList == [102,97,108,115,101])=false:=by rw [Pa.ba_list];simpa using h2
 obtain ⟨t,ht⟩:∃ t:Nat,Pa.ix Pa.words (Pa.tx ts s.p)=t:=⟨_,rfl⟩
 rw [ht] at HT h3
 clear ht
 have HB:=Pa.builts_is (Pa.tx ts s.p)
 obtain ⟨j,hj⟩:∃ j,Pa.ix Pa.builts (Pa.tx ts s.p)=j:=⟨_,rfl⟩
 rw [hj] at HB hR h4 ⊢
 have hj12:j≤12:=by rw [← hj];exact Pa.ix_le _ _
 clear hj
 generalize Mill.ba (Pa.tx ts s.p)=X at *
 have HI:Hid ((decide (3≤(t:Int)) && decide ((t:Int)≤10))=false):=by rw [Hid];simp only [Bool.and_eq_false_iff,decide_eq_false_iff_not];left;omega
 obtain ⟨K,HK,hK3⟩:∃ K:Nat,Hid (Mill.builtKids (j:Int)=(K:Int))∧K≤3:=Pa.kids_nat j hj12
 rw [HK.out] at hR ⊢
 simp only [Int.toNat_natCast] at hR
 go_enter Tryz.func126,Tryz.ntmps126
 go_wp2_with fail
 go_quiet (fail)
 go_wp2_with (first
  | (go_at_call 45;refine (Pa.type_is _ _ HT _).mono ?_;rintro e w' ⟨rfl,rfl⟩)
  | (go_at_call 50;refine (l1Integer_is _ false HI _).mono ?_;rintro e w' ⟨rfl,rfl⟩))
 obtain ⟨W0,hW0⟩:∃ W,w.drewN nq=W:=⟨_,rfl⟩
 have hB0:Below w.heap.size w W0:=by rw [← hW0];exact hq nq
 rw [hW0]
 have hD0:=hD.below hB0
 have hF0:Pa.Fr g w W0:=Pa.Fr.of_below hB0
 clear hW0 c0 c1 c2 f1 f2 k0 k1 k2 k3 k4 hD
 obtain ⟨c0,c1,c2,f1,f2⟩:=hD0.cells
 go_loopw [5] (fun v wr => ∃ op:Nat,1≤op∧op≤j∧v = .int .i64 (op:Int)∧wr=W0) (fun v _=>20 - (intOf v).toNat)
 case atStart=>exact ⟨1,by omega,by omega,rfl,rfl⟩
 case round =>
  obtain ⟨op,hop1,hop2,rfl,rfl⟩:=hrel
  have hop12:(op:Int)≤12:=by omega
  have hB:=HB op ⟨hop1,by omega⟩
  obtain ⟨Y,HY⟩:∃ Y,Hid (Mill.builtWord (op:Int)=Y):=⟨_,rfl⟩
  rw [HY.out] at hB
  by_cases hoj:op=j
  ·subst hoj
   simp only [decide_true] at hB
   clear HB
   go_wp2_with (first
    | (go_at_call 54;refine (Pa.bw_is op Y K HY HK _).mono ?_;rintro e w' ⟨rfl,rfl⟩)
    | (go_at_call 139;refine (Pa.built_any n ih K hK3 R hR (by omega) (hD0.nx hp)).mono ?_;rintro e W1 ⟨va,vc,rfl,hr1,hD1,hF1⟩;have hF0':Pa.Fr g w W1:=(hF0.trans (Pa.Fr.set _ _ _)).trans hF1;have hr1':=Pa.own_mono hr1 (hF0.trans (Pa.Fr.set (g:=g) _ 1 (.int .i64 ((s.p:Int)+1)))).size;clear hr1)
    | (at_builtin;refine Pa.wp_nd (l:=R.1) rfl _ _ rfl ⟨8,(op:Int),0,0,⟨#[]⟩,(K:Int)⟩ rfl rfl rfl hr1' hF0'.size hl ?_;intro a5 c5 W5 hr5 hDg hFg hsz5;have hD5:=hDg _ _ _ _ _ hD1 hgw;have hF5:=hFg g w hF0' (Nat.le_refl _);clear hDg hFg))
   go_ret
   exact Pa.out_of rfl rfl (by simp) hr5 hD5 hF5
  ·rw [decide_eq_false hoj] at hB
   obtain ⟨K2,HK2,_⟩:=Pa.kids_nat op (by omega)
   clear HB
   go_wp2_with (go_at_call 54;refine (Pa.bw_is op Y K2 HY HK2 _).mono ?_;rintro e w' ⟨rfl,rfl⟩)
   go_roundw
   case rel=>exact ⟨op+1,by omega,by omega,by simp,trivial⟩
   case measure=>simp [intOf];omega
theorem Pa.word_none (hk:Pa.kind ts s=2) (h1:¬ Pa.tx ts s.p=[116,114,117,101]) (h2:¬ Pa.tx ts s.p=[102,97,108,115,101]) (h3:¬ 3≤Pa.ix Pa.words (Pa.tx ts s.p)) (h4:Pa.ix Pa.builts (Pa.tx ts s.p)=0) (hD:Pa.D ts g a c s w) :
  Calls Tryz.prog 126 #[.pointer (some ⟨g,0,none⟩)] w (Pa.Out ts g a c ([],⟨s.p,true⟩) w):=by
 have hgw:=hD.lt
 obtain ⟨hs1,hs2⟩:=hD.sum
 have hp:=(Pa.kind_lt hk (by decide)).1
 have hlen:=hD.len
 have hcap:=hD.cap
 obtain ⟨c0,c1,c2,f1,f2⟩:=hD.cells
 obtain ⟨b,rfl,hbg,k0,k1,k2,k3,z,k4⟩:=hD.tok hp
 have hpn:(s.p:Int) < (ts.length:Int):=by omega
 have hpz:(0:Int)≤(s.p:Int):=by omega
 have hq:∀ q,Below w.heap.size w (w.drewN q):=fun q=>Pa.below_drewN _ (Below.refl _ _)
 have HT:=Pa.typeOf_ix (Pa.tx ts s.p)
 have e1:¬ (Mill.ba (Pa.tx ts s.p)).toList=[116,114,117,101]:=by rw [Pa.ba_list];exact h1
 have e1b:((Mill.ba (Pa.tx ts s.p)).toList == [116,114,117,101])=false:=by rw [Pa.ba_list];simpa using h1
 have e2:¬ (Mill.ba (Pa.tx ts s.p)).toList=[102,97,108,115,101]:=by rw [Pa.ba_list];exact h2
 have e2b:((Mill.ba (Pa.tx ts s.p)).toList == [102,97,108,115,101])=false:=by rw [Pa.ba_list];simpa using h2
 obtain ⟨t,ht⟩:∃ t:Nat,Pa.ix Pa.words (Pa.tx ts s.p)=t:=⟨_,rfl⟩
 rw [ht] at HT h3
 clear ht
 have HB:=Pa.builts_is (Pa.tx ts s.p)
 obtain ⟨j,hj⟩:∃ j,Pa.ix Pa.builts (Pa.tx ts s.p)=j:=⟨_,rfl⟩
 rw [h4] at HB
 clear hj
 generalize Mill.ba (Pa.tx ts s.p)=X at *
 have HI:Hid ((decide (3≤(t:Int)) && decide ((t:Int)≤10))=false):=by rw [Hid];simp only [Bool.and_eq_false_iff,decide_eq_false_iff_not];left;omega
 go_enter Tryz.func126,Tryz.ntmps126
 go_wp2_with fail
 go_quiet (fail)
 go_wp2_with (first
  | (go_at_call 45;refine (Pa.type_is _ _ HT _).mono ?_;rintro e w' ⟨rfl,rfl⟩)
  | (go_at_call 50;refine (l1Integer_is _ false HI _).mono ?_;rintro e w' ⟨rfl,rfl⟩))
 obtain ⟨W0,hW0⟩:∃ W,w.drewN nq=W:=⟨_,rfl⟩
 have hB0:Below w.heap.size w W0:=by rw [← hW0];exact hq nq
 rw [hW0]
 have hD0:=hD.below hB0
 have hF0:Pa.Fr g w W0:=Pa.Fr.of_below hB0
 clear hW0 c0 c1 c2 f1 f2 k0 k1 k2 k3 k4 hD
 obtain ⟨c0,c1,c2,f1,f2⟩:=hD0.cells
 go_loopw [5] (fun v wr => ∃ op:Nat,1≤op∧op≤13∧v = .int .i64 (op:Int)∧wr=W0) (fun v _=>20 - (intOf v).toNat)
 case atStart=>exact ⟨1,by omega,by omega,rfl,rfl⟩
 case round =>
  obtain ⟨op,hop1,hop2,rfl,rfl⟩:=hrel
  by_cases h12:op≤12
  ·have hop12:(op:Int)≤12:=by omega
   have hB:=HB op ⟨hop1,by omega⟩
   obtain ⟨Y,HY⟩:∃ Y,Hid (Mill.builtWord (op:Int)=Y):=⟨_,rfl⟩
   rw [HY.out,decide_eq_false (show ¬ op=0 by omega)] at hB
   obtain ⟨K2,HK2,_⟩:=Pa.kids_nat op (by omega)
   clear HB
   go_wp2_with (go_at_call 54;refine (Pa.bw_is op Y K2 HY HK2 _).mono ?_;rintro e w' ⟨rfl,rfl⟩)
   go_roundw
   case rel=>exact ⟨op+1,by omega,by omega,by simp,trivial⟩
   case measure=>simp [intOf];omega
  ·have h13:op=13:=by omega
   subst h13
   clear HB
   go_wp2_with fail
   go_ret
   have hD1:=hD0.bad true
   have hF1:=hF0.trans (Pa.Fr.set (g:=g) _ 2 (.bool true))
   exact ⟨_,_,by simp [go_sem] <;> rfl,Pa.new_nds _ _ hF1.size [] (by simp) #[] rfl,hD1.alloc _,hF1.alloc _⟩
variable {ts:List (Mill.Piece × Nat)} {g:Nat} {a:Option Addr} {c E i j:Nat} {w W W2:World}
theorem Pa.iname_ok (hk:Pa.kd ts i=1) (hP:Pa.P ts g a c E i w) :
  Calls Tryz.prog 66 #[.pointer (some ⟨g,0,none⟩)] w fun e w'=>e = .returned (.string (Mill.ba (Pa.tx ts i)))∧Pa.Pt ts g a c E (i+1) w w':=by
 obtain ⟨hs1,hs2⟩:=hP.sum
 have hp:i < ts.length:=by
  by_cases hp:i < ts.length
  ·exact hp
  ·rw [Pa.kd_end hp] at hk;omega
 have HN:Hid (Pa.tokV ts E i = .agg #[.int .i64 1,.string (Mill.ba (Pa.tx ts i)),.int .i64 (Pa.ty ts i),.int .i64 (Pa.nm ts i),.int .i64 (Pa.tat ts E i:Int)]):=by rw [Hid,Pa.tokV,hk]
 generalize Mill.ba (Pa.tx ts i)=X at *
 generalize Pa.ty ts i=Y at *
 generalize Pa.nm ts i=Z at *
 generalize ((Pa.tat ts E i:Nat):Int)=Q at *
 go_enter Tryz.func66,Tryz.ntmps66
 go_wp2_with (go_at_call 95;refine (Pa.next_any hP).mono ?_;rintro e W1 ⟨rfl,hW1⟩;rw [HN.out];have hP1:=(hP.below hW1).below ((Below.refl _ _).alloc (Nat.le_refl _) (.cells #[.int .i64 1,.string X,.int .i64 Y,.int .i64 Z,.int .i64 Q] 41));obtain ⟨c0,c1,c2,f1⟩:=hP1.cells;have hgn:W1.heap.size≠g:=(by have:=(hP.below hW1).lt;omega))
 go_ret
 exact ⟨rfl,hP1.nx hp,((Pa.Fr.of_below hW1).trans (Pa.Fr.of_below ((Below.refl _ _).alloc (Nat.le_refl _) _))).trans (Pa.Fr.set _ _ _)⟩
theorem Pa.iname_no (hk:Pa.kd ts i≠1) (hP:Pa.P ts g a c E i w) :
  Calls Tryz.prog 66 #[.pointer (some ⟨g,0,none⟩)] w fun e w'=>e=Pa.pan ts E i∧Pa.Pt ts g a c E i w w':=by
 have HF:Hid (Pa.fl ts E i = .agg #[.int .i64 6,.int .i64 (Pa.tat ts E i:Int)]):=rfl
 have HN:Hid (Pa.tokV ts E i = .agg #[.int .i64 (Pa.kd ts i),.string (Mill.ba (Pa.tx ts i)),.int .i64 (Pa.ty ts i),.int .i64 (Pa.nm ts i),.int .i64 (Pa.tat ts E i:Int)]):=rfl
 unfold Pa.pan
 rw [HF.out]
 have hkb:(Pa.kd ts i != 1)=true:=by simpa using hk
 generalize Pa.kd ts i=K at *
 generalize Mill.ba (Pa.tx ts i)=X at *
 generalize Pa.ty ts i=Y at *
 generalize Pa.nm ts i=Z at *
 generalize ((Pa.tat ts E i:Nat):Int)=Q at *
 go_enter Tryz.func66,Tryz.ntmps66
 go_wp2_with (first
  | (go_at_call 95;refine (Pa.next_any hP).mono ?_;rintro e W1 ⟨rfl,hW1⟩;rw [HN.out])
  | (go_at_call 94;refine (Pa.fault_any ((hP.below hW1).below ((Below.refl _ _).alloc (Nat.le_refl _) _))).mono ?_;rintro e W2 ⟨rfl,hW2⟩;rw [HF.out]))
 exact ⟨rfl,rfl,((hP.below hW1).below ((Below.refl _ _).alloc (Nat.le_refl _) _)).below hW2,((Pa.Fr.of_below hW1).trans (Pa.Fr.of_below ((Below.refl _ _).alloc (Nat.le_refl _) _))).trans (Pa.Fr.of_below hW2)⟩
def Pa.tC : List Value:=[.string ⟨#[]⟩,.string ⟨#[98,111,111,108]⟩,.string ⟨#[116,101,120,116]⟩,.string ⟨#[117,56]⟩,.string ⟨#[117,49,54]⟩,.string ⟨#[117,51,50]⟩,.string ⟨#[117,54,52]⟩,.string ⟨#[105,56]⟩,.string ⟨#[105,49,54]⟩,.string ⟨#[105,51,50]⟩,.string ⟨#[105,54,52]⟩]
def Pa.uC : List Value:=[.string ⟨#[]⟩,.string ⟨#[45]⟩,.string ⟨#[33]⟩,.string ⟨#[126]⟩]
def Pa.bC : List Value:=[.string ⟨#[]⟩,.int .i64 0,.string ⟨#[124,124]⟩,.int .i64 1,.string ⟨#[38,38]⟩,.int .i64 2,.string ⟨#[61,61]⟩,.int .i64 3,.string ⟨#[33,61]⟩,.int .i64 3,.string ⟨#[60]⟩,.int .i64 3,.string ⟨#[60,61]⟩,.int .i64 3,.string ⟨#[62]⟩,.int .i64 3,.string ⟨#[62,61]⟩,.int .i64 3,.string ⟨#[43]⟩,.int .i64 4,.string ⟨#[45]⟩,.int .i64 4,.string ⟨#[124]⟩,.int .i64 4,.string ⟨#[94]⟩,.int .i64 4,.string ⟨#[42]⟩,.int .i64 5,.string ⟨#[47]⟩,.int .i64 5,.string ⟨#[37]⟩,.int .i64 5,.string ⟨#[38]⟩,.int .i64 5,.string ⟨#[60,60]⟩,.int .i64 5,.string ⟨#[62,62]⟩,.int .i64 5]
def Pa.wC : List Value:=[.string ⟨#[]⟩,.int .i64 0,.string ⟨#[114,101,97,100]⟩,.int .i64 1,.string ⟨#[104,97,115]⟩,.int .i64 1,.string ⟨#[108,105,115,116]⟩,.int .i64 1,.string ⟨#[116,111,111,108]⟩,.int .i64 2,.string ⟨#[97,114,103]⟩,.int .i64 0,.string ⟨#[108,101,110]⟩,.int .i64 1,.string ⟨#[97,116]⟩,.int .i64 2,.string ⟨#[99,117,116]⟩,.int .i64 3,.string ⟨#[102,105,110,100]⟩,.int .i64 2,.string ⟨#[99,104,114]⟩,.int .i64 1,.string ⟨#[100,101,99]⟩,.int .i64 1,.string ⟨#[110,117,109]⟩,.int .i64 1]
structure Pa.Tb (g:Nat) (w:World):Prop where
 t:w.rangeAt 1 0 Pa.tC
 u:w.rangeAt 7 0 Pa.uC
 b:w.rangeAt 6 0 Pa.bC
 d:w.rangeAt 2 0 Pa.wC
 gt:1 < g∧7 < g∧6 < g∧2 < g
 gw:g < w.heap.size
theorem Pa.Tb.fr {g:Nat} {w w':World} (h:Pa.Tb g w) (hf:Pa.Fr g w w'):Pa.Tb g w':=by
 obtain ⟨h1,h2,h3,h4⟩:=h.gt
 have hw:=h.gw
 exact ⟨fun j v hv=>(hf.cell (by omega) (by omega)).trans (h.t j v hv),fun j v hv=>(hf.cell (by omega) (by omega)).trans (h.u j v hv),fun j v hv=>(hf.cell (by omega) (by omega)).trans (h.b j v hv),fun j v hv=>(hf.cell (by omega) (by omega)).trans (h.d j v hv),h.gt,Nat.lt_of_lt_of_le hw hf.size⟩
theorem Pa.tab_yes (k:Int) (l:List (List UInt8)) (hn:l.Nodup) (h0:[] ∉ l) (m:Nat) (hm:m≤l.length) (h:Pa.st ts k (([]::l).getD m []) i=true):(if Pa.kd ts i=k then Pa.ix l (Pa.tx ts i) else 0)=m:=by
 simp only [Pa.st,Bool.and_eq_true,beq_iff_eq] at h
 rw [if_pos h.1,h.2]
 cases m with
 | zero=>simp [Pa.ix,h0]
 | succ m =>
  have hm':m < l.length:=by omega
  have e:([]::l).getD (m+1) []=l[m]:=by simp [List.getElem?_eq_getElem hm']
  rw [e]
  exact (Pa.ix_iff l hn _ m hm').1 rfl
theorem Pa.tab_no (k:Int) (l:List (List UInt8)) (hn:l.Nodup) (h:∀ m,m < l.length+1→Pa.st ts k (([]::l).getD m []) i=false):(if Pa.kd ts i=k then Pa.ix l (Pa.tx ts i) else 0)=0:=by
 by_cases hk:Pa.kd ts i=k
 ·rw [if_pos hk]
  cases hx:Pa.ix l (Pa.tx ts i) with
  | zero=>rfl
  | succ m =>
   have hle:=Pa.ix_le l (Pa.tx ts i)
   have hm:m < l.length:=by omega
   have e1:=(Pa.ix_iff l hn (Pa.tx ts i) m hm).2 hx
   have h2:=h (m+1) (by omega)
   have e:([]::l).getD (m+1) []=l[m]:=by simp [List.getElem?_eq_getElem hm]
   rw [e,e1] at h2
   simp [Pa.st,hk] at h2
 ·rw [if_neg hk]
theorem Pa.no_step {k:Int} {l:List (List UInt8)} {m:Nat} (h:∀ j,j < m→Pa.st ts k (([]::l).getD j []) i=false) (h2:Pa.st ts k (([]::l).getD m []) i=false) (j:Nat) (hj:j < m+1):Pa.st ts k (([]::l).getD j []) i=false:=by
 by_cases e:j=m
 ·subst e;exact h2
 ·exact h j (by omega)
theorem Pa.wordType_any (hB:Pa.Tb g w) (hP:Pa.P ts g a c E i w) :
  Calls Tryz.prog 97 #[.pointer (some ⟨g,0,none⟩)] w fun e w'=>e = .returned (.int .i64 (Pa.wty ts i:Int))∧Pa.Pt ts g a c E i w w':=by
 obtain ⟨R,HR⟩:∃ R,Hid (Pa.wty ts i=R):=⟨_,rfl⟩
 rw [HR.out]
 go_enter Tryz.func97,Tryz.ntmps97
 go_wp2_with (refine wpList_load_mid rfl 149 _ rfl 1 0 rfl Pa.tC (.array 11 9) hB.t Tryz.underlying149 rfl (by kernel_rfl) ?_)
 go_loopw [6,3,4] (fun v _ _ wr => ∃ k:Nat,k≤11∧v = .int .i64 (k:Int)∧Pa.P ts g a c E i wr∧Pa.Fr g w wr∧∀ m,m < k→Pa.st ts 2 (([]::Pa.words).getD m []) i=false) (fun v _ _ _=>30 - (intOf v).toNat)
 case atStart=>exact ⟨0,by omega,rfl,hP,Pa.Fr.refl _ _,fun m hm=>by omega⟩
 case round =>
  obtain ⟨k,hk,rfl,hPr,hFr,hno⟩:=hrel
  have HNO:Hid (∀ m,m < k→Pa.st ts 2 (([]::Pa.words).getD m []) i=false):=hno
  clear hno
  have hk2:k=0∨k=1∨k=2∨k=3∨k=4∨k=5∨k=6∨k=7∨k=8∨k=9∨k=10∨k=11:=by omega
  rcases hk2 with rfl | rfl | rfl | rfl | rfl | rfl | rfl | rfl | rfl | rfl | rfl | rfl
  ·have hix:∀ W,Sem.run Tryz.prog (Instr.index 149 (.agg Pa.tC.toArray) (.int .i64 0)) W = .ok (.string ⟨#[]⟩) W:=fun _=>by kernel_rfl
   cases hI:Pa.st ts 2 [] i with
   | true =>
    have e:R=0:=by rw [← HR.out];exact Pa.tab_yes 2 Pa.words (by decide) (by decide) 0 (by decide) hI
    subst e
    go_wp2_with (go_at_call 118;refine (Pa.stands_any 2 [] hPr).mono ?_;rintro e W1 ⟨rfl,hW1⟩;rw [hI])
    go_ret
    exact ⟨rfl,hPr.below hW1,(hFr.trans (Pa.Fr.of_below hW1))⟩
   | false =>
    go_wp2_with (go_at_call 118;refine (Pa.stands_any 2 [] hPr).mono ?_;rintro e W1 ⟨rfl,hW1⟩;rw [hI])
    go_roundw
    case rel=>exact ⟨1,by omega,by simp,hPr.below hW1,(hFr.trans (Pa.Fr.of_below hW1)),fun m hm=>Pa.no_step HNO.out hI m hm⟩
    case measure=>simp [intOf]
  ·have hix:∀ W,Sem.run Tryz.prog (Instr.index 149 (.agg Pa.tC.toArray) (.int .i64 1)) W = .ok (.string ⟨#[98,111,111,108]⟩) W:=fun _=>by kernel_rfl
   cases hI:Pa.st ts 2 [98,111,111,108] i with
   | true =>
    have e:R=1:=by rw [← HR.out];exact Pa.tab_yes 2 Pa.words (by decide) (by decide) 1 (by decide) hI
    subst e
    go_wp2_with (go_at_call 118;refine (Pa.stands_any 2 [98,111,111,108] hPr).mono ?_;rintro e W1 ⟨rfl,hW1⟩;rw [hI])
    go_ret
    exact ⟨rfl,hPr.below hW1,(hFr.trans (Pa.Fr.of_below hW1))⟩
   | false =>
    go_wp2_with (go_at_call 118;refine (Pa.stands_any 2 [98,111,111,108] hPr).mono ?_;rintro e W1 ⟨rfl,hW1⟩;rw [hI])
    go_roundw
    case rel=>exact ⟨2,by omega,by simp,hPr.below hW1,(hFr.trans (Pa.Fr.of_below hW1)),fun m hm=>Pa.no_step HNO.out hI m hm⟩
    case measure=>simp [intOf]
  ·have hix:∀ W,Sem.run Tryz.prog (Instr.index 149 (.agg Pa.tC.toArray) (.int .i64 2)) W = .ok (.string ⟨#[116,101,120,116]⟩) W:=fun _=>by kernel_rfl
   cases hI:Pa.st ts 2 [116,101,120,116] i with
   | true =>
    have e:R=2:=by rw [← HR.out];exact Pa.tab_yes 2 Pa.words (by decide) (by decide) 2 (by decide) hI
    subst e
    go_wp2_with (go_at_call 118;refine (Pa.stands_any 2 [116,101,120,116] hPr).mono ?_;rintro e W1 ⟨rfl,hW1⟩;rw [hI])
    go_ret
    exact ⟨rfl,hPr.below hW1,(hFr.trans (Pa.Fr.of_below hW1))⟩
   | false =>
    go_wp2_with (go_at_call 118;refine (Pa.stands_any 2 [116,101,120,116] hPr).mono ?_;rintro e W1 ⟨rfl,hW1⟩;rw [hI])
    go_roundw
    case rel=>exact ⟨3,by omega,by simp,hPr.below hW1,(hFr.trans (Pa.Fr.of_below hW1)),fun m hm=>Pa.no_step HNO.out hI m hm⟩
    case measure=>simp [intOf]
  ·have hix:∀ W,Sem.run Tryz.prog (Instr.index 149 (.agg Pa.tC.toArray) (.int .i64 3)) W = .ok (.string ⟨#[117,56]⟩) W:=fun _=>by kernel_rfl
   cases hI:Pa.st ts 2 [117,56] i with
   | true =>
    have e:R=3:=by rw [← HR.out];exact Pa.tab_yes 2 Pa.words (by decide) (by decide) 3 (by decide) hI
    subst e
    go_wp2_with (go_at_call 118;refine (Pa.stands_any 2 [117,56] hPr).mono ?_;rintro e W1 ⟨rfl,hW1⟩;rw [hI])
    go_ret
    exact ⟨rfl,hPr.below hW1,(hFr.trans (Pa.Fr.of_below hW1))⟩
   | false =>
    go_wp2_with (go_at_call 118;refine (Pa.stands_any 2 [117,56] hPr).mono ?_;rintro e W1 ⟨rfl,hW1⟩;rw [hI])
    go_roundw
    case rel=>exact ⟨4,by omega,by simp,hPr.below hW1,(hFr.trans (Pa.Fr.of_below hW1)),fun m hm=>Pa.no_step HNO.out hI m hm⟩
    case measure=>simp [intOf]
  ·have hix:∀ W,Sem.run Tryz.prog (Instr.index 149 (.agg Pa.tC.toArray) (.int .i64 4)) W = .ok (.string ⟨#[117,49,54]⟩) W:=fun _=>by kernel_rfl
   cases hI:Pa.st ts 2 [117,49,54] i with
   | true =>
    have e:R=4:=by rw [← HR.out];exact Pa.tab_yes 2 Pa.words (by decide) (by decide) 4 (by decide) hI
    subst e
    go_wp2_with (go_at_call 118;refine (Pa.stands_any 2 [117,49,54] hPr).mono ?_;rintro e W1 ⟨rfl,hW1⟩;rw [hI])
    go_ret
    exact ⟨rfl,hPr.below hW1,(hFr.trans (Pa.Fr.of_below hW1))⟩
   | false =>
    go_wp2_with (go_at_call 118;refine (Pa.stands_any 2 [117,49,54] hPr).mono ?_;rintro e W1 ⟨rfl,hW1⟩;rw [hI])
    go_roundw
    case rel=>exact ⟨5,by omega,by simp,hPr.below hW1,(hFr.trans (Pa.Fr.of_below hW1)),fun m hm=>Pa.no_step HNO.out hI m hm⟩
    case measure=>simp [intOf]
  ·have hix:∀ W,Sem.run Tryz.prog (Instr.index 149 (.agg Pa.tC.toArray) (.int .i64 5)) W = .ok (.string ⟨#[117,51,50]⟩) W:=fun _=>by kernel_rfl
   cases hI:Pa.st ts 2 [117,51,50] i with
   | true =>
    have e:R=5:=by rw [← HR.out];exact Pa.tab_yes 2 Pa.words (by decide) (by decide) 5 (by decide) hI
    subst e
    go_wp2_with (go_at_call 118;refine (Pa.stands_any 2 [117,51,50] hPr).mono ?_;rintro e W1 ⟨rfl,hW1⟩;rw [hI])
    go_ret
    exact ⟨rfl,hPr.below hW1,(hFr.trans (Pa.Fr.of_below hW1))⟩
   | false =>
    go_wp2_with (go_at_call 118;refine (Pa.stands_any 2 [117,51,50] hPr).mono ?_;rintro e W1 ⟨rfl,hW1⟩;rw [hI])
    go_roundw
    case rel=>exact ⟨6,by omega,by simp,hPr.below hW1,(hFr.trans (Pa.Fr.of_below hW1)),fun m hm=>Pa.no_step HNO.out hI m hm⟩
    case measure=>simp [intOf]
  ·have hix:∀ W,Sem.run Tryz.prog (Instr.index 149 (.agg Pa.tC.toArray) (.int .i64 6)) W = .ok (.string ⟨#[117,54,52]⟩) W:=fun _=>by kernel_rfl
   cases hI:Pa.st ts 2 [117,54,52] i with
   | true =>
    have e:R=6:=by rw [← HR.out];exact Pa.tab_yes 2 Pa.words (by decide) (by decide) 6 (by decide) hI
    subst e
    go_wp2_with (go_at_call 118;refine (Pa.stands_any 2 [117,54,52] hPr).mono ?_;rintro e W1 ⟨rfl,hW1⟩;rw [hI])
    go_ret
    exact ⟨rfl,hPr.below hW1,(hFr.trans (Pa.Fr.of_below hW1))⟩
   | false =>
    go_wp2_with (go_at_call 118;refine (Pa.stands_any 2 [117,54,52] hPr).mono ?_;rintro e W1 ⟨rfl,hW1⟩;rw [hI])
    go_roundw
    case rel=>exact ⟨7,by omega,by simp,hPr.below hW1,(hFr.trans (Pa.Fr.of_below hW1)),fun m hm=>Pa.no_step HNO.out hI m hm⟩
    case measure=>simp [intOf]
  ·have hix:∀ W,Sem.run Tryz.prog (Instr.index 149 (.agg Pa.tC.toArray) (.int .i64 7)) W = .ok (.string ⟨#[105,56]⟩) W:=fun _=>by kernel_rfl
   cases hI:Pa.st ts 2 [105,56] i with
   | true =>
    have e:R=7:=by rw [← HR.out];exact Pa.tab_yes 2 Pa.words (by decide) (by decide) 7 (by decide) hI
    subst e
    go_wp2_with (go_at_call 118;refine (Pa.stands_any 2 [105,56] hPr).mono ?_;rintro e W1 ⟨rfl,hW1⟩;rw [hI])
    go_ret
    exact ⟨rfl,hPr.below hW1,(hFr.trans (Pa.Fr.of_below hW1))⟩
   | false =>
    go_wp2_with (go_at_call 118;refine (Pa.stands_any 2 [105,56] hPr).mono ?_;rintro e W1 ⟨rfl,hW1⟩;rw [hI])
    go_roundw
    case rel=>exact ⟨8,by omega,by simp,hPr.below hW1,(hFr.trans (Pa.Fr.of_below hW1)),fun m hm=>Pa.no_step HNO.out hI m hm⟩
    case measure=>simp [intOf]
  ·have hix:∀ W,Sem.run Tryz.prog (Instr.index 149 (.agg Pa.tC.toArray) (.int .i64 8)) W = .ok (.string ⟨#[105,49,54]⟩) W:=fun _=>by kernel_rfl
   cases hI:Pa.st ts 2 [105,49,54] i with
   | true =>
    have e:R=8:=by rw [← HR.out];exact Pa.tab_yes 2 Pa.words (by decide) (by decide) 8 (by decide) hI
    subst e
    go_wp2_with (go_at_call 118;refine (Pa.stands_any 2 [105,49,54] hPr).mono ?_;rintro e W1 ⟨rfl,hW1⟩;rw [hI])
    go_ret
    exact ⟨rfl,hPr.below hW1,(hFr.trans (Pa.Fr.of_below hW1))⟩
   | false =>
    go_wp2_with (go_at_call 118;refine (Pa.stands_any 2 [105,49,54] hPr).mono ?_;rintro e W1 ⟨rfl,hW1⟩;rw [hI])
    go_roundw
    case rel=>exact ⟨9,by omega,by simp,hPr.below hW1,(hFr.trans (Pa.Fr.of_below hW1)),fun m hm=>Pa.no_step HNO.out hI m hm⟩
    case measure=>simp [intOf]
  ·have hix:∀ W,Sem.run Tryz.prog (Instr.index 149 (.agg Pa.tC.toArray) (.int .i64 9)) W = .ok (.string ⟨#[105,51,50]⟩) W:=fun _=>by kernel_rfl
   cases hI:Pa.st ts 2 [105,51,50] i with
   | true =>
    have e:R=9:=by rw [← HR.out];exact Pa.tab_yes 2 Pa.words (by decide) (by decide) 9 (by decide) hI
    subst e
    go_wp2_with (go_at_call 118;refine (Pa.stands_any 2 [105,51,50] hPr).mono ?_;rintro e W1 ⟨rfl,hW1⟩;rw [hI])
    go_ret
    exact ⟨rfl,hPr.below hW1,(hFr.trans (Pa.Fr.of_below hW1))⟩
   | false =>
    go_wp2_with (go_at_call 118;refine (Pa.stands_any 2 [105,51,50] hPr).mono ?_;rintro e W1 ⟨rfl,hW1⟩;rw [hI])
    go_roundw
    case rel=>exact ⟨10,by omega,by simp,hPr.below hW1,(hFr.trans (Pa.Fr.of_below hW1)),fun m hm=>Pa.no_step HNO.out hI m hm⟩
    case measure=>simp [intOf]
  ·have hix:∀ W,Sem.run Tryz.prog (Instr.index 149 (.agg Pa.tC.toArray) (.int .i64 10)) W = .ok (.string ⟨#[105,54,52]⟩) W:=fun _=>by kernel_rfl
   cases hI:Pa.st ts 2 [105,54,52] i with
   | true =>
    have e:R=10:=by rw [← HR.out];exact Pa.tab_yes 2 Pa.words (by decide) (by decide) 10 (by decide) hI
    subst e
    go_wp2_with (go_at_call 118;refine (Pa.stands_any 2 [105,54,52] hPr).mono ?_;rintro e W1 ⟨rfl,hW1⟩;rw [hI])
    go_ret
    exact ⟨rfl,hPr.below hW1,(hFr.trans (Pa.Fr.of_below hW1))⟩
   | false =>
    go_wp2_with (go_at_call 118;refine (Pa.stands_any 2 [105,54,52] hPr).mono ?_;rintro e W1 ⟨rfl,hW1⟩;rw [hI])
    go_roundw
    case rel=>exact ⟨11,by omega,by simp,hPr.below hW1,(hFr.trans (Pa.Fr.of_below hW1)),fun m hm=>Pa.no_step HNO.out hI m hm⟩
    case measure=>simp [intOf]
  ·have e:R=0:=by rw [← HR.out];exact Pa.tab_no 2 Pa.words (by decide) HNO.out
   subst e
   go_wp2_with fail
   go_ret
   exact ⟨rfl,hPr,hFr⟩
end Go.Proofs.YtlcckaffhnjneaaGreatDoor
