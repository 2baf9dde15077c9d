import Derived.Test.YtlcckaffhnjneaaGreatDoorKPaN
set_option maxRecDepth 100000
set_option maxHeartbeats 4000000
namespace Go.Proofs.YtlcckaffhnjneaaGreatDoor
open Go.RowKit
variable {ts:List (Mill.Piece × Nat)} {g:Nat} {a:Option Addr} {c:Nat} {s:Pa.S} {w:World}
def Pa.BlockIs (ts:List (Mill.Piece × Nat)) (g:Nat) (a:Option Addr) (c:Nat) (n:Nat):Prop := ∀ (s:Pa.S) (w:World) (R:Pa.Nds × Pa.S),Pa.block ts n s=some R→R.1.length≤1000000→Pa.D ts g a c s w →
 Calls Tryz.prog 27 #[.pointer (some ⟨g,0,none⟩)] w (Pa.Out ts g a c R w)
def Pa.CondIs (ts:List (Mill.Piece × Nat)) (g:Nat) (a:Option Addr) (c:Nat) (n:Nat):Prop := ∀ (s:Pa.S) (w:World) (R:Pa.Nds × Pa.S),Pa.cond ts n s=some R→R.1.length≤1000000→Pa.D ts g a c s w →
 Calls Tryz.prog 83 #[.pointer (some ⟨g,0,none⟩)] w (Pa.Out ts g a c R w)
def Pa.StmtIs (ts:List (Mill.Piece × Nat)) (g:Nat) (a:Option Addr) (c:Nat) (n:Nat):Prop := ∀ (s:Pa.S) (w:World) (R:Pa.Nds × Pa.S),Pa.stmt ts n s=some R→R.1.length≤1000000→Pa.D ts g a c s w →
 Calls Tryz.prog 46 #[.pointer (some ⟨g,0,none⟩)] w (Pa.Out ts g a c R w)
theorem Pa.blockL_len : ∀ (m k:Nat) (l:Pa.Nds) (s:Pa.S) (R:Pa.Nds × Pa.S),Pa.blockL ts m k l s=some R→l.length+1≤R.1.length
 | 0,k,l,s,R,h=>by simp [Pa.blockL] at h
 | m+1,k,l,s,R,h=>by
  rw [Pa.blockL] at h
  split at h
  ·simp at h;subst h;simp
  ·split at h
   ·simp at h;subst h;simp
   ·split at h
    ·simp at h
    ·have:=Pa.blockL_len m _ _ _ R h
     simp at this ⊢;omega
theorem Pa.block_next (n:Nat) (hn:n≤500000) (ih:∀ m,m≤n→Pa.StmtIs ts g a c m):Pa.BlockIs ts g a c (n+1):=by
 intro s w R hR hl hD
 have hgw:=hD.lt
 obtain ⟨W0,hW0⟩:∃ W,w.alloc (.cells #[] 43)=W:=⟨_,rfl⟩
 have hr0:Pa.Row w.heap.size W0 (.slice (some ⟨w.heap.size,0,none⟩) 0 0) []:=by rw [← hW0];exact Pa.new_nds w _ (Nat.le_refl _) [] (by simp) #[] rfl
 have hB0:Below w.heap.size w W0:=by rw [← hW0];exact (Below.refl _ _).alloc (Nat.le_refl _) _
 have hD0:=hD.below hB0
 have hF0:Pa.Fr g w W0:=Pa.Fr.of_below hB0
 rw [Pa.block] at hR
 have HR:Hid (Pa.blockL ts n 0 [] (Pa.need ts [123] s)=some R):=hR
 clear hR
 go_enter Tryz.func27,Tryz.ntmps27
 go_wp2_with (go_at_call 23;refine (Pa.need_any [123] hD0).mono ?_;rintro e W1 ⟨rfl,hD1,hF1⟩;have hr1:=hF1.own hr0 hgw;have hF1':=hF0.trans hF1)
 go_loopw [3,4] (fun ov kv wr => ∃ (m k:Nat) (l:Pa.Nds) (s':Pa.S) (oa:Option Addr) (oc:Nat),m≤n∧ov = .slice oa l.length oc∧kv = .int .i64 (k:Int)∧Pa.Row w.heap.size wr (.slice oa l.length oc) l∧Pa.D ts g a c s' wr∧Pa.Fr g w wr∧Pa.blockL ts m k l s'=some R∧k≤n - m) (fun _ kv _=>n+1 - (intOf kv).toNat)
 case atStart=>exact ⟨n,0,[],_,_,_,Nat.le_refl _,rfl,rfl,hr1,hD1,hF1',HR.out,by omega⟩
 case round =>
  obtain ⟨m,k,l,s',oa,oc,hm,rfl,rfl,hrw,hDr,hFr,hL,hkm⟩:=hrel
  obtain ⟨m,rfl⟩:∃ m',m=m'+1:=by
   cases m with
   | zero=>simp [Pa.blockL] at hL
   | succ m=>exact ⟨m,rfl⟩
  have hlen:=Pa.blockL_len _ _ _ _ _ hL
  rw [Pa.blockL] at hL
  obtain ⟨c0,c1,c2,f1,f2⟩:=hDr.cells
  have hl1:l.length+1≤1000000:=by omega
  cases hb:s'.bad with
  | true =>
   rw [hb] at hL c2
   simp only [if_true,Option.some.injEq] at hL
   have HL:Hid ((l++[⟨21,0,0,0,⟨#[]⟩,(k:Int)⟩],s')=R):=hL
   clear hb hL hlen
   go_wp2_with (at_builtin;refine Pa.wp_nd (l:=l) rfl _ _ rfl ⟨21,0,0,0,⟨#[]⟩,(k:Int)⟩ rfl rfl rfl hrw hFr.size hl1 ?_;intro a5 c5 W5 hr5 hDg hFg hsz5;have hD5:=hDg _ _ _ _ _ hDr hgw;have hF5:=hFg g w hFr (Nat.le_refl _);clear hDg hFg)
   go_ret
   exact Pa.out_of HL.out rfl (by simp) hr5 hD5 hF5
  | false =>
   rw [hb] at hL c2
   simp only [Bool.false_eq_true,if_false] at hL
   clear hb
   cases hI:Pa.is ts [125] s' with
   | true =>
    rw [hI] at hL
    simp only [if_true,Option.some.injEq] at hL
    have HL:Hid ((l++[⟨21,0,0,0,⟨#[]⟩,(k:Int)⟩],Pa.nx s')=R):=hL
    have HO:=Pa.is_opt hI
    clear hL hlen
    go_wp2_with (first
     | (go_at_call 25;refine (Pa.opt_any [125] hDr).mono ?_;rintro e W4 ⟨rfl,hD4,hF4⟩;rw [hI];rw [HO] at hD4;have hF4':=hFr.trans hF4;have hr4:=hF4.own hrw hgw)
     | (at_builtin;refine Pa.wp_nd (l:=l) rfl _ _ rfl ⟨21,0,0,0,⟨#[]⟩,(k:Int)⟩ rfl rfl rfl hr4 hF4'.size hl1 ?_;intro a5 c5 W5 hr5 hDg hFg hsz5;have hD5:=hDg _ _ _ _ _ hD4 hgw;have hF5:=hFg g w hF4' (Nat.le_refl _);clear hDg hFg))
    go_ret
    exact Pa.out_of HL.out rfl (by simp) hr5 hD5 hF5
   | false =>
    rw [hI] at hL
    simp only [Bool.false_eq_true,if_false] at hL
    cases hE:Pa.stmt ts m s' with
    | none=>rw [hE] at hL;simp at hL
    | some r =>
     rw [hE] at hL
     simp only at hL
     have hlen2:=Pa.blockL_len _ _ _ _ _ hL
     simp only [List.length_append] at hlen2
     have hb2:l.length+r.1.length≤1000000:=by omega
     have HO:=Pa.not_opt hI
     have HE:Hid (∀ W,Pa.D ts g a c s' W→Calls Tryz.prog 46 #[.pointer (some ⟨g,0,none⟩)] W (Pa.Out ts g a c r W)):=fun W hW=>ih m (by omega) s' W r hE (by omega) hW
     have HL:Hid (Pa.blockL ts m (k+1) (l++r.1) r.2=some R):=hL
     have hwk:wrap64 ((k:Int)+1)=(k:Int)+1:=by rw [wrap64];omega
     clear hL hE hlen hlen2
     go_wp2_with (first
      | (go_at_call 25;refine (Pa.opt_any [125] hDr).mono ?_;rintro e W4 ⟨rfl,hD4,hF4⟩;rw [hI];rw [HO] at hD4;have hF4':=hFr.trans hF4;have hr4:=hF4.own hrw hgw)
      | (go_at_call 46;refine (HE.out _ hD4).mono ?_;rintro e W2 ⟨va,vc,rfl,hr2,hD2,hF2⟩;have hr1':=hF2.own hr4 hgw;have hF2':=hF4'.trans hF2)
      | (at_builtin;refine Pa.wp_nds rfl _ _ rfl rfl rfl hr1' hr2 hF2'.size hb2 ?_;intro a' c' W3 hr3 hDg hFg hsz;have hD3:=hDg _ _ _ _ _ hD2 hgw;have hF3:=hFg g w hF2' (Nat.le_refl _);clear hDg hFg hr1' hr2))
     exact ⟨⟨m,k+1,l++r.1,r.2,a',c',by omega,by simp,by simp,hr3,hD3,hF3,HL.out,by omega⟩,by simp [intOf];omega⟩
theorem Pa.cond_next (n:Nat) (hn:n≤500000) (ihb:∀ m,m≤n→Pa.BlockIs ts g a c m) (ihc:∀ m,m≤n→Pa.CondIs ts g a c m):Pa.CondIs ts g a c (n+1):=by
 intro s w R hR hl hD
 have hgw:=hD.lt
 rw [Pa.cond] at hR
 cases hA:Pa.expr ts n 1 s with
 | none=>rw [hA] at hR;simp at hR
 | some A =>
  rw [hA] at hR
  simp only at hR
  cases hB:Pa.block ts n A.2 with
  | none=>rw [hB] at hR;simp at hR
  | some B =>
   rw [hB] at hR
   simp only at hR
   have HA:Hid (A.1.length≤1000000→∀ W,Pa.D ts g a c s W→Calls Tryz.prog 81 #[.pointer (some ⟨g,0,none⟩),.int .i64 ((1:Nat):Int)] W (Pa.Out ts g a c A W)):=fun h W hW=>Pa.expr_any n hn 1 s W A (by omega) (by omega) hA h hW
   have HB:Hid (B.1.length≤1000000→∀ W,Pa.D ts g a c A.2 W→Calls Tryz.prog 27 #[.pointer (some ⟨g,0,none⟩)] W (Pa.Out ts g a c B W)):=fun h W hW=>ihb n (Nat.le_refl _) A.2 W B hB h hW
   clear hA hB
   cases hI:Pa.is ts [101,108,115,101] B.2 with
   | false =>
    rw [hI] at hR
    simp only [Bool.false_eq_true,if_false,Option.some.injEq] at hR
    subst hR
    simp only [List.length_append,List.length_cons,List.length_nil] at hl
    have hl1:A.1.length≤1000000:=by omega
    have hl2:B.1.length≤1000000:=by omega
    have hl3:A.1.length+B.1.length≤1000000:=by omega
    have HO:=Pa.not_opt hI
    go_enter Tryz.func83,Tryz.ntmps83
    go_wp2_with (first
     | (go_at_call 81;refine (HA.out hl1 _ hD).mono ?_;rintro e W1 ⟨va,vc,rfl,hr1,hD1,hF1⟩;clear HA)
     | (go_at_call 27;refine (HB.out hl2 _ hD1).mono ?_;rintro e W2 ⟨va2,vc2,rfl,hr2,hD2,hF2⟩;have hr1':=hF2.own hr1 hgw;have hF2':=hF1.trans hF2;clear HB)
     | (at_builtin;refine Pa.wp_nds rfl _ _ rfl rfl rfl hr1' hr2 hF2'.size hl3 ?_;intro a3 c3 W3 hr3 hDg hFg hsz3;have hD3:=hDg _ _ _ _ _ hD2 hgw;have hF3:=hFg g w hF2' (Nat.le_refl _);clear hDg hFg hr1' hr2)
     | (go_at_call 25;refine (Pa.opt_any [101,108,115,101] hD3).mono ?_;rintro e W4 ⟨rfl,hD4,hF4⟩;rw [hI];rw [HO] at hD4;have hF4':=hF3.trans hF4;have hr4:=hF4.own hr3 hgw;clear hr3)
     | (at_builtin;refine Pa.wp_nd (l:=A.1++B.1) rfl _ _ rfl ⟨12,0,0,0,⟨#[]⟩,2⟩ rfl (by simp) rfl hr4 hF4'.size hl ?_;intro a5 c5 W5 hr5 hDg hFg hsz5;have hD5:=hDg _ _ _ _ _ hD4 hgw;have hF5:=hFg g w hF4' (Nat.le_refl _);clear hDg hFg))
    go_ret
    exact Pa.out_of rfl rfl (by simp;try omega) hr5 hD5 hF5
   | true =>
    rw [hI] at hR
    simp only [if_true] at hR
    have HO:=Pa.is_opt hI
    cases hJ:Pa.is ts [105,102] (Pa.nx B.2) with
    | true =>
     rw [hJ] at hR
     simp only [if_true,Option.map_eq_some_iff] at hR
     obtain ⟨C,hC,rfl⟩:=hR
     have HC:Hid (C.1.length≤1000000→∀ W,Pa.D ts g a c (Pa.nx (Pa.nx B.2)) W→Calls Tryz.prog 83 #[.pointer (some ⟨g,0,none⟩)] W (Pa.Out ts g a c C W)):=fun h W hW=>ihc n (Nat.le_refl _) _ W C hC h hW
     clear hC
     simp only [List.length_append,List.length_cons,List.length_nil] at hl
     have hl1:A.1.length≤1000000:=by omega
     have hl2:B.1.length≤1000000:=by omega
     have hl3:A.1.length+B.1.length≤1000000:=by omega
     have hl4:C.1.length≤1000000:=by omega
     have hl5:(A.1++B.1).length+C.1.length≤1000000:=by simp;omega
     have HJ:=Pa.is_opt hJ
     go_enter Tryz.func83,Tryz.ntmps83
     go_wp2_with (first
      | (go_at_call 81;refine (HA.out hl1 _ hD).mono ?_;rintro e W1 ⟨va,vc,rfl,hr1,hD1,hF1⟩;clear HA)
      | (go_at_call 27;refine (HB.out hl2 _ hD1).mono ?_;rintro e W2 ⟨va2,vc2,rfl,hr2,hD2,hF2⟩;have hr1':=hF2.own hr1 hgw;have hF2':=hF1.trans hF2;clear HB)
      | (at_builtin;refine Pa.wp_nds rfl _ _ rfl rfl rfl hr1' hr2 hF2'.size hl3 ?_;intro a3 c3 W3 hr3 hDg hFg hsz3;have hD3:=hDg _ _ _ _ _ hD2 hgw;have hF3:=hFg g w hF2' (Nat.le_refl _);clear hDg hFg hr1' hr2)
      | (have _t:=hr3;go_at_call 25;refine (Pa.opt_any [101,108,115,101] hD3).mono ?_;rintro e W4 ⟨rfl,hD4,hF4⟩;rw [hI];rw [HO] at hD4;have hF4':=hF3.trans hF4;have hr4:=hF4.own hr3 hgw;clear hr3)
      | (go_at_call 25;refine (Pa.opt_any [105,102] hD4).mono ?_;rintro e W6 ⟨rfl,hD6,hF6⟩;rw [hJ];rw [HJ] at hD6;have hF6':=hF4'.trans hF6;have hr6:=hF6.own hr4 hgw;clear hr4)
      | (go_at_call 83;refine (HC.out hl4 _ hD6).mono ?_;rintro e W7 ⟨va7,vc7,rfl,hr7,hD7,hF7⟩;have hr6':=hF7.own hr6 hgw;have hF7':=hF6'.trans hF7;clear HC hr6)
      | (at_builtin;refine Pa.wp_nds2 (l:=A.1++B.1) rfl _ _ rfl rfl (by simp) rfl hr6' hr7 hF7'.size hl5 ?_;intro a8 c8 W8 hr8 hDg hFg hsz8;have hD8:=hDg _ _ _ _ _ hD7 hgw;have hF8:=hFg g w hF7' (Nat.le_refl _);clear hDg hFg hr6' hr7)
      | (at_builtin;refine Pa.wp_nd (l:=A.1++B.1++C.1) rfl _ _ rfl ⟨12,0,0,0,⟨#[]⟩,3⟩ rfl (by simp;try omega) rfl hr8 hF8.size (by omega) ?_;intro a5 c5 W5 hr5 hDg hFg hsz5;have hD5:=hDg _ _ _ _ _ hD8 hgw;have hF5:=hFg g w hF8 (Nat.le_refl _);clear hDg hFg))
     go_ret
     exact Pa.out_of rfl rfl (by simp;try omega) hr5 hD5 hF5
    | false =>
     rw [hJ] at hR
     simp only [Bool.false_eq_true,if_false,Option.map_eq_some_iff] at hR
     obtain ⟨C,hC,rfl⟩:=hR
     have HC:Hid (C.1.length≤1000000→∀ W,Pa.D ts g a c (Pa.nx B.2) W→Calls Tryz.prog 27 #[.pointer (some ⟨g,0,none⟩)] W (Pa.Out ts g a c C W)):=fun h W hW=>ihb n (Nat.le_refl _) _ W C hC h hW
     clear hC
     simp only [List.length_append,List.length_cons,List.length_nil] at hl
     have hl1:A.1.length≤1000000:=by omega
     have hl2:B.1.length≤1000000:=by omega
     have hl3:A.1.length+B.1.length≤1000000:=by omega
     have hl4:C.1.length≤1000000:=by omega
     have hl5:(A.1++B.1).length+C.1.length≤1000000:=by simp;omega
     have HJ:=Pa.not_opt hJ
     go_enter Tryz.func83,Tryz.ntmps83
     go_wp2_with (first
      | (go_at_call 81;refine (HA.out hl1 _ hD).mono ?_;rintro e W1 ⟨va,vc,rfl,hr1,hD1,hF1⟩;clear HA)
      | (have _t:=HB;go_at_call 27;refine (HB.out hl2 _ hD1).mono ?_;rintro e W2 ⟨va2,vc2,rfl,hr2,hD2,hF2⟩;have hr1':=hF2.own hr1 hgw;have hF2':=hF1.trans hF2;clear HB)
      | (at_builtin;refine Pa.wp_nds rfl _ _ rfl rfl rfl hr1' hr2 hF2'.size hl3 ?_;intro a3 c3 W3 hr3 hDg hFg hsz3;have hD3:=hDg _ _ _ _ _ hD2 hgw;have hF3:=hFg g w hF2' (Nat.le_refl _);clear hDg hFg hr1' hr2)
      | (have _t:=hr3;go_at_call 25;refine (Pa.opt_any [101,108,115,101] hD3).mono ?_;rintro e W4 ⟨rfl,hD4,hF4⟩;rw [hI];rw [HO] at hD4;have hF4':=hF3.trans hF4;have hr4:=hF4.own hr3 hgw;clear hr3)
      | (go_at_call 25;refine (Pa.opt_any [105,102] hD4).mono ?_;rintro e W6 ⟨rfl,hD6,hF6⟩;rw [hJ];rw [HJ] at hD6;have hF6':=hF4'.trans hF6;have hr6:=hF6.own hr4 hgw;clear hr4)
      | (go_at_call 27;refine (HC.out hl4 _ hD6).mono ?_;rintro e W7 ⟨va7,vc7,rfl,hr7,hD7,hF7⟩;have hr6':=hF7.own hr6 hgw;have hF7':=hF6'.trans hF7;clear HC hr6)
      | (at_builtin;refine Pa.wp_nds2 (l:=A.1++B.1) rfl _ _ rfl rfl (by simp) rfl hr6' hr7 hF7'.size hl5 ?_;intro a8 c8 W8 hr8 hDg hFg hsz8;have hD8:=hDg _ _ _ _ _ hD7 hgw;have hF8:=hFg g w hF7' (Nat.le_refl _);clear hDg hFg hr6' hr7)
      | (at_builtin;refine Pa.wp_nd (l:=A.1++B.1++C.1) rfl _ _ rfl ⟨12,0,0,0,⟨#[]⟩,3⟩ rfl (by simp;try omega) rfl hr8 hF8.size (by omega) ?_;intro a5 c5 W5 hr5 hDg hFg hsz5;have hD5:=hDg _ _ _ _ _ hD8 hgw;have hF5:=hFg g w hF8 (Nat.le_refl _);clear hDg hFg))
     go_ret
     exact Pa.out_of rfl rfl (by simp;try omega) hr5 hD5 hF5
variable {ts:List (Mill.Piece × Nat)} {g:Nat} {a:Option Addr} {c:Nat} {s s2:Pa.S} {w W W2:World} {nb:Nat} {d:Mill.Nd}
structure Pa.Cu (ts:List (Mill.Piece × Nat)) (g:Nat) (a:Option Addr) (c:Nat) (w:World) (nb:Nat) (d:Mill.Nd) (s:Pa.S) (W:World):Prop where
 D:Pa.D ts g a c s W
 F:Pa.Fr g w W
 gn:g < nb
 nd:W.heap[nb]? = some (.cells #[.int .i64 d.kind,.int .i64 d.op,.int .i64 d.type,.int .i64 d.n,.string d.text,.int .i64 d.kids] 43)
 gw:w.heap.size≤nb
theorem Pa.Cu.lt (h:Pa.Cu ts g a c w nb d s W):nb < W.heap.size:=(Array.getElem?_eq_some_iff.1 h.nd).1
theorem Pa.Cu.to (h:Pa.Cu ts g a c w nb d s W) (hT:Pa.To ts g a c s2 W W2):Pa.Cu ts g a c w nb d s2 W2 :=
 ⟨hT.1,h.F.trans hT.2,h.gn,(hT.2.keep nb h.lt (by have:=h.gn;omega)).trans h.nd,h.gw⟩
theorem Pa.Cu.below (h:Pa.Cu ts g a c w nb d s W) (hb:Below W.heap.size W W2):Pa.Cu ts g a c w nb d s W2:=h.to ⟨h.D.below hb,Pa.Fr.of_below hb⟩
theorem Pa.Cu.cells (h:Pa.Cu ts g a c w nb d s W):(W.cell? ⟨nb,0,none⟩=some (.int .i64 d.kind)∧W.cell? ⟨nb,1,none⟩=some (.int .i64 d.op)∧W.cell? ⟨nb,2,none⟩=some (.int .i64 d.type)∧W.cell? ⟨nb,3,none⟩=some (.int .i64 d.n)∧W.cell? ⟨nb,4,none⟩=some (.string d.text)∧W.cell? ⟨nb,5,none⟩=some (.int .i64 d.kids))∧∀ k,W.frozen? ⟨nb,k,none⟩=false:=by
 have hb:=h.nd
 refine ⟨⟨?_, ?_, ?_, ?_, ?_, ?_⟩,fun k => ?_⟩
 ·rw [Lib.cell_of_heap hb];rfl
 ·rw [Lib.cell_of_heap hb];rfl
 ·rw [Lib.cell_of_heap hb];rfl
 ·rw [Lib.cell_of_heap hb];rfl
 ·rw [Lib.cell_of_heap hb];rfl
 ·rw [Lib.cell_of_heap hb];rfl
 ·simp [World.frozen?,hb]
theorem Pa.Cu.set (h:Pa.Cu ts g a c w nb d s W) (k:Nat) (v:Value) (d':Mill.Nd) (hd:(#[.int .i64 d.kind,.int .i64 d.op,.int .i64 d.type,.int .i64 d.n,.string d.text,.int .i64 d.kids]:Array Value).setIfInBounds k v = #[.int .i64 d'.kind,.int .i64 d'.op,.int .i64 d'.type,.int .i64 d'.n,.string d'.text,.int .i64 d'.kids]):Pa.Cu ts g a c w nb d' s (W.setCell ⟨nb,k,none⟩ v):=by
 have hgn:=h.gn
 have hgw:=h.gw
 refine ⟨⟨?_,h.D.tks.keep fun j hj=>Below.heap_setCell _ _ _ _ (by simp only;omega),h.D.le,h.D.len,h.D.cap⟩, ?_,hgn, ?_,hgw⟩
 ·rw [Below.heap_setCell _ _ _ _ (by simp only;omega)];exact h.D.blk
 ·exact ⟨h.F.os,h.F.tape,h.F.output,Nat.le_trans h.F.size (by simp [World.setCell]),fun j hj hjg=>(Below.heap_setCell _ _ _ _ (by simp only;omega)).trans (h.F.keep j hj hjg)⟩
 ·have:=h.nd
  simp only [World.setCell,Array.getElem?_modify,this]
  simp [hd]
theorem Pa.Cu.grown (h:Pa.Cu ts g a c w nb d s W) {B:Nat} (hB:nb < B) (hDg:∀ ts g a c st,Pa.D ts g a c st W→g < B→Pa.D ts g a c st W2) (hFg:∀ g V,Pa.Fr g V W→V.heap.size≤B→Pa.Fr g V W2) (hk:W.heap.size≤W2.heap.size∧∀ k,k < B→k < W.heap.size→W2.heap[k]? = W.heap[k]?):Pa.Cu ts g a c w nb d s W2 :=
 ⟨hDg _ _ _ _ _ h.D (by have:=h.gn;omega),hFg _ _ h.F (by have:=h.gw;omega),h.gn,(hk.2 nb hB h.lt).trans h.nd,h.gw⟩
def Pa.Cr (ts:List (Mill.Piece × Nat)) (g:Nat) (a:Option Addr) (c:Nat) (w:World) (nb:Nat) (d:Mill.Nd) (s:Pa.S) (W:World) (va:Option Addr) (vc:Nat) (l:List Mill.Nd):Prop :=
 Pa.Cu ts g a c w nb d s W∧∃ B,nb < B∧B≤W.heap.size∧Pa.Row B W (.slice va l.length vc) l
theorem Pa.Cu.call (h:Pa.Cu ts g a c w nb d s W) {va:Option Addr} {vc:Nat} {l:List Mill.Nd} (hr:Pa.Row W.heap.size W2 (.slice va l.length vc) l) (hT:Pa.To ts g a c s2 W W2):Pa.Cr ts g a c w nb d s2 W2 va vc l:=⟨h.to hT,_,h.lt,hT.2.size,hr⟩
variable {va:Option Addr} {vc:Nat} {l:List Mill.Nd}
theorem Pa.Cr.to (h:Pa.Cr ts g a c w nb d s W va vc l) (hT:Pa.To ts g a c s2 W W2):Pa.Cr ts g a c w nb d s2 W2 va vc l:=by
 obtain ⟨hc,B,h1,h2,h3⟩:=h
 exact ⟨hc.to hT,B,h1,Nat.le_trans h2 hT.2.size,hT.2.own h3 (by have:=hc.gn;omega)⟩
theorem Pa.Cr.set (h:Pa.Cr ts g a c w nb d s W va vc l) (k:Nat) (v:Value) (d':Mill.Nd) (hd:(#[.int .i64 d.kind,.int .i64 d.op,.int .i64 d.type,.int .i64 d.n,.string d.text,.int .i64 d.kids]:Array Value).setIfInBounds k v = #[.int .i64 d'.kind,.int .i64 d'.op,.int .i64 d'.type,.int .i64 d'.n,.string d'.text,.int .i64 d'.kids]):Pa.Cr ts g a c w nb d' s (W.setCell ⟨nb,k,none⟩ v) va vc l:=by
 obtain ⟨hc,B,h1,h2,h3⟩:=h
 exact ⟨hc.set k v d' hd,B,h1,by simpa [World.setCell] using h2,ownsRow_setCell_below h3 (by simpa using h1) _⟩
theorem Pa.Cr.out {R:Pa.Nds × Pa.S} {n:Nat} {e:Ending} (h:Pa.Cr ts g a c w nb d s W va vc l) (hR:(l,s)=R) (he:e = .returned (.slice va n vc)) (hn:l.length=n):Pa.Out ts g a c R w e W:=by
 obtain ⟨hc,B,h1,h2,h3⟩:=h
 exact Pa.out_of hR he hn (Pa.own_mono h3 (by have:=hc.gw;omega)) hc.D hc.F
theorem Pa.wp_one {ops:Array Oper} {rest:List Oper} {o:Oper} {A:Act} {Q:Exit→Act→World→Prop} (hgd:o.guard=none) (s' x:Operand)
  (ho:o.op = .call { callee:=.builtin .append,args := #[s',x],argTypes := #[22,22] }) {n:Nat} (d':Mill.Nd) (hC:Pa.Cr ts g a c w nb d s W va vc l) (hs:A.eval s' = .slice va n vc) (hn:l.length=n) (hx:A.eval x = .slice (some ⟨W.heap.size,0,none⟩) 1 1) (hK:n+1≤1000000)
  (h:∀ a' c' w',Pa.Cr ts g a c w nb d s w' a' c' (l++[d'])→wpList Tryz.prog ops Q rest (A.put o.dst (.slice a' (l++[d']).length c')) w') :
  wpList Tryz.prog ops Q (o::rest) A (W.alloc (.cells #[.int .i64 d'.kind,.int .i64 d'.op,.int .i64 d'.type,.int .i64 d'.n,.string d'.text,.int .i64 d'.kids] 43)):=by
 obtain ⟨hc,B,h1,h2,h3⟩:=hC
 refine Pa.wp_nd (l:=l) hgd s' x ho d' hs hn hx h3 h2 hK ?_
 intro a' c' w' hr hDg hFg hsz
 exact h a' c' w' ⟨hc.grown h1 hDg hFg hsz,B,h1,Nat.le_trans h2 hsz.1,hr⟩
theorem Pa.wp_mid {ops:Array Oper} {rest:List Oper} {o:Oper} {A:Act} {Q:Exit→Act→World→Prop} (hgd:o.guard=none) (s' x:Operand)
  (ho:o.op = .call { callee:=.builtin .append,args := #[s',x],argTypes := #[22,22] }) {n B2 sc:Nat} {sa:Option Addr} {l2:List Mill.Nd} (hC:Pa.Cr ts g a c w nb d s W va vc l) (hs:A.eval s' = .slice va n vc) (hn:l.length=n) (hx:A.eval x = .slice sa l2.length sc) (hr2:Pa.Row B2 W (.slice sa l2.length sc) l2) (hK:l.length+l2.length≤1000000)
  (h:∀ a' c' w',Pa.Cr ts g a c w nb d s w' a' c' (l++l2)→wpList Tryz.prog ops Q rest (A.put o.dst (.slice a' (l++l2).length c')) w') :
  wpList Tryz.prog ops Q (o::rest) A W:=by
 obtain ⟨hc,B,h1,h2,h3⟩:=hC
 refine Pa.wp_nds2 (l:=l) hgd s' x ho hs hn hx h3 hr2 h2 hK ?_
 intro a' c' w' hr hDg hFg hsz
 exact h a' c' w' ⟨hc.grown h1 hDg hFg hsz,B,h1,Nat.le_trans h2 hsz.1,hr⟩
theorem Pa.Cu.start (hD:Pa.D ts g a c s w):Pa.Cu ts g a c w (w.heap.size+1) ⟨0,0,0,0,⟨#[]⟩,1⟩ s ((w.alloc (.cells #[] 43)).alloc (.cells #[.int .i64 0,.int .i64 0,.int .i64 0,.int .i64 0,.string ⟨#[]⟩,.int .i64 1] 43)):=by
 have hg:=hD.lt
 refine ⟨(hD.alloc _).alloc _,((Pa.Fr.refl _ _).alloc _).alloc _,by omega, ?_,by omega⟩
 have:=heap_alloc_new (w.alloc (.cells #[] 43)) (.cells #[.int .i64 0,.int .i64 0,.int .i64 0,.int .i64 0,.string ⟨#[]⟩,.int .i64 1] 43)
 rw [World.size_alloc] at this
 exact this
theorem Pa.is_kind {T:List UInt8} (h:Pa.is ts T s=true):Pa.kind ts s≠1:=by
 have hb:=(Pa.is_lt h).2
 unfold Pa.is at h
 unfold Pa.kind
 rw [hb] at h ⊢
 simp at h ⊢
 omega
variable {ts:List (Mill.Piece × Nat)} {g:Nat} {a:Option Addr} {c:Nat} {s:Pa.S} {w:World}
theorem Pa.st_fail (hi0:Pa.is ts [105,102] s=false) (hi1:Pa.is ts [119,104,105,108,101] s=false) (hi2:Pa.is ts [108,101,116] s=false) (hi3:Pa.is ts [98,114,101,97,107] s=false) (hi4:Pa.is ts [99,111,110,116,105,110,117,101] s=false) (hi5:Pa.is ts [114,101,116,117,114,110] s=false) (hiT:Pa.is ts [102,97,105,108] s=true) (R:Pa.Nds × Pa.S) (hE:(∀ W,Pa.D ts g a c (Pa.nx s) W→Calls Tryz.prog 81 #[.pointer (some ⟨g,0,none⟩),.int .i64 ((1:Nat):Int)] W (Pa.Out ts g a c R W))) (hl:(R.1++[(⟨17,0,0,0,⟨#[]⟩,1⟩:Mill.Nd)]).length≤1000000) (hD:Pa.D ts g a c s w) :
  Calls Tryz.prog 46 #[.pointer (some ⟨g,0,none⟩)] w (Pa.Out ts g a c (R.1++[⟨17,0,0,0,⟨#[]⟩,1⟩],Pa.need ts [59] R.2) w):=by
 have hgw:=hD.lt
 have hkn:=Pa.is_kind hiT
 obtain ⟨K,hK⟩:∃ K,Pa.kind ts s=K:=⟨_,rfl⟩
 rw [hK] at hkn
 have kb1:(K == 1)=false:=by simpa using hkn
 have hc:=Pa.Cu.start hD
 obtain ⟨nb,hnb⟩:∃ nb,w.heap.size+1=nb:=⟨_,rfl⟩
 rw [hnb] at hc
 have HE:Hid (∀ W,Pa.D ts g a c (Pa.nx s) W→Calls Tryz.prog 81 #[.pointer (some ⟨g,0,none⟩),.int .i64 ((1:Nat):Int)] W (Pa.Out ts g a c R W)):=hE
 clear hE
 go_enter Tryz.func46,Tryz.ntmps46
 go_wp2_with (first
  | (go_at_call 44;refine (Pa.kind_any hc.D).mono ?_;rintro e V ⟨rfl,hV⟩;replace hc:=hc.below hV;clear hV;rw [hK])
  | (go_at_call 25;refine (Pa.opt_any _ hc.D).mono ?_;rintro e V ⟨rfl,hT⟩;replace hc:=hc.to hT;clear hT;first | (rw [hi0];rw [Pa.not_opt hi0] at hc) | (rw [hi1];rw [Pa.not_opt hi1] at hc) | (rw [hi2];rw [Pa.not_opt hi2] at hc) | (rw [hi3];rw [Pa.not_opt hi3] at hc) | (rw [hi4];rw [Pa.not_opt hi4] at hc) | (rw [hi5];rw [Pa.not_opt hi5] at hc))
  | (go_at_call 25;refine (Pa.opt_any _ hc.D).mono ?_;rintro e V ⟨rfl,hT⟩;replace hc:=hc.to hT;clear hT;rw [hiT];rw [Pa.is_opt hiT] at hc;obtain ⟨⟨n0,n1,n2,n3,n4,n5⟩,nf⟩:=hc.cells;replace hc:=hc.set 0 (.int .i64 17) ⟨17,0,0,0,⟨#[]⟩,1⟩ rfl)
  | (go_at_call 81;refine (HE.out _ hc.D).mono ?_;rintro e V ⟨va,vc,rfl,hr,hT⟩;replace hc:=hc.call hr hT;clear hr hT n0 n1 n2 n3 n4 n5 nf HE)
  | (go_at_call 23;refine (Pa.need_any [59] hc.1.D).mono ?_;rintro e V ⟨rfl,hT⟩;replace hc:=hc.to hT;clear hT;obtain ⟨⟨n0,n1,n2,n3,n4,n5⟩,nf⟩:=hc.1.cells)
  | (at_builtin;refine Pa.wp_one (l:=R.1) rfl _ _ rfl ⟨17,0,0,0,⟨#[]⟩,1⟩ hc rfl (by simp) rfl (by simp at hl ⊢;omega) ?_;intro a5 c5 W5 hcE))
 go_ret
 exact hcE.out rfl rfl (by simp)
theorem Pa.st_say (hi0:Pa.is ts [105,102] s=false) (hi1:Pa.is ts [119,104,105,108,101] s=false) (hi2:Pa.is ts [108,101,116] s=false) (hi3:Pa.is ts [98,114,101,97,107] s=false) (hi4:Pa.is ts [99,111,110,116,105,110,117,101] s=false) (hi5:Pa.is ts [114,101,116,117,114,110] s=false) (hi6:Pa.is ts [102,97,105,108] s=false) (hiT:Pa.is ts [115,97,121] s=true) (R:Pa.Nds × Pa.S) (hE:(∀ W,Pa.D ts g a c (Pa.nx s) W→Calls Tryz.prog 81 #[.pointer (some ⟨g,0,none⟩),.int .i64 ((1:Nat):Int)] W (Pa.Out ts g a c R W))) (hl:(R.1++[(⟨19,0,0,0,⟨#[]⟩,1⟩:Mill.Nd)]).length≤1000000) (hD:Pa.D ts g a c s w) :
  Calls Tryz.prog 46 #[.pointer (some ⟨g,0,none⟩)] w (Pa.Out ts g a c (R.1++[⟨19,0,0,0,⟨#[]⟩,1⟩],Pa.need ts [59] R.2) w):=by
 have hgw:=hD.lt
 have hkn:=Pa.is_kind hiT
 obtain ⟨K,hK⟩:∃ K,Pa.kind ts s=K:=⟨_,rfl⟩
 rw [hK] at hkn
 have kb1:(K == 1)=false:=by simpa using hkn
 have hc:=Pa.Cu.start hD
 obtain ⟨nb,hnb⟩:∃ nb,w.heap.size+1=nb:=⟨_,rfl⟩
 rw [hnb] at hc
 have HE:Hid (∀ W,Pa.D ts g a c (Pa.nx s) W→Calls Tryz.prog 81 #[.pointer (some ⟨g,0,none⟩),.int .i64 ((1:Nat):Int)] W (Pa.Out ts g a c R W)):=hE
 clear hE
 go_enter Tryz.func46,Tryz.ntmps46
 go_wp2_with (first
  | (go_at_call 44;refine (Pa.kind_any hc.D).mono ?_;rintro e V ⟨rfl,hV⟩;replace hc:=hc.below hV;clear hV;rw [hK])
  | (go_at_call 25;refine (Pa.opt_any _ hc.D).mono ?_;rintro e V ⟨rfl,hT⟩;replace hc:=hc.to hT;clear hT;first | (rw [hi0];rw [Pa.not_opt hi0] at hc) | (rw [hi1];rw [Pa.not_opt hi1] at hc) | (rw [hi2];rw [Pa.not_opt hi2] at hc) | (rw [hi3];rw [Pa.not_opt hi3] at hc) | (rw [hi4];rw [Pa.not_opt hi4] at hc) | (rw [hi5];rw [Pa.not_opt hi5] at hc) | (rw [hi6];rw [Pa.not_opt hi6] at hc))
  | (go_at_call 25;refine (Pa.opt_any _ hc.D).mono ?_;rintro e V ⟨rfl,hT⟩;replace hc:=hc.to hT;clear hT;rw [hiT];rw [Pa.is_opt hiT] at hc;obtain ⟨⟨n0,n1,n2,n3,n4,n5⟩,nf⟩:=hc.cells;replace hc:=hc.set 0 (.int .i64 19) ⟨19,0,0,0,⟨#[]⟩,1⟩ rfl)
  | (go_at_call 81;refine (HE.out _ hc.D).mono ?_;rintro e V ⟨va,vc,rfl,hr,hT⟩;replace hc:=hc.call hr hT;clear hr hT n0 n1 n2 n3 n4 n5 nf HE)
  | (go_at_call 23;refine (Pa.need_any [59] hc.1.D).mono ?_;rintro e V ⟨rfl,hT⟩;replace hc:=hc.to hT;clear hT;obtain ⟨⟨n0,n1,n2,n3,n4,n5⟩,nf⟩:=hc.1.cells)
  | (at_builtin;refine Pa.wp_one (l:=R.1) rfl _ _ rfl ⟨19,0,0,0,⟨#[]⟩,1⟩ hc rfl (by simp) rfl (by simp at hl ⊢;omega) ?_;intro a5 c5 W5 hcE))
 go_ret
 exact hcE.out rfl rfl (by simp)
theorem Pa.st_return (hi0:Pa.is ts [105,102] s=false) (hi1:Pa.is ts [119,104,105,108,101] s=false) (hi2:Pa.is ts [108,101,116] s=false) (hi3:Pa.is ts [98,114,101,97,107] s=false) (hi4:Pa.is ts [99,111,110,116,105,110,117,101] s=false) (hiT:Pa.is ts [114,101,116,117,114,110] s=true) (hi9:Pa.is ts [59] (Pa.nx s)=false) (R:Pa.Nds × Pa.S) (hE:(∀ W,Pa.D ts g a c (Pa.nx s) W→Calls Tryz.prog 81 #[.pointer (some ⟨g,0,none⟩),.int .i64 ((1:Nat):Int)] W (Pa.Out ts g a c R W))) (hl:(R.1++[(⟨16,0,0,0,⟨#[]⟩,1⟩:Mill.Nd)]).length≤1000000) (hD:Pa.D ts g a c s w) :
  Calls Tryz.prog 46 #[.pointer (some ⟨g,0,none⟩)] w (Pa.Out ts g a c (R.1++[⟨16,0,0,0,⟨#[]⟩,1⟩],Pa.need ts [59] R.2) w):=by
 have hgw:=hD.lt
 have hkn:=Pa.is_kind hiT
 obtain ⟨K,hK⟩:∃ K,Pa.kind ts s=K:=⟨_,rfl⟩
 rw [hK] at hkn
 have kb1:(K == 1)=false:=by simpa using hkn
 have hc:=Pa.Cu.start hD
 obtain ⟨nb,hnb⟩:∃ nb,w.heap.size+1=nb:=⟨_,rfl⟩
 rw [hnb] at hc
 have HE:Hid (∀ W,Pa.D ts g a c (Pa.nx s) W→Calls Tryz.prog 81 #[.pointer (some ⟨g,0,none⟩),.int .i64 ((1:Nat):Int)] W (Pa.Out ts g a c R W)):=hE
 clear hE
 go_enter Tryz.func46,Tryz.ntmps46
 go_wp2_with (first
  | (go_at_call 44;refine (Pa.kind_any hc.D).mono ?_;rintro e V ⟨rfl,hV⟩;replace hc:=hc.below hV;clear hV;rw [hK])
  | (go_at_call 25;refine (Pa.opt_any _ hc.D).mono ?_;rintro e V ⟨rfl,hT⟩;replace hc:=hc.to hT;clear hT;first | (rw [hi0];rw [Pa.not_opt hi0] at hc) | (rw [hi1];rw [Pa.not_opt hi1] at hc) | (rw [hi2];rw [Pa.not_opt hi2] at hc) | (rw [hi3];rw [Pa.not_opt hi3] at hc) | (rw [hi4];rw [Pa.not_opt hi4] at hc))
  | (go_at_call 25;refine (Pa.opt_any _ hc.D).mono ?_;rintro e V ⟨rfl,hT⟩;replace hc:=hc.to hT;clear hT;rw [hiT];rw [Pa.is_opt hiT] at hc;obtain ⟨⟨n0,n1,n2,n3,n4,n5⟩,nf⟩:=hc.cells;replace hc:=hc.set 0 (.int .i64 16) ⟨16,0,0,0,⟨#[]⟩,1⟩ rfl)
  | (go_at_call 43;refine (Pa.is_any _ hc.D).mono ?_;rintro e V ⟨rfl,hV⟩;replace hc:=hc.below hV;clear hV;rw [hi9])
  | (go_at_call 81;refine (HE.out _ hc.D).mono ?_;rintro e V ⟨va,vc,rfl,hr,hT⟩;replace hc:=hc.call hr hT;clear hr hT n0 n1 n2 n3 n4 n5 nf HE)
  | (go_at_call 23;refine (Pa.need_any [59] hc.1.D).mono ?_;rintro e V ⟨rfl,hT⟩;replace hc:=hc.to hT;clear hT;obtain ⟨⟨n0,n1,n2,n3,n4,n5⟩,nf⟩:=hc.1.cells)
  | (at_builtin;refine Pa.wp_one (l:=R.1) rfl _ _ rfl ⟨16,0,0,0,⟨#[]⟩,1⟩ hc rfl (by simp) rfl (by simp at hl ⊢;omega) ?_;intro a5 c5 W5 hcE))
 go_ret
 exact hcE.out rfl rfl (by simp)
variable {ts:List (Mill.Piece × Nat)} {g:Nat} {a:Option Addr} {c:Nat} {s:Pa.S} {w:World}
theorem Pa.st_let (hi0:Pa.is ts [105,102] s=false) (hi1:Pa.is ts [119,104,105,108,101] s=false) (hiT:Pa.is ts [108,101,116] s=true) (R:Pa.Nds × Pa.S) (hE:(∀ W,Pa.D ts g a c (Pa.need ts [61] (Pa.name ts (Pa.nx s))) W→Calls Tryz.prog 81 #[.pointer (some ⟨g,0,none⟩),.int .i64 ((1:Nat):Int)] W (Pa.Out ts g a c R W))) (hl:(R.1++[(⟨10,0,0,0,⟨#[]⟩,1⟩:Mill.Nd)]).length≤1000000) (hD:Pa.D ts g a c s w) :
  Calls Tryz.prog 46 #[.pointer (some ⟨g,0,none⟩)] w (Pa.Out ts g a c (R.1++[⟨10,0,0,0,Mill.ba (Pa.nameT ts (Pa.nx s)),1⟩],Pa.need ts [59] R.2) w):=by
 obtain ⟨X,HX⟩:∃ X,Hid (Mill.ba (Pa.nameT ts (Pa.nx s))=X):=⟨_,rfl⟩
 rw [HX.out]
 have mkA:True:=trivial
 have hgw:=hD.lt
 have hkn:=Pa.is_kind hiT
 obtain ⟨K,hK⟩:∃ K,Pa.kind ts s=K:=⟨_,rfl⟩
 rw [hK] at hkn
 have kb1:(K == 1)=false:=by simpa using hkn
 have hc:=Pa.Cu.start hD
 obtain ⟨nb,hnb⟩:∃ nb,w.heap.size+1=nb:=⟨_,rfl⟩
 rw [hnb] at hc
 have HE:Hid (∀ W,Pa.D ts g a c (Pa.need ts [61] (Pa.name ts (Pa.nx s))) W→Calls Tryz.prog 81 #[.pointer (some ⟨g,0,none⟩),.int .i64 ((1:Nat):Int)] W (Pa.Out ts g a c R W)):=hE
 clear hE
 go_enter Tryz.func46,Tryz.ntmps46
 go_wp2_with (first
  | (go_at_call 44;refine (Pa.kind_any hc.D).mono ?_;rintro e V ⟨rfl,hV⟩;replace hc:=hc.below hV;clear hV;rw [hK])
  | (go_at_call 25;refine (Pa.opt_any _ hc.D).mono ?_;rintro e V ⟨rfl,hT⟩;replace hc:=hc.to hT;clear hT;first | (rw [hi0];rw [Pa.not_opt hi0] at hc) | (rw [hi1];rw [Pa.not_opt hi1] at hc))
  | (go_at_call 25;refine (Pa.opt_any _ hc.D).mono ?_;rintro e V ⟨rfl,hT⟩;replace hc:=hc.to hT;clear hT;rw [hiT];rw [Pa.is_opt hiT] at hc;obtain ⟨⟨n0,n1,n2,n3,n4,n5⟩,nf⟩:=hc.cells;replace hc:=hc.set 0 (.int .i64 10) ⟨10,0,0,0,⟨#[]⟩,1⟩ rfl)
  | (go_at_call 24;refine (Pa.name_any hc.D).mono ?_;rintro e V ⟨rfl,hT⟩;replace hc:=hc.to hT;clear n0 n1 n2 n3 n4 n5 nf hT;rw [HX.out];obtain ⟨⟨n0,n1,n2,n3,n4,n5⟩,nf⟩:=hc.cells;replace hc:=hc.set 4 (.string X) ⟨10,0,0,0,X,1⟩ rfl)
  | (have _t:=mkA;go_at_call 23;refine (Pa.need_any [61] hc.D).mono ?_;rintro e V ⟨rfl,hT⟩;replace hc:=hc.to hT;clear n0 n1 n2 n3 n4 n5 nf hT mkA)
  | (go_at_call 81;refine (HE.out _ hc.D).mono ?_;rintro e V ⟨va,vc,rfl,hr,hT⟩;replace hc:=hc.call hr hT;clear hr hT HE)
  | (go_at_call 23;refine (Pa.need_any [59] hc.1.D).mono ?_;rintro e V ⟨rfl,hT⟩;replace hc:=hc.to hT;clear hT;obtain ⟨⟨n0,n1,n2,n3,n4,n5⟩,nf⟩:=hc.1.cells)
  | (at_builtin;refine Pa.wp_one (l:=R.1) rfl _ _ rfl ⟨10,0,0,0,X,1⟩ hc rfl (by simp) rfl (by simp at hl ⊢;omega) ?_;intro a5 c5 W5 hcE))
 go_ret
 exact hcE.out rfl rfl (by simp)
theorem Pa.st_while (hi0:Pa.is ts [105,102] s=false) (hiT:Pa.is ts [119,104,105,108,101] s=true) (R1 R2:Pa.Nds × Pa.S) (hE:(∀ W,Pa.D ts g a c (Pa.nx s) W→Calls Tryz.prog 81 #[.pointer (some ⟨g,0,none⟩),.int .i64 ((1:Nat):Int)] W (Pa.Out ts g a c R1 W))) (hB:(∀ W,Pa.D ts g a c R1.2 W→Calls Tryz.prog 27 #[.pointer (some ⟨g,0,none⟩)] W (Pa.Out ts g a c R2 W))) (hl:(R1.1++R2.1++[(⟨13,0,0,0,⟨#[]⟩,2⟩:Mill.Nd)]).length≤1000000) (hD:Pa.D ts g a c s w) :
  Calls Tryz.prog 46 #[.pointer (some ⟨g,0,none⟩)] w (Pa.Out ts g a c (R1.1++R2.1++[⟨13,0,0,0,⟨#[]⟩,2⟩],R2.2) w):=by
 have hgw:=hD.lt
 have hkn:=Pa.is_kind hiT
 obtain ⟨K,hK⟩:∃ K,Pa.kind ts s=K:=⟨_,rfl⟩
 rw [hK] at hkn
 have kb1:(K == 1)=false:=by simpa using hkn
 have hc:=Pa.Cu.start hD
 obtain ⟨nb,hnb⟩:∃ nb,w.heap.size+1=nb:=⟨_,rfl⟩
 rw [hnb] at hc
 have HE:Hid (∀ W,Pa.D ts g a c (Pa.nx s) W→Calls Tryz.prog 81 #[.pointer (some ⟨g,0,none⟩),.int .i64 ((1:Nat):Int)] W (Pa.Out ts g a c R1 W)):=hE
 have HB:Hid (∀ W,Pa.D ts g a c R1.2 W→Calls Tryz.prog 27 #[.pointer (some ⟨g,0,none⟩)] W (Pa.Out ts g a c R2 W)):=hB
 clear hE hB
 have hl2:R1.1.length+R2.1.length≤1000000:=by simp at hl;omega
 go_enter Tryz.func46,Tryz.ntmps46
 go_wp2_with (first
  | (go_at_call 44;refine (Pa.kind_any hc.D).mono ?_;rintro e V ⟨rfl,hV⟩;replace hc:=hc.below hV;clear hV;rw [hK])
  | (go_at_call 25;refine (Pa.opt_any _ hc.D).mono ?_;rintro e V ⟨rfl,hT⟩;replace hc:=hc.to hT;clear hT;first | (rw [hi0];rw [Pa.not_opt hi0] at hc))
  | (go_at_call 25;refine (Pa.opt_any _ hc.D).mono ?_;rintro e V ⟨rfl,hT⟩;replace hc:=hc.to hT;clear hT;rw [hiT];rw [Pa.is_opt hiT] at hc;skip)
  | (go_at_call 81;refine (HE.out _ hc.D).mono ?_;rintro e V ⟨va,vc,rfl,hr,hT⟩;replace hc:=hc.call hr hT;clear hr hT HE)
  | (go_at_call 27;refine (HB.out _ hc.1.D).mono ?_;rintro e V ⟨va2,vc2,rfl,hr2,hT⟩;replace hc:=hc.to hT;clear hT HB)
  | (at_builtin;refine Pa.wp_mid (l:=R1.1) rfl _ _ rfl hc rfl rfl rfl hr2 hl2 ?_;intro a4 c4 W4 hc4;clear hc hr2)
  | (at_builtin;refine Pa.wp_one (l:=R1.1++R2.1) rfl _ _ rfl ⟨13,0,0,0,⟨#[]⟩,2⟩ hc4 rfl (by simp) rfl (by simp at hl ⊢;omega) ?_;intro a5 c5 W5 hcE))
 go_ret
 exact hcE.out rfl rfl (by simp;try omega)
theorem Pa.st_if (hiT:Pa.is ts [105,102] s=true) (R:Pa.Nds × Pa.S) (hE:(∀ W,Pa.D ts g a c (Pa.nx s) W→Calls Tryz.prog 83 #[.pointer (some ⟨g,0,none⟩)] W (Pa.Out ts g a c R W))) (hD:Pa.D ts g a c s w) :
  Calls Tryz.prog 46 #[.pointer (some ⟨g,0,none⟩)] w (Pa.Out ts g a c R w):=by
 have hgw:=hD.lt
 have hkn:=Pa.is_kind hiT
 obtain ⟨K,hK⟩:∃ K,Pa.kind ts s=K:=⟨_,rfl⟩
 rw [hK] at hkn
 have kb1:(K == 1)=false:=by simpa using hkn
 have hc:=Pa.Cu.start hD
 obtain ⟨nb,hnb⟩:∃ nb,w.heap.size+1=nb:=⟨_,rfl⟩
 rw [hnb] at hc
 have HE:Hid (∀ W,Pa.D ts g a c (Pa.nx s) W→Calls Tryz.prog 83 #[.pointer (some ⟨g,0,none⟩)] W (Pa.Out ts g a c R W)):=hE
 clear hE
 go_enter Tryz.func46,Tryz.ntmps46
 go_wp2_with (first
  | (go_at_call 44;refine (Pa.kind_any hc.D).mono ?_;rintro e V ⟨rfl,hV⟩;replace hc:=hc.below hV;clear hV;rw [hK])
  | (go_at_call 25;refine (Pa.opt_any _ hc.D).mono ?_;rintro e V ⟨rfl,hT⟩;replace hc:=hc.to hT;clear hT;rw [hiT];rw [Pa.is_opt hiT] at hc;skip)
  | (go_at_call 83;refine (HE.out _ hc.D).mono ?_;rintro e V ⟨va,vc,rfl,hr,hT⟩;replace hc:=hc.call hr hT;clear hr hT HE))
 go_ret
 exact hc.out rfl rfl rfl
theorem Pa.st_write (hi0:Pa.is ts [105,102] s=false) (hi1:Pa.is ts [119,104,105,108,101] s=false) (hi2:Pa.is ts [108,101,116] s=false) (hi3:Pa.is ts [98,114,101,97,107] s=false) (hi4:Pa.is ts [99,111,110,116,105,110,117,101] s=false) (hi5:Pa.is ts [114,101,116,117,114,110] s=false) (hi6:Pa.is ts [102,97,105,108] s=false) (hi7:Pa.is ts [115,97,121] s=false) (hiT:Pa.is ts [119,114,105,116,101] s=true) (R1 R2:Pa.Nds × Pa.S) (hE:(∀ W,Pa.D ts g a c (Pa.nx s) W→Calls Tryz.prog 81 #[.pointer (some ⟨g,0,none⟩),.int .i64 ((1:Nat):Int)] W (Pa.Out ts g a c R1 W))) (hB:(∀ W,Pa.D ts g a c (Pa.need ts [44] R1.2) W→Calls Tryz.prog 81 #[.pointer (some ⟨g,0,none⟩),.int .i64 ((1:Nat):Int)] W (Pa.Out ts g a c R2 W))) (hl:(R1.1++R2.1++[(⟨18,0,0,0,⟨#[]⟩,2⟩:Mill.Nd)]).length≤1000000) (hD:Pa.D ts g a c s w) :
  Calls Tryz.prog 46 #[.pointer (some ⟨g,0,none⟩)] w (Pa.Out ts g a c (R1.1++R2.1++[⟨18,0,0,0,⟨#[]⟩,2⟩],Pa.need ts [59] R2.2) w):=by
 have mkA:True:=trivial
 have hgw:=hD.lt
 have hkn:=Pa.is_kind hiT
 obtain ⟨K,hK⟩:∃ K,Pa.kind ts s=K:=⟨_,rfl⟩
 rw [hK] at hkn
 have kb1:(K == 1)=false:=by simpa using hkn
 have hc:=Pa.Cu.start hD
 obtain ⟨nb,hnb⟩:∃ nb,w.heap.size+1=nb:=⟨_,rfl⟩
 rw [hnb] at hc
 have HE:Hid (∀ W,Pa.D ts g a c (Pa.nx s) W→Calls Tryz.prog 81 #[.pointer (some ⟨g,0,none⟩),.int .i64 ((1:Nat):Int)] W (Pa.Out ts g a c R1 W)):=hE
 have HB:Hid (∀ W,Pa.D ts g a c (Pa.need ts [44] R1.2) W→Calls Tryz.prog 81 #[.pointer (some ⟨g,0,none⟩),.int .i64 ((1:Nat):Int)] W (Pa.Out ts g a c R2 W)):=hB
 clear hE hB
 have hl2:R1.1.length+R2.1.length≤1000000:=by simp at hl;omega
 go_enter Tryz.func46,Tryz.ntmps46
 go_wp2_with (first
  | (go_at_call 44;refine (Pa.kind_any hc.D).mono ?_;rintro e V ⟨rfl,hV⟩;replace hc:=hc.below hV;clear hV;rw [hK])
  | (go_at_call 25;refine (Pa.opt_any _ hc.D).mono ?_;rintro e V ⟨rfl,hT⟩;replace hc:=hc.to hT;clear hT;first | (rw [hi0];rw [Pa.not_opt hi0] at hc) | (rw [hi1];rw [Pa.not_opt hi1] at hc) | (rw [hi2];rw [Pa.not_opt hi2] at hc) | (rw [hi3];rw [Pa.not_opt hi3] at hc) | (rw [hi4];rw [Pa.not_opt hi4] at hc) | (rw [hi5];rw [Pa.not_opt hi5] at hc) | (rw [hi6];rw [Pa.not_opt hi6] at hc) | (rw [hi7];rw [Pa.not_opt hi7] at hc))
  | (go_at_call 25;refine (Pa.opt_any _ hc.D).mono ?_;rintro e V ⟨rfl,hT⟩;replace hc:=hc.to hT;clear hT;rw [hiT];rw [Pa.is_opt hiT] at hc;obtain ⟨⟨n0,n1,n2,n3,n4,n5⟩,nf⟩:=hc.cells;replace hc:=hc.set 0 (.int .i64 18) ⟨18,0,0,0,⟨#[]⟩,1⟩ rfl;have nf2:∀ v k,(V.setCell ⟨nb,0,none⟩ v).frozen? ⟨nb,k,none⟩=false:=(fun v k=>(World.frozen?_setCell _ _ _ _).trans (nf k));replace hc:=hc.set 5 (.int .i64 2) ⟨18,0,0,0,⟨#[]⟩,2⟩ rfl)
  | (have _t:=HE;go_at_call 81;refine (HE.out _ hc.D).mono ?_;rintro e V ⟨va,vc,rfl,hr,hT⟩;replace hc:=hc.call hr hT;clear hr hT HE nf2;clear n0 n1 n2 n3 n4 n5 nf)
  | (have _t:=mkA;go_at_call 23;refine (Pa.need_any [44] hc.1.D).mono ?_;rintro e V ⟨rfl,hT⟩;replace hc:=hc.to hT;clear hT mkA)
  | (go_at_call 81;refine (HB.out _ hc.1.D).mono ?_;rintro e V ⟨va2,vc2,rfl,hr2,hT⟩;replace hc:=hc.to hT;clear hT HB)
  | (at_builtin;refine Pa.wp_mid (l:=R1.1) rfl _ _ rfl hc rfl rfl rfl hr2 hl2 ?_;intro a4 c4 W4 hc4;replace hc:=hc4;clear hc4 hr2)
  | (go_at_call 23;refine (Pa.need_any [59] hc.1.D).mono ?_;rintro e V ⟨rfl,hT⟩;replace hc:=hc.to hT;clear hT;obtain ⟨⟨n0,n1,n2,n3,n4,n5⟩,nf⟩:=hc.1.cells)
  | (at_builtin;refine Pa.wp_one (l:=R1.1++R2.1) rfl _ _ rfl ⟨18,0,0,0,⟨#[]⟩,2⟩ hc rfl (by simp) rfl (by simp at hl ⊢;omega) ?_;intro a5 c5 W5 hcE))
 go_ret
 exact hcE.out rfl rfl (by simp;try omega)
end Go.Proofs.YtlcckaffhnjneaaGreatDoor
