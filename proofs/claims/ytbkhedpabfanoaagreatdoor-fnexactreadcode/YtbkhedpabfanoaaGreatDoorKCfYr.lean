import Derived.Test.YtbkhedpabfanoaaGreatDoorKCfY
import Derived.Test.YtbkhedpabfanoaaGreatDoorKCfN
import Derived.Test.YtbkhedpabfanoaaGreatDoorKCdYA
import Derived.Test.YtbkhedpabfanoaaGreatDoorKCfT
namespace Go.Proofs.YtbkhedpabfanoaaGreatDoor
open Go.RowKit

theorem Cd.Sound.right {c:List Cd.Fn} (h:Cd.Sound c) (k:Nat) (hk:k < c.length):Cd.Right c c[k]:=by
  obtain ⟨b1,b2,b3,b4,b5,b6,b7,b8,b9⟩:=Cd.fnOk_bd (h.fns k hk)
  refine ⟨h.len,b3,h.pl,fun g hg => ?_,⟨b7,b8⟩,⟨b1,b2⟩,h.ins k hk⟩
  obtain ⟨j,hj,rfl⟩:=List.getElem_of_mem hg
  obtain ⟨-,-,-,-,-,-,d7,d8,d9⟩:=Cd.fnOk_bd (h.fns j hj)
  exact ⟨⟨d7,d8⟩,d9⟩
theorem Cd.plain_zero {c:List Cd.Fn} (h:(Cd.plain c).1=0):Cd.plain c=(0,0,0):=by
  unfold Cd.plain at h ⊢
  by_cases h1:c.length=0∨60 < c.length
  · rw [if_pos h1] at h;simp at h
  · rw [if_neg h1] at h ⊢
    cases h2:Cd.badFn c c 0 with
    | some k=>rw [h2] at h;simp at h
    | none =>
      rw [h2] at h
      cases h3:Cd.badCode c c 0 with
      | some p=>rw [h3] at h;simp at h
      | none =>
        rw [h3] at h
        by_cases h4:c.any Cd.isMain=true
        · simp only [if_pos h4]
        · simp only [if_neg h4] at h;simp at h
end Go.Proofs.YtbkhedpabfanoaaGreatDoor
namespace Go.Proofs.YtbkhedpabfanoaaGreatDoor
open Go.RowKit

def Cd.UnfitIs (c:List Cd.Fn) (XS:List (List Cd.Sh)) (r:Int × Int × Int):Prop :=
  (∃ k u,∃ (h:k < c.length) (h':k < XS.length),u < c[k].ins.length∧Cd.unfit c c[k] XS[k] u=true∧(∀ j,j < u→Cd.unfit c c[k] XS[k] j=false) ∧
        (∀ q (hq:q < k) j,j < (c[q]'(by omega)).ins.length→Cd.unfit c (c[q]'(by omega)) (XS[q]'(by omega)) j=false)∧r=(5,(k:Int),(u:Int))) ∨
     ((∀ q (hq:q < c.length) (hq':q < XS.length) j,j < c[q].ins.length→Cd.unfit c c[q] XS[q] j=false)∧r=(0,0,0))
theorem Cd.answer_of {c:List Cd.Fn} {XS:List (List Cd.Sh)} {r:Int × Int × Int} (hp:(Cd.plain c).1=0) (hXL:XS.length=c.length) (hXS:∀ k (hk:k < c.length) (hk':k < XS.length),Cd.Least c c[k] XS[k]) (h:Cd.UnfitIs c XS r):Cd.Answer c r:=by
  unfold Cd.Answer
  rw [if_neg (by simp [hp])]
  exact ⟨XS,hXL,hXS,h⟩
def Cd.UnfitPost (c:List Cd.Fn) (w:World) (e:Ending) (w':World):Prop:=(∃ r,e = .returned (Cd.flawV r)∧Cd.Answer c r)∧Below w.heap.size w w'
theorem Cd.TracedPost.ptr {c:List Cd.Fn} {f:Cd.Fn} {w w':World} {e:Ending} (h:Cd.TracedPost c f w e w'):(∃ g,e = .returned (.pointer (some ⟨g,0,none⟩)))∧Below w.heap.size w w':=by
  obtain ⟨_,g,_,_,_,_,_,_,_,_,_,_,_,he,_,_,_,_,_,hb⟩:=h
  exact ⟨⟨g,he⟩,hb⟩
set_option maxRecDepth 100000 in
set_option maxHeartbeats 4000000 in
theorem Cd.unfit_any (c:List Cd.Fn) (hp:(Cd.plain c).1=0) (ca:Option Addr) (cc:Nat) (w:World) (hC:Cd.CodeAt w.heap.size w (.slice ca c.length cc) c) (hT:Cd.InsTab w) (hW:Cd.WordTab w) :
    Calls Tryz.prog 58 #[.agg #[.slice ca c.length cc]] w (Cd.UnfitPost c w):=by
  have hS:=Cd.plain_sound hp
  obtain ⟨XS,hXL,hXS⟩:=hS.least ca cc w hC
  have hcl:=hS.len
  have HANS:Hid (∀ r:Int × Int × Int,Cd.UnfitIs c XS r→Cd.Answer c r):=fun r h=>Cd.answer_of hp hXL hXS h
  have HXL:Hid (XS.length=c.length):=hXL
  obtain ⟨Y1,hY1⟩:∃ Y,w.alloc (.cells #[.slice ca c.length cc] 24)=Y:=⟨_,rfl⟩
  have hb1:Below w.heap.size w Y1:=by rw [← hY1];exact Cd.b1 w _
  have hs1:Y1.heap.size=w.heap.size+1:=by rw [← hY1];exact World.size_alloc _ _
  have p1_0:Y1.heap[w.heap.size]? = some (.cells #[.slice ca c.length cc] 24):=by rw [← hY1];exact Cd.new_at w _
  obtain ⟨Y2,hY2⟩:∃ Y,Y1.alloc (.cells #[.int .i64 0,.int .i64 0,.int .i64 0] 124)=Y:=⟨_,rfl⟩
  have hb2:Below w.heap.size w Y2:=by rw [← hY2];exact Cd.Below.new hb1 _
  have hs2:Y2.heap.size=w.heap.size+2:=by rw [← hY2,World.size_alloc];omega
  have p2_0:Y2.heap[w.heap.size]? = some (.cells #[.slice ca c.length cc] 24):=by rw [← hY2];exact Cd.keepH _ p1_0
  have p2_1:Y2.heap[w.heap.size+1]? = some (.cells #[.int .i64 0,.int .i64 0,.int .i64 0] 124):=by rw [← hY2,← hs1];exact Cd.new_at _ _
  have HCF:Hid (∀ W,Below Y2.heap.size Y2 W→W.cell? ⟨w.heap.size,0,none⟩=some (.slice ca c.length cc)∧(W.cell? ⟨w.heap.size+1,0,none⟩=some (.int .i64 0)∧W.cell? ⟨w.heap.size+1,1,none⟩=some (.int .i64 0)∧W.cell? ⟨w.heap.size+1,2,none⟩=some (.int .i64 0))∧(W.frozen? ⟨w.heap.size+1,0,none⟩=false∧W.frozen? ⟨w.heap.size+1,1,none⟩=false∧W.frozen? ⟨w.heap.size+1,2,none⟩=false)∧Below w.heap.size w W∧Y2.heap.size≤W.heap.size):=fun W hW=>by
    have r0:=(hW.block _ (by omega)).trans p2_0
    have r1:=(hW.block _ (by omega)).trans p2_1
    exact ⟨by rw [Lib.cell_of_heap r0];rfl,⟨by rw [Lib.cell_of_heap r1];rfl,by rw [Lib.cell_of_heap r1];rfl,by rw [Lib.cell_of_heap r1];rfl⟩,⟨by simp [World.frozen?,r1],by simp [World.frozen?,r1],by simp [World.frozen?,r1]⟩,hb2.trans (hW.mono hb2.size),hW.size⟩
  obtain ⟨m0,⟨m1,m2,m3⟩,⟨mf1,mf2,mf3⟩,-,-⟩:=HCF.out Y2 (Below.refl _ _)
  have HTR:Hid (∀ (k:Nat) (hk:k < c.length) U,Below w.heap.size w U→Calls Tryz.prog 73 #[.agg #[.slice ca c.length cc],.int .i64 (k:Int)] U (Cd.TracedPost c c[k] U)):=fun k hk U hU=>Cd.traced_any c k hk c[k] rfl ca cc (hS.fns k hk) (hS.right k hk) U (Cd.CodeAt.mono (hC.below hU) hU.size) (hT.below hU) (hW.below hU)
  have HFI:Hid (∀ (k:Nat) (hk:k < c.length) (h':k < XS.length) (U:World) (g:Nat) (U':World),Below w.heap.size w U→Cd.TracedPost c c[k] U (.returned (.pointer (some ⟨g,0,none⟩))) U'→Calls Tryz.prog 74 #[.pointer (some ⟨g,0,none⟩)] U' (Cd.FirstPost c c[k] XS[k] U')):=fun k hk h' U g U' hU h=>by
    obtain ⟨B,g',gl,ca',ia,cc',ic,lc,pv,X,W,wa,wc,he,hSt,hI,hCo,hL,hF,hB⟩:=h
    injection he with he
    injection he with he
    injection he with he
    injection he with he
    subst he
    have hXe:X=XS[k]:=hL.one (hXS k hk h')
    rw [← hXe]
    have hU':=hU.trans (hB.mono hU.size)
    obtain ⟨-,-,-,-,-,b6,-,-,-⟩:=Cd.fnOk_bd (hS.fns k hk)
    refine Cd.first_any B g gl c c[k] (hS.right k hk) ca' ia cc' ic lc pv X W wa wc U' hSt hI hCo (hT.below hU') (hW.below hU') hF (fun u => ?_)
    rw [← Cd.firstS_len c[k] b6]
    exact hL.1.lens u
  clear p1_0 p2_0 p2_1 hS hXS hXL hC hp
  go_enter Tryz.func58,Tryz.ntmps58
  go_wp2_with fail
  go_loopw [8] (fun t wr => ∃ k:Nat,k≤c.length∧t = .int .i64 (k:Int)∧Below Y2.heap.size Y2 wr∧Hid (∀ q (hq:q < c.length) (hq':q < XS.length),q < k→∀ j,j < c[q].ins.length→Cd.unfit c c[q] XS[q] j=false)) (fun t _=>c.length - (intOf t).toNat)
  case atStart=>exact ⟨0,by omega,rfl,Below.refl _ _,fun q hq hq' h=>by omega⟩
  case round =>
    obtain ⟨k,hk,rfl,hbr,HU⟩:=hrel
    obtain ⟨k0,⟨k1,k2,k3⟩,⟨kf1,kf2,kf3⟩,hbk,hsk⟩:=HCF.out wr hbr
    by_cases hlt:k < c.length
    · have hltI:(k:Int) < (c.length:Int):=by omega
      have hlx:k < XS.length:=by rw [HXL.out];exact hlt
      have HT3:Hid (Calls Tryz.prog 73 #[.agg #[.slice ca c.length cc],.int .i64 (k:Int)] wr (Cd.TracedPost c c[k] wr)):=HTR.out k hlt wr hbk
      by_cases hz:∃ u,u < c[k].ins.length∧Cd.unfit c c[k] XS[k] u=true
      · have HF3:Hid (∀ (g:Nat) (U':World),Cd.TracedPost c c[k] wr (.returned (.pointer (some ⟨g,0,none⟩))) U'→Calls Tryz.prog 74 #[.pointer (some ⟨g,0,none⟩)] U' (fun e w' => ∃ u:Nat,e = .returned (.int .i64 (u:Int))∧Cd.UnfitIs c XS (5,(k:Int),(u:Int))∧Below U'.heap.size U' w')):=fun g U' h=>by
          refine (HFI.out k hlt hlx wr g U' hbk h).mono ?_
          rintro e w' ⟨h1 | h1,hb⟩
          · obtain ⟨u,hu,he,h5,h6⟩:=h1
            exact ⟨u,he,.inl ⟨k,u,hlt,hlx,hu,h5,h6,fun q hq j hj=>HU.out q (by omega) (by omega) hq j hj,rfl⟩,hb⟩
          · obtain ⟨u,hu,h7⟩:=hz
            have:=h1.2 u hu
            rw [h7] at this
            simp at this
        clear hz
        go_wp2_with (first
          | (go_at_call 73;refine HT3.out.mono ?_;rintro e w3 h3;obtain ⟨⟨g3,he3⟩,hb3⟩:=h3.ptr;subst he3;have H3:Hid (Cd.TracedPost c c[k] wr (.returned (.pointer (some ⟨g3,0,none⟩))) w3):=h3;clear h3)
          | (go_at_call 74;refine (HF3.out g3 w3 H3.out).mono ?_;rintro e w4 ⟨u,rfl,hui,hb4⟩;have HUI:Hid (Cd.UnfitIs c XS (5,(k:Int),(u:Int))):=hui;clear hui;obtain ⟨j0,⟨j1,j2,j3⟩,⟨jf1,jf2,jf3⟩,hbj,hsj⟩:=HCF.out w4 (hbr.trans ((hb3.trans (hb4.mono hb3.size)).mono hbr.size))))
        exact bodyPost_ret (v:=.agg #[.int .i64 5,.int .i64 (k:Int),.int .i64 (u:Int)]) (by simp [results,Tryz.results58,go_sem,j1,j2,j3]) rfl ⟨⟨(5,(k:Int),(u:Int)),rfl,HANS.out _ HUI.out⟩,Cd.Below.set (Cd.Below.set (Cd.Below.set hbj 1 0 _) 1 1 _) 1 2 _⟩
      · have HF3:Hid (∀ (g:Nat) (U':World),Cd.TracedPost c c[k] wr (.returned (.pointer (some ⟨g,0,none⟩))) U'→Calls Tryz.prog 74 #[.pointer (some ⟨g,0,none⟩)] U' (fun e w'=>e = .returned (.int .i64 (-1))∧Below U'.heap.size U' w')):=fun g U' h=>by
          refine (HFI.out k hlt hlx wr g U' hbk h).mono ?_
          rintro e w' ⟨h1 | h1,hb⟩
          · obtain ⟨u,hu,he,h5,h6⟩:=h1
            exact (hz ⟨u,hu,h5⟩).elim
          · exact ⟨h1.1,hb⟩
        have HU2:Hid (∀ q (hq:q < c.length) (hq':q < XS.length),q < k+1→∀ j,j < c[q].ins.length→Cd.unfit c c[q] XS[q] j=false):=fun q hq hq' h j hj=>by
          by_cases e:q=k
          · subst e
            cases hx:Cd.unfit c c[q] XS[q] j with
            | false=>rfl
            | true=>exact (hz ⟨j,hj,hx⟩).elim
          · exact HU.out q hq hq' (by omega) j hj
        clear hz
        go_wp2_with (first
          | (go_at_call 73;refine HT3.out.mono ?_;rintro e w3 h3;obtain ⟨⟨g3,he3⟩,hb3⟩:=h3.ptr;subst he3;have H3:Hid (Cd.TracedPost c c[k] wr (.returned (.pointer (some ⟨g3,0,none⟩))) w3):=h3;clear h3)
          | (go_at_call 74;refine (HF3.out g3 w3 H3.out).mono ?_;rintro e w4 ⟨rfl,hb4⟩))
        go_roundw
        case rel=>exact ⟨k+1,by omega,by go_num,hbr.trans ((hb3.trans (hb4.mono hb3.size)).mono hbr.size),HU2⟩
        case measure=>simp [intOf];omega
    · have hltI:¬ (k:Int) < (c.length:Int):=by omega
      have HUI:Hid (Cd.UnfitIs c XS (0,0,0)):=.inr ⟨fun q hq hq' j hj=>HU.out q hq hq' (by omega) j hj,rfl⟩
      go_wp2_with fail
      exact bodyPost_ret (v:=.agg #[.int .i64 0,.int .i64 0,.int .i64 0]) (by simp [results,Tryz.results58,go_sem,k1,k2,k3]) rfl ⟨⟨(0,0,0),rfl,HANS.out _ HUI.out⟩,Cd.Below.set (Cd.Below.set (Cd.Below.set hbk 1 0 _) 1 1 _) 1 2 _⟩
end Go.Proofs.YtbkhedpabfanoaaGreatDoor
namespace Go.Proofs.YtbkhedpabfanoaaGreatDoor
open Go.RowKit

set_option maxRecDepth 100000 in
set_option maxHeartbeats 4000000 in
theorem Cd.implCheck_any (c:List Cd.Fn) (ca:Option Addr) (cc:Nat) (hcl:c.length≤1048576) (hcap:c.length≤cc) (hpl:∀ k (hk:k < c.length),c[k].params.length≤1048576∧c[k].ins.length≤1048576∧c[k].name.size≤1048576) (hN:∀ k (hk:k < c.length) i (hi:i < c[k].ins.length),-9223372036854775808≤c[k].ins[i].n∧c[k].ins[i].n≤9223372036854775807) (w:World) (hC:Cd.CodeAt w.heap.size w (.slice ca c.length cc) c) (hT:Cd.InsTab w) (hW:Cd.WordTab w) :
    Calls Tryz.prog 40 #[.agg #[.slice ca c.length cc]] w (Cd.CheckPost c w):=by
  obtain ⟨Y1,hY1⟩:∃ Y,w.alloc (.cells #[.slice ca c.length cc] 24)=Y:=⟨_,rfl⟩
  have hb1:Below w.heap.size w Y1:=by rw [← hY1];exact Cd.b1 w _
  have hs1:Y1.heap.size=w.heap.size+1:=by rw [← hY1];exact World.size_alloc _ _
  have p1_0:Y1.heap[w.heap.size]? = some (.cells #[.slice ca c.length cc] 24):=by rw [← hY1];exact Cd.new_at w _
  have c0_0:Y1.cell? ⟨w.heap.size,0,none⟩=some (.slice ca c.length cc):=by rw [Lib.cell_of_heap p1_0];rfl
  have HK0:Hid (∀ U,Below Y1.heap.size Y1 U→U.cell? ⟨w.heap.size,0,none⟩=some (.slice ca c.length cc)∧Below w.heap.size w U):=fun U hU=>⟨(hU.cell (p:=⟨w.heap.size,0,none⟩) (by show w.heap.size < _;omega)).trans c0_0,hb1.trans (hU.mono hb1.size)⟩
  have HFL:Hid (Calls Tryz.prog 57 #[.agg #[.slice ca c.length cc]] Y1 (Cd.FlawPost (Cd.plain c) Y1)):=Cd.flaw_any w.heap.size c ca cc hcl hcap hpl hN Y1 hb1.size (hC.below hb1)
  have HUF:Hid ((Cd.plain c).1=0→∀ U,Below w.heap.size w U→Calls Tryz.prog 58 #[.agg #[.slice ca c.length cc]] U (Cd.UnfitPost c U)):=fun hp U hU=>Cd.unfit_any c hp ca cc U (Cd.CodeAt.mono (hC.below hU) hU.size) (hT.below hU) (hW.below hU)
  have HAN:Hid ((Cd.plain c).1≠0→Cd.Answer c (Cd.plain c)):=fun h=>by unfold Cd.Answer;rw [if_pos h]
  have HZE:Hid ((Cd.plain c).1=0→Cd.plain c=(0,0,0)):=Cd.plain_zero
  obtain ⟨r,hr⟩:∃ r,Cd.plain c=r:=⟨_,rfl⟩
  rw [hr] at HFL HUF HAN HZE
  obtain ⟨r0,r1,r2⟩:=r
  clear hC hT hW hpl hN hr p1_0
  have hgd:=Cd.guard_flaw
  by_cases hz:r0=0
  · have e:=HZE.out hz
    simp only [Prod.mk.injEq] at e
    obtain ⟨-,rfl,rfl⟩:=e
    subst hz
    have heq:=Cd.eq_flaw 0 0 0 0 0 0
    simp only [beq_self_eq_true,Bool.and_self] at heq
    have HU:Hid (∀ U,Below w.heap.size w U→Calls Tryz.prog 58 #[.agg #[.slice ca c.length cc]] U (Cd.UnfitPost c U)):=HUF.out rfl
    clear HUF HAN HZE
    go_enter Tryz.func40,Tryz.ntmps40
    go_wp2_with (first | (go_at_call 57;refine HFL.out.mono ?_;rintro e w2 ⟨rfl,hb2⟩;unfold Cd.flawV;simp only;obtain ⟨U2,hU2⟩:∃ U,w2.alloc (.cells #[.int .i64 0,.int .i64 0,.int .i64 0] 124)=U:=⟨_,rfl⟩;have hbU2:Below Y1.heap.size Y1 U2:=(by rw [← hU2];exact hb2.alloc hb2.size _);have hz3:U2.heap[w2.heap.size]? = some (.cells #[.int .i64 0,.int .i64 0,.int .i64 0] 124):=(by rw [← hU2];exact Cd.new_at _ _);have zc0:U2.cell? ⟨w2.heap.size,0,none⟩=some (.int .i64 0):=(by rw [Lib.cell_of_heap hz3];rfl);have zc1:U2.cell? ⟨w2.heap.size,1,none⟩=some (.int .i64 0):=(by rw [Lib.cell_of_heap hz3];rfl);have zc2:U2.cell? ⟨w2.heap.size,2,none⟩=some (.int .i64 0):=(by rw [Lib.cell_of_heap hz3];rfl);have zf0:U2.frozen? ⟨w2.heap.size,0,none⟩=false:=(by simp [World.frozen?,hz3]);have zf1:U2.frozen? ⟨w2.heap.size,1,none⟩=false:=(by simp [World.frozen?,hz3]);have zf2:U2.frozen? ⟨w2.heap.size,2,none⟩=false:=(by simp [World.frozen?,hz3]);obtain ⟨U3,hU3⟩:∃ U,(((U2.setCell ⟨w2.heap.size,0,none⟩ (.int .i64 0)).setCell ⟨w2.heap.size,1,none⟩ (.int .i64 0)).setCell ⟨w2.heap.size,2,none⟩ (.int .i64 0))=U:=⟨_,rfl⟩;have hbU3:Below Y1.heap.size Y1 U3:=(by rw [← hU3];exact ((hbU2.setCell (p:=⟨w2.heap.size,0,none⟩) hb2.size _).setCell (p:=⟨w2.heap.size,1,none⟩) hb2.size _).setCell (p:=⟨w2.heap.size,2,none⟩) hb2.size _);have hy3:U3.heap[w2.heap.size]? = some (.cells #[.int .i64 0,.int .i64 0,.int .i64 0] 124):=(by rw [← hU3];simp [World.setCell,Array.getElem?_modify,hz3]);have yc0:U3.cell? ⟨w2.heap.size,0,none⟩=some (.int .i64 0):=(by rw [Lib.cell_of_heap hy3];rfl);have yc1:U3.cell? ⟨w2.heap.size,1,none⟩=some (.int .i64 0):=(by rw [Lib.cell_of_heap hy3];rfl);have yc2:U3.cell? ⟨w2.heap.size,2,none⟩=some (.int .i64 0):=(by rw [Lib.cell_of_heap hy3];rfl);obtain ⟨kc,hwU3⟩:=HK0.out U3 hbU3) | (go_at_call 58;refine (HU.out U3 hwU3).mono ?_;rintro e w4 ⟨⟨⟨s0,s1,s2⟩,rfl,hans⟩,hb4⟩;unfold Cd.flawV;simp only;have HAN:Hid (Cd.Answer c (s0,s1,s2)):=hans;clear hans;have hlt3:w2.heap.size < U3.heap.size:=((Array.getElem?_eq_some_iff.1 hy3).1);have hy4:=(hb4.block w2.heap.size hlt3).trans hy3;have xc0:w4.cell? ⟨w2.heap.size,0,none⟩=some (.int .i64 0):=(by rw [Lib.cell_of_heap hy4];rfl);have xc1:w4.cell? ⟨w2.heap.size,1,none⟩=some (.int .i64 0):=(by rw [Lib.cell_of_heap hy4];rfl);have xc2:w4.cell? ⟨w2.heap.size,2,none⟩=some (.int .i64 0):=(by rw [Lib.cell_of_heap hy4];rfl);have xf0:w4.frozen? ⟨w2.heap.size,0,none⟩=false:=(by simp [World.frozen?,hy4]);have xf1:w4.frozen? ⟨w2.heap.size,1,none⟩=false:=(by simp [World.frozen?,hy4]);have xf2:w4.frozen? ⟨w2.heap.size,2,none⟩=false:=(by simp [World.frozen?,hy4])))
    obtain ⟨U5,hU5⟩:∃ U,(((w4.setCell ⟨w2.heap.size,0,none⟩ (.int .i64 s0)).setCell ⟨w2.heap.size,1,none⟩ (.int .i64 s1)).setCell ⟨w2.heap.size,2,none⟩ (.int .i64 s2))=U:=⟨_,rfl⟩
    have HB5:Hid (Below w.heap.size w U5):=by rw [Hid,← hU5];exact ((((hwU3.trans (hb4.mono hwU3.size)).setCell (p:=⟨w2.heap.size,0,none⟩) (Nat.le_trans hb1.size hb2.size) _).setCell (p:=⟨w2.heap.size,1,none⟩) (Nat.le_trans hb1.size hb2.size) _).setCell (p:=⟨w2.heap.size,2,none⟩) (Nat.le_trans hb1.size hb2.size) _)
    have hy5:U5.heap[w2.heap.size]? = some (.cells #[.int .i64 s0,.int .i64 s1,.int .i64 s2] 124):=by rw [← hU5];simp [World.setCell,Array.getElem?_modify,hy4]
    have v0:U5.cell? ⟨w2.heap.size,0,none⟩=some (.int .i64 s0):=by rw [Lib.cell_of_heap hy5];rfl
    have v1:U5.cell? ⟨w2.heap.size,1,none⟩=some (.int .i64 s1):=by rw [Lib.cell_of_heap hy5];rfl
    have v2:U5.cell? ⟨w2.heap.size,2,none⟩=some (.int .i64 s2):=by rw [Lib.cell_of_heap hy5];rfl
    rw [hU5]
    clear hU5 hy4 hy5 xc0 xc1 xc2 xf0 xf1 xf2
    go_quiet (fail)
    go_wp2_with fail
    exact bodyPost_ret (v:=Cd.trip (s0,s1,s2)) (by simp [results,Tryz.results40,go_sem,Cd.trip]) rfl ⟨⟨(s0,s1,s2),rfl,HAN.out⟩,Cd.belowD _ HB5.out⟩
  · have heq:=Cd.eq_flaw r0 r1 r2 0 0 0
    have hbq:(r0 == 0 && r1 == 0 && r2 == 0)=false:=by simp [hz]
    rw [hbq] at heq
    have HA:Hid (Cd.Answer c (r0,r1,r2)):=HAN.out hz
    clear HUF HAN HZE hbq hz
    go_enter Tryz.func40,Tryz.ntmps40
    go_wp2_with (first | (go_at_call 57;refine HFL.out.mono ?_;rintro e w2 ⟨rfl,hb2⟩;unfold Cd.flawV;simp only;obtain ⟨U2,hU2⟩:∃ U,w2.alloc (.cells #[.int .i64 0,.int .i64 0,.int .i64 0] 124)=U:=⟨_,rfl⟩;have hbU2:Below Y1.heap.size Y1 U2:=(by rw [← hU2];exact hb2.alloc hb2.size _);have hz3:U2.heap[w2.heap.size]? = some (.cells #[.int .i64 0,.int .i64 0,.int .i64 0] 124):=(by rw [← hU2];exact Cd.new_at _ _);have zc0:U2.cell? ⟨w2.heap.size,0,none⟩=some (.int .i64 0):=(by rw [Lib.cell_of_heap hz3];rfl);have zc1:U2.cell? ⟨w2.heap.size,1,none⟩=some (.int .i64 0):=(by rw [Lib.cell_of_heap hz3];rfl);have zc2:U2.cell? ⟨w2.heap.size,2,none⟩=some (.int .i64 0):=(by rw [Lib.cell_of_heap hz3];rfl);have zf0:U2.frozen? ⟨w2.heap.size,0,none⟩=false:=(by simp [World.frozen?,hz3]);have zf1:U2.frozen? ⟨w2.heap.size,1,none⟩=false:=(by simp [World.frozen?,hz3]);have zf2:U2.frozen? ⟨w2.heap.size,2,none⟩=false:=(by simp [World.frozen?,hz3]);obtain ⟨U3,hU3⟩:∃ U,(((U2.setCell ⟨w2.heap.size,0,none⟩ (.int .i64 r0)).setCell ⟨w2.heap.size,1,none⟩ (.int .i64 r1)).setCell ⟨w2.heap.size,2,none⟩ (.int .i64 r2))=U:=⟨_,rfl⟩;have hbU3:Below Y1.heap.size Y1 U3:=(by rw [← hU3];exact ((hbU2.setCell (p:=⟨w2.heap.size,0,none⟩) hb2.size _).setCell (p:=⟨w2.heap.size,1,none⟩) hb2.size _).setCell (p:=⟨w2.heap.size,2,none⟩) hb2.size _);have hy3:U3.heap[w2.heap.size]? = some (.cells #[.int .i64 r0,.int .i64 r1,.int .i64 r2] 124):=(by rw [← hU3];simp [World.setCell,Array.getElem?_modify,hz3]);have yc0:U3.cell? ⟨w2.heap.size,0,none⟩=some (.int .i64 r0):=(by rw [Lib.cell_of_heap hy3];rfl);have yc1:U3.cell? ⟨w2.heap.size,1,none⟩=some (.int .i64 r1):=(by rw [Lib.cell_of_heap hy3];rfl);have yc2:U3.cell? ⟨w2.heap.size,2,none⟩=some (.int .i64 r2):=(by rw [Lib.cell_of_heap hy3];rfl);obtain ⟨kc,hwU3⟩:=HK0.out U3 hbU3))
    go_quiet (fail)
    go_wp2_with fail
    exact bodyPost_ret (v:=Cd.trip (r0,r1,r2)) (by simp [results,Tryz.results40,go_sem,Cd.trip]) rfl ⟨⟨(r0,r1,r2),rfl,HA.out⟩,Cd.belowD _ hwU3⟩
end Go.Proofs.YtbkhedpabfanoaaGreatDoor
