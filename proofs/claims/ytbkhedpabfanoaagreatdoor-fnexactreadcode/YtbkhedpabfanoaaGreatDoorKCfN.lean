import Derived.Test.YtbkhedpabfanoaaGreatDoorKCeI
import Derived.Test.YtbkhedpabfanoaaGreatDoorKScanG
import Derived.Test.YtbkhedpabfanoaaGreatDoorKCdH
import Derived.Test.YtbkhedpabfanoaaGreatDoorKCfF
namespace Go.Proofs.YtbkhedpabfanoaaGreatDoor
open Go.RowKit

def Cd.flawV (r:Int × Int × Int):Value:=.agg #[.int .i64 r.1,.int .i64 r.2.1,.int .i64 r.2.2]
def Cd.FlawPost (r:Int × Int × Int) (w:World) (e:Ending) (w':World):Prop:=e = .returned (Cd.flawV r)∧Below w.heap.size w w'
theorem Cd.fnOk_apart {c:List Cd.Fn} (h:∀ j (hj:j < c.length),Cd.fnOk c j c[j]=true):Cd.apart c:=fun i j hi hj hij=>by
  have h1:=h j hj
  unfold Cd.fnOk at h1
  simp only [Bool.and_eq_true] at h1
  have h2:=h1.2
  rw [Bool.not_eq_true',List.any_eq_false] at h2
  have h3:=h2 c[i] (by rw [List.mem_take_iff_getElem];exact ⟨i,by omega,rfl⟩)
  simpa using h3
set_option maxRecDepth 100000 in
set_option maxHeartbeats 4000000 in
theorem Cd.flaw_any (B:Nat) (c:List Cd.Fn) (a:Option Addr) (cap:Nat) (hcl:c.length≤1048576) (hcap:c.length≤cap) (hpl:∀ k (hk:k < c.length),c[k].params.length≤1048576∧c[k].ins.length≤1048576∧c[k].name.size≤1048576) (hN:∀ k (hk:k < c.length) i (hi:i < c[k].ins.length),-9223372036854775808≤c[k].ins[i].n∧c[k].ins[i].n≤9223372036854775807) (w:World) (hB:B≤w.heap.size) (hC:Cd.CodeAt B w (.slice a c.length cap) c) :
    Calls Tryz.prog 57 #[.agg #[.slice a c.length cap]] w (Cd.FlawPost (Cd.plain c) w):=by
  have HC:Hid (∀ w',Below B w w'→Cd.CodeAt B w' (.slice a c.length cap) c):=fun w' h=>hC.below h
  clear hC
  have HNN:Hid (∀ k (hk:k < c.length) i (hi:i < c[k].ins.length),-9223372036854775808≤c[k].ins[i].n∧c[k].ins[i].n≤9223372036854775807):=hN
  clear hN
  obtain ⟨Y1,hY1⟩:∃ Y,w.alloc (.cells #[.slice a c.length cap] 24)=Y:=⟨_,rfl⟩
  have hb1:Below w.heap.size w Y1:=by rw [← hY1];exact Cd.b1 w _
  have hs1:Y1.heap.size=w.heap.size+1:=by rw [← hY1];exact World.size_alloc _ _
  have p1_0:Y1.heap[w.heap.size]? = some (.cells #[.slice a c.length cap] 24):=by rw [← hY1];exact Cd.new_at w _
  obtain ⟨Y2,hY2⟩:∃ Y,Y1.alloc (.cells #[.int .i64 0,.int .i64 0,.int .i64 0] 124)=Y:=⟨_,rfl⟩
  have hb2:Below w.heap.size w Y2:=by rw [← hY2];exact Cd.Below.new hb1 _
  have hs2:Y2.heap.size=w.heap.size+2:=by rw [← hY2,World.size_alloc];omega
  have p2_0:Y2.heap[w.heap.size]? = some (.cells #[.slice a c.length cap] 24):=by rw [← hY2];exact Cd.keepH _ p1_0
  have p2_1:Y2.heap[w.heap.size+1]? = some (.cells #[.int .i64 0,.int .i64 0,.int .i64 0] 124):=by rw [← hY2,← hs1];exact Cd.new_at _ _
  have HCF:Hid (∀ W,Below Y2.heap.size Y2 W→W.cell? ⟨w.heap.size,0,none⟩=some (.slice a c.length cap)∧(W.cell? ⟨w.heap.size+1,0,none⟩=some (.int .i64 0)∧W.cell? ⟨w.heap.size+1,1,none⟩=some (.int .i64 0)∧W.cell? ⟨w.heap.size+1,2,none⟩=some (.int .i64 0))∧(W.frozen? ⟨w.heap.size+1,0,none⟩=false∧W.frozen? ⟨w.heap.size+1,1,none⟩=false∧W.frozen? ⟨w.heap.size+1,2,none⟩=false)∧Below w.heap.size w W∧Y2.heap.size≤W.heap.size):=fun W hW=>by
    have r0:=(hW.block _ (by omega)).trans p2_0
    have r1:=(hW.block _ (by omega)).trans p2_1
    exact ⟨by rw [Lib.cell_of_heap r0];rfl,⟨by rw [Lib.cell_of_heap r1];rfl,by rw [Lib.cell_of_heap r1];rfl,by rw [Lib.cell_of_heap r1];rfl⟩,⟨by simp [World.frozen?,r1],by simp [World.frozen?,r1],by simp [World.frozen?,r1]⟩,hb2.trans (hW.mono hb2.size),hW.size⟩
  obtain ⟨m0,⟨m1,m2,m3⟩,⟨mf1,mf2,mf3⟩,-,-⟩:=HCF.out Y2 (Below.refl _ _)
  clear p1_0 p2_0 p2_1
  obtain ⟨r,HR⟩:∃ r,Hid (Cd.plain c=r):=⟨_,(rfl:Cd.plain c=_)⟩
  rw [HR.out]
  by_cases h0:c.length=0
  · have HF:Hid (Cd.flawV r = .agg #[.int .i64 1,.int .i64 0,.int .i64 0]):=by
      rw [Hid,← HR.out,Cd.plain,if_pos (.inl h0)];rfl
    have h0b:((c.length:Int) == 0)=true:=by simp [h0]
    clear h0 HR
    go_enter Tryz.func57,Tryz.ntmps57
    go_wp2_with fail
    exact bodyPost_ret (v:=.agg #[.int .i64 1,.int .i64 0,.int .i64 0]) (by simp [results,Tryz.results57,go_sem,m1,m2,m3]) rfl ⟨by rw [HF.out],Cd.Below.set (Cd.Below.set (Cd.Below.set hb2 1 0 _) 1 1 _) 1 2 _⟩
  · have h0b:((c.length:Int) == 0)=false:=by rw [beq_eq_false_iff_ne];omega
    by_cases h6:60 < c.length
    · have HF:Hid (Cd.flawV r = .agg #[.int .i64 1,.int .i64 0,.int .i64 0]):=by
        rw [Hid,← HR.out,Cd.plain,if_pos (.inr h6)];rfl
      have h6I:(60:Int) < (c.length:Int):=by omega
      clear h0 h6 HR
      go_enter Tryz.func57,Tryz.ntmps57
      go_wp2_with fail
      exact bodyPost_ret (v:=.agg #[.int .i64 1,.int .i64 0,.int .i64 0]) (by simp [results,Tryz.results57,go_sem,m1,m2,m3]) rfl ⟨by rw [HF.out],Cd.Below.set (Cd.Below.set (Cd.Below.set hb2 1 0 _) 1 1 _) 1 2 _⟩
    · have h6I:¬ (60:Int) < (c.length:Int):=by omega
      have HR2:Hid (r=match Cd.badFn c c 0 with
        | some k=>(2,(k:Int),0)
        | none=>match Cd.badCode c c 0 with
          | some p=>(3,(p.1:Int),(p.2:Int))
          | none=>if c.any Cd.isMain=true then (0,0,0) else (4,0,0)):=by
        rw [Hid,← HR.out,Cd.plain,if_neg (by omega)];rfl
      clear HR
      have HTK:Hid (Calls Tryz.prog 69 #[] Y2 fun e w'=>e = .returned (.map (some (w.heap.size+2)))∧Mill.TWords w' (w.heap.size+2)∧Below Y2.heap.size Y2 w'):=by
        have h:=takenWords_any Y2
        rw [hs2] at h ⊢
        exact h
      obtain ⟨g,rfl⟩:∃ g,a=some ⟨g,0,none⟩:=by
        obtain ⟨g,_,_,_,_,_,hv,_⟩:=(HC.out w (Below.refl _ _)).fn 0 (by omega)
        injection hv with e1
        exact ⟨g,e1⟩
      go_enter Tryz.func57,Tryz.ntmps57
      go_wp2_with (first | (go_at_call 69;refine HTK.out.mono ?_;rintro e w2 ⟨rfl,hM,hbw2⟩;obtain ⟨k0,⟨k1,k2,k3⟩,⟨kf1,kf2,kf3⟩,hbk,hsk⟩:=HCF.out w2 hbw2))
      have HM:Hid (∀ W,Below w2.heap.size w2 W→Mill.TWords W (w.heap.size+2)):=fun W hW=>Cd.TWords.below hM hW
      have HB2:Hid (∀ W,Below w2.heap.size w2 W→Below Y2.heap.size Y2 W):=fun W hW=>hbw2.trans (hW.mono hbw2.size)
      have HPL:Hid (∀ k (hk:k < c.length),c[k].params.length≤1048576∧c[k].ins.length≤1048576∧c[k].name.size≤1048576):=hpl
      clear hM hbw2 hpl k0 k1 k2 k3 kf1 kf2 kf3 hbk
      go_loopw [24] (fun t wr => ∃ i:Nat,i≤c.length∧t = .int .i64 (i:Int)∧Below w2.heap.size w2 wr∧Hid (∀ j (hj:j < c.length),j < i→Cd.fnOk c j c[j]=true)) (fun t _=>c.length - (intOf t).toNat)
      case atStart=>exact ⟨0,by omega,rfl,Below.refl _ _,fun j hj h=>by omega⟩
      case round =>
        obtain ⟨i,hi,rfl,he,HU⟩:=hrel
        obtain ⟨k0,⟨k1,k2,k3⟩,⟨kf1,kf2,kf3⟩,hbk,hsk⟩:=HCF.out wr (HB2.out wr he)
        by_cases hlt:i < c.length
        · have hltI:(i:Int) < (c.length:Int):=by omega
          have HCALL:Hid (Calls Tryz.prog 70 #[.agg #[.slice (some ⟨g,0,none⟩) c.length cap],.int .i64 (i:Int),.map (some (w.heap.size+2))] wr fun e w'=>e = .returned (.bool (Cd.fnOk c i c[i]))∧Below wr.heap.size wr w'):=Cd.rightFn_any c i hlt c[i] rfl _ cap _ hcl hcap (HPL.out i hlt).2.2 (HPL.out i hlt).1 (HPL.out i hlt).2.1 B wr (Nat.le_trans hB hbk.size) (HC.out wr (hbk.mono hB)) (HM.out wr he)
          cases hF:Cd.fnOk c i c[i] with
          | true =>
            have HU2:Hid (∀ j (hj:j < c.length),j < i+1→Cd.fnOk c j c[j]=true):=fun j hj h=>by
              by_cases e:j=i
              · subst e;exact hF
              · exact HU.out j hj (by omega)
            rw [hF] at HCALL
            clear hF
            go_wp2_with (first | (go_at_call 70;refine HCALL.out.mono ?_;rintro e w3 ⟨rfl,hb3⟩))
            go_roundw
            case rel=>exact ⟨i+1,by omega,by go_num,he.trans (hb3.mono he.size),HU2⟩
            case measure=>simp [intOf];omega
          | false =>
            have HF:Hid (Cd.flawV r = .agg #[.int .i64 2,.int .i64 (i:Int),.int .i64 0]):=by
              rw [Hid,HR2.out,Cd.badFn_some c c 0 i hlt (fun j hj h=>by rw [Nat.zero_add];exact HU.out j hj h) (by rw [Nat.zero_add];exact hF),Nat.zero_add];rfl
            rw [hF] at HCALL
            clear hF
            go_wp2_with (first | (go_at_call 70;refine HCALL.out.mono ?_;rintro e w3 ⟨rfl,hb3⟩;obtain ⟨j0,⟨j1,j2,j3⟩,⟨jf1,jf2,jf3⟩,hbj,hsj⟩:=HCF.out w3 (HB2.out w3 (he.trans (hb3.mono he.size)))))
            exact bodyPost_ret (v:=.agg #[.int .i64 2,.int .i64 (i:Int),.int .i64 0]) (by simp [results,Tryz.results57,go_sem,j1,j2,j3]) rfl ⟨by rw [HF.out],Cd.Below.set (Cd.Below.set (Cd.Below.set hbj 1 0 _) 1 1 _) 1 2 _⟩
        · have hltI:¬ (i:Int) < (c.length:Int):=by omega
          have HALL:Hid (∀ j (hj:j < c.length),Cd.fnOk c j c[j]=true):=fun j hj=>HU.out j hj (by omega)
          have HR3:Hid (r=match Cd.badCode c c 0 with
            | some p=>(3,(p.1:Int),(p.2:Int))
            | none=>if c.any Cd.isMain=true then (0,0,0) else (4,0,0)):=by
            rw [Hid,HR2.out,Cd.badFn_none c c 0 (fun j hj=>by rw [Nat.zero_add];exact HALL.out j hj)]
          clear HU HR2 HM
          go_wp2_with fail
          have HEV:Hid (Below w2.heap.size w2 wr):=he
          clear he k0 k1 k2 k3 kf1 kf2 kf3 hbk hsk
          generalize wr=V at *
          go_loopw [38] (fun t wr => ∃ k:Nat,k≤c.length∧t = .int .i64 (k:Int)∧Below w2.heap.size w2 wr∧Hid (∀ j (hj:j < c.length),j < k→Cd.badIns c c[j] c[j].ins 0=none)) (fun t _=>c.length - (intOf t).toNat)
          case atStart=>exact ⟨0,by omega,rfl,HEV.out,fun j hj h=>by omega⟩
          case round =>
            obtain ⟨k,hk,rfl,he,HU⟩:=hrel
            obtain ⟨k0,⟨k1,k2,k3⟩,⟨kf1,kf2,kf3⟩,hbk,hsk⟩:=HCF.out wr (HB2.out wr he)
            by_cases hlt:k < c.length
            · have hltk:(k:Int) < (c.length:Int):=by omega
              obtain ⟨f,HFf⟩:∃ f,Hid (c[k]'hlt=f):=⟨_,(rfl:c[k]'hlt=_)⟩
              obtain ⟨g',cap',pa,pc,ia,ic,hv,hg,c0,c1,c2,c3,c4,hP,hI⟩:=(HC.out wr (hbk.mono hB)).fn k hlt
              obtain rfl:g=g':=by injection hv with e1;injection e1 with e1;injection e1
              rw [HFf.out] at c0 c1 c2 c3 c4 hI
              have HI:Hid (Cd.InsAt B wr (.slice ia f.ins.length ic) f.ins):=hI
              have HBD:Hid (0≤f.slots∧f.slots≤200∧f.ins.length≤50000):=by
                have hbd:=Cd.fnOk_bd (HALL.out k hlt)
                rw [HFf.out] at hbd
                exact ⟨hbd.1,hbd.2.1,hbd.2.2.1⟩
              have HNF:Hid (∀ i (hi:i < f.ins.length),-9223372036854775808≤f.ins[i].n∧f.ins[i].n≤9223372036854775807):=by
                rw [Hid,← HFf.out];exact HNN.out k hlt
              have hfl:f.ins.length≤50000:=HBD.out.2.2
              obtain ⟨U,hU⟩:∃ U,wr.alloc (.cells #[.string f.name,.slice pa f.params.length pc,.int .i64 f.result,.int .i64 f.slots,.slice ia f.ins.length ic] 37)=U:=⟨_,rfl⟩
              have HUB:Hid (U.heap[wr.heap.size]? = some (.cells #[.string f.name,.slice pa f.params.length pc,.int .i64 f.result,.int .i64 f.slots,.slice ia f.ins.length ic] 37)):=by rw [Hid,← hU];exact Cd.new_at _ _
              have HUW:Hid (Below wr.heap.size wr U):=by rw [Hid,← hU];exact Cd.b1 _ _
              have HUS:Hid (U.heap.size=wr.heap.size+1):=by rw [Hid,← hU];exact World.size_alloc _ _
              have HEK:Hid (Below w2.heap.size w2 wr):=he
              have HBK:Hid (Below w.heap.size w wr):=hbk
              have hu4:U.cell? ⟨wr.heap.size,4,none⟩=some (.slice ia f.ins.length ic):=by rw [Lib.cell_of_heap HUB.out];rfl
              clear hI hP hv he hbk
              go_wp2_with fail
              generalize wr=O at *
              go_loopw [46] (fun t wr => ∃ q:Nat,q≤f.ins.length∧t = .int .i64 (q:Int)∧Below U.heap.size U wr∧Hid (∀ j (hj:j < f.ins.length),j < q→Cd.insOk c f f.ins[j]=true)) (fun t _=>f.ins.length - (intOf t).toNat)
              case atStart=>exact ⟨0,by omega,rfl,Below.refl _ _,fun j hj h=>by omega⟩
              case round =>
                obtain ⟨q,hq,rfl,heq,HUQ⟩:=hrel
                have HWQ:Hid (Below O.heap.size O wr):=HUW.out.trans (heq.mono (by rw [HUS.out];omega))
                by_cases hltq:q < f.ins.length
                · have hltqI:(q:Int) < (f.ins.length:Int):=by omega
                  obtain ⟨gi,rfl,hgi,i0,i1,i2,i3⟩:=Cd.InsAt.cells (HI.out.below (HWQ.out.mono (Nat.le_trans hB HBK.out.size))) q hltq
                  obtain ⟨x,HXf⟩:∃ x,Hid (f.ins[q]=x):=⟨_,(rfl:f.ins[q]=_)⟩
                  rw [HXf.out] at i0 i1 i2 i3
                  have HNX:=HNF.out q hltq
                  rw [HXf.out] at HNX
                  obtain ⟨op,ai,n,text⟩:=x
                  simp only at i0 i1 i2 i3 HNX
                  have HRI:Hid (∀ W,Calls Tryz.prog 71 #[.agg #[.slice (some ⟨g,0,none⟩) c.length cap],.agg #[.string f.name,.slice pa f.params.length pc,.int .i64 f.result,.int .i64 f.slots,.slice (some ⟨gi,0,none⟩) f.ins.length ic],.agg #[.int .i64 op,.int .i64 ai,.int .i64 n,.string text]] W fun e w'=>e = .returned (.bool (Cd.insOk c f ⟨op,ai,n,text⟩))∧Below W.heap.size W w'):=fun W=>Cd.right_any c f op ai n text HNX _ _ cap ic _ hcl (by omega) (by have:=HBD.out;omega) (by have:=HBD.out;omega) W
                  have HIO:Hid (Cd.insOk c f f.ins[q]=Cd.insOk c f ⟨op,ai,n,text⟩):=by rw [Hid,HXf.out]
                  obtain ⟨b,HBB⟩:∃ b,Hid (Cd.insOk c f ⟨op,ai,n,text⟩=b):=⟨_,(rfl:Cd.insOk c f ⟨op,ai,n,text⟩=_)⟩
                  rw [HBB.out] at HRI HIO
                  obtain ⟨Q,hQ⟩:∃ Q,wr.alloc (.cells #[.int .i64 op,.int .i64 ai,.int .i64 n,.string text] 54)=Q:=⟨_,rfl⟩
                  have HQB:Hid (Below wr.heap.size wr Q):=by rw [Hid,← hQ];exact Cd.b1 _ _
                  have hqb:Q.heap[wr.heap.size]? = some (.cells #[.int .i64 op,.int .i64 ai,.int .i64 n,.string text] 54):=by rw [← hQ];exact Cd.new_at _ _
                  have n0:Q.cell? ⟨wr.heap.size,0,none⟩=some (.int .i64 op):=by rw [Lib.cell_of_heap hqb];rfl
                  have n1:Q.cell? ⟨wr.heap.size,1,none⟩=some (.int .i64 ai):=by rw [Lib.cell_of_heap hqb];rfl
                  have n2:Q.cell? ⟨wr.heap.size,2,none⟩=some (.int .i64 n):=by rw [Lib.cell_of_heap hqb];rfl
                  have n3:Q.cell? ⟨wr.heap.size,3,none⟩=some (.string text):=by rw [Lib.cell_of_heap hqb];rfl
                  have HEQ:Hid (Below U.heap.size U wr):=heq
                  have HUQQ:Hid (Below U.heap.size U Q):=heq.trans (HQB.out.mono heq.size)
                  have hub:=(HUQQ.out.block O.heap.size (by rw [HUS.out];omega)).trans HUB.out
                  have b0:Q.cell? ⟨O.heap.size,0,none⟩=some (.string f.name):=by rw [Lib.cell_of_heap hub];rfl
                  have b1:Q.cell? ⟨O.heap.size,1,none⟩=some (.slice pa f.params.length pc):=by rw [Lib.cell_of_heap hub];rfl
                  have b2:Q.cell? ⟨O.heap.size,2,none⟩=some (.int .i64 f.result):=by rw [Lib.cell_of_heap hub];rfl
                  have b3:Q.cell? ⟨O.heap.size,3,none⟩=some (.int .i64 f.slots):=by rw [Lib.cell_of_heap hub];rfl
                  have b4:Q.cell? ⟨O.heap.size,4,none⟩=some (.slice (some ⟨gi,0,none⟩) f.ins.length ic):=by rw [Lib.cell_of_heap hub];rfl
                  have HW2Q:Hid (∀ W,Below Q.heap.size Q W→Below w2.heap.size w2 W):=fun W hW=>HEK.out.trans ((HWQ.out.trans ((HQB.out.trans (hW.mono HQB.out.size)).mono HWQ.out.size)).mono HEK.out.size)
                  obtain ⟨e0,-⟩:=HCF.out Q (HB2.out Q (HW2Q.out Q (Below.refl _ _)))
                  clear hqb hub heq
                  cases b with
                  | true =>
                    have HUQ2:Hid (∀ j (hj:j < f.ins.length),j < q+1→Cd.insOk c f f.ins[j]=true):=fun j hj h=>by
                      by_cases e:j=q
                      · subst e;exact HIO.out
                      · exact HUQ.out j hj (by omega)
                    go_wp2_with (first | (go_at_call 71;refine (HRI.out _).mono ?_;rintro e w5 ⟨rfl,hb5⟩))
                    go_roundw
                    case rel=>exact ⟨q+1,by omega,by go_num,HUQQ.out.trans (hb5.mono HUQQ.out.size),HUQ2⟩
                    case measure=>simp [intOf];omega
                  | false =>
                    have HF:Hid (Cd.flawV r = .agg #[.int .i64 3,.int .i64 (k:Int),.int .i64 (q:Int)]):=by
                      have h1:Cd.badIns c f f.ins 0=some q:=by
                        have:=Cd.badIns_some c f f.ins 0 q hltq (fun j hj h=>HUQ.out j hj h) HIO.out
                        rw [Nat.zero_add] at this;exact this
                      have h2:=Cd.badCode_some c c 0 k hlt q HU.out (by rw [HFf.out];exact h1)
                      rw [Nat.zero_add] at h2
                      rw [Hid,HR3.out,h2];rfl
                    go_wp2_with (first | (go_at_call 71;refine (HRI.out _).mono ?_;rintro e w5 ⟨rfl,hb5⟩;obtain ⟨j0,⟨j1,j2,j3⟩,⟨jf1,jf2,jf3⟩,hbj,hsj⟩:=HCF.out w5 (HB2.out w5 (HW2Q.out w5 hb5))))
                    exact bodyPost_ret (v:=.agg #[.int .i64 3,.int .i64 (k:Int),.int .i64 (q:Int)]) (by simp [results,Tryz.results57,go_sem,j1,j2,j3]) rfl ⟨by rw [HF.out],Cd.Below.set (Cd.Below.set (Cd.Below.set hbj 1 0 _) 1 1 _) 1 2 _⟩
                · have hltqI:¬ (q:Int) < (f.ins.length:Int):=by omega
                  have HNI:Hid (∀ j (hj:j < c.length),j < k+1→Cd.badIns c c[j] c[j].ins 0=none):=fun j hj h=>by
                    by_cases e:j=k
                    · subst e
                      rw [HFf.out]
                      exact Cd.badIns_none c f f.ins 0 (fun i hi=>HUQ.out i hi (by omega))
                    · exact HU.out j hj (by omega)
                  have HBE:Hid (Below w2.heap.size w2 wr):=HEK.out.trans (HWQ.out.mono HEK.out.size)
                  go_wp2_with fail
                  go_roundw
                  case rel=>exact ⟨k+1,by omega,by go_num,HBE.out,HNI⟩
                  case measure=>simp [intOf];omega
            · have hltk:¬ (k:Int) < (c.length:Int):=by omega
              have HNC:Hid (Cd.badCode c c 0=none):=Cd.badCode_none c c 0 (fun j hj=>HU.out j hj (by omega))
              have HR4:Hid (r=if c.any Cd.isMain=true then (0,0,0) else (4,0,0)):=by rw [Hid,HR3.out,HNC.out]
              have hHM:=Cd.hasMain_any c (some ⟨g,0,none⟩) cap hcl B wr (Nat.le_trans hB hbk.size) (HC.out wr (hbk.mono hB))
              rw [Cd.hasMain_eq c (Cd.fnOk_apart HALL.out)] at hHM
              obtain ⟨b,HBB⟩:∃ b,Hid (c.any Cd.isMain=b):=⟨_,(rfl:c.any Cd.isMain=_)⟩
              rw [HBB.out] at hHM HR4
              have HHM:Hid (Calls Tryz.prog 72 #[.agg #[.slice (some ⟨g,0,none⟩) c.length cap]] wr fun e w'=>e = .returned (.bool b)∧Below wr.heap.size wr w'):=hHM
              clear hHM HU
              cases b with
              | true =>
                have HF:Hid (Cd.flawV r = .agg #[.int .i64 0,.int .i64 0,.int .i64 0]):=by
                  rw [Hid,HR4.out];rfl
                go_wp2_with (first | (go_at_call 72;refine HHM.out.mono ?_;rintro e w5 ⟨rfl,hb5⟩;obtain ⟨j0,⟨j1,j2,j3⟩,⟨jf1,jf2,jf3⟩,hbj,hsj⟩:=HCF.out w5 (HB2.out w5 (he.trans (hb5.mono he.size)))))
                exact bodyPost_ret (v:=.agg #[.int .i64 0,.int .i64 0,.int .i64 0]) (by simp [results,Tryz.results57,go_sem,j1,j2,j3]) rfl ⟨by rw [HF.out],Cd.Below.set (Cd.Below.set (Cd.Below.set hbj 1 0 _) 1 1 _) 1 2 _⟩
              | false =>
                have HF:Hid (Cd.flawV r = .agg #[.int .i64 4,.int .i64 0,.int .i64 0]):=by
                  rw [Hid,HR4.out];rfl
                go_wp2_with (first | (go_at_call 72;refine HHM.out.mono ?_;rintro e w5 ⟨rfl,hb5⟩;obtain ⟨j0,⟨j1,j2,j3⟩,⟨jf1,jf2,jf3⟩,hbj,hsj⟩:=HCF.out w5 (HB2.out w5 (he.trans (hb5.mono he.size)))))
                exact bodyPost_ret (v:=.agg #[.int .i64 4,.int .i64 0,.int .i64 0]) (by simp [results,Tryz.results57,go_sem,j1,j2,j3]) rfl ⟨by rw [HF.out],Cd.Below.set (Cd.Below.set (Cd.Below.set hbj 1 0 _) 1 1 _) 1 2 _⟩
end Go.Proofs.YtbkhedpabfanoaaGreatDoor
