import Derived.Test.YtbkhedpabfanoaaGreatDoorKCdY
namespace Go.Proofs.YtbkhedpabfanoaaGreatDoor
open Go.RowKit

theorem Cd.badFn_all (c:List Cd.Fn):∀ (l:List Cd.Fn) (k:Nat),Cd.badFn c l k=none→∀ j (hj:j < l.length),Cd.fnOk c (k+j) l[j]=true
  | [],_,_,j,hj=>by simp at hj
  | f::r,k,h,j,hj=>by
    rw [Cd.badFn] at h
    by_cases hf:Cd.fnOk c k f=true
    · rw [if_pos hf] at h
      cases j with
      | zero=>exact hf
      | succ j =>
        have:=Cd.badFn_all c r (k+1) h j (by simpa using hj)
        have e:k+1+j=k+(j+1):=by omega
        rw [e] at this
        simpa using this
    · rw [if_neg hf] at h;simp at h
theorem Cd.badIns_all (c:List Cd.Fn) (f:Cd.Fn):∀ (l:List Cd.Ins) (k:Nat),Cd.badIns c f l k=none→∀ j (hj:j < l.length),Cd.insOk c f l[j]=true
  | [],_,_,j,hj=>by simp at hj
  | i::r,k,h,j,hj=>by
    rw [Cd.badIns] at h
    by_cases hf:Cd.insOk c f i=true
    · rw [if_pos hf] at h
      cases j with
      | zero=>exact hf
      | succ j=>simpa using Cd.badIns_all c f r (k+1) h j (by simpa using hj)
    · rw [if_neg hf] at h;simp at h
theorem Cd.badCode_all (c:List Cd.Fn):∀ (l:List Cd.Fn) (k:Nat),Cd.badCode c l k=none→∀ j (hj:j < l.length),Cd.badIns c l[j] l[j].ins 0=none
  | [],_,_,j,hj=>by simp at hj
  | f::r,k,h,j,hj=>by
    rw [Cd.badCode] at h
    cases hb:Cd.badIns c f f.ins 0 with
    | some i=>rw [hb] at h;simp at h
    | none =>
      rw [hb] at h
      cases j with
      | zero=>exact hb
      | succ j=>simpa using Cd.badCode_all c r (k+1) h j (by simpa using hj)
structure Cd.Sound (c:List Cd.Fn):Prop where
  len:c.length≤60
  fns:∀ k (hk:k < c.length),Cd.fnOk c k c[k]=true
  ins:∀ k (hk:k < c.length) i (hi:i < c[k].ins.length),Cd.insOk c c[k] c[k].ins[i]=true
theorem Cd.plain_sound {c:List Cd.Fn} (h:(Cd.plain c).1=0):Cd.Sound c:=by
  unfold Cd.plain at h
  by_cases h1:c.length=0∨60 < c.length
  · rw [if_pos h1] at h;simp at h
  · rw [if_neg h1] at h
    cases h2:Cd.badFn c c 0 with
    | some k=>rw [h2] at h;simp at h
    | none =>
      rw [h2] at h
      cases h3:Cd.badCode c c 0 with
      | some p=>rw [h3] at h;simp at h
      | none =>
        refine ⟨by omega,fun k hk => ?_,fun k hk i hi=>Cd.badIns_all c c[k] _ 0 (Cd.badCode_all c c 0 h3 k hk) i hi⟩
        have:=Cd.badFn_all c c 0 h2 k hk
        rw [Nat.zero_add] at this;exact this
theorem Cd.Sound.pl {c:List Cd.Fn} (h:Cd.Sound c):∀ g ∈ c,g.params.length≤8:=fun g hg=>by
  obtain ⟨k,hk,rfl⟩:=List.getElem_of_mem hg
  exact (Cd.fnOk_bd (h.fns k hk)).2.2.2.2.1
theorem Cd.Sound.shapes {c:List Cd.Fn} (h:Cd.Sound c) (k:Nat) (hk:k < c.length) (ca:Option Addr) (cc:Nat) (w:World) (hC:Cd.CodeAt w.heap.size w (.slice ca c.length cc) c):Calls Tryz.prog 48 #[.agg #[.slice ca c.length cc],.int .i64 (k:Int)] w (Cd.ShapesPost c c[k] w) :=
  Cd.shapes_any c k hk c[k] rfl ca cc h.len (h.fns k hk) h.pl (h.ins k hk) w hC
theorem Cd.Sound.least {c:List Cd.Fn} (h:Cd.Sound c) (ca:Option Addr) (cc:Nat) (w:World) (hC:Cd.CodeAt w.heap.size w (.slice ca c.length cc) c):∃ XS:List (List Cd.Sh),XS.length=c.length∧∀ k (hk:k < c.length) (hk':k < XS.length),Cd.Least c c[k] XS[k]:=by
  have h1:∀ k (hk:k < c.length),∃ X,Cd.Least c c[k] X:=fun k hk=>by
    obtain ⟨e,w',fr,⟨g,X,_,_,hl,_⟩,_⟩:=h.shapes k hk ca cc w hC []
    exact ⟨X,hl⟩
  refine ⟨(List.range c.length).map (fun k=>Classical.epsilon (fun X => ∃ hk:k < c.length,Cd.Least c c[k] X)),by simp,fun k hk hk' => ?_⟩
  obtain ⟨X,hX⟩:=h1 k hk
  have h2:=Classical.epsilon_spec (p:=fun X => ∃ hk:k < c.length,Cd.Least c c[k] X) ⟨X,hk,hX⟩
  obtain ⟨_,h3⟩:=h2
  simpa using h3
end Go.Proofs.YtbkhedpabfanoaaGreatDoor
namespace Go.Proofs.YtbkhedpabfanoaaGreatDoor
open Go.RowKit
theorem Cd.run_state (W:World) (st:Int) (a b:Value):Sem.run Tryz.prog (Instr.field 110 (.agg #[.int .i64 st,a,b]) 0) W = .ok (.int .i64 st) W:=by
  simp [Instr.field,run_underlying Tryz.underlying110,go_sem,asAgg]
end Go.Proofs.YtbkhedpabfanoaaGreatDoor
namespace Go.Proofs.YtbkhedpabfanoaaGreatDoor
open Go.RowKit

def Cd.CheckPost (c:List Cd.Fn) (w:World) (e:Ending) (w':World):Prop:=(∃ r,e = .returned (Cd.trip r)∧Cd.Answer c r)∧Below w.heap.size w w'
set_option maxRecDepth 100000 in
set_option maxHeartbeats 4000000 in
theorem Cd.specCheck_any (c:List Cd.Fn) (ca:Option Addr) (cc:Nat) (hcl:c.length≤1048576) (hpl:∀ k (hk:k < c.length),c[k].params.length≤1048576∧c[k].ins.length≤1048576) (w:World) (hC:Cd.CodeAt w.heap.size w (.slice ca c.length cc) c) :
    Calls Tryz.prog 34 #[.agg #[.slice ca c.length cc]] w (Cd.CheckPost c w):=by
  have HC:Hid (Cd.CodeAt w.heap.size w (.slice ca c.length cc) c):=hC
  clear hC
  obtain ⟨Y1,hY1⟩:∃ Y,w.alloc (.cells #[.slice ca c.length cc] 24)=Y:=⟨_,rfl⟩
  have hb1:Below w.heap.size w Y1:=by rw [← hY1];exact Cd.b1 w _
  have hs1:Y1.heap.size=w.heap.size+1:=by rw [← hY1];exact World.size_alloc _ _
  have p1_0:Y1.heap[w.heap.size]? = some (.cells #[.slice ca c.length cc] 24):=by rw [← hY1];exact Cd.new_at w _
  have c0_0:Y1.cell? ⟨w.heap.size,0,none⟩=some (.slice ca c.length cc):=by rw [Lib.cell_of_heap p1_0];rfl
  have HP1:Hid (Y1.heap[w.heap.size]? = some (.cells #[.slice ca c.length cc] 24)):=p1_0
  obtain ⟨⟨p1,p2,p3⟩,HPL⟩:∃ p,Hid (Cd.plain c=p):=⟨_,(rfl:Cd.plain c=_)⟩
  have HPC:Hid (Calls Tryz.prog 47 #[.agg #[.slice ca c.length cc]] Y1 fun e w'=>e = .returned (.tuple #[.int .i64 p1,.int .i64 p2,.int .i64 p3])∧Below Y1.heap.size Y1 w'):=by
    have h:=Cd.plain_any w.heap.size c (.slice ca c.length cc) hcl hpl Y1 (by omega) (HC.out.below hb1)
    rw [HPL.out] at h
    exact h
  clear p1_0
  have hfld:∀ (W:World) (st:Int) (a b:Value),Sem.run Tryz.prog (Instr.field 110 (.agg #[.int .i64 st,a,b]) 0) W = .ok (.int .i64 st) W:=Cd.run_state
  go_enter Tryz.func34,Tryz.ntmps34
  by_cases hp:p1=0
  · subst hp
    have HSO:Hid (Cd.Sound c):=Cd.plain_sound (by rw [HPL.out])
    obtain ⟨XS,HXL,HXS⟩:∃ XS:List (List Cd.Sh),Hid (XS.length=c.length)∧Hid (∀ k (hk:k < c.length) (hk':k < XS.length),Cd.Least c c[k] XS[k]):=HSO.out.least ca cc w HC.out
    have HANS:Hid (∀ r,((∃ k u,∃ (h:k < c.length) (h':k < XS.length),u < c[k].ins.length∧Cd.unfit c c[k] XS[k] u=true∧(∀ j,j < u→Cd.unfit c c[k] XS[k] j=false)∧(∀ q (hq:q < k) j,j < (c[q]'(by omega)).ins.length→Cd.unfit c (c[q]'(by omega)) (XS[q]'(by omega)) j=false)∧r=(5,(k:Int),(u:Int)))∨((∀ q (hq:q < c.length) (hq':q < XS.length) j,j < c[q].ins.length→Cd.unfit c c[q] XS[q] j=false)∧r=(0,0,0)))→Cd.Answer c r):=fun r hr=>by
      unfold Cd.Answer
      rw [if_neg (by rw [HPL.out];simp)]
      exact ⟨XS,HXL.out,HXS.out,hr⟩
    go_wp2_with (first | (go_at_call 47;refine HPC.out.mono ?_;rintro e w1 ⟨rfl,hb1'⟩))
    have HB1:Hid (Below w.heap.size w w1):=hb1.trans (hb1'.mono hb1.size)
    have HP2:Hid (w1.heap[w.heap.size]? = some (.cells #[.slice ca c.length cc] 24)):=(hb1'.block _ (by omega)).trans HP1.out
    clear hb1' HPC HP1 c0_0 hY1 hs1 hb1
    go_loopw [8] (fun t wr => ∃ q:Nat,q≤c.length∧t = .int .i64 (q:Int)∧Below w.heap.size w wr∧wr.heap[w.heap.size]? = some (.cells #[.slice ca c.length cc] 24)∧∀ z (hz:z < c.length) (hz':z < XS.length),z < q→∀ j,j < c[z].ins.length→Cd.unfit c c[z] XS[z] j=false) (fun t _=>c.length - (intOf t).toNat)
    case atStart=>exact ⟨0,by omega,rfl,HB1.out,HP2.out,fun z hz hz' h=>by omega⟩
    case round =>
      obtain ⟨q,hq,rfl,hbr,hpr,hall⟩:=hrel
      have HBR:Hid (Below w.heap.size w wr):=hbr
      have HPR:Hid (wr.heap[w.heap.size]? = some (.cells #[.slice ca c.length cc] 24)):=hpr
      have HALL:Hid (∀ z (hz:z < c.length) (hz':z < XS.length),z < q→∀ j,j < c[z].ins.length→Cd.unfit c c[z] XS[z] j=false):=hall
      have cr0:wr.cell? ⟨w.heap.size,0,none⟩=some (.slice ca c.length cc):=by rw [Lib.cell_of_heap hpr];rfl
      clear hbr hpr hall HB1 HP2
      by_cases hql:q < c.length
      · have hqlI:(q:Int) < (c.length:Int):=by omega
        have hqx:q < XS.length:=by rw [HXL.out];exact hql
        obtain ⟨gc,cap,pa,pc,ia,ic,ev,hgc,d0,d1,d2,d3,d4,hP,hI⟩:=HC.out.fn q hql
        injection ev with ev1 ev2 ev3
        subst ev1 ev3
        have HSH:=(show Hid _ from HSO.out.shapes q hql (some ⟨gc,0,none⟩) cc wr (Cd.CodeAt.mono (HC.out.below HBR.out) HBR.out.size))
        obtain ⟨f,hf⟩:∃ f,c[q]=f:=⟨_,rfl⟩
        have HINS:Hid (∀ i (hi:i < f.ins.length),Cd.insOk c f f.ins[i]=true):=by rw [Hid,← hf];exact HSO.out.ins q hql
        have HLST:Hid (Cd.Least c f XS[q]):=by rw [Hid,← hf];exact HXS.out q hql hqx
        obtain ⟨b1,b2,b3,b4,b5,b6,-,-,-⟩:=Cd.fnOk_bd (by rw [← hf];exact HSO.out.fns q hql:Cd.fnOk c q f=true)
        have hSC:Calls Tryz.prog 48 #[.agg #[.slice (some ⟨gc,0,none⟩) c.length cc],.int .i64 (q:Int)] wr (Cd.ShapesPost c f wr):=by rw [← hf];exact HSO.out.shapes q hql (some ⟨gc,0,none⟩) cc wr (Cd.CodeAt.mono (HC.out.below HBR.out) HBR.out.size)
        have HSC:Hid (Calls Tryz.prog 48 #[.agg #[.slice (some ⟨gc,0,none⟩) c.length cc],.int .i64 (q:Int)] wr (Cd.ShapesPost c f wr)):=hSC
        rw [hf] at d0 d1 d2 d3 d4 hP hI
        have HI:Hid (Cd.InsAt w.heap.size w (.slice ia f.ins.length ic) f.ins):=hI
        have HD:Hid (w.cell? ⟨gc,q * 5,none⟩=some (.string f.name)∧w.cell? ⟨gc,q * 5+1,none⟩=some (.slice pa f.params.length pc)∧w.cell? ⟨gc,q * 5+2,none⟩=some (.int .i64 f.result)∧w.cell? ⟨gc,q * 5+3,none⟩=some (.int .i64 f.slots)∧w.cell? ⟨gc,q * 5+4,none⟩=some (.slice ia f.ins.length ic)):=⟨d0,d1,d2,d3,d4⟩
        have HF:Hid (c[q]=f):=hf
        clear d0 d1 d2 d3 d4 hP hI hf hSC HSH ev2
        go_wp2_with (first | (go_at_call 48;refine HSC.out.mono ?_;rintro e w2 ⟨gs,X,rfl,hsh,hls,hstk,hb2⟩))
        have hX:X=XS[q]:=hls.one HLST.out
        have HSHS:Hid (Cd.ShsAt gs w2 X):=hsh
        have HLS:Hid (Cd.Least c f X):=hls
        have HSTK:Hid (∀ u,Cd.stk (Cd.at' X u)):=hstk
        have HXQ:Hid (X=XS[q]):=hX
        have HB2:Hid (Below w.heap.size w w2):=HBR.out.trans (hb2.mono HBR.out.size)
        have HP3:Hid (w2.heap[w.heap.size]? = some (.cells #[.slice (some ⟨gc,0,none⟩) c.length cc] 24)):=(hb2.block _ (Array.getElem?_eq_some_iff.1 HPR.out).1).trans HPR.out
        have HXN:Hid (X.length=f.ins.length):=hls.1.size
        clear hsh hls hstk hb2 hX cr0 HPR HBR HSC
        go_loopw [10] (fun t wr => ∃ u:Nat,u≤f.ins.length∧t = .int .i64 (u:Int)∧Below w2.heap.size w2 wr∧∀ j,j < u→Cd.unfit c f X j=false) (fun t _=>f.ins.length - (intOf t).toNat)
        case atStart=>exact ⟨0,by omega,rfl,Below.refl _ _,fun j h=>by omega⟩
        case round =>
          obtain ⟨u,hu,rfl,hbu,hun⟩:=hrel
          have HBU:Hid (Below w2.heap.size w2 wr):=hbu
          have HUN:Hid (∀ j,j < u→Cd.unfit c f X j=false):=hun
          clear hbu hun
          by_cases hul:u < f.ins.length
          · have hulI:(u:Int) < (f.ins.length:Int):=by omega
            obtain ⟨st,sa,sl,sc,ka,kl,kc,g0,g1,g2,HSV⟩:∃ st sa sl sc ka kl kc,wr.cell? ⟨gs,u * 3,none⟩=some (.int .i64 st)∧wr.cell? ⟨gs,u * 3+1,none⟩=some (.slice sa sl sc)∧wr.cell? ⟨gs,u * 3+2,none⟩=some (.slice ka kl kc)∧Hid (Cd.ShAt wr.heap.size wr (Cd.shV st (.slice sa sl sc) (.slice ka kl kc)) (Cd.at' X u)):=by
              have hl2:u < X.length:=by rw [HXN.out];exact hul
              have h:=(HSHS.out.below HBU.out).each u hl2
              rw [← Cd.at_get hl2] at h
              exact h
            have HKW:Hid (∀ W,Below wr.heap.size wr W→W.cell? ⟨w.heap.size,0,none⟩=some (.slice (some ⟨gc,0,none⟩) c.length cc)∧(W.cell? ⟨gc,q * 5,none⟩=some (.string f.name)∧W.cell? ⟨gc,q * 5+1,none⟩=some (.slice pa f.params.length pc)∧W.cell? ⟨gc,q * 5+2,none⟩=some (.int .i64 f.result)∧W.cell? ⟨gc,q * 5+3,none⟩=some (.int .i64 f.slots)∧W.cell? ⟨gc,q * 5+4,none⟩=some (.slice ia f.ins.length ic))∧W.cell? ⟨gs,u * 3,none⟩=some (.int .i64 st)∧W.cell? ⟨gs,u * 3+1,none⟩=some (.slice sa sl sc)∧W.cell? ⟨gs,u * 3+2,none⟩=some (.slice ka kl kc)):=fun W hW=>by
              have hW2:=(show Below w2.heap.size w2 W from HBU.out.trans (hW.mono HBU.out.size))
              have hW0:=(show Below w.heap.size w W from HB2.out.trans (hW2.mono HB2.out.size))
              have hl:gs < wr.heap.size:=(HSHS.out.below HBU.out).lt
              have hp:=(hW2.block _ (Array.getElem?_eq_some_iff.1 HP3.out).1).trans HP3.out
              obtain ⟨d0,d1,d2,d3,d4⟩:=HD.out
              exact ⟨by rw [Lib.cell_of_heap hp];rfl,⟨(hW0.cell (p:=⟨gc,q * 5,none⟩) hgc).trans d0,(hW0.cell (p:=⟨gc,q * 5+1,none⟩) hgc).trans d1,(hW0.cell (p:=⟨gc,q * 5+2,none⟩) hgc).trans d2,(hW0.cell (p:=⟨gc,q * 5+3,none⟩) hgc).trans d3,(hW0.cell (p:=⟨gc,q * 5+4,none⟩) hgc).trans d4⟩,(hW.cell (p:=⟨gs,u * 3,none⟩) hl).trans g0,(hW.cell (p:=⟨gs,u * 3+1,none⟩) hl).trans g1,(hW.cell (p:=⟨gs,u * 3+2,none⟩) hl).trans g2⟩
            obtain ⟨l0,⟨l1,l2,l3,l4,l5⟩,l6,l7,l8⟩:=HKW.out wr (Below.refl _ _)
            by_cases hst:st=0
            · subst hst
              have HU:Hid (∀ j,j < u+1→Cd.unfit c f X j=false):=fun j hj=>by
                by_cases e:j=u
                · subst e
                  unfold Cd.unfit
                  rw [HSV.out.state.1.1 rfl];rfl
                · exact HUN.out j (by omega)
              go_wp2_with fail
              go_quiet (fail)
              all_goals
                go_wp2_with fail
                go_roundw
                case rel=>exact ⟨u+1,by omega,by go_num,Cd.belowD _ HBU.out,HU.out⟩
                case measure=>simp [intOf];omega
            · have hstb:(st != 0)=true:=by simp [hst]
              have HNN:Hid (Cd.at' X u ≠ .none):=fun e=>hst (HSV.out.state.1.2 e)
              obtain ⟨b,HBE⟩:∃ b,Hid (Cd.behind c f u (Cd.at' X u)=b):=⟨_,(rfl:Cd.behind c f u (Cd.at' X u)=_)⟩
              have HBA:Hid (∀ W,Below wr.heap.size wr W→Calls Tryz.prog 49 #[.agg #[.slice (some ⟨gc,0,none⟩) c.length cc],.agg #[.string f.name,.slice pa f.params.length pc,.int .i64 f.result,.int .i64 f.slots,.slice ia f.ins.length ic],.int .i64 (u:Int),.agg #[.int .i64 st,.slice sa sl sc,.slice ka kl kc]] W fun e w'=>(∃ v,e = .returned v∧Cd.ShAt w'.heap.size w' v b)∧Below W.heap.size W w'):=fun W hW=>by
                have hW2:=(show Below w2.heap.size w2 W from HBU.out.trans (hW.mono HBU.out.size))
                have hsn:=(show Below w.heap.size w W from HB2.out.trans (hW2.mono HB2.out.size))
                have hb:=Cd.behind_any c f u hul (some ⟨gc,0,none⟩) ia cc ic (.slice pa f.params.length pc) (Cd.shV st (.slice sa sl sc) (.slice ka kl kc)) (Cd.at' X u) HSO.out.len (by omega) b1 b2 HSO.out.pl (HINS.out u hul) (by rw [← Cd.firstS_len f b6];exact HLS.out.1.lens u) (HSTK.out u) W (Cd.CodeAt.mono (HC.out.below hsn) hsn.size) (Cd.InsAt.mono (HI.out.below hsn) hsn.size) ((HSV.out.below hW).mono hW.size)
                rw [HBE.out] at hb
                exact hb
              clear hst
              by_cases hbc:b = .clash
              · subst hbc
                have HA:Hid (Cd.Answer c (5,(q:Int),(u:Int))):=by
                  refine HANS.out _ (.inl ⟨q,u,hql,hqx,by rw [HF.out];exact hul, ?_, ?_,fun z hz j hj=>HALL.out z (by omega) (by omega) hz j hj,rfl⟩)
                  · rw [HF.out,← HXQ.out]
                    unfold Cd.unfit
                    rw [HBE.out]
                    simp [HNN.out]
                  · rw [HF.out,← HXQ.out];exact HUN.out
                go_wp2_with fail
                go_region_held3 (fun W=>W.cell? ⟨w.heap.size,0,none⟩=some (.slice (some ⟨gc,0,none⟩) c.length cc)∧(W.cell? ⟨gc,q * 5,none⟩=some (.string f.name)∧W.cell? ⟨gc,q * 5+1,none⟩=some (.slice pa f.params.length pc)∧W.cell? ⟨gc,q * 5+2,none⟩=some (.int .i64 f.result)∧W.cell? ⟨gc,q * 5+3,none⟩=some (.int .i64 f.slots)∧W.cell? ⟨gc,q * 5+4,none⟩=some (.slice ia f.ins.length ic))∧W.cell? ⟨gs,u * 3,none⟩=some (.int .i64 st)∧W.cell? ⟨gs,u * 3+1,none⟩=some (.slice sa sl sc)∧W.cell? ⟨gs,u * 3+2,none⟩=some (.slice ka kl kc)) (first | exact HKW.out _ (Below.refl _ _) | exact HKW.out _ hb7' | exact HKW.out _ (by repeat (first | exact Below.refl _ _ | apply Below.drew | (refine Below.alloc ?_ (by simp) _)))) (first | (go_at_call 49;refine (HBA.out _ (by repeat (first | exact Below.refl _ _ | apply Below.drew | (refine Below.alloc ?_ (by simp) _)))).mono ?_;rintro e w7 ⟨⟨v,rfl,hv⟩,hb7⟩;have hv7:=(show v = .agg #[.int .i64 2,.slice none 0 0,.slice none 0 0] from hv);subst hv7;have hb7':=(show Below wr.heap.size wr w7 from Below.trans (by repeat (first | exact Below.refl _ _ | apply Below.drew | (refine Below.alloc ?_ (by simp) _))) (hb7.mono (by simp)))))
                all_goals
                  go_wp2_with fail
                  go_ret3
                  exact ⟨⟨(5,(q:Int),(u:Int)),rfl,HA.out⟩,(HB2.out.trans (HBU.out.mono HB2.out.size)).trans (hb7'.mono (Nat.le_trans HB2.out.size HBU.out.size))⟩
              · have HU:Hid (∀ j,j < u+1→Cd.unfit c f X j=false):=fun j hj=>by
                  by_cases e:j=u
                  · subst e
                    unfold Cd.unfit
                    rw [HBE.out]
                    simp [hbc]
                  · exact HUN.out j (by omega)
                go_wp2_with fail
                go_region_held3 (fun W=>W.cell? ⟨w.heap.size,0,none⟩=some (.slice (some ⟨gc,0,none⟩) c.length cc)∧(W.cell? ⟨gc,q * 5,none⟩=some (.string f.name)∧W.cell? ⟨gc,q * 5+1,none⟩=some (.slice pa f.params.length pc)∧W.cell? ⟨gc,q * 5+2,none⟩=some (.int .i64 f.result)∧W.cell? ⟨gc,q * 5+3,none⟩=some (.int .i64 f.slots)∧W.cell? ⟨gc,q * 5+4,none⟩=some (.slice ia f.ins.length ic))∧W.cell? ⟨gs,u * 3,none⟩=some (.int .i64 st)∧W.cell? ⟨gs,u * 3+1,none⟩=some (.slice sa sl sc)∧W.cell? ⟨gs,u * 3+2,none⟩=some (.slice ka kl kc)) (first | exact HKW.out _ (Below.refl _ _) | exact HKW.out _ hb7' | exact HKW.out _ (by repeat (first | exact Below.refl _ _ | apply Below.drew | (refine Below.alloc ?_ (by simp) _)))) (first | (go_at_call 49;refine (HBA.out _ (by repeat (first | exact Below.refl _ _ | apply Below.drew | (refine Below.alloc ?_ (by simp) _)))).mono ?_;rintro e w7 ⟨⟨v,rfl,hv⟩,hb7⟩;obtain ⟨st',xa,xn,xc,ya,yn,yc,hv7⟩:=hv.form;subst hv7;have hs2:=(show (st' == 2)=false from (by have:=(show Cd.ShAt _ _ (Cd.shV st' (.slice xa xn xc) (.slice ya yn yc)) _ from hv).state.2;simp;exact fun e=>hbc (this.1 e)));have hb7':=(show Below wr.heap.size wr w7 from Below.trans (by repeat (first | exact Below.refl _ _ | apply Below.drew | (refine Below.alloc ?_ (by simp) _))) (hb7.mono (by simp)))))
                all_goals
                  go_wp2_with fail
                  go_roundw
                  case rel=>exact ⟨u+1,by omega,by go_num,(HBU.out.trans (hb7'.mono HBU.out.size)),HU.out⟩
                  case measure=>simp [intOf];omega
          · have hulI:¬ (u:Int) < (f.ins.length:Int):=by omega
            have hue:u=f.ins.length:=by omega
            have HEND:Hid (∀ z (hz:z < c.length) (hz':z < XS.length),z < q+1→∀ j,j < c[z].ins.length→Cd.unfit c c[z] XS[z] j=false):=fun z hz hz' h j hj=>by
              by_cases e:z=q
              · subst e
                rw [HF.out,← HXQ.out]
                rw [HF.out] at hj
                exact HUN.out j (by omega)
              · exact HALL.out z hz hz' (by omega) j hj
            have HBW:=(show Below w.heap.size w wr from HB2.out.trans (HBU.out.mono HB2.out.size))
            have hpw:=(HBU.out.block _ (Array.getElem?_eq_some_iff.1 HP3.out).1).trans HP3.out
            clear hue
            go_wp2_with fail
            go_roundw
            case rel=>exact ⟨q+1,by omega,by go_num,HBW,hpw,HEND.out⟩
            case measure=>simp [intOf];omega
      · have hqlI:¬ (q:Int) < (c.length:Int):=by omega
        have HA:Hid (Cd.Answer c (0,0,0)):=HANS.out _ (.inr ⟨fun z hz hz' j hj=>HALL.out z hz hz' (by omega) j hj,rfl⟩)
        go_wp2_with fail
        go_ret3
        exact ⟨⟨(0,0,0),rfl,HA.out⟩,HBR.out⟩
  · have hpb:(p1 != 0)=true:=by simp [hp]
    have HA:Hid (Cd.Answer c (p1,p2,p3)):=by
      rw [Hid];unfold Cd.Answer
      rw [HPL.out,if_pos hp]
    clear hp
    go_wp2_with (first | (go_at_call 47;refine HPC.out.mono ?_;rintro e w1 ⟨rfl,hb1'⟩))
    go_ret3
    exact ⟨⟨(p1,p2,p3),rfl,HA.out⟩,hb1.trans (hb1'.mono hb1.size)⟩
end Go.Proofs.YtbkhedpabfanoaaGreatDoor
