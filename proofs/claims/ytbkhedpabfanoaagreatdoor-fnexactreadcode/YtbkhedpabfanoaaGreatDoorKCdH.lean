import Derived.Test.YtbkhedpabfanoaaGreatDoorKCdA
import Derived.Test.YtbkhedpabfanoaaGreatDoorKCdE
import Derived.Deep.RegionHeld3
namespace Go.Proofs.YtbkhedpabfanoaaGreatDoor
open Go.RowKit

theorem Cd.badFn_none (c:List Cd.Fn):∀ (l:List Cd.Fn) (k:Nat),(∀ j (hj:j < l.length),Cd.fnOk c (k+j) l[j]=true)→Cd.badFn c l k=none
  | [],_,_=>rfl
  | f::r,k,h=>by
    have h0:=h 0 (by simp)
    simp only [Nat.add_zero,List.getElem_cons_zero] at h0
    rw [Cd.badFn,if_pos h0]
    refine Cd.badFn_none c r (k+1) (fun j hj => ?_)
    have h1:=h (j+1) (by simpa using hj)
    simp only [List.getElem_cons_succ] at h1
    rw [show k+1+j=k+(j+1) by omega];exact h1
theorem Cd.badFn_some (c:List Cd.Fn):∀ (l:List Cd.Fn) (k j:Nat) (hj:j < l.length),(∀ i (hi:i < l.length),i < j→Cd.fnOk c (k+i) l[i]=true)→Cd.fnOk c (k+j) l[j]=false→Cd.badFn c l k=some (k+j)
  | [],_,_,hj,_,_=>by simp at hj
  | f::r,k,0,_,_,h=>by
    simp only [Nat.add_zero,List.getElem_cons_zero] at h
    rw [Cd.badFn,if_neg (by simp [h])];rfl
  | f::r,k,j+1,hj,h,h2=>by
    have h0:=h 0 (by simp) (by omega)
    simp only [Nat.add_zero,List.getElem_cons_zero] at h0
    rw [Cd.badFn,if_pos h0]
    have:=Cd.badFn_some c r (k+1) j (by simpa using hj) (fun i hi hij=>by
      have h1:=h (i+1) (by simpa using hi) (by omega)
      simp only [List.getElem_cons_succ] at h1
      rw [show k+1+i=k+(i+1) by omega];exact h1) (by
      simp only [List.getElem_cons_succ] at h2
      rw [show k+1+j=k+(j+1) by omega];exact h2)
    rw [this];congr 1;omega
theorem Cd.badIns_none (c:List Cd.Fn) (f:Cd.Fn):∀ (l:List Cd.Ins) (k:Nat),(∀ j (hj:j < l.length),Cd.insOk c f l[j]=true)→Cd.badIns c f l k=none
  | [],_,_=>rfl
  | i::r,k,h=>by
    have h0:=h 0 (by simp)
    simp only [List.getElem_cons_zero] at h0
    rw [Cd.badIns,if_pos h0]
    refine Cd.badIns_none c f r (k+1) (fun j hj => ?_)
    have h1:=h (j+1) (by simpa using hj)
    simpa using h1
theorem Cd.badIns_some (c:List Cd.Fn) (f:Cd.Fn):∀ (l:List Cd.Ins) (k j:Nat) (hj:j < l.length),(∀ i (hi:i < l.length),i < j→Cd.insOk c f l[i]=true)→Cd.insOk c f l[j]=false→Cd.badIns c f l k=some (k+j)
  | [],_,_,hj,_,_=>by simp at hj
  | i::r,k,0,_,_,h=>by
    simp only [List.getElem_cons_zero] at h
    rw [Cd.badIns,if_neg (by simp [h])];rfl
  | i::r,k,j+1,hj,h,h2=>by
    have h0:=h 0 (by simp) (by omega)
    simp only [List.getElem_cons_zero] at h0
    rw [Cd.badIns,if_pos h0]
    have:=Cd.badIns_some c f r (k+1) j (by simpa using hj) (fun i hi hij=>by
      have h1:=h (i+1) (by simpa using hi) (by omega)
      simpa using h1) (by simpa using h2)
    rw [this];congr 1;omega
theorem Cd.badCode_none (c:List Cd.Fn):∀ (l:List Cd.Fn) (k:Nat),(∀ j (hj:j < l.length),Cd.badIns c l[j] l[j].ins 0=none)→Cd.badCode c l k=none
  | [],_,_=>rfl
  | f::r,k,h=>by
    have h0:=h 0 (by simp)
    simp only [List.getElem_cons_zero] at h0
    rw [Cd.badCode,h0]
    refine Cd.badCode_none c r (k+1) (fun j hj => ?_)
    have h1:=h (j+1) (by simpa using hj)
    simpa using h1
theorem Cd.badCode_some (c:List Cd.Fn):∀ (l:List Cd.Fn) (k j:Nat) (hj:j < l.length) (u:Nat),(∀ i (hi:i < l.length),i < j→Cd.badIns c l[i] l[i].ins 0=none)→Cd.badIns c l[j] l[j].ins 0=some u→Cd.badCode c l k=some (k+j,u)
  | [],_,_,hj,_,_,_=>by simp at hj
  | i::r,k,0,_,u,_,h=>by
    simp only [List.getElem_cons_zero] at h
    rw [Cd.badCode,h];rfl
  | i::r,k,j+1,hj,u,h,h2=>by
    have h0:=h 0 (by simp) (by omega)
    simp only [List.getElem_cons_zero] at h0
    rw [Cd.badCode,h0]
    have:=Cd.badCode_some c r (k+1) j (by simpa using hj) u (fun i hi hij=>by
      have h1:=h (i+1) (by simpa using hi) (by omega)
      simpa using h1) (by simpa using h2)
    simp only [this];congr 2;omega
theorem Cd.inR_of {n low high:Int} (h:Cd.inR n low high=true):low≤n∧n≤high:=by unfold Cd.inR at h;simpa using h
theorem Cd.fnOk_bd {c:List Cd.Fn} {k:Nat} {f:Cd.Fn} (h:Cd.fnOk c k f=true):0≤f.slots∧f.slots≤200∧f.ins.length≤50000∧1≤f.ins.length∧f.params.length≤8∧(f.params.length:Int)≤f.slots∧0≤f.result∧f.result≤10∧∀ t ∈ f.params,1≤t∧t≤10:=by
  unfold Cd.fnOk at h
  simp only [Bool.and_eq_true] at h
  obtain ⟨⟨⟨⟨⟨⟨_,h2⟩,h3⟩,h4⟩,h5⟩,h6⟩,_⟩:=h
  have h2':f.params.length≤8:=by simpa using h2
  have h3':=Cd.inR_of h3
  have h4':=Cd.inR_of h4
  have h5':=Cd.inR_of h5
  refine ⟨by omega,by omega,by omega,by omega,h2',by omega,by omega,by omega,fun t ht => ?_⟩
  rw [List.all_eq_true] at h6
  exact Cd.inR_of (h6 t ht)
def Cd.trip (p:Int × Int × Int):Value:=.tuple #[.int .i64 p.1,.int .i64 p.2.1,.int .i64 p.2.2]
set_option maxRecDepth 100000 in
set_option maxHeartbeats 1000000 in
theorem Cd.plain_any (B:Nat) (c:List Cd.Fn) (cv:Value) (hcl:c.length≤1048576) (hpl:∀ k (hk:k < c.length),c[k].params.length≤1048576∧c[k].ins.length≤1048576) (w:World) (hB:B≤w.heap.size) (hC:Cd.CodeAt B w cv c) :
    Calls Tryz.prog 47 #[.agg #[cv]] w fun e w'=>e = .returned (Cd.trip (Cd.plain c))∧Below w.heap.size w w':=by
  have HC:Hid (∀ w',Below B w w'→Cd.CodeAt B w' cv c):=fun w' h=>hC.below h
  obtain ⟨a,cap,rfl,hc0⟩:=hC
  clear hc0
  obtain ⟨Z,hZ⟩:∃ Z,w.alloc (.cells #[.slice a c.length cap] 24)=Z:=⟨_,rfl⟩
  have hbZ:Below w.heap.size w Z:=by rw [← hZ];exact (Below.refl _ w).alloc (Nat.le_refl _) _
  have hZs:Z.heap.size=w.heap.size+1:=by rw [← hZ];exact World.size_alloc _ _
  have zc:Z.cell? ⟨w.heap.size,0,none⟩=some (.slice a c.length cap):=by rw [← hZ];exact Cd.new_cell w _ _ 0 _ rfl
  obtain ⟨r,HR⟩:∃ r,Hid (Cd.plain c=r):=⟨_,(rfl:Cd.plain c=_)⟩
  rw [HR.out]
  cases h1:Cd.inR (c.length:Int) 1 60 with
  | false =>
    have HF:Hid ((1,0,0)=r):=by
      rw [Hid,← HR.out,Cd.plain,if_pos]
      unfold Cd.inR at h1
      simp at h1
      omega
    clear HR
    go_enter Tryz.func47,Tryz.ntmps47
    go_wp2_with fail
    go_at_call 46;refine (Cd.in_any _ _ _ _).mono ?_;rintro e w' ⟨rfl,rfl⟩;rw [h1]
    go_wp2_with fail
    go_ret3
    exact ⟨by rw [← HF.out];rfl,hbZ⟩
  | true =>
    have hl:=Cd.inR_of h1
    have HR2:Hid (r=match Cd.badFn c c 0 with
      | some k=>(2,(k:Int),0)
      | none=>match Cd.badCode c c 0 with
        | some p=>(3,(p.1:Int),(p.2:Int))
        | none=>if c.any Cd.isMain=true then (0,0,0) else (4,0,0)):=by
      rw [Hid,← HR.out,Cd.plain,if_neg (by omega)];rfl
    clear HR
    obtain ⟨g,rfl⟩:∃ g,a=some ⟨g,0,none⟩:=by
      obtain ⟨g,_,_,_,_,_,hv,_⟩:=(HC.out w (Below.refl _ _)).fn 0 (by omega)
      injection hv with e1
      exact ⟨g,e1⟩
    go_enter Tryz.func47,Tryz.ntmps47
    go_wp2_with fail
    go_at_call 46;refine (Cd.in_any _ _ _ _).mono ?_;rintro e w' ⟨rfl,rfl⟩;rw [h1]
    go_wp2_with fail
    go_loopw [5] (fun t w2 => ∃ i:Nat,i≤c.length∧t = .int .i64 (i:Int)∧Below Z.heap.size Z w2∧∀ j (hj:j < c.length),j < i→Cd.fnOk c j c[j]=true) (fun t _=>c.length - (intOf t).toNat)
    case atStart=>exact ⟨0,by omega,rfl,Below.refl _ _,fun j hj h=>by omega⟩
    case round =>
      obtain ⟨i,hi,rfl,he,hu⟩:=hrel
      have hbW:Below w.heap.size w wr:=hbZ.trans (he.mono hbZ.size)
      have bc:wr.cell? ⟨w.heap.size,0,none⟩=some (.slice (some ⟨g,0,none⟩) c.length cap):=(he.cell (p:=⟨w.heap.size,0,none⟩) (by show w.heap.size < _;omega)).trans zc
      have hws:=hbW.size
      by_cases hlt:i < c.length
      · have HCALL:=Cd.fnOk_any B c _ i hlt hcl (hpl i hlt).1 (hpl i hlt).2 wr (by omega) (HC.out wr (hbW.mono hB))
        cases hF:Cd.fnOk c i c[i] with
        | true =>
          have HU:Hid (∀ j (hj:j < c.length),j < i+1→Cd.fnOk c j c[j]=true):=fun j hj h=>by
            by_cases e:j=i
            · subst e;exact hF
            · exact hu j hj (by omega)
          rw [hF] at HCALL
          clear hu hF
          go_wp2_with fail
          go_at_call 60;refine HCALL.mono ?_;rintro e w3 ⟨rfl,hb3⟩
          go_wp2_with fail
          go_roundw
          case rel=>exact ⟨i+1,by omega,by go_num,he.trans (hb3.mono he.size),HU.out⟩
          case measure=>simp [intOf];omega
        | false =>
          have HF:Hid ((2,(i:Int),0)=r):=by
            rw [Hid,HR2.out,Cd.badFn_some c c 0 i hlt (fun j hj h=>by rw [Nat.zero_add];exact hu j hj h) (by rw [Nat.zero_add];exact hF),Nat.zero_add]
          rw [hF] at HCALL
          clear hu hF
          go_wp2_with fail
          go_at_call 60;refine HCALL.mono ?_;rintro e w3 ⟨rfl,hb3⟩
          go_wp2_with fail
          go_ret3
          exact ⟨by rw [← HF.out];rfl,hbW.trans (hb3.mono hbW.size)⟩
      · have HALL:Hid (∀ j (hj:j < c.length),Cd.fnOk c j c[j]=true):=fun j hj=>hu j hj (by omega)
        have HR3:Hid (r=match Cd.badCode c c 0 with
          | some p=>(3,(p.1:Int),(p.2:Int))
          | none=>if c.any Cd.isMain=true then (0,0,0) else (4,0,0)):=by
          rw [Hid,HR2.out,Cd.badFn_none c c 0 (fun j hj=>by rw [Nat.zero_add];exact HALL.out j hj)]
        clear hu HR2
        generalize wr=V at *
        go_wp2_with fail
        go_loopw [6] (fun t w2 => ∃ i:Nat,i≤c.length∧t = .int .i64 (i:Int)∧Below V.heap.size V w2∧∀ j (hj:j < c.length),j < i→Cd.badIns c c[j] c[j].ins 0=none) (fun t _=>c.length - (intOf t).toNat)
        case atStart=>exact ⟨0,by omega,rfl,Below.refl _ _,fun j hj h=>by omega⟩
        case round =>
          obtain ⟨k,hk,rfl,hek,huk⟩:=hrel
          have hbk:Below w.heap.size w wr:=hbW.trans (hek.mono hbW.size)
          have hsV:Z.heap.size≤V.heap.size:=he.size
          have bk:wr.cell? ⟨w.heap.size,0,none⟩=some (.slice (some ⟨g,0,none⟩) c.length cap):=(hek.cell (p:=⟨w.heap.size,0,none⟩) (by show w.heap.size < _;omega)).trans bc
          by_cases hltk:k < c.length
          · generalize wr=U at *
            obtain ⟨f,HFf⟩:∃ f,Hid (c[k]'hltk=f):=⟨_,(rfl:c[k]'hltk=_)⟩
            have hbd:=Cd.fnOk_bd (HALL.out k hltk)
            rw [HFf.out] at hbd
            go_wp2_with fail
            go_loopw [7] (fun t w2 => ∃ i:Nat,i≤f.ins.length∧t = .int .i64 (i:Int)∧Below U.heap.size U w2∧∀ j (hj:j < f.ins.length),j < i→Cd.insOk c f f.ins[j]=true) (fun t _=>f.ins.length - (intOf t).toNat)
            case atStart=>exact ⟨0,by omega,rfl,Below.refl _ _,fun j hj h=>by omega⟩
            case round =>
              obtain ⟨q,hq,rfl,heq,huq⟩:=hrel
              have hbq:Below w.heap.size w wr:=hbk.trans (heq.mono hbk.size)
              have hsU:V.heap.size≤U.heap.size:=hek.size
              have bq:wr.cell? ⟨w.heap.size,0,none⟩=some (.slice (some ⟨g,0,none⟩) c.length cap):=(heq.cell (p:=⟨w.heap.size,0,none⟩) (by show w.heap.size < _;omega)).trans bk
              obtain ⟨g',cap',pa,pc,ia,ic,hv,hg,c0,c1,c2,c3,c4,hP,hI⟩:=(HC.out wr (hbq.mono hB)).fn k hltk
              obtain rfl:g=g':=by injection hv with e1;injection e1 with e1;injection e1
              rw [HFf.out] at c0 c1 c2 c3 c4 hI
              by_cases hltq:q < f.ins.length
              · obtain ⟨gi,hia,hgi,hcell⟩:∃ gi,ia=some ⟨gi,0,none⟩∧gi < B∧∀ j,j < 4→wr.cell? ⟨gi,q * 4+j,none⟩=(Cd.insC f.ins[q])[j]?:=by
                  obtain ⟨a',cp,hv2,hc⟩:=hI
                  injection hv2 with e1
                  subst e1
                  exact hc q hltq
                subst hia
                have i0:=hcell 0 (by omega);have i1:=hcell 1 (by omega);have i2:=hcell 2 (by omega);have i3:=hcell 3 (by omega)
                simp only [Cd.insC,Nat.add_zero,List.getElem?_cons_zero,List.getElem?_cons_succ] at i0 i1 i2 i3
                clear hcell hI hP hv
                have HCALL:Hid (∀ w9,Calls Tryz.prog 61 #[.agg #[.slice (some ⟨g,0,none⟩) c.length cap],Cd.fnV f (.slice pa f.params.length pc) (.slice (some ⟨gi,0,none⟩) f.ins.length ic),Cd.insV f.ins[q]] w9 fun e w'=>e = .returned (.bool (Cd.insOk c f f.ins[q]))∧Below w9.heap.size w9 w'):=fun w9=>Cd.insOk_any c f f.ins[q] _ _ cap ic _ hbd.1 hbd.2.1 (by omega) (by omega) hbd.2.2.1 w9
                unfold Cd.fnV Cd.insV at HCALL
                cases hF:Cd.insOk c f f.ins[q] with
                | true =>
                  have HU:Hid (∀ j (hj:j < f.ins.length),j < q+1→Cd.insOk c f f.ins[j]=true):=fun j hj h=>by
                    by_cases e:j=q
                    · subst e;exact hF
                    · exact huq j hj (by omega)
                  rw [hF] at HCALL
                  generalize f.ins[q]=x at *
                  clear huq hF
                  have P0:(fun w'=>w'.cell? ⟨w.heap.size,0,none⟩=some (.slice (some ⟨g,0,none⟩) c.length cap)∧w'.cell? ⟨g,k * 5,none⟩=some (.string f.name)∧w'.cell? ⟨g,k * 5+1,none⟩=some (.slice pa f.params.length pc)∧w'.cell? ⟨g,k * 5+2,none⟩=some (.int .i64 f.result)∧w'.cell? ⟨g,k * 5+3,none⟩=some (.int .i64 f.slots)∧w'.cell? ⟨g,k * 5+4,none⟩=some (.slice (some ⟨gi,0,none⟩) f.ins.length ic)∧w'.cell? ⟨gi,q * 4,none⟩=some (.int .i64 x.op)∧w'.cell? ⟨gi,q * 4+1,none⟩=some (.int .i64 x.a)∧w'.cell? ⟨gi,q * 4+2,none⟩=some (.int .i64 x.n)∧w'.cell? ⟨gi,q * 4+3,none⟩=some (.string x.text)) wr:=⟨bq,c0,c1,c2,c3,c4,i0,i1,i2,i3⟩
                  have P1:(fun w'=>w'.cell? ⟨w.heap.size,0,none⟩=some (.slice (some ⟨g,0,none⟩) c.length cap)∧w'.cell? ⟨g,k * 5,none⟩=some (.string f.name)∧w'.cell? ⟨g,k * 5+1,none⟩=some (.slice pa f.params.length pc)∧w'.cell? ⟨g,k * 5+2,none⟩=some (.int .i64 f.result)∧w'.cell? ⟨g,k * 5+3,none⟩=some (.int .i64 f.slots)∧w'.cell? ⟨g,k * 5+4,none⟩=some (.slice (some ⟨gi,0,none⟩) f.ins.length ic)∧w'.cell? ⟨gi,q * 4,none⟩=some (.int .i64 x.op)∧w'.cell? ⟨gi,q * 4+1,none⟩=some (.int .i64 x.a)∧w'.cell? ⟨gi,q * 4+2,none⟩=some (.int .i64 x.n)∧w'.cell? ⟨gi,q * 4+3,none⟩=some (.string x.text)) wr.drew:=P0
                  have HSZ:Hid (wr.drew.heap.size=wr.heap.size):=rfl
                  have HP3:Hid (∀ w',Below wr.heap.size wr w'→(fun w'=>w'.cell? ⟨w.heap.size,0,none⟩=some (.slice (some ⟨g,0,none⟩) c.length cap)∧w'.cell? ⟨g,k * 5,none⟩=some (.string f.name)∧w'.cell? ⟨g,k * 5+1,none⟩=some (.slice pa f.params.length pc)∧w'.cell? ⟨g,k * 5+2,none⟩=some (.int .i64 f.result)∧w'.cell? ⟨g,k * 5+3,none⟩=some (.int .i64 f.slots)∧w'.cell? ⟨g,k * 5+4,none⟩=some (.slice (some ⟨gi,0,none⟩) f.ins.length ic)∧w'.cell? ⟨gi,q * 4,none⟩=some (.int .i64 x.op)∧w'.cell? ⟨gi,q * 4+1,none⟩=some (.int .i64 x.a)∧w'.cell? ⟨gi,q * 4+2,none⟩=some (.int .i64 x.n)∧w'.cell? ⟨gi,q * 4+3,none⟩=some (.string x.text)) w'):=fun w' h=>by
                    have e:∀ (b j:Nat),b < wr.heap.size→w'.cell? ⟨b,j,none⟩=wr.cell? ⟨b,j,none⟩:=fun b j hb=>h.cell (p:=⟨b,j,none⟩) hb
                    have hs9:=hbq.size
                    have hg9:g < wr.heap.size:=by omega
                    have hi9:gi < wr.heap.size:=by omega
                    have hw9:w.heap.size < wr.heap.size:=by have:=heq.size;omega
                    exact ⟨(e _ _ hw9).trans bq,(e _ _ hg9).trans c0,(e _ _ hg9).trans c1,(e _ _ hg9).trans c2,(e _ _ hg9).trans c3,(e _ _ hg9).trans c4,(e _ _ hi9).trans i0,(e _ _ hi9).trans i1,(e _ _ hi9).trans i2,(e _ _ hi9).trans i3⟩
                  go_wp2_with fail
                  go_region_held3 (fun w'=>w'.cell? ⟨w.heap.size,0,none⟩=some (.slice (some ⟨g,0,none⟩) c.length cap)∧w'.cell? ⟨g,k * 5,none⟩=some (.string f.name)∧w'.cell? ⟨g,k * 5+1,none⟩=some (.slice pa f.params.length pc)∧w'.cell? ⟨g,k * 5+2,none⟩=some (.int .i64 f.result)∧w'.cell? ⟨g,k * 5+3,none⟩=some (.int .i64 f.slots)∧w'.cell? ⟨g,k * 5+4,none⟩=some (.slice (some ⟨gi,0,none⟩) f.ins.length ic)∧w'.cell? ⟨gi,q * 4,none⟩=some (.int .i64 x.op)∧w'.cell? ⟨gi,q * 4+1,none⟩=some (.int .i64 x.a)∧w'.cell? ⟨gi,q * 4+2,none⟩=some (.int .i64 x.n)∧w'.cell? ⟨gi,q * 4+3,none⟩=some (.string x.text)) (with_reducible first | exact P0 | exact P1 | exact P3) (first | (go_at_call 61;refine (HCALL.out _).mono ?_;rintro e w3 ⟨rfl,hb3⟩;have hb4:Below wr.heap.size wr w3:=⟨hb3.os,hb3.tape,hb3.output,hb3.size,hb3.block⟩;have P3:=HP3.out w3 hb4))
                  all_goals go_wp2_with fail
                  all_goals go_roundw
                  all_goals first
                    | exact ⟨q+1,by omega,by go_num,heq.trans (hb4.mono heq.size),HU.out⟩
                    | (simp [intOf];omega)
                | false =>
                  have HF:Hid ((3,(k:Int),(q:Int))=r):=by
                    rw [Hid,HR3.out,Cd.badCode_some c c 0 k hltk q huk (by rw [HFf.out,Cd.badIns_some c f f.ins 0 q hltq huq hF,Nat.zero_add]),Nat.zero_add]
                  rw [hF] at HCALL
                  generalize f.ins[q]=x at *
                  clear huq hF
                  have P0:(fun w'=>w'.cell? ⟨w.heap.size,0,none⟩=some (.slice (some ⟨g,0,none⟩) c.length cap)∧w'.cell? ⟨g,k * 5,none⟩=some (.string f.name)∧w'.cell? ⟨g,k * 5+1,none⟩=some (.slice pa f.params.length pc)∧w'.cell? ⟨g,k * 5+2,none⟩=some (.int .i64 f.result)∧w'.cell? ⟨g,k * 5+3,none⟩=some (.int .i64 f.slots)∧w'.cell? ⟨g,k * 5+4,none⟩=some (.slice (some ⟨gi,0,none⟩) f.ins.length ic)∧w'.cell? ⟨gi,q * 4,none⟩=some (.int .i64 x.op)∧w'.cell? ⟨gi,q * 4+1,none⟩=some (.int .i64 x.a)∧w'.cell? ⟨gi,q * 4+2,none⟩=some (.int .i64 x.n)∧w'.cell? ⟨gi,q * 4+3,none⟩=some (.string x.text)) wr:=⟨bq,c0,c1,c2,c3,c4,i0,i1,i2,i3⟩
                  have P1:(fun w'=>w'.cell? ⟨w.heap.size,0,none⟩=some (.slice (some ⟨g,0,none⟩) c.length cap)∧w'.cell? ⟨g,k * 5,none⟩=some (.string f.name)∧w'.cell? ⟨g,k * 5+1,none⟩=some (.slice pa f.params.length pc)∧w'.cell? ⟨g,k * 5+2,none⟩=some (.int .i64 f.result)∧w'.cell? ⟨g,k * 5+3,none⟩=some (.int .i64 f.slots)∧w'.cell? ⟨g,k * 5+4,none⟩=some (.slice (some ⟨gi,0,none⟩) f.ins.length ic)∧w'.cell? ⟨gi,q * 4,none⟩=some (.int .i64 x.op)∧w'.cell? ⟨gi,q * 4+1,none⟩=some (.int .i64 x.a)∧w'.cell? ⟨gi,q * 4+2,none⟩=some (.int .i64 x.n)∧w'.cell? ⟨gi,q * 4+3,none⟩=some (.string x.text)) wr.drew:=P0
                  have HSZ:Hid (wr.drew.heap.size=wr.heap.size):=rfl
                  have HP3:Hid (∀ w',Below wr.heap.size wr w'→(fun w'=>w'.cell? ⟨w.heap.size,0,none⟩=some (.slice (some ⟨g,0,none⟩) c.length cap)∧w'.cell? ⟨g,k * 5,none⟩=some (.string f.name)∧w'.cell? ⟨g,k * 5+1,none⟩=some (.slice pa f.params.length pc)∧w'.cell? ⟨g,k * 5+2,none⟩=some (.int .i64 f.result)∧w'.cell? ⟨g,k * 5+3,none⟩=some (.int .i64 f.slots)∧w'.cell? ⟨g,k * 5+4,none⟩=some (.slice (some ⟨gi,0,none⟩) f.ins.length ic)∧w'.cell? ⟨gi,q * 4,none⟩=some (.int .i64 x.op)∧w'.cell? ⟨gi,q * 4+1,none⟩=some (.int .i64 x.a)∧w'.cell? ⟨gi,q * 4+2,none⟩=some (.int .i64 x.n)∧w'.cell? ⟨gi,q * 4+3,none⟩=some (.string x.text)) w'):=fun w' h=>by
                    have e:∀ (b j:Nat),b < wr.heap.size→w'.cell? ⟨b,j,none⟩=wr.cell? ⟨b,j,none⟩:=fun b j hb=>h.cell (p:=⟨b,j,none⟩) hb
                    have hs9:=hbq.size
                    have hg9:g < wr.heap.size:=by omega
                    have hi9:gi < wr.heap.size:=by omega
                    have hw9:w.heap.size < wr.heap.size:=by have:=heq.size;omega
                    exact ⟨(e _ _ hw9).trans bq,(e _ _ hg9).trans c0,(e _ _ hg9).trans c1,(e _ _ hg9).trans c2,(e _ _ hg9).trans c3,(e _ _ hg9).trans c4,(e _ _ hi9).trans i0,(e _ _ hi9).trans i1,(e _ _ hi9).trans i2,(e _ _ hi9).trans i3⟩
                  go_wp2_with fail
                  go_region_held3 (fun w'=>w'.cell? ⟨w.heap.size,0,none⟩=some (.slice (some ⟨g,0,none⟩) c.length cap)∧w'.cell? ⟨g,k * 5,none⟩=some (.string f.name)∧w'.cell? ⟨g,k * 5+1,none⟩=some (.slice pa f.params.length pc)∧w'.cell? ⟨g,k * 5+2,none⟩=some (.int .i64 f.result)∧w'.cell? ⟨g,k * 5+3,none⟩=some (.int .i64 f.slots)∧w'.cell? ⟨g,k * 5+4,none⟩=some (.slice (some ⟨gi,0,none⟩) f.ins.length ic)∧w'.cell? ⟨gi,q * 4,none⟩=some (.int .i64 x.op)∧w'.cell? ⟨gi,q * 4+1,none⟩=some (.int .i64 x.a)∧w'.cell? ⟨gi,q * 4+2,none⟩=some (.int .i64 x.n)∧w'.cell? ⟨gi,q * 4+3,none⟩=some (.string x.text)) (with_reducible first | exact P0 | exact P1 | exact P3) (first | (go_at_call 61;refine (HCALL.out _).mono ?_;rintro e w3 ⟨rfl,hb3⟩;have hb4:Below wr.heap.size wr w3:=⟨hb3.os,hb3.tape,hb3.output,hb3.size,hb3.block⟩;have P3:=HP3.out w3 hb4))
                  all_goals go_wp2_with fail
                  all_goals go_ret3
                  all_goals exact ⟨by rw [← HF.out];rfl,hbq.trans (hb4.mono hbq.size)⟩
              · have HNO:Hid (Cd.badIns c c[k] c[k].ins 0=none):=by
                  rw [Hid,HFf.out]
                  exact Cd.badIns_none c f f.ins 0 (fun j hj=>huq j hj (by omega))
                have HU:Hid (∀ j (hj:j < c.length),j < k+1→Cd.badIns c c[j] c[j].ins 0=none):=fun j hj h=>by
                  by_cases e:j=k
                  · subst e;exact HNO.out
                  · exact huk j hj (by omega)
                clear huq HNO
                go_wp2_with fail
                go_roundw
                case rel=>exact ⟨k+1,by omega,by go_num,hek.trans (heq.mono hek.size),HU.out⟩
                case measure=>simp [intOf];omega
          · have HR4:Hid (r=if c.any Cd.isMain=true then (0,0,0) else (4,0,0)):=by
              rw [Hid,HR3.out,Cd.badCode_none c c 0 (fun j hj=>huk j hj (by omega))]
            have HM:=Cd.main_any B c _ hcl wr (by have:=hbk.size;omega) (HC.out wr (hbk.mono hB))
            clear huk
            go_wp2_with fail
            go_at_call 62;refine HM.mono ?_;rintro e w3 ⟨⟨m,rfl,hm⟩,hb3⟩
            have HF4:Hid (m < 0→(4,0,0)=r):=fun hm0=>by rw [HR4.out,hm.1 hm0];rfl
            have HF0:Hid (¬ m < 0→(0,0,0)=r):=fun hm0=>by
              rw [HR4.out,if_pos]
              cases hx:c.any Cd.isMain with
              | true=>rfl
              | false=>exact absurd (hm.2 hx) hm0
            clear hm
            go_wp2_with fail
            · go_ret3
              have hr:=HF4.out (by omega)
              exact ⟨by rw [← hr];rfl,hbk.trans (hb3.mono hbk.size)⟩
            · go_ret3
              have hr:=HF0.out (by omega)
              exact ⟨by rw [← hr];rfl,hbk.trans (hb3.mono hbk.size)⟩
end Go.Proofs.YtbkhedpabfanoaaGreatDoor
namespace Go.Proofs.YtbkhedpabfanoaaGreatDoor
open Go.RowKit

def Cd.nats (l:List Nat):List Int:=l.map (fun (n:Nat)=>(n:Int))
theorem Cd.b1 (w:World) (a:Obj):Below w.heap.size w (w.alloc a):=(Below.refl _ w).alloc (Nat.le_refl _) _
theorem Cd.b2 (w:World) (a b:Obj):Below w.heap.size w ((w.alloc a).alloc b):=(Cd.b1 w a).trans ((Cd.b1 (w.alloc a) b).mono (by simp))
theorem Cd.IntsAt.two (w:World) (a:Obj) (hs:List Int) (t:TypeId) (cap:Nat):Cd.IntsAt ((w.alloc a).alloc (.cells (Cd.ints hs).toArray t)).heap.size ((w.alloc a).alloc (.cells (Cd.ints hs).toArray t)) (.slice (some ⟨w.heap.size+1,0,none⟩) hs.length cap) hs:=by
  have h:=Cd.IntsAt.new (w.alloc a) hs t cap
  rw [World.size_alloc] at h
  rw [World.size_alloc,World.size_alloc];exact h
set_option maxRecDepth 100000 in
set_option maxHeartbeats 1000000 in
theorem Cd.goes_any (i:Cd.Ins) (at':Nat) (hat:at'≤1048576) (ha:i.op=10∨i.op=11→0≤i.a) (w:World) :
    Calls Tryz.prog 63 #[Cd.insV i,.int .i64 (at':Int)] w fun e w' => ∃ v,e = .returned v∧Cd.IntsAt w'.heap.size w' v (Cd.nats (Cd.goes i at'))∧Below w.heap.size w w':=by
  obtain ⟨op,a,n,text⟩:=i
  simp only at ha
  unfold Cd.insV
  have hw1:wrap64 ((at':Int)+1)=(at':Int)+1:=IntWalk.wrap64_in _ (by omega)
  by_cases h12:op=12
  · subst h12
    go_enter Tryz.func63,Tryz.ntmps63
    go_wp2_with fail
    go_ret
    exact ⟨.slice (some ⟨w.heap.size+1,0,none⟩) 0 0,rfl,Cd.IntsAt.two w _ [] _ _,Cd.b2 w _ _⟩
  · by_cases h13:op=13
    · subst h13
      go_enter Tryz.func63,Tryz.ntmps63
      go_wp2_with fail
      go_ret
      exact ⟨.slice (some ⟨w.heap.size+1,0,none⟩) 0 0,rfl,Cd.IntsAt.two w _ [] _ _,Cd.b2 w _ _⟩
    · by_cases h10:op=10
      · subst h10
        obtain ⟨k,rfl⟩:∃ k:Nat,a=(k:Int):=⟨a.toNat,by have:=ha (.inl rfl);omega⟩
        go_enter Tryz.func63,Tryz.ntmps63
        go_wp2_with fail
        go_ret
        exact ⟨.slice (some ⟨w.heap.size+1,0,none⟩) 1 1,rfl,Cd.IntsAt.two w _ [(k:Int)] _ _,Cd.b2 w _ _⟩
      · by_cases h11:op=11
        · subst h11
          obtain ⟨k,rfl⟩:∃ k:Nat,a=(k:Int):=⟨a.toNat,by have:=ha (.inr rfl);omega⟩
          go_enter Tryz.func63,Tryz.ntmps63
          go_wp2_with fail
          go_ret
          exact ⟨.slice (some ⟨w.heap.size+1,0,none⟩) 2 2,rfl,Cd.IntsAt.two w _ [(k:Int),(at':Int)+1] _ _,Cd.b2 w _ _⟩
        · have e1:(op == 12)=false:=by simp [h12]
          have e2:(op == 13)=false:=by simp [h13]
          have e3:(op == 10)=false:=by simp [h10]
          have e4:(op == 11)=false:=by simp [h11]
          have HG:Hid (Cd.goes ⟨op,a,n,text⟩ at'=[at'+1]):=by rw [Hid,Cd.goes];simp [h12,h13,h10,h11]
          rw [HG.out]
          clear h12 h13 h10 h11 HG ha
          go_enter Tryz.func63,Tryz.ntmps63
          go_wp2_with fail
          go_ret
          exact ⟨.slice (some ⟨w.heap.size+1,0,none⟩) 1 1,rfl,Cd.IntsAt.two w _ [(at':Int)+1] _ _,Cd.b2 w _ _⟩
set_option maxRecDepth 100000 in
set_option maxHeartbeats 1000000 in
theorem Cd.same_any (B:Nat) (va vb:Value) (a b:List Int) (hla:a.length≤1048576) (_hlb:b.length≤1048576) (w:World) (hA:Cd.IntsAt B w va a) (hB:Cd.IntsAt B w vb b) :
    Calls Tryz.prog 78 #[va,vb] w fun e w'=>e = .returned (.bool (decide (a=b)))∧∃ q,w'=w.drewN q:=by
  obtain ⟨aa,ca,rfl,hca⟩:=hA
  obtain ⟨ab,cb,rfl,hcb⟩:=hB
  have HA:Hid (∀ i (hi:i < a.length),∃ g o,aa=some ⟨g,o,none⟩∧g < B∧w.cell? ⟨g,o+i,none⟩=some (.int .i64 a[i])):=hca
  have HB:Hid (∀ i (hi:i < b.length),∃ g o,ab=some ⟨g,o,none⟩∧g < B∧w.cell? ⟨g,o+i,none⟩=some (.int .i64 b[i])):=hcb
  clear hca hcb
  by_cases hl:a.length=b.length
  · obtain ⟨n,HNA,HNB⟩:∃ n,Hid (a.length=n)∧Hid (b.length=n):=⟨a.length,rfl,hl.symm⟩
    rw [HNA.out,HNB.out]
    rw [HNA.out] at hla
    clear hl _hlb
    obtain ⟨r,HR⟩:∃ r,Hid (decide (a=b)=r):=⟨_,(rfl:decide (a=b)=_)⟩
    rw [HR.out]
    have hne:((n:Int) != (n:Int))=false:=by simp
    go_enter Tryz.func78,Tryz.ntmps78
    go_wp2_with fail
    go_loopw [5] (fun t wr => ∃ i q:Nat,i≤n∧t = .int .i64 (i:Int)∧wr=w.drewN q∧∀ j (hj:j < a.length) (hj':j < b.length),j < i→a[j]=b[j]) (fun t _=>n - (intOf t).toNat)
    case atStart=>exact ⟨0,0,by omega,rfl,rfl,fun j hj hj' h=>by omega⟩
    case round =>
      obtain ⟨i,q,hi,rfl,hq,hu⟩:=hrel
      have HQ:Hid (wr=w.drewN q):=hq
      clear hq
      by_cases hlt:i < n
      · have hlt1:i < a.length:=by rw [HNA.out];exact hlt
        have hlt2:i < b.length:=by rw [HNB.out];exact hlt
        obtain ⟨ga,oa,rfl,_,c0⟩:=HA.out i hlt1
        obtain ⟨gb,ob,rfl,_,c1⟩:=HB.out i hlt2
        have d0:wr.cell? ⟨ga,oa+i,none⟩=some (.int .i64 a[i]):=by rw [HQ.out];exact c0
        have d1:wr.cell? ⟨gb,ob+i,none⟩=some (.int .i64 b[i]):=by rw [HQ.out];exact c1
        by_cases he:a[i]=b[i]
        · have HU:Hid (∀ j (hj:j < a.length) (hj':j < b.length),j < i+1→a[j]=b[j]):=fun j hj hj' h=>by
            by_cases e:j=i
            · subst e;exact he
            · exact hu j hj hj' (by omega)
          have hnb:(a[i] != b[i])=false:=by simp [he]
          clear hu c0 c1
          generalize a[i]=xa at *
          generalize b[i]=xb at *
          go_wp2_with fail
          go_quiet (fail)
          go_wp2_with fail
          go_roundw
          case rel=>exact ⟨i+1,_,by omega,by go_num,by rw [HQ.out,World.drewN_drewN],HU.out⟩
          case measure=>simp [intOf];omega
        · have HF:Hid (false=r):=by
            rw [Hid,← HR.out]
            have:¬ a=b:=fun e=>he (by simp only [e])
            simp [this]
          have hnb:(a[i] != b[i])=true:=by simp [he]
          clear hu c0 c1
          generalize a[i]=xa at *
          generalize b[i]=xb at *
          go_wp2_with fail
          go_quiet (fail)
          go_wp2_with fail
          go_ret
          exact ⟨Cd.ret_bool HF.out,_,by rw [HQ.out,World.drewN_drewN]⟩
      · have HF:Hid (true=r):=by
          rw [Hid,← HR.out]
          have:a=b:=List.ext_getElem (by rw [HNA.out,HNB.out]) (fun j h1 h2=>hu j h1 h2 (by rw [HNA.out] at h1;omega))
          simp [this]
        clear hu
        go_wp2_with fail
        go_ret
        exact ⟨Cd.ret_bool HF.out,q,HQ.out⟩
  · have HF:Hid (false=decide (a=b)):=by
      rw [Hid]
      have:¬ a=b:=fun e=>hl (by rw [e])
      simp [this]
    rw [← HF.out]
    have hne:((a.length:Int) != (b.length:Int))=true:=by simp;omega
    go_enter Tryz.func78,Tryz.ntmps78
    go_wp2_with fail
    go_ret
    exact ⟨rfl,0,rfl⟩
set_option maxRecDepth 100000 in
set_option maxHeartbeats 1000000 in
theorem Cd.word_any (op:Int) (h1:1≤op) (h12:op≤12) (w:World) :
    Calls Tryz.prog 81 #[.int .i64 op] w fun e w'=>(∃ s,e = .returned (.tuple #[.string s,.int .i64 ((Cd.want op).length:Int)]))∧w=w':=by
  have h:op=1∨op=2∨op=3∨op=4∨op=5∨op=6∨op=7∨op=8∨op=9∨op=10∨op=11∨op=12:=by omega
  rcases h with rfl | rfl | rfl | rfl | rfl | rfl | rfl | rfl | rfl | rfl | rfl | rfl
  all_goals
    go_enter Tryz.func81,Tryz.ntmps81
    go_wp2
    go_ret2
    exact ⟨⟨_,rfl⟩,rfl⟩
end Go.Proofs.YtbkhedpabfanoaaGreatDoor
