import Derived.Test.YtbkhedpabfanoaaGreatDoorKCeE
import Derived.Test.YtbkhedpabfanoaaGreatDoorKScanG
namespace Go.Proofs.YtbkhedpabfanoaaGreatDoor
open Go.RowKit

theorem Cd.CodeAt.front {B:Nat} {w:World} {a:Option Addr} {n cap:Nat} {c:List Cd.Fn} (h:Cd.CodeAt B w (.slice a n cap) c) {m:Nat} (hm:m≤c.length):Cd.CodeAt B w (.slice a m cap) (c.take m):=by
  obtain ⟨a',cp,e,hc⟩:=h
  injection e with e1 e2 e3
  subst e1
  refine ⟨a,cap,by rw [List.length_take,Nat.min_eq_left hm],fun k hk => ?_⟩
  rw [List.length_take] at hk
  obtain ⟨g,pv,iv,h1,h2,h3,h4,h5⟩:=hc k (by omega)
  exact ⟨g,pv,iv,h1,h2,by rw [List.getElem_take];exact h3,by rw [List.getElem_take];exact h4,by rw [List.getElem_take];exact h5⟩
theorem Cd.TWords.below {w w':World} {b:Nat} (h:Mill.TWords w b) (hb:Below w.heap.size w w'):Mill.TWords w' b :=
  World.ownsMap.kept (row:=none) h ⟨hb.os,hb.tape,hb.output,hb.size,fun k hk _=>hb.block k hk⟩ (by simp)
theorem Cd.num_any (c:List Cd.Fn) (name:ByteArray):decide (0≤Cd.num c name)=c.any (fun g=>g.name.toList == name.toList):=by
  unfold Cd.num
  rcases Cd.numL_cases name c 0 with ⟨h1,h2⟩ | ⟨j,hj,h1,h2,h3⟩
  · have:c.any (fun g=>g.name.toList == name.toList)=false:=by
      rw [List.any_eq_false]
      intro f hf
      obtain ⟨i,hi,rfl⟩:=List.getElem_of_mem hf
      rw [h2 i hi];simp
    rw [h1,this];rfl
  · have:c.any (fun g=>g.name.toList == name.toList)=true:=by
      rw [List.any_eq_true]
      exact ⟨_,List.getElem_mem hj,h2⟩
    rw [h1,this];simp
set_option maxRecDepth 100000 in
set_option maxHeartbeats 2000000 in
theorem Cd.rightFn_any (c:List Cd.Fn) (k:Nat) (hk:k < c.length) (f:Cd.Fn) (hf:c[k]=f) (a:Option Addr) (cap mb:Nat) (hcl:c.length≤1048576) (hcap:c.length≤cap) (hnm:f.name.size≤1048576) (hpl:f.params.length≤1048576) (hil:f.ins.length≤1048576) (B:Nat) (w:World) (hB:B≤w.heap.size) (hC:Cd.CodeAt B w (.slice a c.length cap) c) (hM:Mill.TWords w mb) :
    Calls Tryz.prog 70 #[.agg #[.slice a c.length cap],.int .i64 (k:Int),.map (some mb)] w fun e w'=>e = .returned (.bool (Cd.fnOk c k f))∧Below w.heap.size w w':=by
  obtain ⟨g,cap',pa,pc,ia,ic,ev,hg,d0,d1,d2,d3,d4,hP,-⟩:=hC.fn k hk
  injection ev with ev1 ev2 ev3
  subst ev1
  rw [hf] at d0 d1 d2 d3 d4 hP
  have HC:Hid (Cd.CodeAt B w (.slice (some ⟨g,0,none⟩) c.length cap) c):=hC
  have HPR:Hid (Cd.IntsAt B w (.slice pa f.params.length pc) f.params):=hP
  have HM:Hid (Mill.TWords w mb):=hM
  clear hC hP hM hf ev2 ev3
  obtain ⟨Y1,hY1⟩:∃ Y,w.alloc (.cells #[.slice (some ⟨g,0,none⟩) c.length cap] 24)=Y:=⟨_,rfl⟩
  have hb1:Below w.heap.size w Y1:=by rw [← hY1];exact Cd.b1 w _
  have hs1:Y1.heap.size=w.heap.size+1:=by rw [← hY1];exact World.size_alloc _ _
  have p1_0:Y1.heap[w.heap.size]? = some (.cells #[.slice (some ⟨g,0,none⟩) c.length cap] 24):=by rw [← hY1];exact Cd.new_at w _
  have c0_0:Y1.cell? ⟨w.heap.size,0,none⟩=some (.slice (some ⟨g,0,none⟩) c.length cap):=by rw [Lib.cell_of_heap p1_0];rfl
  have hgw:g < w.heap.size:=by omega
  have e0:=(hb1.cell (p:=⟨g,k * 5,none⟩) hgw).trans d0
  have e1:=(hb1.cell (p:=⟨g,k * 5+1,none⟩) hgw).trans d1
  have e2:=(hb1.cell (p:=⟨g,k * 5+2,none⟩) hgw).trans d2
  have e3:=(hb1.cell (p:=⟨g,k * 5+3,none⟩) hgw).trans d3
  have e4:=(hb1.cell (p:=⟨g,k * 5+4,none⟩) hgw).trans d4
  obtain ⟨Y2,hY2⟩:∃ Y,Y1.alloc (.cells #[.string f.name,.slice pa f.params.length pc,.int .i64 f.result,.int .i64 f.slots,.slice ia f.ins.length ic] 37)=Y:=⟨_,rfl⟩
  have hb2:Below w.heap.size w Y2:=by rw [← hY2];exact Cd.Below.new hb1 _
  have hs2:Y2.heap.size=w.heap.size+2:=by rw [← hY2,World.size_alloc];omega
  have p2_0:Y2.heap[w.heap.size]? = some (.cells #[.slice (some ⟨g,0,none⟩) c.length cap] 24):=by rw [← hY2];exact Cd.keepH _ p1_0
  have p2_1:Y2.heap[w.heap.size+1]? = some (.cells #[.string f.name,.slice pa f.params.length pc,.int .i64 f.result,.int .i64 f.slots,.slice ia f.ins.length ic] 37):=by rw [← hY2,← hs1];exact Cd.new_at _ _
  have HCF:Hid (∀ W,Below Y2.heap.size Y2 W→W.cell? ⟨w.heap.size,0,none⟩=some (.slice (some ⟨g,0,none⟩) c.length cap)∧W.cell? ⟨w.heap.size+1,0,none⟩=some (.string f.name)∧W.cell? ⟨w.heap.size+1,1,none⟩=some (.slice pa f.params.length pc)∧W.cell? ⟨w.heap.size+1,2,none⟩=some (.int .i64 f.result)∧W.cell? ⟨w.heap.size+1,3,none⟩=some (.int .i64 f.slots)∧W.cell? ⟨w.heap.size+1,4,none⟩=some (.slice ia f.ins.length ic)):=fun W hW=>by
    have h0:=(hW.block w.heap.size (by omega)).trans p2_0
    have h1:=(hW.block (w.heap.size+1) (by omega)).trans p2_1
    refine ⟨?_, ?_, ?_, ?_, ?_, ?_⟩
    · rw [Lib.cell_of_heap h0];rfl
    · rw [Lib.cell_of_heap h1];rfl
    · rw [Lib.cell_of_heap h1];rfl
    · rw [Lib.cell_of_heap h1];rfl
    · rw [Lib.cell_of_heap h1];rfl
    · rw [Lib.cell_of_heap h1];rfl
  obtain ⟨y0,y1,y2,y3,y4,y5⟩:=HCF.out Y2 (Below.refl _ _)
  clear p1_0 p2_0 p2_1 d0 d1 d2 d3 d4
  have hkI:(k:Int) < (c.length:Int):=by omega
  have hkc:(k:Int)≤(cap:Int):=by omega
  obtain ⟨r,HR⟩:∃ r,Hid (Cd.fnOk c k f=r):=⟨_,(rfl:Cd.fnOk c k f=_)⟩
  rw [HR.out]
  have HNUM:Hid (∀ W,Below Y2.heap.size Y2 W→Calls Tryz.prog 85 #[.slice (some ⟨g,0,none⟩) k cap,.string f.name] W fun e w'=>e = .returned (.int .i64 (Cd.num (c.take k) f.name))∧Below W.heap.size W w'):=fun W hW=>by
    have hbw:=(show Below w.heap.size w W from hb2.trans (hW.mono hb2.size))
    have h:=Cd.number_any (c.take k) (some ⟨g,0,none⟩) cap f.name (by rw [List.length_take];omega) B W (Nat.le_trans hB hbw.size) (by
      rw [List.length_take,Nat.min_eq_left (by omega)]
      exact (HC.out.below (hbw.mono hB)).front (by omega))
    rw [List.length_take,Nat.min_eq_left (by omega)] at h
    exact h
  have HNA:=Cd.num_any (c.take k) f.name
  obtain ⟨nn,HNN⟩:∃ n,Hid (Cd.num (c.take k) f.name=n):=⟨_,(rfl:Cd.num (c.take k) f.name=_)⟩
  rw [HNN.out] at HNUM HNA
  have HTY:Hid (∀ W,Below Y2.heap.size Y2 W→Calls Tryz.prog 86 #[.slice pa f.params.length pc,.func (Fn.func 87) #[] #[]] W fun e w'=>e = .returned (.bool (!(f.params.all Cd.isT)))∧W=w'):=fun W hW=>by
    have hbw:=(show Below w.heap.size w W from hb2.trans (hW.mono hb2.size))
    exact Cd.noType_any f.params pa pc hpl B W (HPR.out.below (hbw.mono hB))
  obtain ⟨nb,HNB⟩:∃ b,Hid (Mill.nameOk f.name=b):=⟨_,(rfl:Mill.nameOk f.name=_)⟩
  obtain ⟨al,HAL⟩:∃ b,Hid (f.params.all Cd.isT=b):=⟨_,(rfl:f.params.all Cd.isT=_)⟩
  obtain ⟨rt,HRT⟩:∃ b,Hid (Cd.isT f.result=b):=⟨_,(rfl:Cd.isT f.result=_)⟩
  have HNY:Hid (decide (0≤nn)=(c.take k).any (fun g=>g.name.toList == f.name.toList)):=HNA
  have HALL:Hid (f.params.all (fun t=>Cd.inR t 1 10)=al):=HAL.out
  clear HNA
  have HNM:Hid (∀ W,Below Y2.heap.size Y2 W→Calls Tryz.prog 84 #[.string f.name,.map (some mb)] W fun e w'=>e = .returned (.bool nb)∧Below W.heap.size W w'):=fun W hW=>isName_is f.name nb HNB mb W hnm (Cd.TWords.below HM.out (hb2.trans (hW.mono hb2.size)))
  go_enter Tryz.func70,Tryz.ntmps70
  cases nb with
  | false =>
    have HF:Hid (false=r):=by rw [Hid,← HR.out];unfold Cd.fnOk;rw [HNB.out];rfl
    go_wp2_with fail
    refine wp_region_held_drew (S:=fun W=>W.cell? ⟨w.heap.size+1,0,none⟩=some (.string f.name)) (by kernel_rfl) (y1) (fun hHeld => ?_)
    refine wpAnyH_take (i:=0) (v:=.pointer (some ⟨w.heap.size+1,0,none⟩)) rfl (by kernel_rfl) (by kernel_rfl) (by kernel_rfl) (fun _ _ _ h=>h) (Or.inl ⟨by rfl,by intro w hSw;go_simp⟩) (by assumption) ?_
    try simp [Act.put]
    refine wpAnyH_take (i:=1) (v:=.string f.name) rfl (by kernel_rfl) (by kernel_rfl) (by kernel_rfl) (fun _ _ _ h=>h) (Or.inl ⟨by rfl,by intro w hSw;go_simp⟩) (by assumption) ?_
    try simp [Act.put]
    refine wpAnyH_take (i:=2) (v:=.map (some mb)) rfl (by kernel_rfl) (by kernel_rfl) (by kernel_rfl) (fun _ _ _ h=>h) (Or.inl ⟨by rfl,by intro w hSw;go_simp⟩) (by assumption) ?_
    try simp [Act.put]
    refine wpAnyH_ready (rs:=[3]) (by kernel_rfl) (by simp) ?_
    refine AllReadyH.cons rfl (fun KK hK => ?_) AllReadyH.nil
    go_simp
    (go_at_call 84;refine (HNM.out _ (by repeat (first | exact Below.refl _ _ | apply Below.drew))).mono ?_;rintro e w3 ⟨rfl,hb3a⟩;have hb3:=(show Below Y2.heap.size Y2 w3 from Below.trans (by repeat (first | exact Below.refl _ _ | apply Below.drew)) hb3a);obtain ⟨x0,x1,x2,x3,x4,x5⟩:=HCF.out w3 hb3)
    go_wp2
    refine hK.out _ _ (x1) (fun hHeld => ?_)
    clear hK
    try simp [Act.put]
    refine wpAnyH_take (i:=4) (v:=.bool true) rfl (by kernel_rfl) (by kernel_rfl) (by kernel_rfl) (fun _ _ _ h=>h) (Or.inl ⟨by rfl,by intro w hSw;go_simp⟩) (by assumption) ?_
    try simp [Act.put]
    refine wpAnyH_take (i:=5) (v:=.bool true) rfl (by kernel_rfl) (by kernel_rfl) (by kernel_rfl) (fun _ _ _ h=>h) (Or.inl ⟨by rfl,by intro w hSw;go_simp⟩) (by assumption) ?_
    try simp [Act.put]
    refine wpAnyH_take (i:=6) (v:=undef) rfl (by kernel_rfl) (by kernel_rfl) (by kernel_rfl) (fun _ _ _ h=>h) (Or.inr ⟨by rfl,rfl⟩) (by assumption) ?_
    try simp [Act.put]
    refine wpAnyH_take (i:=7) (v:=undef) rfl (by kernel_rfl) (by kernel_rfl) (by kernel_rfl) (fun _ _ _ h=>h) (Or.inr ⟨by rfl,rfl⟩) (by assumption) ?_
    try simp [Act.put]
    refine wpAnyH_take (i:=8) (v:=undef) rfl (by kernel_rfl) (by kernel_rfl) (by kernel_rfl) (fun _ _ _ h=>h) (Or.inr ⟨by rfl,rfl⟩) (by assumption) ?_
    try simp [Act.put]
    refine wpAnyH_take (i:=9) (v:=undef) rfl (by kernel_rfl) (by kernel_rfl) (by kernel_rfl) (fun _ _ _ h=>h) (Or.inr ⟨by rfl,rfl⟩) (by assumption) ?_
    try simp [Act.put]
    refine wpAnyH_take (i:=10) (v:=undef) rfl (by kernel_rfl) (by kernel_rfl) (by kernel_rfl) (fun _ _ _ h=>h) (Or.inr ⟨by rfl,rfl⟩) (by assumption) ?_
    try simp [Act.put]
    refine wpAnyH_take (i:=11) (v:=undef) rfl (by kernel_rfl) (by kernel_rfl) (by kernel_rfl) (fun _ _ _ h=>h) (Or.inr ⟨by rfl,rfl⟩) (by assumption) ?_
    try simp [Act.put]
    refine wpAnyH_take (i:=12) (v:=undef) rfl (by kernel_rfl) (by kernel_rfl) (by kernel_rfl) (fun _ _ _ h=>h) (Or.inr ⟨by rfl,rfl⟩) (by assumption) ?_
    try simp [Act.put]
    refine wpAnyH_take (i:=13) (v:=undef) rfl (by kernel_rfl) (by kernel_rfl) (by kernel_rfl) (fun _ _ _ h=>h) (Or.inr ⟨by rfl,rfl⟩) (by assumption) ?_
    try simp [Act.put]
    refine wpAnyH_take (i:=14) (v:=.bool true) rfl (by kernel_rfl) (by kernel_rfl) (by kernel_rfl) (fun _ _ _ h=>h) (Or.inl ⟨by rfl,by intro w hSw;go_simp⟩) (by assumption) ?_
    try simp [Act.put]
    refine wpAnyH_done (by kernel_rfl) ?_ _
    all_goals go_wp2_with (first | (go_at_call 84;refine (HNM.out _ (by repeat (first | exact Below.refl _ _ | apply Below.drew))).mono ?_;rintro e w3 ⟨rfl,hb3a⟩;have hb3:=(show Below Y2.heap.size Y2 w3 from Below.trans (by repeat (first | exact Below.refl _ _ | apply Below.drew)) hb3a);obtain ⟨x0,x1,x2,x3,x4,x5⟩:=HCF.out w3 hb3) | (go_at_call 85;refine (HNUM.out _ (by first | exact hb3 | exact hb3.drew)).mono ?_;rintro e w4 ⟨rfl,hb4⟩;have hb4':=(show Below Y2.heap.size Y2 w4 from Below.trans (by first | exact hb3 | exact hb3.drew) (hb4.mono hb3.size));obtain ⟨v0,v1,v2,v3,v4,v5⟩:=HCF.out w4 hb4') | (go_at_call 86;refine (HTY.out w4 hb4').mono ?_;rintro e w5 ⟨rfl,rfl⟩;rw [HAL.out]) | (go_at_call 88;refine (Cd.isType_any _ _).mono ?_;rintro e w5 ⟨rfl,rfl⟩;rw [HRT.out]))
    all_goals go_ret
    all_goals exact ⟨Cd.ret_bool HF.out,hb2.trans (hb3.mono hb2.size)⟩
  | true =>
    by_cases q2:0≤nn
    · have HF:Hid (false=r):=by
        rw [Hid,← HR.out];unfold Cd.fnOk
        rw [← HNY.out]
        simp [q2]
      go_wp2_with fail
      first | (go_region_held3 (fun W=>W.cell? ⟨w.heap.size,0,none⟩=some (.slice (some ⟨g,0,none⟩) c.length cap)∧W.cell? ⟨w.heap.size+1,0,none⟩=some (.string f.name)) (first | exact ⟨y0,y1⟩ | exact ⟨x0,x1⟩ | exact ⟨v0,v1⟩) (first | (go_at_call 84;refine (HNM.out _ (by repeat (first | exact Below.refl _ _ | apply Below.drew))).mono ?_;rintro e w3 ⟨rfl,hb3a⟩;have hb3:=(show Below Y2.heap.size Y2 w3 from Below.trans (by repeat (first | exact Below.refl _ _ | apply Below.drew)) hb3a);obtain ⟨x0,x1,x2,x3,x4,x5⟩:=HCF.out w3 hb3) | (go_at_call 85;refine (HNUM.out _ (by first | exact hb3 | exact hb3.drew)).mono ?_;rintro e w4 ⟨rfl,hb4⟩;have hb4':=(show Below Y2.heap.size Y2 w4 from Below.trans (by first | exact hb3 | exact hb3.drew) (hb4.mono hb3.size));obtain ⟨v0,v1,v2,v3,v4,v5⟩:=HCF.out w4 hb4') | (go_at_call 86;refine (HTY.out w4 hb4').mono ?_;rintro e w5 ⟨rfl,rfl⟩;rw [HAL.out]) | (go_at_call 88;refine (Cd.isType_any _ _).mono ?_;rintro e w5 ⟨rfl,rfl⟩;rw [HRT.out]))) | fail
      all_goals go_wp2_with (first | (go_at_call 84;refine (HNM.out _ (by repeat (first | exact Below.refl _ _ | apply Below.drew))).mono ?_;rintro e w3 ⟨rfl,hb3a⟩;have hb3:=(show Below Y2.heap.size Y2 w3 from Below.trans (by repeat (first | exact Below.refl _ _ | apply Below.drew)) hb3a);obtain ⟨x0,x1,x2,x3,x4,x5⟩:=HCF.out w3 hb3) | (go_at_call 85;refine (HNUM.out _ (by first | exact hb3 | exact hb3.drew)).mono ?_;rintro e w4 ⟨rfl,hb4⟩;have hb4':=(show Below Y2.heap.size Y2 w4 from Below.trans (by first | exact hb3 | exact hb3.drew) (hb4.mono hb3.size));obtain ⟨v0,v1,v2,v3,v4,v5⟩:=HCF.out w4 hb4') | (go_at_call 86;refine (HTY.out w4 hb4').mono ?_;rintro e w5 ⟨rfl,rfl⟩;rw [HAL.out]) | (go_at_call 88;refine (Cd.isType_any _ _).mono ?_;rintro e w5 ⟨rfl,rfl⟩;rw [HRT.out]))
      all_goals go_ret
      all_goals exact ⟨Cd.ret_bool (by first | exact HF.out | (rw [← HF.out];simp;omega)),hb2.trans (hb4'.mono hb2.size)⟩
    · have q2b:¬ (0:Int)≤nn:=q2
      have HNY2:Hid ((c.take k).any (fun g=>g.name.toList == f.name.toList)=false):=by rw [Hid,← HNY.out];simp;omega
      by_cases q3:f.params.length≤8
      · have q3I:¬ (8:Int) < (f.params.length:Int):=by omega
        cases al with
        | false =>
          have HF:Hid (false=r):=by
            rw [Hid,← HR.out];unfold Cd.fnOk
            rw [HALL.out]
            simp
          go_wp2_with fail
          first | (go_region_held3 (fun W=>W.cell? ⟨w.heap.size,0,none⟩=some (.slice (some ⟨g,0,none⟩) c.length cap)∧W.cell? ⟨w.heap.size+1,0,none⟩=some (.string f.name)) (first | exact ⟨y0,y1⟩ | exact ⟨x0,x1⟩ | exact ⟨v0,v1⟩) (first | (go_at_call 84;refine (HNM.out _ (by repeat (first | exact Below.refl _ _ | apply Below.drew))).mono ?_;rintro e w3 ⟨rfl,hb3a⟩;have hb3:=(show Below Y2.heap.size Y2 w3 from Below.trans (by repeat (first | exact Below.refl _ _ | apply Below.drew)) hb3a);obtain ⟨x0,x1,x2,x3,x4,x5⟩:=HCF.out w3 hb3) | (go_at_call 85;refine (HNUM.out _ (by first | exact hb3 | exact hb3.drew)).mono ?_;rintro e w4 ⟨rfl,hb4⟩;have hb4':=(show Below Y2.heap.size Y2 w4 from Below.trans (by first | exact hb3 | exact hb3.drew) (hb4.mono hb3.size));obtain ⟨v0,v1,v2,v3,v4,v5⟩:=HCF.out w4 hb4') | (go_at_call 86;refine (HTY.out w4 hb4').mono ?_;rintro e w5 ⟨rfl,rfl⟩;rw [HAL.out]) | (go_at_call 88;refine (Cd.isType_any _ _).mono ?_;rintro e w5 ⟨rfl,rfl⟩;rw [HRT.out]))) | fail
          all_goals go_wp2_with (first | (go_at_call 84;refine (HNM.out _ (by repeat (first | exact Below.refl _ _ | apply Below.drew))).mono ?_;rintro e w3 ⟨rfl,hb3a⟩;have hb3:=(show Below Y2.heap.size Y2 w3 from Below.trans (by repeat (first | exact Below.refl _ _ | apply Below.drew)) hb3a);obtain ⟨x0,x1,x2,x3,x4,x5⟩:=HCF.out w3 hb3) | (go_at_call 85;refine (HNUM.out _ (by first | exact hb3 | exact hb3.drew)).mono ?_;rintro e w4 ⟨rfl,hb4⟩;have hb4':=(show Below Y2.heap.size Y2 w4 from Below.trans (by first | exact hb3 | exact hb3.drew) (hb4.mono hb3.size));obtain ⟨v0,v1,v2,v3,v4,v5⟩:=HCF.out w4 hb4') | (go_at_call 86;refine (HTY.out w4 hb4').mono ?_;rintro e w5 ⟨rfl,rfl⟩;rw [HAL.out]) | (go_at_call 88;refine (Cd.isType_any _ _).mono ?_;rintro e w5 ⟨rfl,rfl⟩;rw [HRT.out]))
          all_goals go_ret
          all_goals exact ⟨Cd.ret_bool (by first | exact HF.out | (rw [← HF.out];simp;omega)),hb2.trans (hb4'.mono hb2.size)⟩
        | true =>
          have HFK:Hid (Cd.fnOk c k f=(Cd.inR f.result 0 10 && Cd.inR f.slots (f.params.length:Int) 200 && Cd.inR (f.ins.length:Int) 1 50000)):=by
            rw [Hid]
            unfold Cd.fnOk
            rw [HNB.out,HALL.out,HNY2.out]
            simp [q3]
          go_wp2_with fail
          first | (go_region_held3 (fun W=>W.cell? ⟨w.heap.size,0,none⟩=some (.slice (some ⟨g,0,none⟩) c.length cap)∧W.cell? ⟨w.heap.size+1,0,none⟩=some (.string f.name)) (first | exact ⟨y0,y1⟩ | exact ⟨x0,x1⟩ | exact ⟨v0,v1⟩) (first | (go_at_call 84;refine (HNM.out _ (by repeat (first | exact Below.refl _ _ | apply Below.drew))).mono ?_;rintro e w3 ⟨rfl,hb3a⟩;have hb3:=(show Below Y2.heap.size Y2 w3 from Below.trans (by repeat (first | exact Below.refl _ _ | apply Below.drew)) hb3a);obtain ⟨x0,x1,x2,x3,x4,x5⟩:=HCF.out w3 hb3) | (go_at_call 85;refine (HNUM.out _ (by first | exact hb3 | exact hb3.drew)).mono ?_;rintro e w4 ⟨rfl,hb4⟩;have hb4':=(show Below Y2.heap.size Y2 w4 from Below.trans (by first | exact hb3 | exact hb3.drew) (hb4.mono hb3.size));obtain ⟨v0,v1,v2,v3,v4,v5⟩:=HCF.out w4 hb4') | (go_at_call 86;refine (HTY.out w4 hb4').mono ?_;rintro e w5 ⟨rfl,rfl⟩;rw [HAL.out]) | (go_at_call 88;refine (Cd.isType_any _ _).mono ?_;rintro e w5 ⟨rfl,rfl⟩;rw [HRT.out]))) | fail
          all_goals
            by_cases r0:f.result=0
            · have r0b:(f.result != 0)=false:=by simp [r0]
              have r0l:0≤f.result∧f.result≤10:=by omega
              clear r0
              by_cases s1:(f.params.length:Int)≤f.slots
              · by_cases s2:f.slots≤200
                · by_cases s3:(1:Int)≤(f.ins.length:Int)
                  · by_cases s4:(f.ins.length:Int)≤50000
                    · have HF:Hid (true=r):=by rw [Hid,← HR.out,HFK.out];unfold Cd.inR;simp;try omega
                      go_wp2_with (first | (go_at_call 84;refine (HNM.out _ (by repeat (first | exact Below.refl _ _ | apply Below.drew))).mono ?_;rintro e w3 ⟨rfl,hb3a⟩;have hb3:=(show Below Y2.heap.size Y2 w3 from Below.trans (by repeat (first | exact Below.refl _ _ | apply Below.drew)) hb3a);obtain ⟨x0,x1,x2,x3,x4,x5⟩:=HCF.out w3 hb3) | (go_at_call 85;refine (HNUM.out _ (by first | exact hb3 | exact hb3.drew)).mono ?_;rintro e w4 ⟨rfl,hb4⟩;have hb4':=(show Below Y2.heap.size Y2 w4 from Below.trans (by first | exact hb3 | exact hb3.drew) (hb4.mono hb3.size));obtain ⟨v0,v1,v2,v3,v4,v5⟩:=HCF.out w4 hb4') | (go_at_call 86;refine (HTY.out w4 hb4').mono ?_;rintro e w5 ⟨rfl,rfl⟩;rw [HAL.out]) | (go_at_call 88;refine (Cd.isType_any _ _).mono ?_;rintro e w5 ⟨rfl,rfl⟩;rw [HRT.out]))
                      all_goals go_ret
                      all_goals exact ⟨Cd.ret_bool (by first | exact HF.out | (rw [← HF.out];simp;omega)),hb2.trans (hb4'.mono hb2.size)⟩
                    · have HF:Hid (false=r):=by rw [Hid,← HR.out,HFK.out];unfold Cd.inR;simp;try omega
                      go_wp2_with (first | (go_at_call 84;refine (HNM.out _ (by repeat (first | exact Below.refl _ _ | apply Below.drew))).mono ?_;rintro e w3 ⟨rfl,hb3a⟩;have hb3:=(show Below Y2.heap.size Y2 w3 from Below.trans (by repeat (first | exact Below.refl _ _ | apply Below.drew)) hb3a);obtain ⟨x0,x1,x2,x3,x4,x5⟩:=HCF.out w3 hb3) | (go_at_call 85;refine (HNUM.out _ (by first | exact hb3 | exact hb3.drew)).mono ?_;rintro e w4 ⟨rfl,hb4⟩;have hb4':=(show Below Y2.heap.size Y2 w4 from Below.trans (by first | exact hb3 | exact hb3.drew) (hb4.mono hb3.size));obtain ⟨v0,v1,v2,v3,v4,v5⟩:=HCF.out w4 hb4') | (go_at_call 86;refine (HTY.out w4 hb4').mono ?_;rintro e w5 ⟨rfl,rfl⟩;rw [HAL.out]) | (go_at_call 88;refine (Cd.isType_any _ _).mono ?_;rintro e w5 ⟨rfl,rfl⟩;rw [HRT.out]))
                      all_goals go_ret
                      all_goals exact ⟨Cd.ret_bool (by first | exact HF.out | (rw [← HF.out];simp;omega)),hb2.trans (hb4'.mono hb2.size)⟩
                  · have HF:Hid (false=r):=by rw [Hid,← HR.out,HFK.out];unfold Cd.inR;simp;try omega
                    go_wp2_with (first | (go_at_call 84;refine (HNM.out _ (by repeat (first | exact Below.refl _ _ | apply Below.drew))).mono ?_;rintro e w3 ⟨rfl,hb3a⟩;have hb3:=(show Below Y2.heap.size Y2 w3 from Below.trans (by repeat (first | exact Below.refl _ _ | apply Below.drew)) hb3a);obtain ⟨x0,x1,x2,x3,x4,x5⟩:=HCF.out w3 hb3) | (go_at_call 85;refine (HNUM.out _ (by first | exact hb3 | exact hb3.drew)).mono ?_;rintro e w4 ⟨rfl,hb4⟩;have hb4':=(show Below Y2.heap.size Y2 w4 from Below.trans (by first | exact hb3 | exact hb3.drew) (hb4.mono hb3.size));obtain ⟨v0,v1,v2,v3,v4,v5⟩:=HCF.out w4 hb4') | (go_at_call 86;refine (HTY.out w4 hb4').mono ?_;rintro e w5 ⟨rfl,rfl⟩;rw [HAL.out]) | (go_at_call 88;refine (Cd.isType_any _ _).mono ?_;rintro e w5 ⟨rfl,rfl⟩;rw [HRT.out]))
                    all_goals go_ret
                    all_goals exact ⟨Cd.ret_bool (by first | exact HF.out | (rw [← HF.out];simp;omega)),hb2.trans (hb4'.mono hb2.size)⟩
                · have HF:Hid (false=r):=by rw [Hid,← HR.out,HFK.out];unfold Cd.inR;simp;try omega
                  go_wp2_with (first | (go_at_call 84;refine (HNM.out _ (by repeat (first | exact Below.refl _ _ | apply Below.drew))).mono ?_;rintro e w3 ⟨rfl,hb3a⟩;have hb3:=(show Below Y2.heap.size Y2 w3 from Below.trans (by repeat (first | exact Below.refl _ _ | apply Below.drew)) hb3a);obtain ⟨x0,x1,x2,x3,x4,x5⟩:=HCF.out w3 hb3) | (go_at_call 85;refine (HNUM.out _ (by first | exact hb3 | exact hb3.drew)).mono ?_;rintro e w4 ⟨rfl,hb4⟩;have hb4':=(show Below Y2.heap.size Y2 w4 from Below.trans (by first | exact hb3 | exact hb3.drew) (hb4.mono hb3.size));obtain ⟨v0,v1,v2,v3,v4,v5⟩:=HCF.out w4 hb4') | (go_at_call 86;refine (HTY.out w4 hb4').mono ?_;rintro e w5 ⟨rfl,rfl⟩;rw [HAL.out]) | (go_at_call 88;refine (Cd.isType_any _ _).mono ?_;rintro e w5 ⟨rfl,rfl⟩;rw [HRT.out]))
                  all_goals go_ret
                  all_goals exact ⟨Cd.ret_bool (by first | exact HF.out | (rw [← HF.out];simp;omega)),hb2.trans (hb4'.mono hb2.size)⟩
              · have HF:Hid (false=r):=by rw [Hid,← HR.out,HFK.out];unfold Cd.inR;simp;try omega
                go_wp2_with (first | (go_at_call 84;refine (HNM.out _ (by repeat (first | exact Below.refl _ _ | apply Below.drew))).mono ?_;rintro e w3 ⟨rfl,hb3a⟩;have hb3:=(show Below Y2.heap.size Y2 w3 from Below.trans (by repeat (first | exact Below.refl _ _ | apply Below.drew)) hb3a);obtain ⟨x0,x1,x2,x3,x4,x5⟩:=HCF.out w3 hb3) | (go_at_call 85;refine (HNUM.out _ (by first | exact hb3 | exact hb3.drew)).mono ?_;rintro e w4 ⟨rfl,hb4⟩;have hb4':=(show Below Y2.heap.size Y2 w4 from Below.trans (by first | exact hb3 | exact hb3.drew) (hb4.mono hb3.size));obtain ⟨v0,v1,v2,v3,v4,v5⟩:=HCF.out w4 hb4') | (go_at_call 86;refine (HTY.out w4 hb4').mono ?_;rintro e w5 ⟨rfl,rfl⟩;rw [HAL.out]) | (go_at_call 88;refine (Cd.isType_any _ _).mono ?_;rintro e w5 ⟨rfl,rfl⟩;rw [HRT.out]))
                all_goals go_ret
                all_goals exact ⟨Cd.ret_bool (by first | exact HF.out | (rw [← HF.out];simp;omega)),hb2.trans (hb4'.mono hb2.size)⟩
            · have r0b:(f.result != 0)=true:=by simp [r0]
              cases rt with
              | false =>
                have hrt:¬ (0≤f.result∧f.result≤10):=by
                  have h:=HRT.out
                  unfold Cd.isT Cd.inR at h
                  simp at h
                  omega
                clear r0
                have HF:Hid (false=r):=by rw [Hid,← HR.out,HFK.out];unfold Cd.inR;simp;try omega
                go_wp2_with (first | (go_at_call 84;refine (HNM.out _ (by repeat (first | exact Below.refl _ _ | apply Below.drew))).mono ?_;rintro e w3 ⟨rfl,hb3a⟩;have hb3:=(show Below Y2.heap.size Y2 w3 from Below.trans (by repeat (first | exact Below.refl _ _ | apply Below.drew)) hb3a);obtain ⟨x0,x1,x2,x3,x4,x5⟩:=HCF.out w3 hb3) | (go_at_call 85;refine (HNUM.out _ (by first | exact hb3 | exact hb3.drew)).mono ?_;rintro e w4 ⟨rfl,hb4⟩;have hb4':=(show Below Y2.heap.size Y2 w4 from Below.trans (by first | exact hb3 | exact hb3.drew) (hb4.mono hb3.size));obtain ⟨v0,v1,v2,v3,v4,v5⟩:=HCF.out w4 hb4') | (go_at_call 86;refine (HTY.out w4 hb4').mono ?_;rintro e w5 ⟨rfl,rfl⟩;rw [HAL.out]) | (go_at_call 88;refine (Cd.isType_any _ _).mono ?_;rintro e w5 ⟨rfl,rfl⟩;rw [HRT.out]))
                all_goals go_ret
                all_goals exact ⟨Cd.ret_bool (by first | exact HF.out | (rw [← HF.out];simp;omega)),hb2.trans (hb4'.mono hb2.size)⟩
              | true =>
                have r0l:0≤f.result∧f.result≤10:=by
                  have h:=HRT.out
                  unfold Cd.isT Cd.inR at h
                  simp at h
                  omega
                clear r0
                by_cases s1:(f.params.length:Int)≤f.slots
                · by_cases s2:f.slots≤200
                  · by_cases s3:(1:Int)≤(f.ins.length:Int)
                    · by_cases s4:(f.ins.length:Int)≤50000
                      · have HF:Hid (true=r):=by rw [Hid,← HR.out,HFK.out];unfold Cd.inR;simp;try omega
                        go_wp2_with (first | (go_at_call 84;refine (HNM.out _ (by repeat (first | exact Below.refl _ _ | apply Below.drew))).mono ?_;rintro e w3 ⟨rfl,hb3a⟩;have hb3:=(show Below Y2.heap.size Y2 w3 from Below.trans (by repeat (first | exact Below.refl _ _ | apply Below.drew)) hb3a);obtain ⟨x0,x1,x2,x3,x4,x5⟩:=HCF.out w3 hb3) | (go_at_call 85;refine (HNUM.out _ (by first | exact hb3 | exact hb3.drew)).mono ?_;rintro e w4 ⟨rfl,hb4⟩;have hb4':=(show Below Y2.heap.size Y2 w4 from Below.trans (by first | exact hb3 | exact hb3.drew) (hb4.mono hb3.size));obtain ⟨v0,v1,v2,v3,v4,v5⟩:=HCF.out w4 hb4') | (go_at_call 86;refine (HTY.out w4 hb4').mono ?_;rintro e w5 ⟨rfl,rfl⟩;rw [HAL.out]) | (go_at_call 88;refine (Cd.isType_any _ _).mono ?_;rintro e w5 ⟨rfl,rfl⟩;rw [HRT.out]))
                        all_goals go_ret
                        all_goals exact ⟨Cd.ret_bool (by first | exact HF.out | (rw [← HF.out];simp;omega)),hb2.trans (hb4'.mono hb2.size)⟩
                      · have HF:Hid (false=r):=by rw [Hid,← HR.out,HFK.out];unfold Cd.inR;simp;try omega
                        go_wp2_with (first | (go_at_call 84;refine (HNM.out _ (by repeat (first | exact Below.refl _ _ | apply Below.drew))).mono ?_;rintro e w3 ⟨rfl,hb3a⟩;have hb3:=(show Below Y2.heap.size Y2 w3 from Below.trans (by repeat (first | exact Below.refl _ _ | apply Below.drew)) hb3a);obtain ⟨x0,x1,x2,x3,x4,x5⟩:=HCF.out w3 hb3) | (go_at_call 85;refine (HNUM.out _ (by first | exact hb3 | exact hb3.drew)).mono ?_;rintro e w4 ⟨rfl,hb4⟩;have hb4':=(show Below Y2.heap.size Y2 w4 from Below.trans (by first | exact hb3 | exact hb3.drew) (hb4.mono hb3.size));obtain ⟨v0,v1,v2,v3,v4,v5⟩:=HCF.out w4 hb4') | (go_at_call 86;refine (HTY.out w4 hb4').mono ?_;rintro e w5 ⟨rfl,rfl⟩;rw [HAL.out]) | (go_at_call 88;refine (Cd.isType_any _ _).mono ?_;rintro e w5 ⟨rfl,rfl⟩;rw [HRT.out]))
                        all_goals go_ret
                        all_goals exact ⟨Cd.ret_bool (by first | exact HF.out | (rw [← HF.out];simp;omega)),hb2.trans (hb4'.mono hb2.size)⟩
                    · have HF:Hid (false=r):=by rw [Hid,← HR.out,HFK.out];unfold Cd.inR;simp;try omega
                      go_wp2_with (first | (go_at_call 84;refine (HNM.out _ (by repeat (first | exact Below.refl _ _ | apply Below.drew))).mono ?_;rintro e w3 ⟨rfl,hb3a⟩;have hb3:=(show Below Y2.heap.size Y2 w3 from Below.trans (by repeat (first | exact Below.refl _ _ | apply Below.drew)) hb3a);obtain ⟨x0,x1,x2,x3,x4,x5⟩:=HCF.out w3 hb3) | (go_at_call 85;refine (HNUM.out _ (by first | exact hb3 | exact hb3.drew)).mono ?_;rintro e w4 ⟨rfl,hb4⟩;have hb4':=(show Below Y2.heap.size Y2 w4 from Below.trans (by first | exact hb3 | exact hb3.drew) (hb4.mono hb3.size));obtain ⟨v0,v1,v2,v3,v4,v5⟩:=HCF.out w4 hb4') | (go_at_call 86;refine (HTY.out w4 hb4').mono ?_;rintro e w5 ⟨rfl,rfl⟩;rw [HAL.out]) | (go_at_call 88;refine (Cd.isType_any _ _).mono ?_;rintro e w5 ⟨rfl,rfl⟩;rw [HRT.out]))
                      all_goals go_ret
                      all_goals exact ⟨Cd.ret_bool (by first | exact HF.out | (rw [← HF.out];simp;omega)),hb2.trans (hb4'.mono hb2.size)⟩
                  · have HF:Hid (false=r):=by rw [Hid,← HR.out,HFK.out];unfold Cd.inR;simp;try omega
                    go_wp2_with (first | (go_at_call 84;refine (HNM.out _ (by repeat (first | exact Below.refl _ _ | apply Below.drew))).mono ?_;rintro e w3 ⟨rfl,hb3a⟩;have hb3:=(show Below Y2.heap.size Y2 w3 from Below.trans (by repeat (first | exact Below.refl _ _ | apply Below.drew)) hb3a);obtain ⟨x0,x1,x2,x3,x4,x5⟩:=HCF.out w3 hb3) | (go_at_call 85;refine (HNUM.out _ (by first | exact hb3 | exact hb3.drew)).mono ?_;rintro e w4 ⟨rfl,hb4⟩;have hb4':=(show Below Y2.heap.size Y2 w4 from Below.trans (by first | exact hb3 | exact hb3.drew) (hb4.mono hb3.size));obtain ⟨v0,v1,v2,v3,v4,v5⟩:=HCF.out w4 hb4') | (go_at_call 86;refine (HTY.out w4 hb4').mono ?_;rintro e w5 ⟨rfl,rfl⟩;rw [HAL.out]) | (go_at_call 88;refine (Cd.isType_any _ _).mono ?_;rintro e w5 ⟨rfl,rfl⟩;rw [HRT.out]))
                    all_goals go_ret
                    all_goals exact ⟨Cd.ret_bool (by first | exact HF.out | (rw [← HF.out];simp;omega)),hb2.trans (hb4'.mono hb2.size)⟩
                · have HF:Hid (false=r):=by rw [Hid,← HR.out,HFK.out];unfold Cd.inR;simp;try omega
                  go_wp2_with (first | (go_at_call 84;refine (HNM.out _ (by repeat (first | exact Below.refl _ _ | apply Below.drew))).mono ?_;rintro e w3 ⟨rfl,hb3a⟩;have hb3:=(show Below Y2.heap.size Y2 w3 from Below.trans (by repeat (first | exact Below.refl _ _ | apply Below.drew)) hb3a);obtain ⟨x0,x1,x2,x3,x4,x5⟩:=HCF.out w3 hb3) | (go_at_call 85;refine (HNUM.out _ (by first | exact hb3 | exact hb3.drew)).mono ?_;rintro e w4 ⟨rfl,hb4⟩;have hb4':=(show Below Y2.heap.size Y2 w4 from Below.trans (by first | exact hb3 | exact hb3.drew) (hb4.mono hb3.size));obtain ⟨v0,v1,v2,v3,v4,v5⟩:=HCF.out w4 hb4') | (go_at_call 86;refine (HTY.out w4 hb4').mono ?_;rintro e w5 ⟨rfl,rfl⟩;rw [HAL.out]) | (go_at_call 88;refine (Cd.isType_any _ _).mono ?_;rintro e w5 ⟨rfl,rfl⟩;rw [HRT.out]))
                  all_goals go_ret
                  all_goals exact ⟨Cd.ret_bool (by first | exact HF.out | (rw [← HF.out];simp;omega)),hb2.trans (hb4'.mono hb2.size)⟩
      · have q3I:(8:Int) < (f.params.length:Int):=by omega
        have HF:Hid (false=r):=by
          rw [Hid,← HR.out];unfold Cd.fnOk
          simp [q3]
        go_wp2_with fail
        first | (go_region_held3 (fun W=>W.cell? ⟨w.heap.size,0,none⟩=some (.slice (some ⟨g,0,none⟩) c.length cap)∧W.cell? ⟨w.heap.size+1,0,none⟩=some (.string f.name)) (first | exact ⟨y0,y1⟩ | exact ⟨x0,x1⟩ | exact ⟨v0,v1⟩) (first | (go_at_call 84;refine (HNM.out _ (by repeat (first | exact Below.refl _ _ | apply Below.drew))).mono ?_;rintro e w3 ⟨rfl,hb3a⟩;have hb3:=(show Below Y2.heap.size Y2 w3 from Below.trans (by repeat (first | exact Below.refl _ _ | apply Below.drew)) hb3a);obtain ⟨x0,x1,x2,x3,x4,x5⟩:=HCF.out w3 hb3) | (go_at_call 85;refine (HNUM.out _ (by first | exact hb3 | exact hb3.drew)).mono ?_;rintro e w4 ⟨rfl,hb4⟩;have hb4':=(show Below Y2.heap.size Y2 w4 from Below.trans (by first | exact hb3 | exact hb3.drew) (hb4.mono hb3.size));obtain ⟨v0,v1,v2,v3,v4,v5⟩:=HCF.out w4 hb4') | (go_at_call 86;refine (HTY.out w4 hb4').mono ?_;rintro e w5 ⟨rfl,rfl⟩;rw [HAL.out]) | (go_at_call 88;refine (Cd.isType_any _ _).mono ?_;rintro e w5 ⟨rfl,rfl⟩;rw [HRT.out]))) | fail
        all_goals go_wp2_with (first | (go_at_call 84;refine (HNM.out _ (by repeat (first | exact Below.refl _ _ | apply Below.drew))).mono ?_;rintro e w3 ⟨rfl,hb3a⟩;have hb3:=(show Below Y2.heap.size Y2 w3 from Below.trans (by repeat (first | exact Below.refl _ _ | apply Below.drew)) hb3a);obtain ⟨x0,x1,x2,x3,x4,x5⟩:=HCF.out w3 hb3) | (go_at_call 85;refine (HNUM.out _ (by first | exact hb3 | exact hb3.drew)).mono ?_;rintro e w4 ⟨rfl,hb4⟩;have hb4':=(show Below Y2.heap.size Y2 w4 from Below.trans (by first | exact hb3 | exact hb3.drew) (hb4.mono hb3.size));obtain ⟨v0,v1,v2,v3,v4,v5⟩:=HCF.out w4 hb4') | (go_at_call 86;refine (HTY.out w4 hb4').mono ?_;rintro e w5 ⟨rfl,rfl⟩;rw [HAL.out]) | (go_at_call 88;refine (Cd.isType_any _ _).mono ?_;rintro e w5 ⟨rfl,rfl⟩;rw [HRT.out]))
        all_goals go_ret
        all_goals exact ⟨Cd.ret_bool (by first | exact HF.out | (rw [← HF.out];simp;omega)),hb2.trans (hb4'.mono hb2.size)⟩
end Go.Proofs.YtbkhedpabfanoaaGreatDoor
