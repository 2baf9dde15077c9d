import Derived.Test.YtfjkahdghhbpnaaGreatDoorKTk
import Derived.Test.YtfjkahdghhbpnaaGreatDoorKCeE
import Derived.Test.YtfjkahdghhbpnaaGreatDoorKScanG
set_option maxRecDepth 100000
set_option maxHeartbeats 2000000
namespace Go.Proofs.YtfjkahdghhbpnaaGreatDoor
open Go.RowKit
theorem Ak.front {B:Nat} {w:World} {a:Option Addr} {n cap:Nat} {c:List Ae} (h:Ak B w (.slice a n cap) c) {m:Nat} (hm:m<=c.length):Ak B w (.slice a m cap) (c.take m):=by
 obtain⟨q,r,e,l⟩:=h
 injection e with e1 e2 e3
 subst e1
 refine⟨a,cap,by rw[List.length_take,Nat.min_eq_left hm],fun k hk => ?_⟩
 rw[List.length_take]at hk
 obtain⟨g,p,o,b,d,f,i,j⟩:=l k (by omega)
 exact⟨g,p,o,b,d,by rw[List.getElem_take];exact f,by rw[List.getElem_take];exact i,by rw[List.getElem_take];exact j⟩
theorem L6 {w w':World} {b:Nat} (h:Gc w b) (hb:Below w.heap.size w w'):Gc w' b :=
 World.ownsMap.kept (row:=none) h ⟨hb.os,hb.tape,hb.output,hb.size,fun k hk _=>hb.block k hk⟩ (by simp)
theorem Qbk (c:List Ae) (name:ByteArray):decide (0<=Eh c name)=c.any (fun g=>g.name.toList == name.toList):=by
 unfold Eh
 rcases Iq name c 0 with⟨a,b⟩|⟨j,k,a,b,l⟩
 ·have:c.any (fun g=>g.name.toList == name.toList)=false:=by
   rw[List.any_eq_false]
   intro f d
   obtain⟨i,h,rfl⟩:=List.getElem_of_mem d
   rw[b i h];simp
  rw[a,this];rfl
 ·have:c.any (fun g=>g.name.toList == name.toList)=true:=by
   rw[List.any_eq_true]
   exact⟨_,List.getElem_mem k,b⟩
  rw[a,this];simp
theorem To (c:List Ae) (k:Nat) (hk:k < c.length) (f:Ae) (hf:c[k]=f) (a:Option Addr) (cap mb:Nat) (hcl:c.length<=1048576) (hcap:c.length<=cap) (hnm:f.name.size<=1048576) (hpl:f.params.length<=1048576) (hil:f.ins.length<=1048576) (B:Nat) (w:World) (hB:B<=w.heap.size) (hC:Ak B w (.slice a c.length cap) c) (hM:Gc w mb) :
    Calls Tryz.prog 82 #[.agg #[.slice a c.length cap],.int .i64 (k:Int),.map (some mb)] w fun e w'=>e = .returned (.bool (Bw c k f))/\Below w.heap.size w w':=by
  obtain⟨g,au,pa,pc,ia,ic,ev,hg,d0,d1,d2,d3,d4,hP,-⟩:=hC.fn k hk
  injection ev with ev1 ev2 ev3
  subst ev1
  rw[hf]at d0 d1 d2 d3 d4 hP
  have HC:Hid (Ak B w (.slice (some ⟨g,0,none⟩) c.length cap) c):=hC
  have am:Hid (Ab B w (.slice pa f.params.length pc) f.params):=hP
  have HM:Hid (Gc w mb):=hM
  clear hC hP hM hf ev2 ev3
  obtain⟨Y1,ah⟩:∃ Y,w.alloc (.cells #[.slice (some ⟨g,0,none⟩) c.length cap] 38)=Y:=⟨_,rfl⟩
  have V:Below w.heap.size w Y1:=by rw[<- ah];exact A5 w _
  have an:Y1.heap.size=w.heap.size+1:=by rw[<- ah];exact World.size_alloc _ _
  have Z:Y1.heap[w.heap.size]? = some (.cells #[.slice (some ⟨g,0,none⟩) c.length cap] 38):=by rw[<- ah];exact Ag w _
  have ar:Y1.cell? ⟨w.heap.size,0,none⟩=some (.slice (some ⟨g,0,none⟩) c.length cap):=by rw[Lib.cell_of_heap Z];rfl
  have X:g < w.heap.size:=by omega
  have e0:=(V.cell (p:=⟨g,k * 5,none⟩) X).trans d0
  have e1:=(V.cell (p:=⟨g,k * 5+1,none⟩) X).trans d1
  have e2:=(V.cell (p:=⟨g,k * 5+2,none⟩) X).trans d2
  have e3:=(V.cell (p:=⟨g,k * 5+3,none⟩) X).trans d3
  have e4:=(V.cell (p:=⟨g,k * 5+4,none⟩) X).trans d4
  obtain⟨m,aa⟩:∃ Y,Y1.alloc (.cells #[.string f.name,.slice pa f.params.length pc,.int .i64 f.result,.int .i64 f.slots,.slice ia f.ins.length ic] 97)=Y:=⟨_,rfl⟩
  have u:Below w.heap.size w m:=by rw[<- aa];exact Ac V _
  have ay:m.heap.size=w.heap.size+2:=by rw[<- aa,World.size_alloc];omega
  have ad:m.heap[w.heap.size]? = some (.cells #[.slice (some ⟨g,0,none⟩) c.length cap] 38):=by rw[<- aa];exact Am _ Z
  have ae:m.heap[w.heap.size+1]? = some (.cells #[.string f.name,.slice pa f.params.length pc,.int .i64 f.result,.int .i64 f.slots,.slice ia f.ins.length ic] 97):=by rw[<- aa,<- an];exact Ag _ _
  have o:Hid (∀ W,Below m.heap.size m W->W.cell? ⟨w.heap.size,0,none⟩=some (.slice (some ⟨g,0,none⟩) c.length cap)/\W.cell? ⟨w.heap.size+1,0,none⟩=some (.string f.name)/\W.cell? ⟨w.heap.size+1,1,none⟩=some (.slice pa f.params.length pc)/\W.cell? ⟨w.heap.size+1,2,none⟩=some (.int .i64 f.result)/\W.cell? ⟨w.heap.size+1,3,none⟩=some (.int .i64 f.slots)/\W.cell? ⟨w.heap.size+1,4,none⟩=some (.slice ia f.ins.length ic)):=fun W hW=>by
    have h0:=(hW.block w.heap.size (by omega)).trans ad
    have h1:=(hW.block (w.heap.size+1) (by omega)).trans ae
    refine⟨?_, ?_, ?_, ?_, ?_, ?_⟩
    · rw[Lib.cell_of_heap h0];rfl
    · rw[Lib.cell_of_heap h1];rfl
    · rw[Lib.cell_of_heap h1];rfl
    · rw[Lib.cell_of_heap h1];rfl
    · rw[Lib.cell_of_heap h1];rfl
    · rw[Lib.cell_of_heap h1];rfl
  obtain⟨y0,y1,y2,y3,y4,y5⟩:=o.out m (Below.refl _ _)
  clear Z ad ae d0 d1 d2 d3 d4
  have av:(k:Int) < (c.length:Int):=by omega
  have aw:(k:Int)<=(cap:Int):=by omega
  obtain⟨r,U⟩:∃ r,Hid (Bw c k f=r):=⟨_,(rfl:Bw c k f=_)⟩
  rw[U.out]
  have x:Hid (∀ W,Below m.heap.size m W->Calls Tryz.prog 54 #[.slice (some ⟨g,0,none⟩) k cap,.string f.name] W fun e w'=>e = .returned (.int .i64 (Eh (c.take k) f.name))/\Below W.heap.size W w'):=fun W hW=>by
    have ab:=(show Below w.heap.size w W from u.trans (hW.mono u.size))
    have h:=Kw (c.take k) (some ⟨g,0,none⟩) cap f.name (by rw[List.length_take];omega) B W (Nat.le_trans hB ab.size) (by
      rw[List.length_take,Nat.min_eq_left (by omega)]
      exact(HC.out.below (ab.mono hB)).front (by omega))
    rw[List.length_take,Nat.min_eq_left (by omega)]at h
    exact h
  have af:=Qbk (c.take k) f.name
  obtain⟨nn,ak⟩:∃ n,Hid (Eh (c.take k) f.name=n):=⟨_,(rfl:Eh (c.take k) f.name=_)⟩
  rw[ak.out]at x af
  have E:Hid (∀ W,Below m.heap.size m W->Calls Tryz.prog 115 #[.slice pa f.params.length pc,.func (Fn.func 116) #[] #[]] W fun e w'=>e = .returned (.bool (!(f.params.all Ef)))/\W=w'):=fun W hW=>by
    have ab:=(show Below w.heap.size w W from u.trans (hW.mono u.size))
    exact Va f.params pa pc hpl B W (am.out.below (ab.mono hB))
  obtain⟨nb,ag⟩:∃ b,Hid (Br f.name=b):=⟨_,(rfl:Br f.name=_)⟩
  obtain⟨al,C⟩:∃ b,Hid (f.params.all Ef=b):=⟨_,(rfl:f.params.all Ef=_)⟩
  obtain⟨rt,A⟩:∃ b,Hid (Ef f.result=b):=⟨_,(rfl:Ef f.result=_)⟩
  have ai:Hid (decide (0<=nn)=(c.take k).any (fun g=>g.name.toList == f.name.toList)):=af
  have ac:Hid (f.params.all (fun t=>A4 t 1 10)=al):=C.out
  clear af
  have D:Hid (∀ W,Below m.heap.size m W->Calls Tryz.prog 114 #[.string f.name,.map (some mb)] W fun e w'=>e = .returned (.bool nb)/\Below W.heap.size W w'):=fun W hW=>isName_is f.name nb ag mb W hnm (L6 HM.out (u.trans (hW.mono u.size)))
  go_enter Tryz.func82,Tryz.ntmps82
  cases nb with
  | false =>
    have z:Hid (false=r):=by rw[Hid,<- U.out];unfold Bw;rw[ag.out];rfl
    go_wp2_with fail
    refine wp_region_held_drew (S:=fun W=>W.cell? ⟨w.heap.size+1,0,none⟩=some (.string f.name)) (by kernel_rfl) (y1) (fun hHeld => ?_)
    refine Tk 0 (.pointer (some ⟨w.heap.size+1,0,none⟩)) rfl ?_
    try simp[Act.put]
    refine Tk 1 (.string f.name) rfl ?_
    try simp[Act.put]
    refine Tk 2 (.map (some mb)) rfl ?_
    try simp[Act.put]
    refine wpAnyH_ready (rs:=[3]) (by kernel_rfl) (by simp) ?_
    refine AllReadyH.cons rfl (fun KK hK => ?_) AllReadyH.nil
    go_simp
    (go_at_call 114;refine(D.out _ (by repeat (first|exact Below.refl _ _|apply Below.drew))).mono ?_;rintro e y ⟨rfl,l⟩;have d:=(show Below m.heap.size m y from Below.trans (by repeat (first|exact Below.refl _ _|apply Below.drew)) l);obtain⟨I,G,L,M,N,O⟩:=o.out y d)
    go_wp2
    refine hK.out _ _ (G) (fun hHeld => ?_)
    clear hK
    try simp[Act.put]
    refine Tk 4 (.bool true) rfl ?_
    try simp[Act.put]
    refine Tk 5 (.bool true) rfl ?_
    try simp[Act.put]
    refine wpAnyH_take (i:=6) (v:=undef) rfl (by kernel_rfl) (by kernel_rfl) (by kernel_rfl) (fun _ _ _ h=>h) (Or.inr ⟨by rfl,rfl⟩) (by assumption) ?_
    try simp[Act.put]
    refine wpAnyH_take (i:=7) (v:=undef) rfl (by kernel_rfl) (by kernel_rfl) (by kernel_rfl) (fun _ _ _ h=>h) (Or.inr ⟨by rfl,rfl⟩) (by assumption) ?_
    try simp[Act.put]
    refine wpAnyH_take (i:=8) (v:=undef) rfl (by kernel_rfl) (by kernel_rfl) (by kernel_rfl) (fun _ _ _ h=>h) (Or.inr ⟨by rfl,rfl⟩) (by assumption) ?_
    try simp[Act.put]
    refine wpAnyH_take (i:=9) (v:=undef) rfl (by kernel_rfl) (by kernel_rfl) (by kernel_rfl) (fun _ _ _ h=>h) (Or.inr ⟨by rfl,rfl⟩) (by assumption) ?_
    try simp[Act.put]
    refine wpAnyH_take (i:=10) (v:=undef) rfl (by kernel_rfl) (by kernel_rfl) (by kernel_rfl) (fun _ _ _ h=>h) (Or.inr ⟨by rfl,rfl⟩) (by assumption) ?_
    try simp[Act.put]
    refine wpAnyH_take (i:=11) (v:=undef) rfl (by kernel_rfl) (by kernel_rfl) (by kernel_rfl) (fun _ _ _ h=>h) (Or.inr ⟨by rfl,rfl⟩) (by assumption) ?_
    try simp[Act.put]
    refine wpAnyH_take (i:=12) (v:=undef) rfl (by kernel_rfl) (by kernel_rfl) (by kernel_rfl) (fun _ _ _ h=>h) (Or.inr ⟨by rfl,rfl⟩) (by assumption) ?_
    try simp[Act.put]
    refine wpAnyH_take (i:=13) (v:=undef) rfl (by kernel_rfl) (by kernel_rfl) (by kernel_rfl) (fun _ _ _ h=>h) (Or.inr ⟨by rfl,rfl⟩) (by assumption) ?_
    try simp[Act.put]
    refine Tk 14 (.bool true) rfl ?_
    try simp[Act.put]
    refine wpAnyH_done (by kernel_rfl) ?_ _
    all_goals go_wp2_with (first|(go_at_call 114;refine(D.out _ (by repeat (first|exact Below.refl _ _|apply Below.drew))).mono ?_;rintro e y ⟨rfl,l⟩;have d:=(show Below m.heap.size m y from Below.trans (by repeat (first|exact Below.refl _ _|apply Below.drew)) l);obtain⟨I,G,L,M,N,O⟩:=o.out y d)|(go_at_call 54;refine(x.out _ (by first|exact d|exact d.drew)).mono ?_;rintro e s ⟨rfl,q⟩;have j:=(show Below m.heap.size m s from Below.trans (by first|exact d|exact d.drew) (q.mono d.size));obtain⟨J,K,P,Q,R,T⟩:=o.out s j)|(go_at_call 115;refine(E.out s j).mono ?_;rintro e F ⟨rfl,rfl⟩;rw[C.out])|(go_at_call 117;refine(B4 _ _).mono ?_;rintro e F ⟨rfl,rfl⟩;rw[A.out]))
    all_goals go_ret
    all_goals exact⟨As z.out,u.trans (d.mono u.size)⟩
  | true =>
    by_cases q2:0<=nn
    · have z:Hid (false=r):=by
        rw[Hid,<- U.out];unfold Bw
        rw[<- ai.out]
        simp[q2]
      go_wp2_with fail
      first|(go_region_held3 (fun W=>W.cell? ⟨w.heap.size,0,none⟩=some (.slice (some ⟨g,0,none⟩) c.length cap)/\W.cell? ⟨w.heap.size+1,0,none⟩=some (.string f.name)) (first|exact⟨y0,y1⟩|exact⟨I,G⟩|exact⟨J,K⟩) (first|(go_at_call 114;refine(D.out _ (by repeat (first|exact Below.refl _ _|apply Below.drew))).mono ?_;rintro e y ⟨rfl,l⟩;have d:=(show Below m.heap.size m y from Below.trans (by repeat (first|exact Below.refl _ _|apply Below.drew)) l);obtain⟨I,G,L,M,N,O⟩:=o.out y d)|(go_at_call 54;refine(x.out _ (by first|exact d|exact d.drew)).mono ?_;rintro e s ⟨rfl,q⟩;have j:=(show Below m.heap.size m s from Below.trans (by first|exact d|exact d.drew) (q.mono d.size));obtain⟨J,K,P,Q,R,T⟩:=o.out s j)|(go_at_call 115;refine(E.out s j).mono ?_;rintro e F ⟨rfl,rfl⟩;rw[C.out])|(go_at_call 117;refine(B4 _ _).mono ?_;rintro e F ⟨rfl,rfl⟩;rw[A.out])))|fail
      all_goals go_wp2_with (first|(go_at_call 114;refine(D.out _ (by repeat (first|exact Below.refl _ _|apply Below.drew))).mono ?_;rintro e y ⟨rfl,l⟩;have d:=(show Below m.heap.size m y from Below.trans (by repeat (first|exact Below.refl _ _|apply Below.drew)) l);obtain⟨I,G,L,M,N,O⟩:=o.out y d)|(go_at_call 54;refine(x.out _ (by first|exact d|exact d.drew)).mono ?_;rintro e s ⟨rfl,q⟩;have j:=(show Below m.heap.size m s from Below.trans (by first|exact d|exact d.drew) (q.mono d.size));obtain⟨J,K,P,Q,R,T⟩:=o.out s j)|(go_at_call 115;refine(E.out s j).mono ?_;rintro e F ⟨rfl,rfl⟩;rw[C.out])|(go_at_call 117;refine(B4 _ _).mono ?_;rintro e F ⟨rfl,rfl⟩;rw[A.out]))
      all_goals go_ret
      all_goals exact⟨As (by first|exact z.out|(rw[<- z.out];simp;omega)),u.trans (j.mono u.size)⟩
    · have az:¬ (0:Int)<=nn:=q2
      have aj:Hid ((c.take k).any (fun g=>g.name.toList == f.name.toList)=false):=by rw[Hid,<- ai.out];simp;omega
      by_cases q3:f.params.length<=8
      · have ao:¬ (8:Int) < (f.params.length:Int):=by omega
        cases al with
        | false =>
          have z:Hid (false=r):=by
            rw[Hid,<- U.out];unfold Bw
            rw[ac.out]
            simp
          go_wp2_with fail
          first|(go_region_held3 (fun W=>W.cell? ⟨w.heap.size,0,none⟩=some (.slice (some ⟨g,0,none⟩) c.length cap)/\W.cell? ⟨w.heap.size+1,0,none⟩=some (.string f.name)) (first|exact⟨y0,y1⟩|exact⟨I,G⟩|exact⟨J,K⟩) (first|(go_at_call 114;refine(D.out _ (by repeat (first|exact Below.refl _ _|apply Below.drew))).mono ?_;rintro e y ⟨rfl,l⟩;have d:=(show Below m.heap.size m y from Below.trans (by repeat (first|exact Below.refl _ _|apply Below.drew)) l);obtain⟨I,G,L,M,N,O⟩:=o.out y d)|(go_at_call 54;refine(x.out _ (by first|exact d|exact d.drew)).mono ?_;rintro e s ⟨rfl,q⟩;have j:=(show Below m.heap.size m s from Below.trans (by first|exact d|exact d.drew) (q.mono d.size));obtain⟨J,K,P,Q,R,T⟩:=o.out s j)|(go_at_call 115;refine(E.out s j).mono ?_;rintro e F ⟨rfl,rfl⟩;rw[C.out])|(go_at_call 117;refine(B4 _ _).mono ?_;rintro e F ⟨rfl,rfl⟩;rw[A.out])))|fail
          all_goals go_wp2_with (first|(go_at_call 114;refine(D.out _ (by repeat (first|exact Below.refl _ _|apply Below.drew))).mono ?_;rintro e y ⟨rfl,l⟩;have d:=(show Below m.heap.size m y from Below.trans (by repeat (first|exact Below.refl _ _|apply Below.drew)) l);obtain⟨I,G,L,M,N,O⟩:=o.out y d)|(go_at_call 54;refine(x.out _ (by first|exact d|exact d.drew)).mono ?_;rintro e s ⟨rfl,q⟩;have j:=(show Below m.heap.size m s from Below.trans (by first|exact d|exact d.drew) (q.mono d.size));obtain⟨J,K,P,Q,R,T⟩:=o.out s j)|(go_at_call 115;refine(E.out s j).mono ?_;rintro e F ⟨rfl,rfl⟩;rw[C.out])|(go_at_call 117;refine(B4 _ _).mono ?_;rintro e F ⟨rfl,rfl⟩;rw[A.out]))
          all_goals go_ret
          all_goals exact⟨As (by first|exact z.out|(rw[<- z.out];simp;omega)),u.trans (j.mono u.size)⟩
        | true =>
          have H:Hid (Bw c k f=(A4 f.result 0 10 && A4 f.slots (f.params.length:Int) 200 && A4 (f.ins.length:Int) 1 50000)):=by
            rw[Hid]
            unfold Bw
            rw[ag.out,ac.out,aj.out]
            simp[q3]
          go_wp2_with fail
          first|(go_region_held3 (fun W=>W.cell? ⟨w.heap.size,0,none⟩=some (.slice (some ⟨g,0,none⟩) c.length cap)/\W.cell? ⟨w.heap.size+1,0,none⟩=some (.string f.name)) (first|exact⟨y0,y1⟩|exact⟨I,G⟩|exact⟨J,K⟩) (first|(go_at_call 114;refine(D.out _ (by repeat (first|exact Below.refl _ _|apply Below.drew))).mono ?_;rintro e y ⟨rfl,l⟩;have d:=(show Below m.heap.size m y from Below.trans (by repeat (first|exact Below.refl _ _|apply Below.drew)) l);obtain⟨I,G,L,M,N,O⟩:=o.out y d)|(go_at_call 54;refine(x.out _ (by first|exact d|exact d.drew)).mono ?_;rintro e s ⟨rfl,q⟩;have j:=(show Below m.heap.size m s from Below.trans (by first|exact d|exact d.drew) (q.mono d.size));obtain⟨J,K,P,Q,R,T⟩:=o.out s j)|(go_at_call 115;refine(E.out s j).mono ?_;rintro e F ⟨rfl,rfl⟩;rw[C.out])|(go_at_call 117;refine(B4 _ _).mono ?_;rintro e F ⟨rfl,rfl⟩;rw[A.out])))|fail
          all_goals
            by_cases r0:f.result=0
            · have ap:(f.result != 0)=false:=by simp[r0]
              have aq:0<=f.result/\f.result<=10:=by omega
              clear r0
              by_cases s1:(f.params.length:Int)<=f.slots
              · by_cases s2:f.slots<=200
                · by_cases s3:(1:Int)<=(f.ins.length:Int)
                  · by_cases s4:(f.ins.length:Int)<=50000
                    · have z:Hid (true=r):=by rw[Hid,<- U.out,H.out];unfold A4;simp;try omega
                      go_wp2_with (first|(go_at_call 114;refine(D.out _ (by repeat (first|exact Below.refl _ _|apply Below.drew))).mono ?_;rintro e y ⟨rfl,l⟩;have d:=(show Below m.heap.size m y from Below.trans (by repeat (first|exact Below.refl _ _|apply Below.drew)) l);obtain⟨I,G,L,M,N,O⟩:=o.out y d)|(go_at_call 54;refine(x.out _ (by first|exact d|exact d.drew)).mono ?_;rintro e s ⟨rfl,q⟩;have j:=(show Below m.heap.size m s from Below.trans (by first|exact d|exact d.drew) (q.mono d.size));obtain⟨J,K,P,Q,R,T⟩:=o.out s j)|(go_at_call 115;refine(E.out s j).mono ?_;rintro e F ⟨rfl,rfl⟩;rw[C.out])|(go_at_call 117;refine(B4 _ _).mono ?_;rintro e F ⟨rfl,rfl⟩;rw[A.out]))
                      all_goals go_ret
                      all_goals exact⟨As (by first|exact z.out|(rw[<- z.out];simp;omega)),u.trans (j.mono u.size)⟩
                    · have z:Hid (false=r):=by rw[Hid,<- U.out,H.out];unfold A4;simp;try omega
                      go_wp2_with (first|(go_at_call 114;refine(D.out _ (by repeat (first|exact Below.refl _ _|apply Below.drew))).mono ?_;rintro e y ⟨rfl,l⟩;have d:=(show Below m.heap.size m y from Below.trans (by repeat (first|exact Below.refl _ _|apply Below.drew)) l);obtain⟨I,G,L,M,N,O⟩:=o.out y d)|(go_at_call 54;refine(x.out _ (by first|exact d|exact d.drew)).mono ?_;rintro e s ⟨rfl,q⟩;have j:=(show Below m.heap.size m s from Below.trans (by first|exact d|exact d.drew) (q.mono d.size));obtain⟨J,K,P,Q,R,T⟩:=o.out s j)|(go_at_call 115;refine(E.out s j).mono ?_;rintro e F ⟨rfl,rfl⟩;rw[C.out])|(go_at_call 117;refine(B4 _ _).mono ?_;rintro e F ⟨rfl,rfl⟩;rw[A.out]))
                      all_goals go_ret
                      all_goals exact⟨As (by first|exact z.out|(rw[<- z.out];simp;omega)),u.trans (j.mono u.size)⟩
                  · have z:Hid (false=r):=by rw[Hid,<- U.out,H.out];unfold A4;simp;try omega
                    go_wp2_with (first|(go_at_call 114;refine(D.out _ (by repeat (first|exact Below.refl _ _|apply Below.drew))).mono ?_;rintro e y ⟨rfl,l⟩;have d:=(show Below m.heap.size m y from Below.trans (by repeat (first|exact Below.refl _ _|apply Below.drew)) l);obtain⟨I,G,L,M,N,O⟩:=o.out y d)|(go_at_call 54;refine(x.out _ (by first|exact d|exact d.drew)).mono ?_;rintro e s ⟨rfl,q⟩;have j:=(show Below m.heap.size m s from Below.trans (by first|exact d|exact d.drew) (q.mono d.size));obtain⟨J,K,P,Q,R,T⟩:=o.out s j)|(go_at_call 115;refine(E.out s j).mono ?_;rintro e F ⟨rfl,rfl⟩;rw[C.out])|(go_at_call 117;refine(B4 _ _).mono ?_;rintro e F ⟨rfl,rfl⟩;rw[A.out]))
                    all_goals go_ret
                    all_goals exact⟨As (by first|exact z.out|(rw[<- z.out];simp;omega)),u.trans (j.mono u.size)⟩
                · have z:Hid (false=r):=by rw[Hid,<- U.out,H.out];unfold A4;simp;try omega
                  go_wp2_with (first|(go_at_call 114;refine(D.out _ (by repeat (first|exact Below.refl _ _|apply Below.drew))).mono ?_;rintro e y ⟨rfl,l⟩;have d:=(show Below m.heap.size m y from Below.trans (by repeat (first|exact Below.refl _ _|apply Below.drew)) l);obtain⟨I,G,L,M,N,O⟩:=o.out y d)|(go_at_call 54;refine(x.out _ (by first|exact d|exact d.drew)).mono ?_;rintro e s ⟨rfl,q⟩;have j:=(show Below m.heap.size m s from Below.trans (by first|exact d|exact d.drew) (q.mono d.size));obtain⟨J,K,P,Q,R,T⟩:=o.out s j)|(go_at_call 115;refine(E.out s j).mono ?_;rintro e F ⟨rfl,rfl⟩;rw[C.out])|(go_at_call 117;refine(B4 _ _).mono ?_;rintro e F ⟨rfl,rfl⟩;rw[A.out]))
                  all_goals go_ret
                  all_goals exact⟨As (by first|exact z.out|(rw[<- z.out];simp;omega)),u.trans (j.mono u.size)⟩
              · have z:Hid (false=r):=by rw[Hid,<- U.out,H.out];unfold A4;simp;try omega
                go_wp2_with (first|(go_at_call 114;refine(D.out _ (by repeat (first|exact Below.refl _ _|apply Below.drew))).mono ?_;rintro e y ⟨rfl,l⟩;have d:=(show Below m.heap.size m y from Below.trans (by repeat (first|exact Below.refl _ _|apply Below.drew)) l);obtain⟨I,G,L,M,N,O⟩:=o.out y d)|(go_at_call 54;refine(x.out _ (by first|exact d|exact d.drew)).mono ?_;rintro e s ⟨rfl,q⟩;have j:=(show Below m.heap.size m s from Below.trans (by first|exact d|exact d.drew) (q.mono d.size));obtain⟨J,K,P,Q,R,T⟩:=o.out s j)|(go_at_call 115;refine(E.out s j).mono ?_;rintro e F ⟨rfl,rfl⟩;rw[C.out])|(go_at_call 117;refine(B4 _ _).mono ?_;rintro e F ⟨rfl,rfl⟩;rw[A.out]))
                all_goals go_ret
                all_goals exact⟨As (by first|exact z.out|(rw[<- z.out];simp;omega)),u.trans (j.mono u.size)⟩
            · have ap:(f.result != 0)=true:=by simp[r0]
              cases rt with
              | false =>
                have ax:¬ (0<=f.result/\f.result<=10):=by
                  have h:=A.out
                  unfold Ef A4 at h
                  simp at h
                  omega
                clear r0
                have z:Hid (false=r):=by rw[Hid,<- U.out,H.out];unfold A4;simp;try omega
                go_wp2_with (first|(go_at_call 114;refine(D.out _ (by repeat (first|exact Below.refl _ _|apply Below.drew))).mono ?_;rintro e y ⟨rfl,l⟩;have d:=(show Below m.heap.size m y from Below.trans (by repeat (first|exact Below.refl _ _|apply Below.drew)) l);obtain⟨I,G,L,M,N,O⟩:=o.out y d)|(go_at_call 54;refine(x.out _ (by first|exact d|exact d.drew)).mono ?_;rintro e s ⟨rfl,q⟩;have j:=(show Below m.heap.size m s from Below.trans (by first|exact d|exact d.drew) (q.mono d.size));obtain⟨J,K,P,Q,R,T⟩:=o.out s j)|(go_at_call 115;refine(E.out s j).mono ?_;rintro e F ⟨rfl,rfl⟩;rw[C.out])|(go_at_call 117;refine(B4 _ _).mono ?_;rintro e F ⟨rfl,rfl⟩;rw[A.out]))
                all_goals go_ret
                all_goals exact⟨As (by first|exact z.out|(rw[<- z.out];simp;omega)),u.trans (j.mono u.size)⟩
              | true =>
                have aq:0<=f.result/\f.result<=10:=by
                  have h:=A.out
                  unfold Ef A4 at h
                  simp at h
                  omega
                clear r0
                by_cases s1:(f.params.length:Int)<=f.slots
                · by_cases s2:f.slots<=200
                  · by_cases s3:(1:Int)<=(f.ins.length:Int)
                    · by_cases s4:(f.ins.length:Int)<=50000
                      · have z:Hid (true=r):=by rw[Hid,<- U.out,H.out];unfold A4;simp;try omega
                        go_wp2_with (first|(go_at_call 114;refine(D.out _ (by repeat (first|exact Below.refl _ _|apply Below.drew))).mono ?_;rintro e y ⟨rfl,l⟩;have d:=(show Below m.heap.size m y from Below.trans (by repeat (first|exact Below.refl _ _|apply Below.drew)) l);obtain⟨I,G,L,M,N,O⟩:=o.out y d)|(go_at_call 54;refine(x.out _ (by first|exact d|exact d.drew)).mono ?_;rintro e s ⟨rfl,q⟩;have j:=(show Below m.heap.size m s from Below.trans (by first|exact d|exact d.drew) (q.mono d.size));obtain⟨J,K,P,Q,R,T⟩:=o.out s j)|(go_at_call 115;refine(E.out s j).mono ?_;rintro e F ⟨rfl,rfl⟩;rw[C.out])|(go_at_call 117;refine(B4 _ _).mono ?_;rintro e F ⟨rfl,rfl⟩;rw[A.out]))
                        all_goals go_ret
                        all_goals exact⟨As (by first|exact z.out|(rw[<- z.out];simp;omega)),u.trans (j.mono u.size)⟩
                      · have z:Hid (false=r):=by rw[Hid,<- U.out,H.out];unfold A4;simp;try omega
                        go_wp2_with (first|(go_at_call 114;refine(D.out _ (by repeat (first|exact Below.refl _ _|apply Below.drew))).mono ?_;rintro e y ⟨rfl,l⟩;have d:=(show Below m.heap.size m y from Below.trans (by repeat (first|exact Below.refl _ _|apply Below.drew)) l);obtain⟨I,G,L,M,N,O⟩:=o.out y d)|(go_at_call 54;refine(x.out _ (by first|exact d|exact d.drew)).mono ?_;rintro e s ⟨rfl,q⟩;have j:=(show Below m.heap.size m s from Below.trans (by first|exact d|exact d.drew) (q.mono d.size));obtain⟨J,K,P,Q,R,T⟩:=o.out s j)|(go_at_call 115;refine(E.out s j).mono ?_;rintro e F ⟨rfl,rfl⟩;rw[C.out])|(go_at_call 117;refine(B4 _ _).mono ?_;rintro e F ⟨rfl,rfl⟩;rw[A.out]))
                        all_goals go_ret
                        all_goals exact⟨As (by first|exact z.out|(rw[<- z.out];simp;omega)),u.trans (j.mono u.size)⟩
                    · have z:Hid (false=r):=by rw[Hid,<- U.out,H.out];unfold A4;simp;try omega
                      go_wp2_with (first|(go_at_call 114;refine(D.out _ (by repeat (first|exact Below.refl _ _|apply Below.drew))).mono ?_;rintro e y ⟨rfl,l⟩;have d:=(show Below m.heap.size m y from Below.trans (by repeat (first|exact Below.refl _ _|apply Below.drew)) l);obtain⟨I,G,L,M,N,O⟩:=o.out y d)|(go_at_call 54;refine(x.out _ (by first|exact d|exact d.drew)).mono ?_;rintro e s ⟨rfl,q⟩;have j:=(show Below m.heap.size m s from Below.trans (by first|exact d|exact d.drew) (q.mono d.size));obtain⟨J,K,P,Q,R,T⟩:=o.out s j)|(go_at_call 115;refine(E.out s j).mono ?_;rintro e F ⟨rfl,rfl⟩;rw[C.out])|(go_at_call 117;refine(B4 _ _).mono ?_;rintro e F ⟨rfl,rfl⟩;rw[A.out]))
                      all_goals go_ret
                      all_goals exact⟨As (by first|exact z.out|(rw[<- z.out];simp;omega)),u.trans (j.mono u.size)⟩
                  · have z:Hid (false=r):=by rw[Hid,<- U.out,H.out];unfold A4;simp;try omega
                    go_wp2_with (first|(go_at_call 114;refine(D.out _ (by repeat (first|exact Below.refl _ _|apply Below.drew))).mono ?_;rintro e y ⟨rfl,l⟩;have d:=(show Below m.heap.size m y from Below.trans (by repeat (first|exact Below.refl _ _|apply Below.drew)) l);obtain⟨I,G,L,M,N,O⟩:=o.out y d)|(go_at_call 54;refine(x.out _ (by first|exact d|exact d.drew)).mono ?_;rintro e s ⟨rfl,q⟩;have j:=(show Below m.heap.size m s from Below.trans (by first|exact d|exact d.drew) (q.mono d.size));obtain⟨J,K,P,Q,R,T⟩:=o.out s j)|(go_at_call 115;refine(E.out s j).mono ?_;rintro e F ⟨rfl,rfl⟩;rw[C.out])|(go_at_call 117;refine(B4 _ _).mono ?_;rintro e F ⟨rfl,rfl⟩;rw[A.out]))
                    all_goals go_ret
                    all_goals exact⟨As (by first|exact z.out|(rw[<- z.out];simp;omega)),u.trans (j.mono u.size)⟩
                · have z:Hid (false=r):=by rw[Hid,<- U.out,H.out];unfold A4;simp;try omega
                  go_wp2_with (first|(go_at_call 114;refine(D.out _ (by repeat (first|exact Below.refl _ _|apply Below.drew))).mono ?_;rintro e y ⟨rfl,l⟩;have d:=(show Below m.heap.size m y from Below.trans (by repeat (first|exact Below.refl _ _|apply Below.drew)) l);obtain⟨I,G,L,M,N,O⟩:=o.out y d)|(go_at_call 54;refine(x.out _ (by first|exact d|exact d.drew)).mono ?_;rintro e s ⟨rfl,q⟩;have j:=(show Below m.heap.size m s from Below.trans (by first|exact d|exact d.drew) (q.mono d.size));obtain⟨J,K,P,Q,R,T⟩:=o.out s j)|(go_at_call 115;refine(E.out s j).mono ?_;rintro e F ⟨rfl,rfl⟩;rw[C.out])|(go_at_call 117;refine(B4 _ _).mono ?_;rintro e F ⟨rfl,rfl⟩;rw[A.out]))
                  all_goals go_ret
                  all_goals exact⟨As (by first|exact z.out|(rw[<- z.out];simp;omega)),u.trans (j.mono u.size)⟩
      · have ao:(8:Int) < (f.params.length:Int):=by omega
        have z:Hid (false=r):=by
          rw[Hid,<- U.out];unfold Bw
          simp[q3]
        go_wp2_with fail
        first|(go_region_held3 (fun W=>W.cell? ⟨w.heap.size,0,none⟩=some (.slice (some ⟨g,0,none⟩) c.length cap)/\W.cell? ⟨w.heap.size+1,0,none⟩=some (.string f.name)) (first|exact⟨y0,y1⟩|exact⟨I,G⟩|exact⟨J,K⟩) (first|(go_at_call 114;refine(D.out _ (by repeat (first|exact Below.refl _ _|apply Below.drew))).mono ?_;rintro e y ⟨rfl,l⟩;have d:=(show Below m.heap.size m y from Below.trans (by repeat (first|exact Below.refl _ _|apply Below.drew)) l);obtain⟨I,G,L,M,N,O⟩:=o.out y d)|(go_at_call 54;refine(x.out _ (by first|exact d|exact d.drew)).mono ?_;rintro e s ⟨rfl,q⟩;have j:=(show Below m.heap.size m s from Below.trans (by first|exact d|exact d.drew) (q.mono d.size));obtain⟨J,K,P,Q,R,T⟩:=o.out s j)|(go_at_call 115;refine(E.out s j).mono ?_;rintro e F ⟨rfl,rfl⟩;rw[C.out])|(go_at_call 117;refine(B4 _ _).mono ?_;rintro e F ⟨rfl,rfl⟩;rw[A.out])))|fail
        all_goals go_wp2_with (first|(go_at_call 114;refine(D.out _ (by repeat (first|exact Below.refl _ _|apply Below.drew))).mono ?_;rintro e y ⟨rfl,l⟩;have d:=(show Below m.heap.size m y from Below.trans (by repeat (first|exact Below.refl _ _|apply Below.drew)) l);obtain⟨I,G,L,M,N,O⟩:=o.out y d)|(go_at_call 54;refine(x.out _ (by first|exact d|exact d.drew)).mono ?_;rintro e s ⟨rfl,q⟩;have j:=(show Below m.heap.size m s from Below.trans (by first|exact d|exact d.drew) (q.mono d.size));obtain⟨J,K,P,Q,R,T⟩:=o.out s j)|(go_at_call 115;refine(E.out s j).mono ?_;rintro e F ⟨rfl,rfl⟩;rw[C.out])|(go_at_call 117;refine(B4 _ _).mono ?_;rintro e F ⟨rfl,rfl⟩;rw[A.out]))
        all_goals go_ret
        all_goals exact⟨As (by first|exact z.out|(rw[<- z.out];simp;omega)),u.trans (j.mono u.size)⟩
end Go.Proofs.YtfjkahdghhbpnaaGreatDoor
