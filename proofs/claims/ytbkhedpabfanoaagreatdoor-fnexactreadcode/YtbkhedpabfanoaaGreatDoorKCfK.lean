import Derived.Test.YtbkhedpabfanoaaGreatDoorKCfJ
namespace Go.Proofs.YtbkhedpabfanoaaGreatDoor
open Go.RowKit

set_option maxRecDepth 100000 in
set_option maxHeartbeats 4000000 in
theorem Cd.left_pos (c:List Cd.Fn) (f:Cd.Fn) (i:Cd.Ins) (at':Nat) (hat:at' < f.ins.length) (hie:f.ins[at']=i) (hil:f.ins.length≤50000) (hcl:c.length≤60) (hpl:∀ g ∈ c,g.params.length≤8) (hok:Cd.insOk c f i=true) (X:List Cd.Sh) (hX:X.length=f.ins.length) (st0:Int) (sb0 kb0:ByteArray) (hst0:Cd.st (X[at']'(by omega))=st0) (hsb0:Cd.sb (X[at']'(by omega))=sb0) (hkb0:Cd.kb (X[at']'(by omega))=kb0) (hst1:st0=1) (s k tk:List Int) (hsbs:sb0=Cd.bs s) (hkbs:kb0=Cd.bs k) (hs:∀ t ∈ s,0≤t∧t≤10) (hsl:s.length=f.slots.toNat) (hs2:s.length≤200) (hkt:∀ t ∈ k,1≤t∧t≤10) (r:Nat) (hreach:Cd.Reach c f i s k) (hfns:Cd.Fns c) (htk:k.drop r=tk) (hpos:r+(Cd.ents c f i).length=kb0.size) (hk6:kb0.size≤600) (hel:(Cd.ents c f i).length≤8) (ca ia:Option Addr) (cc ic:Nat) (pv wv:Value) (lc gl:Nat) (g:Nat) (w:World) (hIn:Cd.LeftIn c f at' ca ia cc ic lc gl g X pv wv w) :
    Calls Tryz.prog 92 #[.pointer (some ⟨g,0,none⟩),.int .i64 (at':Int)] w fun e w'=>e = .returned (Cd.lay (Cd.leftP c f i at' s k))∧Below w.heap.size w w':=by
  obtain ⟨gi,rfl,hgi,-⟩:=hIn.ins.cells at' hat
  have HIN:Hid (Cd.LeftIn c f at' ca (some ⟨gi,0,none⟩) cc ic lc gl g X pv wv w):=hIn
  have HS:Hid (∀ W,Below w.heap.size w W→W.cell? ⟨g,6,none⟩=some (.slice (some ⟨gl,0,none⟩) f.ins.length lc)∧W.cell? ⟨g,5,none⟩=some (.slice (some ⟨gi,0,none⟩) f.ins.length ic)∧W.cell? ⟨gl,at' * 3,none⟩=some (.int .i64 st0)∧W.cell? ⟨gl,at' * 3+1,none⟩=some (.string sb0)∧W.cell? ⟨gl,at' * 3+2,none⟩=some (.string kb0)∧W.cell? ⟨gi,at' * 4,none⟩=some (.int .i64 i.op)∧W.cell? ⟨gi,at' * 4+1,none⟩=some (.int .i64 i.a)∧W.cell? ⟨gi,at' * 4+2,none⟩=some (.int .i64 i.n)∧W.cell? ⟨gi,at' * 4+3,none⟩=some (.string i.text)):=fun W hW=>by
    have h:=HIN.out.below hW
    obtain ⟨-,-,-,-,-,u5,u6,-⟩:=h.tr.cells
    obtain ⟨l0,l1,l2⟩:=h.lays.cells at' (by omega)
    rw [hst0] at l0
    rw [hsb0] at l1
    rw [hkb0] at l2
    obtain ⟨g2,e2,-,i0,i1,i2,i3⟩:=h.ins.cells at' hat
    injection e2 with e2
    injection e2 with e2
    subst e2
    rw [hie] at i0 i1 i2 i3
    exact ⟨u6,u5,l0,l1,l2,i0,i1,i2,i3⟩
  have hatI:(at':Int) < (f.ins.length:Int):=by omega
  clear hIn hie hst0 hsb0 hkb0
  obtain ⟨op,a,n,text⟩:=i
  simp only at HS
  obtain ⟨es,HES⟩:∃ es,Hid (Cd.ents c f ⟨op,a,n,text⟩=es):=⟨_,(rfl:Cd.ents c f ⟨op,a,n,text⟩=_)⟩
  obtain ⟨L,HL⟩:∃ L,Hid (es.length=L):=⟨_,(rfl:es.length=_)⟩
  rw [HES.out,HL.out] at hel hpos
  have hwr:wrap64 ((kb0.size:Int) - (L:Int))=(r:Int):=(IntWalk.wrap64_in _ (by omega)).trans (by omega)
  have hr0:¬ (r:Int) < 0:=by omega
  have HK6:Hid (kb0.size≤600):=hk6
  have HEL:Hid (L≤8):=hel
  have HPOS:Hid (r+L=kb0.size):=hpos
  obtain ⟨gs,HGS⟩:∃ gs,Hid (Cd.nats (Cd.goes ⟨op,a,n,text⟩ at')=gs):=⟨_,(rfl:Cd.nats (Cd.goes ⟨op,a,n,text⟩ at')=_)⟩
  have HGL:Hid (gs.length≤2):=by
    rw [Hid,← HGS.out];unfold Cd.nats Cd.goes;rw [List.length_map]
    repeat' (first | split)
    all_goals simp
  obtain ⟨bc,HBC⟩:∃ b,Hid (decide ((f.ins.length:Int) ∈ gs)=b):=⟨_,(rfl:decide ((f.ins.length:Int) ∈ gs)=_)⟩
  have HGO:Hid (∀ W,Below w.heap.size w W→Calls Tryz.prog 93 #[.agg #[.int .i64 op,.int .i64 a,.int .i64 n,.string text],.int .i64 (at':Int)] W fun e w' => ∃ ga gc,e = .returned (.slice ga gs.length gc)∧Cd.IntsAt w'.heap.size w' (.slice ga gs.length gc) gs∧Below W.heap.size W w'):=fun W hW=>by
    have h:=HIN.out.below hW
    obtain ⟨g1,g16⟩:=Cd.insOk_in hok
    obtain ⟨-,-,-,-,-,-,-,a10,-⟩:=Cd.insA hok
    have hh:=Cd.goesOn_any ⟨op,a,n,text⟩ at' g1 g16 (by omega) (fun e=>(a10 e).1) W h.tab
    rw [HGS.out] at hh
    refine hh.mono ?_
    rintro e w' ⟨v,rfl,hi,hb⟩
    obtain ⟨ga,gc,rfl,hc⟩:=hi
    exact ⟨ga,gc,rfl,⟨ga,gc,rfl,hc⟩,hb⟩
  have HST:Hid (st0=1):=hst1
  have e2:(st0 == 2)=false:=by simp [hst1]
  have hrkI:(r:Int)≤(kb0.size:Int):=by omega
  have hrkN:r≤kb0.size:=by omega
  obtain ⟨T,hT⟩:∃ T,kb0.extract r kb0.size=T:=⟨_,rfl⟩
  have HT:Hid (kb0.extract r kb0.size=T):=hT
  have HTS:Hid (T.size=L):=by rw [Hid,← hT,ByteArray.size_extract];omega
  have hkl:k.length=kb0.size:=by rw [hkbs,Cd.bs_size]
  have HTB:Hid (T=Cd.bs tk):=by
    rw [Hid,← hT,hkbs,Cd.bs_drop k r (by omega),htk]
  have HTKI:Hid (∀ t ∈ tk,1≤t∧t≤10):=fun t ht=>by rw [← htk] at ht;exact hkt t (List.mem_of_mem_drop ht)
  have HTKL:Hid (tk.length=L):=by rw [Hid,← htk,List.length_drop];omega
  obtain ⟨⟨p,ok⟩,HP⟩:∃ p,Hid (Cd.putT c ⟨op,a,n,text⟩ s tk=p):=⟨_,(rfl:Cd.putT c ⟨op,a,n,text⟩ s tk=_)⟩
  obtain ⟨RES,HRES⟩:∃ x,Hid (Cd.leftP c f ⟨op,a,n,text⟩ at' s k=x):=⟨_,(rfl:Cd.leftP c f ⟨op,a,n,text⟩ at' s k=_)⟩
  have HLP:Hid (RES=if bc=true then .clash else if Cd.fitEs es tk=false then .clash else if ok=false∨600 < (Cd.onto (k.take r) p).length then .clash else .known (if op=3 then s.take a.toNat++tk++s.drop (a.toNat+1) else s) (Cd.onto (k.take r) p)):=by
    rw [Hid,← HRES.out]
    exact Cd.leftP_at c f ⟨op,a,n,text⟩ at' s k es tk r L bc p ok HES.out HL.out (by omega) htk (by rw [HGS.out];exact HBC.out) HP.out
  have HPU:Hid (∀ W,Below w.heap.size w W→Calls Tryz.prog 113 #[.pointer (some ⟨g,0,none⟩),.agg #[.int .i64 op,.int .i64 a,.int .i64 n,.string text],.string sb0,.string T] W (Cd.PutsIs p ok W)):=fun W hW=>by
    have h:=HIN.out.below hW
    have hh:=Cd.puts_any c hcl f ⟨op,a,n,text⟩ hok s tk hs hsl hs2 HTKI.out (by rw [HTKL.out,HES.out,HL.out]) ca cc _ _ _ _ g W h.tab h.words h.code h.tr
    rw [HP.out,← hsbs,← HTB.out] at hh
    exact hh
  have HPC:Hid ((ok=false∧p=0)∨(ok=true∧p=0)∨(ok=true∧1≤p∧p≤10∧op≠3)):=by
    have hz:ok=false→p=0:=fun e=>by
      have h:=HP.out
      subst e
      exact Cd.putT_no h
    have h3:op=3→p=0:=fun e=>by
      have h:=HP.out
      rw [e] at h
      simp [Cd.putT] at h
      exact h.1.symm
    cases ok with
    | false=>exact .inl ⟨rfl,hz rfl⟩
    | true =>
      by_cases h0:p=0
      · exact .inr (.inl ⟨rfl,h0⟩)
      · have h:=Cd.put_in hfns hreach hs (by rw [HES.out,HL.out];omega) (by rw [HES.out,HL.out,show k.length - L=r by omega,htk,HP.out])
        rw [HES.out,HL.out,show k.length - L=r by omega,htk,HP.out] at h
        simp only at h
        exact .inr (.inr ⟨rfl,by omega,h.2,fun e=>h0 (h3 e)⟩)
  rw [HRES.out]
  have HKBS:Hid (kb0=Cd.bs k):=hkbs
  have HSBS:Hid (sb0=Cd.bs s):=hsbs
  have HTK:Hid (k.drop r=tk):=htk
  have HKL:Hid (k.length=kb0.size):=hkl
  have HSI:Hid (∀ t ∈ s,0≤t∧t≤10):=hs
  have HSL:Hid (s.length=f.slots.toNat):=hsl
  obtain ⟨A0,hA0⟩:∃ x,kb0.extract 0 r=x:=⟨_,rfl⟩
  have HA0:Hid (A0=Cd.bs (k.take r)):=by rw [Hid,← hA0,hkbs,Cd.bs_take k r (by omega)]
  have HA0S:Hid (A0.size=r):=by rw [Hid,← hA0,ByteArray.size_extract];omega
  have HR6:Hid (r≤600):=by rw [Hid];omega
  have HA3:Hid (op=3→0≤a∧a < sb0.size):=fun e=>by
    obtain ⟨-,-,a2,-⟩:=Cd.insA hok
    have h:=a2 (.inr e)
    simp only at h
    rw [hsbs,Cd.bs_size,hsl]
    omega
  have HS2:Hid (sb0.size≤200):=by rw [Hid,hsbs,Cd.bs_size];exact hs2
  clear hkbs hsbs htk hkl hs hsl hkt hs2 hreach hfns
  clear hst1 hk6 hel hpos
  go_enter Tryz.func92,Tryz.ntmps92
  go_wp2_with fail
  go_region_held3 (fun W=>W.cell? ⟨g,6,none⟩=some (.slice (some ⟨gl,0,none⟩) f.ins.length lc)∧W.cell? ⟨g,5,none⟩=some (.slice (some ⟨gi,0,none⟩) f.ins.length ic)∧W.cell? ⟨gl,at' * 3,none⟩=some (.int .i64 st0)∧W.cell? ⟨gl,at' * 3+1,none⟩=some (.string sb0)∧W.cell? ⟨gl,at' * 3+2,none⟩=some (.string kb0)∧W.cell? ⟨gi,at' * 4,none⟩=some (.int .i64 op)∧W.cell? ⟨gi,at' * 4+1,none⟩=some (.int .i64 a)∧W.cell? ⟨gi,at' * 4+2,none⟩=some (.int .i64 n)∧W.cell? ⟨gi,at' * 4+3,none⟩=some (.string text)) (exact HS.out _ (by repeat' (first | exact Below.refl _ _ | apply Below.drew | refine Below.alloc ?_ ?_ _ | refine Below.setCell ?_ ?_ _ | exact Nat.le_refl _ | (simp;done) | (simp;omega)))) (fail)
  all_goals first
    | (obtain ⟨q0,q1,q2,q3,q4⟩:=Cd.three_new w (.cells #[.int .i64 0,.string ⟨#[]⟩,.string ⟨#[]⟩] 168) (.cells #[.int .i64 st0,.string sb0,.string kb0] 168) (.cells #[.int .i64 op,.int .i64 a,.int .i64 n,.string text] 54);obtain ⟨W0,hW0⟩:∃ W,(((w.alloc (.cells #[.int .i64 0,.string ⟨#[]⟩,.string ⟨#[]⟩] 168)).alloc (.cells #[.int .i64 st0,.string sb0,.string kb0] 168)).alloc (.cells #[.int .i64 op,.int .i64 a,.int .i64 n,.string text] 54)).drew=W:=⟨_,rfl⟩;rw [hW0];rw [hW0] at q0 q1 q2 q3 q4;obtain ⟨bi,hbi⟩:∃ b,w.heap.size+1+1=b:=⟨_,rfl⟩;rw [hbi];rw [hbi] at q2;obtain ⟨bn,hbn⟩:∃ b,w.heap.size+1=b:=⟨_,rfl⟩;rw [hbn];rw [hbn] at q1;have hbb:w.heap.size < bn∧w.heap.size < bi∧bn < w.heap.size+3∧bi < w.heap.size+3∧bn≠bi:=by omega)
    | (obtain ⟨q0,q2,q1,q3,q4⟩:=Cd.three_new w (.cells #[.int .i64 0,.string ⟨#[]⟩,.string ⟨#[]⟩] 168) (.cells #[.int .i64 op,.int .i64 a,.int .i64 n,.string text] 54) (.cells #[.int .i64 st0,.string sb0,.string kb0] 168);obtain ⟨W0,hW0⟩:∃ W,(((w.alloc (.cells #[.int .i64 0,.string ⟨#[]⟩,.string ⟨#[]⟩] 168)).alloc (.cells #[.int .i64 op,.int .i64 a,.int .i64 n,.string text] 54)).alloc (.cells #[.int .i64 st0,.string sb0,.string kb0] 168)).drew=W:=⟨_,rfl⟩;rw [hW0];rw [hW0] at q0 q1 q2 q3 q4;obtain ⟨bn,hbn⟩:∃ b,w.heap.size+1+1=b:=⟨_,rfl⟩;rw [hbn];rw [hbn] at q1;obtain ⟨bi,hbi⟩:∃ b,w.heap.size+1=b:=⟨_,rfl⟩;rw [hbi];rw [hbi] at q2;have hbb:w.heap.size < bn∧w.heap.size < bi∧bn < w.heap.size+3∧bi < w.heap.size+3∧bn≠bi:=by omega)
  all_goals
    clear hbi hbn hW0
    have n0:W0.cell? ⟨bi,0,none⟩=some (.int .i64 op):=by rw [Lib.cell_of_heap q2];rfl
    have n1:W0.cell? ⟨bi,1,none⟩=some (.int .i64 a):=by rw [Lib.cell_of_heap q2];rfl
    have n2:W0.cell? ⟨bi,2,none⟩=some (.int .i64 n):=by rw [Lib.cell_of_heap q2];rfl
    have n3:W0.cell? ⟨bi,3,none⟩=some (.string text):=by rw [Lib.cell_of_heap q2];rfl
    have hbi0:bi≠W0.heap.size:=by omega
    obtain ⟨W1,hW1⟩:∃ W,W0.alloc (.cells #[.int .i64 2,.string ⟨#[]⟩,.string ⟨#[]⟩] 168)=W:=⟨_,rfl⟩
    have HB1:Hid (Below w.heap.size w W1):=by rw [Hid,← hW1];exact q4.alloc (by omega) _
    have HCF:Hid (∀ W,Below W1.heap.size W1 W→(W.cell? ⟨w.heap.size,0,none⟩=some (.int .i64 0)∧W.cell? ⟨w.heap.size,1,none⟩=some (.string ⟨#[]⟩)∧W.cell? ⟨w.heap.size,2,none⟩=some (.string ⟨#[]⟩))∧(W.cell? ⟨bn,0,none⟩=some (.int .i64 st0)∧W.cell? ⟨bn,1,none⟩=some (.string sb0)∧W.cell? ⟨bn,2,none⟩=some (.string kb0))∧(W.cell? ⟨bi,0,none⟩=some (.int .i64 op)∧W.cell? ⟨bi,1,none⟩=some (.int .i64 a)∧W.cell? ⟨bi,2,none⟩=some (.int .i64 n)∧W.cell? ⟨bi,3,none⟩=some (.string text))∧(W.cell? ⟨w.heap.size+3,0,none⟩=some (.int .i64 2)∧W.cell? ⟨w.heap.size+3,1,none⟩=some (.string ⟨#[]⟩)∧W.cell? ⟨w.heap.size+3,2,none⟩=some (.string ⟨#[]⟩))∧(W.frozen? ⟨w.heap.size,0,none⟩=false∧W.frozen? ⟨w.heap.size,1,none⟩=false∧W.frozen? ⟨w.heap.size,2,none⟩=false)∧(W.frozen? ⟨bn,1,none⟩=false∧W.frozen? ⟨bn,2,none⟩=false)∧Below w.heap.size w W∧W1.heap.size≤W.heap.size):=fun W hW=>by
      have hsz:W1.heap.size=w.heap.size+4:=by rw [← hW1,World.size_alloc];omega
      have r0:W.heap[w.heap.size]? = some (.cells #[.int .i64 0,.string ⟨#[]⟩,.string ⟨#[]⟩] 168):=(hW.block _ (by omega)).trans (by rw [← hW1];exact Cd.keepH _ q0)
      have r1:W.heap[bn]? = some (.cells #[.int .i64 st0,.string sb0,.string kb0] 168):=(hW.block _ (by omega)).trans (by rw [← hW1];exact Cd.keepH _ q1)
      have r2:W.heap[bi]? = some (.cells #[.int .i64 op,.int .i64 a,.int .i64 n,.string text] 54):=(hW.block _ (by omega)).trans (by rw [← hW1];exact Cd.keepH _ q2)
      have r3:W.heap[w.heap.size+3]? = some (.cells #[.int .i64 2,.string ⟨#[]⟩,.string ⟨#[]⟩] 168):=(hW.block _ (by omega)).trans (by rw [← hW1,← q3];exact Cd.new_at _ _)
      exact ⟨⟨by rw [Lib.cell_of_heap r0];rfl,by rw [Lib.cell_of_heap r0];rfl,by rw [Lib.cell_of_heap r0];rfl⟩,⟨by rw [Lib.cell_of_heap r1];rfl,by rw [Lib.cell_of_heap r1];rfl,by rw [Lib.cell_of_heap r1];rfl⟩,⟨by rw [Lib.cell_of_heap r2];rfl,by rw [Lib.cell_of_heap r2];rfl,by rw [Lib.cell_of_heap r2];rfl,by rw [Lib.cell_of_heap r2];rfl⟩,⟨by rw [Lib.cell_of_heap r3];rfl,by rw [Lib.cell_of_heap r3];rfl,by rw [Lib.cell_of_heap r3];rfl⟩,⟨by simp [World.frozen?,r0],by simp [World.frozen?,r0],by simp [World.frozen?,r0]⟩,⟨by simp [World.frozen?,r1],by simp [World.frozen?,r1]⟩,HB1.out.trans (hW.mono HB1.out.size),hW.size⟩
    have HWA:Hid (∀ W,Below w.heap.size w W→Calls Tryz.prog 110 #[.pointer (some ⟨g,0,none⟩),.agg #[.int .i64 op,.int .i64 a,.int .i64 n,.string text]] W (fun e w' => ∃ va vc,e = .returned (.slice va L vc)∧Cd.IntsAt w'.heap.size w' (.slice va L vc) es∧Below W.heap.size W w')):=fun W hW=>by
      have h:=HIN.out.below hW
      rw [← HL.out,← HES.out]
      exact Cd.wants_any c hcl f ⟨op,a,n,text⟩ hok hpl ca cc _ _ _ _ g W h.tab h.words h.code h.tr
    have HW1:Hid (W0.alloc (.cells #[.int .i64 2,.string ⟨#[]⟩,.string ⟨#[]⟩] 168)=W1):=hW1
    clear hW1
    go_wp2_with (first | (go_at_call 110;rw [HW1.out];refine (HWA.out W1 HB1.out).mono ?_;rintro e w2 ⟨va,vc,rfl,hints,hb2⟩;obtain ⟨⟨y0,y1,y2⟩,⟨z0,z1,z2⟩,⟨x0,x1,x2,x3⟩,⟨k0,k1,k2⟩,⟨f0,f1,f2⟩,⟨fz1,fz2⟩,hbw2,hsz2⟩:=HCF.out w2 hb2))
  all_goals
    have HINT:Hid (Cd.IntsAt w2.heap.size w2 (.slice va L vc) es):=hints
    have HBW2:Hid (Below w.heap.size w w2):=hbw2
    obtain ⟨v6,-⟩:=HS.out w2 hbw2
    have HGO2:Hid (Calls Tryz.prog 93 #[.agg #[.int .i64 op,.int .i64 a,.int .i64 n,.string text],.int .i64 (at':Int)] w2 fun e w' => ∃ ga gc,e = .returned (.slice ga gs.length gc)∧Cd.IntsAt w'.heap.size w' (.slice ga gs.length gc) gs∧Below w2.heap.size w2 w'):=HGO.out w2 hbw2
    have HGO2d:Hid (Calls Tryz.prog 93 #[.agg #[.int .i64 op,.int .i64 a,.int .i64 n,.string text],.int .i64 (at':Int)] w2.drew fun e w' => ∃ ga gc,e = .returned (.slice ga gs.length gc)∧Cd.IntsAt w'.heap.size w' (.slice ga gs.length gc) gs∧Below w2.heap.size w2 w'):=(HGO.out w2.drew hbw2.drew).mono (by rintro e w' ⟨ga,gc,h1,h2,h3⟩;exact ⟨ga,gc,h1,h2,(Below.refl _ w2).drew.trans h3⟩)
    clear hints hbw2
    first | (go_region_held3 (fun W=>W.cell? ⟨bn,0,none⟩=some (.int .i64 st0)∧W.cell? ⟨bi,0,none⟩=some (.int .i64 op)∧W.cell? ⟨bi,1,none⟩=some (.int .i64 a)∧W.cell? ⟨bi,2,none⟩=some (.int .i64 n)∧W.cell? ⟨bi,3,none⟩=some (.string text)∧W.cell? ⟨g,6,none⟩=some (.slice (some ⟨gl,0,none⟩) f.ins.length lc)) (first | exact ⟨z0,x0,x1,x2,x3,v6⟩ | exact ⟨zz0,xx0,xx1,xx2,xx3,vv6⟩) (first | (go_at_call 93;refine (by first | exact HGO2.out | exact HGO2d.out:Calls Tryz.prog 93 _ _ _).mono ?_;rintro e w3 ⟨ga,gc,rfl,hgi3,hb3⟩;obtain ⟨⟨yy0,yy1,yy2⟩,⟨zz0,zz1,zz2⟩,⟨xx0,xx1,xx2,xx3⟩,⟨kk0,kk1,kk2⟩,⟨ff0,ff1,ff2⟩,⟨ffz1,ffz2⟩,hbw3,hsz3⟩:=HCF.out w3 (hb2.trans (hb3.mono hsz2));obtain ⟨vv6,-⟩:=HS.out w3 hbw3) | (go_at_call 111;refine (Cd.contains_any gs _ ga gc (by have:=HGL.out;omega) _ _ (by first | exact hgi3 | exact hgi3) bc HBC).mono ?_;rintro e w4 ⟨rfl,rfl⟩))) | fail
    all_goals
      clear HGO2 HGO2d HGO n0 n1 n2 n3 hbi0 z0 z1 z2 x0 x1 x2 x3 k0 k1 k2 y0 y1 y2 f0 f1 f2 fz1 fz2 v6 q0 q1 q2 q3 q4
      have hrd:decide ((r:Int) < 0)=false:=decide_eq_false (by omega)
      rw [hrd]
      clear hrd
      cases bc with
      | true =>
        go_wp2_with fail
        have HR:Hid (Cd.lay RES=Cd.layV 2 ⟨#[]⟩ ⟨#[]⟩):=by
          have e:RES = .clash:=by rw [HLP.out];simp
          rw [Hid,e];rfl
        exact bodyPost_ret (v:=Cd.layV 2 ⟨#[]⟩ ⟨#[]⟩) (by simp [results,Tryz.results92,go_sem,yy0,yy1,yy2,Cd.layV]) rfl ⟨by rw [HR.out],Cd.Below.set (Cd.Below.set (Cd.Below.set hbw3 0 0 _) 0 1 _) 0 2 _⟩
      | false =>
        have HINT3:Hid (Cd.IntsAt w2.heap.size w3 (.slice va L vc) es):=HINT.out.below hb3
        have HB3:Hid (Below w.heap.size w w3):=hbw3
        have HLP2:Hid (RES=if Cd.fitEs es tk=false then .clash else if ok=false∨600 < (Cd.onto (k.take r) p).length then .clash else .known (if op=3 then s.take a.toNat++tk++s.drop (a.toNat+1) else s) (Cd.onto (k.take r) p)):=by
          rw [Hid,HLP.out];simp
        clear hbw3 HLP
        go_wp2_with fail
        go_loopw [65] (fun t wr => ∃ i:Nat,i≤L∧t = .int .i64 (i:Int)∧w3=wr∧∀ j (h1:j < es.length) (h2:j < tk.length),j < i→Cd.fitE es[j] tk[j]=true) (fun t _=>L - (intOf t).toNat)
        case atStart=>exact ⟨0,by omega,rfl,rfl,fun j h1 h2 h=>by omega⟩
        case round =>
          obtain ⟨i,hi,rfl,rfl,hno⟩:=hrel
          have HNO:Hid (∀ j (h1:j < es.length) (h2:j < tk.length),j < i→Cd.fitE es[j] tk[j]=true):=hno
          clear hno
          by_cases hlt:i < L
          · have HLT:Hid (i < L):=hlt
            have hltI:(i:Int) < (L:Int):=by omega
            have hie:i < es.length:=by have:=HL.out;omega
            have hit:i < tk.length:=by have:=HTKL.out;omega
            have hiT:i < T.size:=by have:=HTS.out;omega
            have hiTI:(i:Int) < (T.size:Int):=by omega
            obtain ⟨gv,ov,rfl,d0⟩:∃ g o,va=some ⟨g,o,none⟩∧w3.cell? ⟨g,o+i,none⟩=some (.int .i64 es[i]):=by
              obtain ⟨a',cp,e,hc⟩:=HINT3.out
              injection e with e1
              subst e1
              obtain ⟨g,o,h1,_,h2⟩:=hc i hie
              exact ⟨g,o,h1,h2⟩
            obtain ⟨y,hy⟩:∃ y,T[i]=y:=⟨_,rfl⟩
            have HY:Hid ((y.toNat:Int)=tk[i]):=by
              have hT2:i < (Cd.bs tk).size:=by rw [Cd.bs_size];exact hit
              have h:=Cd.bs_get (fun t ht=>by have:=HTKI.out t ht;omega) i hit hT2
              rw [Hid,h,← hy]
              have hTB:=HTB.out
              subst hTB
              rfl
            have hyb:y.toNat < 256:=y.toNat_lt
            obtain ⟨t,HTI⟩:∃ t,Hid (tk[i]=t):=⟨_,(rfl:tk[i]=_)⟩
            obtain ⟨ee,HEI⟩:∃ t,Hid (es[i]=t):=⟨_,(rfl:es[i]=_)⟩
            have hy1:IntKind.i64.wrap ((y.toNat:Nat):Int)=t:=by rw [IntKind.wrap_i64,← HTI.out,← HY.out];omega
            have hy2:wrap64 ((y.toNat:Nat):Int)=t:=by rw [IntWalk.wrap64_in _ (by omega),← HTI.out,← HY.out]
            rw [HEI.out] at d0
            have HW1:Hid (wrap64 ((i:Int)+1)=(i:Int)+1):=IntWalk.wrap64_in _ (by have:=HEL.out;omega)
            obtain ⟨b,HB⟩:∃ b,Hid (Cd.fitE ee t=b):=⟨_,(rfl:Cd.fitE ee t=_)⟩
            have HFB:Hid (Cd.fitE es[i] tk[i]=b):=by rw [Hid,HEI.out,HTI.out];exact HB.out
            cases b with
            | false =>
              have HR:Hid (Cd.lay RES=Cd.layV 2 ⟨#[]⟩ ⟨#[]⟩):=by rw [Hid,HLP2.out,if_pos (Cd.fitEs_no es tk i hie hit HFB.out)];rfl
              go_wp2_with (first | (go_at_call 112;refine (Cd.fits_any _ _ _ HB _).mono ?_;rintro e w' ⟨rfl,rfl⟩))
              exact bodyPost_ret (v:=Cd.layV 2 ⟨#[]⟩ ⟨#[]⟩) (by simp [results,Tryz.results92,go_sem,yy0,yy1,yy2,Cd.layV]) rfl ⟨by rw [HR.out],Cd.Below.set (Cd.Below.set (Cd.Below.set HB3.out 0 0 _) 0 1 _) 0 2 _⟩
            | true =>
              have HNX:Hid (∀ j (h1:j < es.length) (h2:j < tk.length),j < i+1→Cd.fitE es[j] tk[j]=true):=fun j h1 h2 h=>by
                by_cases e:j=i
                · subst e;exact HFB.out
                · exact HNO.out j h1 h2 (by omega)
              go_wp2_with (first | (go_at_call 112;refine (Cd.fits_any _ _ _ HB _).mono ?_;rintro e w' ⟨rfl,rfl⟩))
              go_roundw
              case rel =>
                refine ⟨_,_,_,_,_,_,_,_,_,_,_,_,_,_,_,_, ?_,rfl⟩
                exact ⟨i+1,by have:=HLT.out;omega,by rw [HW1.out];exact congrArg (Value.int IntKind.i64) (by omega),by first | rfl | trivial,HNX.out⟩
              case measure =>
                have hl:=HLT.out
                change L - (intOf (Value.int IntKind.i64 (wrap64 ((i:Int)+1)))).toNat < L - (intOf (Value.int IntKind.i64 (i:Int))).toNat
                rw [HW1.out]
                simp only [intOf]
                omega
          · have hltI:¬ (i:Int) < (L:Int):=by omega
            have HF:Hid (Cd.fitEs es tk=true):=Cd.fitEs_at es tk (by rw [HL.out,HTKL.out]) (fun j h1 h2=>HNO.out j h1 h2 (by have:=HL.out;omega))
            have HLP3:Hid (RES=if ok=false∨600 < (Cd.onto (k.take r) p).length then .clash else .known (if op=3 then s.take a.toNat++tk++s.drop (a.toNat+1) else s) (Cd.onto (k.take r) p)):=by rw [Hid,HLP2.out,HF.out,if_neg (by decide)]
            clear HLP2
            have hbn1:bn≠w.heap.size:=by omega
            have hbn2:bn≠w.heap.size+3:=by omega
            have hbn3:bn≠bi:=by omega
            rcases HPC.out with ⟨hok2,hp0⟩ | ⟨hok2,hp0⟩ | ⟨hok2,hp1,hp10,hop3⟩
            · subst hok2
              subst hp0
              have HR:Hid (Cd.lay RES=Cd.layV 2 ⟨#[]⟩ ⟨#[]⟩):=by
                have e:RES = .clash:=by rw [HLP3.out];simp
                rw [Hid,e];rfl
              go_wp2_with (first | (go_at_call 113;refine (HPU.out w3 HB3.out).mono ?_;rintro e w5 ⟨rfl,hb5⟩;obtain ⟨⟨y0,y1,y2⟩,⟨z0,z1,z2⟩,⟨x0,x1,x2,x3⟩,⟨k0,k1,k2⟩,⟨f0,f1,f2⟩,⟨fz1,fz2⟩,hbw5,hsz5⟩:=HCF.out w5 ((hb2.trans (hb3.mono hsz2)).trans (hb5.mono hsz3))))
              exact bodyPost_ret (v:=Cd.layV 2 ⟨#[]⟩ ⟨#[]⟩) (by simp [results,Tryz.results92,go_sem,y0,y1,y2,Cd.layV]) rfl ⟨by rw [HR.out],Cd.Below.set (Cd.Below.set (Cd.Below.set (Below.setCell (p:=⟨bn,2,none⟩) hbw5 (by show w.heap.size≤bn;omega) _) 0 0 _) 0 1 _) 0 2 _⟩
            · subst hok2
              subst hp0
              have hA6:¬ (600:Int) < (A0.size:Int):=by have:=HA0S.out;have:=HR6.out;omega
              by_cases h3:op=3
              · obtain ⟨q,rfl⟩:∃ q:Nat,a=(q:Int):=⟨a.toNat,by have:=HA3.out h3;omega⟩
                have HQ2:Hid (q < sb0.size):=by have:=HA3.out h3;rw [Hid];omega
                obtain ⟨q1,N1,N2,M1,M2,HQ1,hF⟩:=Cd.store_facts sb0 T q L HQ2.out HS2.out HTS.out HEL.out
                have HF:Hid ((q:Int)≤(sb0.size:Int)∧(q1:Int)≤(sb0.size:Int)∧q1≤sb0.size∧wrap64 ((q:Int)+1)=(q1:Int)∧IntKind.i64.wrap ((q:Int)+1)=(q1:Int)∧sb0.extract 0 q=N1∧sb0.extract q1 sb0.size=N2∧N1++T=M1∧M1++N2=M2∧¬ (9223372036854775807 < N1.size+T.size)∧¬ (9223372036854775807 < M1.size+N2.size)):=hF
                have HR:Hid (Cd.lay RES=Cd.layV 1 M2 A0):=by
                  obtain ⟨-,-,-,-,-,hN1,hN2,hM1,hM2,-,-⟩:=hF
                  have e:RES = .known (s.take q++tk++s.drop (q+1)) (k.take r):=by
                    rw [HLP3.out,if_neg,if_pos h3]
                    · simp [Cd.onto]
                    · simp [Cd.onto];have:=HR6.out;omega
                  rw [Hid,e,Cd.store_bs sb0 T N1 N2 M1 M2 s tk q q1 HQ2.out HSBS.out HTB.out HQ1.out hN1 hN2 hM1 hM2,HA0.out];rfl
                clear hF
                subst h3
                go_wp2_with (first | (go_at_call 113;refine (HPU.out w3 HB3.out).mono ?_;rintro e w5 ⟨rfl,hb5⟩;obtain ⟨⟨y0,y1,y2⟩,⟨z0,z1,z2⟩,⟨x0,x1,x2,x3⟩,⟨k0,k1,k2⟩,⟨f0,f1,f2⟩,⟨fz1,fz2⟩,hbw5,hsz5⟩:=HCF.out w5 ((hb2.trans (hb3.mono hsz2)).trans (hb5.mono hsz3))))
                obtain ⟨⟨z6,x6⟩,z6d,x6d⟩:=Cd.store_cells w5 bn bi (.string A0) _ _ hbn3 z1 x1
                have HQN:=HQ2.out
                obtain ⟨hq1,hq2,hq3,hq4,hq5,hN1,hN2,hM1,hM2,hbb1,hbb2⟩:=HF.out
                go_region
                all_goals go_wp2_with fail
                all_goals rw [HST.out]
                all_goals exact bodyPost_ret (v:=Cd.layV 1 M2 A0) (by simp [results,Tryz.results92,go_sem,y0,y1,y2,Cd.layV]) rfl ⟨by rw [HR.out],Cd.Below.set (Cd.Below.set (Cd.Below.set (Below.drew (Below.setCell (p:=⟨bn,1,none⟩) (Below.setCell (p:=⟨bn,2,none⟩) hbw5 (by show w.heap.size≤bn;omega) _) (by show w.heap.size≤bn;omega) _)) 0 0 _) 0 1 _) 0 2 _⟩
              · have h3b:(op == 3)=false:=by simp [h3]
                have HR:Hid (Cd.lay RES=Cd.layV 1 sb0 A0):=by
                  have e:RES = .known s (k.take r):=by
                    have hl:¬ 600 < (k.take r).length:=by rw [List.length_take];have:=HR6.out;omega
                    rw [HLP3.out];simp [Cd.onto,h3];have:=HR6.out;omega
                  rw [Hid,e,HSBS.out,HA0.out];rfl
                have HS1:Hid (st0=1):=HST.out
                clear h3
                go_wp2_with (first | (go_at_call 113;refine (HPU.out w3 HB3.out).mono ?_;rintro e w5 ⟨rfl,hb5⟩;obtain ⟨⟨y0,y1,y2⟩,⟨z0,z1,z2⟩,⟨x0,x1,x2,x3⟩,⟨k0,k1,k2⟩,⟨f0,f1,f2⟩,⟨fz1,fz2⟩,hbw5,hsz5⟩:=HCF.out w5 ((hb2.trans (hb3.mono hsz2)).trans (hb5.mono hsz3))))
                rw [HS1.out]
                exact bodyPost_ret (v:=Cd.layV 1 sb0 A0) (by simp [results,Tryz.results92,go_sem,y0,y1,y2,Cd.layV]) rfl ⟨by rw [HR.out],Cd.Below.set (Cd.Below.set (Cd.Below.set (Below.setCell (p:=⟨bn,2,none⟩) hbw5 (by show w.heap.size≤bn;omega) _) 0 0 _) 0 1 _) 0 2 _⟩
            · subst hok2
              have hE:Utf8.encode (wrap32 p)=Cd.bs [p]:=Cd.enc p hp1 hp10
              obtain ⟨PB,hPB⟩:∃ x,Cd.bs [p]=x:=⟨_,rfl⟩
              rw [hPB] at hE
              have HPBS:Hid (PB.size=1):=by rw [Hid,← hPB,Cd.bs_size];rfl
              obtain ⟨A1,hA1⟩:∃ x,A0++PB=x:=⟨_,rfl⟩
              have HA1S:Hid (A1.size=r+1):=by rw [Hid,← hA1,ByteArray.size_append,HA0S.out,HPBS.out]
              have hbd:¬ (9223372036854775807 < A0.size+PB.size):=by have h1:=HA0S.out;have h2:=HPBS.out;have:=HR6.out;omega
              have HA1:Hid (A1=Cd.bs (k.take r++[p])):=by rw [Hid,← hA1,HA0.out,← hPB,Cd.bs_app]
              have hpz:(p != 0)=true:=by simp;omega
              have h3b:(op == 3)=false:=by simp [hop3]
              have hp0n:¬ p=0:=by omega
              have hlr:(k.take r++[p]).length=r+1:=by rw [List.length_append,List.length_take];have h1:=HKL.out;have h2:=HPOS.out;simp;omega
              by_cases h6:600 < r+1
              · have h6I:(600:Int) < (A1.size:Int):=by have:=HA1S.out;omega
                have HR:Hid (Cd.lay RES=Cd.layV 2 ⟨#[]⟩ ⟨#[]⟩):=by
                  have e:RES = .clash:=by
                    rw [HLP3.out,if_pos]
                    right;unfold Cd.onto;rw [if_neg hp0n,hlr];exact h6
                  rw [Hid,e];rfl
                clear h6 hlr hp0n hop3 hp1 hp10 hPB
                go_wp2_with (first | (go_at_call 113;refine (HPU.out w3 HB3.out).mono ?_;rintro e w5 ⟨rfl,hb5⟩;obtain ⟨⟨y0,y1,y2⟩,⟨z0,z1,z2⟩,⟨x0,x1,x2,x3⟩,⟨k0,k1,k2⟩,⟨f0,f1,f2⟩,⟨fz1,fz2⟩,hbw5,hsz5⟩:=HCF.out w5 ((hb2.trans (hb3.mono hsz2)).trans (hb5.mono hsz3))))
                exact bodyPost_ret (v:=Cd.layV 2 ⟨#[]⟩ ⟨#[]⟩) (by simp [results,Tryz.results92,go_sem,y0,y1,y2,Cd.layV]) rfl ⟨by rw [HR.out],Cd.Below.set (Cd.Below.set (Cd.Below.set (Below.setCell (p:=⟨bn,2,none⟩) (Below.setCell (p:=⟨bn,2,none⟩) hbw5 (by show w.heap.size≤bn;omega) _) (by show w.heap.size≤bn;omega) _) 0 0 _) 0 1 _) 0 2 _⟩
              · have h6I:¬ (600:Int) < (A1.size:Int):=by have:=HA1S.out;omega
                have HR:Hid (Cd.lay RES=Cd.layV 1 sb0 A1):=by
                  have e:RES = .known s (k.take r++[p]):=by
                    rw [HLP3.out,if_neg,if_neg hop3]
                    · unfold Cd.onto;rw [if_neg hp0n]
                    · unfold Cd.onto;rw [if_neg hp0n,hlr];simp;omega
                  rw [Hid,e,HSBS.out,HA1.out];rfl
                clear h6 hlr hp0n hop3 hp1 hp10 hPB
                go_wp2_with (first | (go_at_call 113;refine (HPU.out w3 HB3.out).mono ?_;rintro e w5 ⟨rfl,hb5⟩;obtain ⟨⟨y0,y1,y2⟩,⟨z0,z1,z2⟩,⟨x0,x1,x2,x3⟩,⟨k0,k1,k2⟩,⟨f0,f1,f2⟩,⟨fz1,fz2⟩,hbw5,hsz5⟩:=HCF.out w5 ((hb2.trans (hb3.mono hsz2)).trans (hb5.mono hsz3))))
                rw [HST.out]
                exact bodyPost_ret (v:=Cd.layV 1 sb0 A1) (by simp [results,Tryz.results92,go_sem,y0,y1,y2,Cd.layV]) rfl ⟨by rw [HR.out],Cd.Below.set (Cd.Below.set (Cd.Below.set (Below.setCell (p:=⟨bn,2,none⟩) (Below.setCell (p:=⟨bn,2,none⟩) hbw5 (by show w.heap.size≤bn;omega) _) (by show w.heap.size≤bn;omega) _) 0 0 _) 0 1 _) 0 2 _⟩
end Go.Proofs.YtbkhedpabfanoaaGreatDoor
