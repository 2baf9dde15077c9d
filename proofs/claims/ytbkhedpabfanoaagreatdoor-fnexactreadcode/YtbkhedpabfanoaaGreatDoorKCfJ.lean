import Derived.Test.YtbkhedpabfanoaaGreatDoorKCfF
namespace Go.Proofs.YtbkhedpabfanoaaGreatDoor
open Go.RowKit

structure Cd.LeftIn (c:List Cd.Fn) (f:Cd.Fn) (at':Nat) (ca ia:Option Addr) (cc ic lc gl g:Nat) (X:List Cd.Sh) (pv wv:Value) (w:World):Prop where
  tr:Cd.TrAt g w (.slice ca c.length cc) f pv (.slice ia f.ins.length ic) (.slice (some ⟨gl,0,none⟩) f.ins.length lc) wv
  lays:Cd.LaysAt gl w X
  ins:Cd.InsAt w.heap.size w (.slice ia f.ins.length ic) f.ins
  code:Cd.CodeAt w.heap.size w (.slice ca c.length cc) c
  tab:Cd.InsTab w
  words:Cd.WordTab w
theorem Cd.LeftIn.below {c:List Cd.Fn} {f:Cd.Fn} {at':Nat} {ca ia:Option Addr} {cc ic lc gl g:Nat} {X:List Cd.Sh} {pv wv:Value} {w w':World} (h:Cd.LeftIn c f at' ca ia cc ic lc gl g X pv wv w) (hb:Below w.heap.size w w'):Cd.LeftIn c f at' ca ia cc ic lc gl g X pv wv w' :=
  ⟨h.tr.below hb,h.lays.below hb,Cd.InsAt.mono (h.ins.below hb) hb.size,Cd.CodeAt.mono (h.code.below hb) hb.size,h.tab.below hb,h.words.below hb⟩
set_option maxRecDepth 100000 in
set_option maxHeartbeats 4000000 in
theorem Cd.left_neg (c:List Cd.Fn) (f:Cd.Fn) (i:Cd.Ins) (at':Nat) (hat:at' < f.ins.length) (hie:f.ins[at']=i) (_hil:f.ins.length≤50000) (hcl:c.length≤60) (hpl:∀ g ∈ c,g.params.length≤8) (hok:Cd.insOk c f i=true) (X:List Cd.Sh) (hX:X.length=f.ins.length) (st0:Int) (sb0 kb0:ByteArray) (hst0:Cd.st (X[at']'(by omega))=st0) (hsb0:Cd.sb (X[at']'(by omega))=sb0) (hkb0:Cd.kb (X[at']'(by omega))=kb0) (hneg:st0=2∨(st0≠2∧kb0.size < (Cd.ents c f i).length)) (hk6:kb0.size≤600) (hel:(Cd.ents c f i).length≤8) (ca ia:Option Addr) (cc ic:Nat) (pv wv:Value) (lc gl:Nat) (g:Nat) (w:World) (hIn:Cd.LeftIn c f at' ca ia cc ic lc gl g X pv wv w) :
    Calls Tryz.prog 92 #[.pointer (some ⟨g,0,none⟩),.int .i64 (at':Int)] w fun e w'=>e = .returned (Cd.lay .clash)∧Below w.heap.size w w':=by
  obtain ⟨gi,rfl,hgi,-⟩:=hIn.ins.cells at' hat
  have HIN:Hid (Cd.LeftIn c f at' ca (some ⟨gi,0,none⟩) cc ic lc gl g X pv wv w):=hIn
  have HS:Hid (∀ W,Below w.heap.size w W→W.cell? ⟨g,6,none⟩=some (.slice (some ⟨gl,0,none⟩) f.ins.length lc)∧W.cell? ⟨g,5,none⟩=some (.slice (some ⟨gi,0,none⟩) f.ins.length ic)∧W.cell? ⟨gl,at' * 3,none⟩=some (.int .i64 st0)∧W.cell? ⟨gl,at' * 3+1,none⟩=some (.string sb0)∧W.cell? ⟨gl,at' * 3+2,none⟩=some (.string kb0)∧W.cell? ⟨gi,at' * 4,none⟩=some (.int .i64 i.op)∧W.cell? ⟨gi,at' * 4+1,none⟩=some (.int .i64 i.a)∧W.cell? ⟨gi,at' * 4+2,none⟩=some (.int .i64 i.n)∧W.cell? ⟨gi,at' * 4+3,none⟩=some (.string i.text)):=fun W hW=>by
    have h:=HIN.out.below hW
    obtain ⟨-,-,-,-,-,u5,u6,-⟩:=h.tr.cells
    obtain ⟨l0,l1,l2⟩:=h.lays.cells at' (by omega)
    rw [hst0] at l0
    rw [hsb0] at l1
    rw [hkb0] at l2
    obtain ⟨g2,e2,-,i0,i1,i2,i3⟩:=h.ins.cells at' hat
    injection e2 with e2
    injection e2 with e2
    subst e2
    rw [hie] at i0 i1 i2 i3
    exact ⟨u6,u5,l0,l1,l2,i0,i1,i2,i3⟩
  have hatI:(at':Int) < (f.ins.length:Int):=by omega
  clear hIn hie hst0 hsb0 hkb0
  obtain ⟨op,a,n,text⟩:=i
  simp only at HS
  obtain ⟨es,HES⟩:∃ es,Hid (Cd.ents c f ⟨op,a,n,text⟩=es):=⟨_,(rfl:Cd.ents c f ⟨op,a,n,text⟩=_)⟩
  obtain ⟨L,HL⟩:∃ L,Hid (es.length=L):=⟨_,(rfl:es.length=_)⟩
  rw [HES.out,HL.out] at hneg hel
  obtain ⟨R,hRe⟩:∃ R,(kb0.size:Int) - (L:Int)=R:=⟨_,rfl⟩
  have hwr:wrap64 ((kb0.size:Int) - (L:Int))=R:=(IntWalk.wrap64_in _ (by omega)).trans hRe
  have HNEG:Hid (st0=2∨(st0≠2∧R < 0)):=by
    rcases hneg with h | ⟨h,h'⟩
    · exact .inl h
    · exact .inr ⟨h,by omega⟩
  clear hneg hRe hk6 hel
  go_enter Tryz.func92,Tryz.ntmps92
  go_wp2_with fail
  go_region_held3 (fun W=>W.cell? ⟨g,6,none⟩=some (.slice (some ⟨gl,0,none⟩) f.ins.length lc)∧W.cell? ⟨g,5,none⟩=some (.slice (some ⟨gi,0,none⟩) f.ins.length ic)∧W.cell? ⟨gl,at' * 3,none⟩=some (.int .i64 st0)∧W.cell? ⟨gl,at' * 3+1,none⟩=some (.string sb0)∧W.cell? ⟨gl,at' * 3+2,none⟩=some (.string kb0)∧W.cell? ⟨gi,at' * 4,none⟩=some (.int .i64 op)∧W.cell? ⟨gi,at' * 4+1,none⟩=some (.int .i64 a)∧W.cell? ⟨gi,at' * 4+2,none⟩=some (.int .i64 n)∧W.cell? ⟨gi,at' * 4+3,none⟩=some (.string text)) (exact HS.out _ (by repeat' (first | exact Below.refl _ _ | apply Below.drew | refine Below.alloc ?_ ?_ _ | refine Below.setCell ?_ ?_ _ | exact Nat.le_refl _ | (simp;done) | (simp;omega)))) (fail)
  all_goals first
    | (obtain ⟨q0,q1,q2,q3,q4⟩:=Cd.three_new w (.cells #[.int .i64 0,.string ⟨#[]⟩,.string ⟨#[]⟩] 168) (.cells #[.int .i64 st0,.string sb0,.string kb0] 168) (.cells #[.int .i64 op,.int .i64 a,.int .i64 n,.string text] 54);obtain ⟨W0,hW0⟩:∃ W,(((w.alloc (.cells #[.int .i64 0,.string ⟨#[]⟩,.string ⟨#[]⟩] 168)).alloc (.cells #[.int .i64 st0,.string sb0,.string kb0] 168)).alloc (.cells #[.int .i64 op,.int .i64 a,.int .i64 n,.string text] 54)).drew=W:=⟨_,rfl⟩;rw [hW0];rw [hW0] at q0 q1 q2 q3 q4;obtain ⟨bi,hbi⟩:∃ b,w.heap.size+1+1=b:=⟨_,rfl⟩;rw [hbi];rw [hbi] at q2;obtain ⟨bn,hbn⟩:∃ b,w.heap.size+1=b:=⟨_,rfl⟩;rw [hbn];rw [hbn] at q1;have hbb:w.heap.size < bn∧w.heap.size < bi∧bn < w.heap.size+3∧bi < w.heap.size+3∧bn≠bi:=by omega)
    | (obtain ⟨q0,q2,q1,q3,q4⟩:=Cd.three_new w (.cells #[.int .i64 0,.string ⟨#[]⟩,.string ⟨#[]⟩] 168) (.cells #[.int .i64 op,.int .i64 a,.int .i64 n,.string text] 54) (.cells #[.int .i64 st0,.string sb0,.string kb0] 168);obtain ⟨W0,hW0⟩:∃ W,(((w.alloc (.cells #[.int .i64 0,.string ⟨#[]⟩,.string ⟨#[]⟩] 168)).alloc (.cells #[.int .i64 op,.int .i64 a,.int .i64 n,.string text] 54)).alloc (.cells #[.int .i64 st0,.string sb0,.string kb0] 168)).drew=W:=⟨_,rfl⟩;rw [hW0];rw [hW0] at q0 q1 q2 q3 q4;obtain ⟨bn,hbn⟩:∃ b,w.heap.size+1+1=b:=⟨_,rfl⟩;rw [hbn];rw [hbn] at q1;obtain ⟨bi,hbi⟩:∃ b,w.heap.size+1=b:=⟨_,rfl⟩;rw [hbi];rw [hbi] at q2;have hbb:w.heap.size < bn∧w.heap.size < bi∧bn < w.heap.size+3∧bi < w.heap.size+3∧bn≠bi:=by omega)
  all_goals
    clear hbi hbn hW0
    have n0:W0.cell? ⟨bi,0,none⟩=some (.int .i64 op):=by rw [Lib.cell_of_heap q2];rfl
    have n1:W0.cell? ⟨bi,1,none⟩=some (.int .i64 a):=by rw [Lib.cell_of_heap q2];rfl
    have n2:W0.cell? ⟨bi,2,none⟩=some (.int .i64 n):=by rw [Lib.cell_of_heap q2];rfl
    have n3:W0.cell? ⟨bi,3,none⟩=some (.string text):=by rw [Lib.cell_of_heap q2];rfl
    have hbi0:bi≠W0.heap.size:=by omega
    obtain ⟨W1,hW1⟩:∃ W,W0.alloc (.cells #[.int .i64 2,.string ⟨#[]⟩,.string ⟨#[]⟩] 168)=W:=⟨_,rfl⟩
    have HB1:Hid (Below w.heap.size w W1):=by rw [Hid,← hW1];exact q4.alloc (by omega) _
    have HCF:Hid (∀ W,Below W1.heap.size W1 W→(W.cell? ⟨w.heap.size,0,none⟩=some (.int .i64 0)∧W.cell? ⟨w.heap.size,1,none⟩=some (.string ⟨#[]⟩)∧W.cell? ⟨w.heap.size,2,none⟩=some (.string ⟨#[]⟩))∧(W.cell? ⟨bn,0,none⟩=some (.int .i64 st0)∧W.cell? ⟨bn,1,none⟩=some (.string sb0)∧W.cell? ⟨bn,2,none⟩=some (.string kb0))∧(W.cell? ⟨bi,0,none⟩=some (.int .i64 op)∧W.cell? ⟨bi,1,none⟩=some (.int .i64 a)∧W.cell? ⟨bi,2,none⟩=some (.int .i64 n)∧W.cell? ⟨bi,3,none⟩=some (.string text))∧(W.cell? ⟨w.heap.size+3,0,none⟩=some (.int .i64 2)∧W.cell? ⟨w.heap.size+3,1,none⟩=some (.string ⟨#[]⟩)∧W.cell? ⟨w.heap.size+3,2,none⟩=some (.string ⟨#[]⟩))∧(W.frozen? ⟨w.heap.size,0,none⟩=false∧W.frozen? ⟨w.heap.size,1,none⟩=false∧W.frozen? ⟨w.heap.size,2,none⟩=false)∧(W.frozen? ⟨bn,1,none⟩=false∧W.frozen? ⟨bn,2,none⟩=false)∧Below w.heap.size w W∧W1.heap.size≤W.heap.size):=fun W hW=>by
      have hsz:W1.heap.size=w.heap.size+4:=by rw [← hW1,World.size_alloc];omega
      have r0:W.heap[w.heap.size]? = some (.cells #[.int .i64 0,.string ⟨#[]⟩,.string ⟨#[]⟩] 168):=(hW.block _ (by omega)).trans (by rw [← hW1];exact Cd.keepH _ q0)
      have r1:W.heap[bn]? = some (.cells #[.int .i64 st0,.string sb0,.string kb0] 168):=(hW.block _ (by omega)).trans (by rw [← hW1];exact Cd.keepH _ q1)
      have r2:W.heap[bi]? = some (.cells #[.int .i64 op,.int .i64 a,.int .i64 n,.string text] 54):=(hW.block _ (by omega)).trans (by rw [← hW1];exact Cd.keepH _ q2)
      have r3:W.heap[w.heap.size+3]? = some (.cells #[.int .i64 2,.string ⟨#[]⟩,.string ⟨#[]⟩] 168):=(hW.block _ (by omega)).trans (by rw [← hW1,← q3];exact Cd.new_at _ _)
      exact ⟨⟨by rw [Lib.cell_of_heap r0];rfl,by rw [Lib.cell_of_heap r0];rfl,by rw [Lib.cell_of_heap r0];rfl⟩,⟨by rw [Lib.cell_of_heap r1];rfl,by rw [Lib.cell_of_heap r1];rfl,by rw [Lib.cell_of_heap r1];rfl⟩,⟨by rw [Lib.cell_of_heap r2];rfl,by rw [Lib.cell_of_heap r2];rfl,by rw [Lib.cell_of_heap r2];rfl,by rw [Lib.cell_of_heap r2];rfl⟩,⟨by rw [Lib.cell_of_heap r3];rfl,by rw [Lib.cell_of_heap r3];rfl,by rw [Lib.cell_of_heap r3];rfl⟩,⟨by simp [World.frozen?,r0],by simp [World.frozen?,r0],by simp [World.frozen?,r0]⟩,⟨by simp [World.frozen?,r1],by simp [World.frozen?,r1]⟩,HB1.out.trans (hW.mono HB1.out.size),hW.size⟩
    have HWA:Hid (∀ W,Below w.heap.size w W→Calls Tryz.prog 110 #[.pointer (some ⟨g,0,none⟩),.agg #[.int .i64 op,.int .i64 a,.int .i64 n,.string text]] W (fun e w' => ∃ va vc,e = .returned (.slice va L vc)∧Cd.IntsAt w'.heap.size w' (.slice va L vc) es∧Below W.heap.size W w')):=fun W hW=>by
      have h:=HIN.out.below hW
      rw [← HL.out,← HES.out]
      exact Cd.wants_any c hcl f ⟨op,a,n,text⟩ hok hpl ca cc _ _ _ _ g W h.tab h.words h.code h.tr
    have HW1:Hid (W0.alloc (.cells #[.int .i64 2,.string ⟨#[]⟩,.string ⟨#[]⟩] 168)=W1):=hW1
    clear hW1
    go_wp2_with (first | (go_at_call 110;rw [HW1.out];refine (HWA.out W1 HB1.out).mono ?_;rintro e w2 ⟨va,vc,rfl,hints,hb2⟩;obtain ⟨⟨y0,y1,y2⟩,⟨z0,z1,z2⟩,⟨x0,x1,x2,x3⟩,⟨k0,k1,k2⟩,⟨f0,f1,f2⟩,⟨fz1,fz2⟩,hbw2,hsz2⟩:=HCF.out w2 hb2))
  all_goals
    rcases HNEG.out with hst | ⟨hst,hR⟩
    · have e2:(st0 == 2)=true:=by simp [hst]
      clear hst
      go_quiet (fail)
      go_wp2_with fail
      exact bodyPost_ret (v:=Cd.layV 2 ⟨#[]⟩ ⟨#[]⟩) (by simp [results,Tryz.results92,go_sem,y0,y1,y2,Cd.layV]) rfl ⟨rfl,Cd.Below.set (Cd.Below.set (Cd.Below.set (Cd.belowD _ hbw2) 0 0 _) 0 1 _) 0 2 _⟩
    · have e2:(st0 == 2)=false:=by simp [hst]
      clear hst
      go_quiet (fail)
      go_wp2_with fail
      exact bodyPost_ret (v:=Cd.layV 2 ⟨#[]⟩ ⟨#[]⟩) (by simp [results,Tryz.results92,go_sem,y0,y1,y2,Cd.layV]) rfl ⟨rfl,Cd.Below.set (Cd.Below.set (Cd.Below.set (Cd.belowD _ hbw2) 0 0 _) 0 1 _) 0 2 _⟩
end Go.Proofs.YtbkhedpabfanoaaGreatDoor
namespace Go.Proofs.YtbkhedpabfanoaaGreatDoor
open Go.RowKit

theorem Cd.nats_has (l:List Nat) (n:Nat):decide ((n:Int) ∈ Cd.nats l)=l.any (fun v=>decide (v=n)):=by
  induction l with
  | nil=>rfl
  | cons a r ih =>
    have e:Cd.nats (a::r)=(a:Int)::Cd.nats r:=rfl
    rw [e,List.any_cons,← ih]
    by_cases h:a=n
    · subst h;simp
    · have:¬ ((n:Int)=(a:Int)):=by omega
      simp [h,this]
theorem Cd.leftP_at (c:List Cd.Fn) (f:Cd.Fn) (i:Cd.Ins) (at':Nat) (s k es tk:List Int) (r L:Nat) (bc:Bool) (p:Int) (ok:Bool) (hes:Cd.ents c f i=es) (hL:es.length=L) (hr:r+L=k.length) (htk:k.drop r=tk) (hbc:decide ((f.ins.length:Int) ∈ Cd.nats (Cd.goes i at'))=bc) (hp:Cd.putT c i s tk=(p,ok)) :
    Cd.leftP c f i at' s k=if bc=true then .clash else if Cd.fitEs es tk=false then .clash else if ok=false∨600 < (Cd.onto (k.take r) p).length then .clash else .known (if i.op=3 then s.take i.a.toNat++tk++s.drop (i.a.toNat+1) else s) (Cd.onto (k.take r) p):=by
  have e:k.length - L=r:=by omega
  unfold Cd.leftP
  rw [hes,hL,e,htk,hp,← hbc,Cd.nats_has,if_neg (by omega)]
theorem Cd.fitEs_at : ∀ (es tk:List Int) (_:es.length=tk.length),(∀ j (h1:j < es.length) (h2:j < tk.length),Cd.fitE es[j] tk[j]=true)→Cd.fitEs es tk=true
  | [],[],_,_=>rfl
  | [],_::_,h,_=>by simp at h
  | _::_,[],h,_=>by simp at h
  | e::es,t::ts,h,hf=>by
    have h0:=hf 0 (by simp) (by simp)
    have ih:=Cd.fitEs_at es ts (by simpa using h) (fun j h1 h2=>hf (j+1) (by simp;omega) (by simp;omega))
    simp at h0
    simp [Cd.fitEs,h0,ih]
theorem Cd.fitEs_no : ∀ (es tk:List Int) (j:Nat) (h1:j < es.length) (h2:j < tk.length),Cd.fitE es[j] tk[j]=false→Cd.fitEs es tk=false
  | [],_,_,h,_,_=>by simp at h
  | _::_,[],_,_,h,_=>by simp at h
  | e::es,t::ts,0,_,_,hf=>by
    simp at hf
    simp [Cd.fitEs,hf]
  | e::es,t::ts,j+1,h1,h2,hf=>by
    have ih:=Cd.fitEs_no es ts j (by simpa using h1) (by simpa using h2) (by simpa using hf)
    simp [Cd.fitEs,ih]
theorem Cd.ext_data (s:ByteArray) (i j:Nat):(s.extract i j).data.toList=(s.data.toList.drop i).take (j - i):=by
  have h:(s.extract i j).data=s.data.extract i j:=by simp
  rw [h,Array.toList_extract]
theorem Cd.bs_drop (k:List Int) (r:Nat) (_hr:r≤k.length):(Cd.bs k).extract r (Cd.bs k).size=Cd.bs (k.drop r):=by
  apply ByteArray.ext
  apply Array.toList_inj.1
  rw [Cd.ext_data,Cd.bs_size]
  simp only [Cd.bs]
  rw [List.map_drop,List.take_of_length_le]
  simp
theorem Cd.bs_take (k:List Int) (r:Nat) (_hr:r≤k.length):(Cd.bs k).extract 0 r=Cd.bs (k.take r):=by
  apply ByteArray.ext
  apply Array.toList_inj.1
  rw [Cd.ext_data]
  simp [Cd.bs,List.map_take]
theorem Cd.putT_no {c:List Cd.Fn} {i:Cd.Ins} {s tk:List Int} {p:Int} (h:Cd.putT c i s tk=(p,false)):p=0:=by
  unfold Cd.putT at h
  repeat' (first | split at h)
  all_goals (injection h with h1 h2)
  all_goals first | exact absurd h2 (by decide) | (simp at h2;rw [← h1];exact h2)
theorem Cd.enc (p:Int) (h1:1≤p) (h10:p≤10):Utf8.encode (wrap32 p)=Cd.bs [p]:=by
  have hw:wrap32 p=p:=by unfold wrap32;omega
  have hv:Utf8.valid p=true:=by simp [Utf8.valid];omega
  rw [hw]
  unfold Utf8.encode
  simp only [hv,if_true]
  rw [if_pos (by omega)]
  rfl
theorem Cd.bs_app (a b:List Int):Cd.bs a++Cd.bs b=Cd.bs (a++b):=by
  apply ByteArray.ext
  apply Array.toList_inj.1
  simp [Cd.bs,ByteArray.data_append]
theorem Cd.store_facts (sb T:ByteArray) (q L:Nat) (hq:q < sb.size) (h2:sb.size≤200) (hT:T.size=L) (hL:L≤8):∃ (q1:Nat) (N1 N2 M1 M2:ByteArray),Hid (q+1=q1)∧(q:Int)≤(sb.size:Int)∧(q1:Int)≤(sb.size:Int)∧q1≤sb.size∧wrap64 ((q:Int)+1)=(q1:Int)∧IntKind.i64.wrap ((q:Int)+1)=(q1:Int)∧sb.extract 0 q=N1∧sb.extract q1 sb.size=N2∧N1++T=M1∧M1++N2=M2∧¬ (9223372036854775807 < N1.size+T.size)∧¬ (9223372036854775807 < M1.size+N2.size):=by
  have hw:wrap64 ((q:Int)+1)=((q+1:Nat):Int):=(IntWalk.wrap64_in _ (by omega)).trans (by omega)
  refine ⟨q+1,sb.extract 0 q,sb.extract (q+1) sb.size,sb.extract 0 q++T,(sb.extract 0 q++T)++sb.extract (q+1) sb.size,rfl,by omega,by omega,by omega,hw,(IntWalk.i64_left _).trans hw,rfl,rfl,rfl,rfl, ?_, ?_⟩
  · rw [ByteArray.size_extract];omega
  · rw [ByteArray.size_append,ByteArray.size_extract,ByteArray.size_extract];omega
theorem Cd.store_bs (sb T N1 N2 M1 M2:ByteArray) (s tk:List Int) (q q1:Nat) (hq:q < sb.size) (hs:sb=Cd.bs s) (hT:T=Cd.bs tk) (e:q+1=q1) (h1:sb.extract 0 q=N1) (h2:sb.extract q1 sb.size=N2) (h3:N1++T=M1) (h4:M1++N2=M2):M2=Cd.bs (s.take q++tk++s.drop (q+1)):=by
  subst e
  have hl:s.length=sb.size:=by rw [hs,Cd.bs_size]
  rw [← h4,← h3,← h1,← h2,hs,hT,Cd.bs_take s q (by omega),Cd.bs_drop s (q+1) (by omega),Cd.bs_app,Cd.bs_app]
theorem Cd.store_cells (w5:World) (bn bi:Nat) (A v u:Value) (_hne:bn≠bi) (z1:w5.cell? ⟨bn,1,none⟩=some v) (x1:w5.cell? ⟨bi,1,none⟩=some u) :
    ((w5.setCell ⟨bn,2,none⟩ A).cell? ⟨bn,1,none⟩=some v∧(w5.setCell ⟨bn,2,none⟩ A).cell? ⟨bi,1,none⟩=some u)∧((w5.setCell ⟨bn,2,none⟩ A).drew.cell? ⟨bn,1,none⟩=some v∧(w5.setCell ⟨bn,2,none⟩ A).drew.cell? ⟨bi,1,none⟩=some u):=by
  have h1:(w5.setCell ⟨bn,2,none⟩ A).cell? ⟨bn,1,none⟩=some v:=by
    rw [World.cell?_setCell_other]
    · exact z1
    · intro h;simp at h
  have h2:(w5.setCell ⟨bn,2,none⟩ A).cell? ⟨bi,1,none⟩=some u:=by
    rw [World.cell?_setCell_other]
    · exact x1
    · intro h;simp at h
  exact ⟨⟨h1,h2⟩,by rw [World.drew_is_drewN,World.cell?_drewN,World.cell?_drewN];exact ⟨h1,h2⟩⟩
end Go.Proofs.YtbkhedpabfanoaaGreatDoor
