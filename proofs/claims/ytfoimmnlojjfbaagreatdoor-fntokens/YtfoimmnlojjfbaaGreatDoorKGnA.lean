import Derived.Test.YtfoimmnlojjfbaaGreatDoorKGenZ
namespace Go.Proofs.YtfoimmnlojjfbaaGreatDoor
open Go.RowKit
theorem Gn.St.new {B R p P:Nat} {w V:World} (hr:Mill.Rd w R p) (hp:p≤P) (hB:B≤R) (size:Int) (hs : -(P:Int)≤size∧size≤P) (hV:w.alloc (.cells #[.pointer (some ⟨R,0,none⟩),.slice none 0 0,.slice none 0 0,.int .i64 0,.int .i64 0,.int .i64 0,.int .i64 size] 121)=V) :
  Gn.St B w.heap.size R P V (.slice none 0 0) [] (.slice none 0 0) [] 0 0 0 size:=by
 have hb:=Gn.below_new hV
 have hnew:V.heap[w.heap.size]? = some (.cells #[.pointer (some ⟨R,0,none⟩),.slice none 0 0,.slice none 0 0,.int .i64 0,.int .i64 0,.int .i64 0,.int .i64 size] 121):=by rw [← hV];exact World.alloc_heap_new w _
 exact ⟨⟨hB,hr.lt⟩,⟨p,hp,hr.below hb⟩,hnew,⟨rfl,.inl ⟨rfl,rfl⟩⟩,⟨by simp,by simp⟩,⟨⟨rfl,.inl ⟨rfl,rfl⟩⟩,by simp,by simp⟩,by unfold Gn.ty;omega,by omega,by omega,by omega⟩
structure Gn.Ph (B g R P:Nat) (w wr:World) (fv:Value) (F:List Gn.Sg) (size:Int):Prop where
 st:Gn.St B g R P wr (.slice none 0 0) [] fv F 0 0 0 size
 row:wr.ownsRow w.heap.size 124 3 fv F.length (Gn.sgCs F)
 par:∀ s ∈ F,wr.ownsRow w.heap.size 3 1 s.pv s.params.length (Gn.intCs s.params)
 fw:Gn.Fw B w wr
 lo:R < w.heap.size∧w.heap.size≤g
theorem Gn.Ph.fr {B g R P P':Nat} {w wr wr':World} {fv:Value} {F:List Gn.Sg} {size:Int} (h:Gn.Ph B g R P w wr fv F size) (hs:Gn.St B g R P' wr' (.slice none 0 0) [] fv F 0 0 0 size) (hf:Gn.Fr B wr wr'):Gn.Ph B g R P' w wr' fv F size :=
 ⟨hs,hf.row h.row (by decide),fun s hs=>hf.row (h.par s hs) (by decide),h.fw.trans hf.w,h.lo⟩
theorem Gn.Ph.below {B g R P:Nat} {w wr wr':World} {fv:Value} {F:List Gn.Sg} {size:Int} (h:Gn.Ph B g R P w wr fv F size) (hb:Below wr.heap.size wr wr'):Gn.Ph B g R P w wr' fv F size:=h.fr (h.st.below hb) (Gn.Fr.of_below hb)
theorem Gn.Ph.mono {B g R P P':Nat} {w wr:World} {fv:Value} {F:List Gn.Sg} {size:Int} (h:Gn.Ph B g R P w wr fv F size) (hP:P≤P'):Gn.Ph B g R P' w wr fv F size:=⟨h.st.mono hP,h.row,h.par,h.fw,h.lo⟩
def Gn.Lt (z:Nat) (fv:Value) (F:List Gn.Sg):Prop:=(∀ k,fv.ownBlock=some k→k < z)∧∀ s ∈ F,∀ k,s.pv.ownBlock=some k→k < z
theorem Gn.Ph.lt {B g R P:Nat} {w wr:World} {fv:Value} {F:List Gn.Sg} {size:Int} (h:Gn.Ph B g R P w wr fv F size):Gn.Lt wr.heap.size fv F:=⟨fun _ hk=>(Gn.row_type h.row hk).1.2,fun s hs _ hk=>(Gn.row_type (h.par s hs) hk).1.2⟩
theorem Gn.Ph.high {B g R P z:Nat} {w wr wr':World} {fv:Value} {F:List Gn.Sg} {size:Int} (h:Gn.Ph B g R P w wr fv F size) (hl:Gn.Lt z fv F) (hg:g < z) (h1:wr'.os=wr.os) (h2:wr'.tape=wr.tape) (h3:wr'.output=wr.output) (h4:wr.heap.size≤wr'.heap.size) (hk:∀ k,k < wr.heap.size→k < z→wr'.heap[k]? = wr.heap[k]?):Gn.Ph B g R P w wr' fv F size:=by
 have hst:=h.st
 have hlo:=hst.lo
 have hph:=h.lo
 have hgs:g < wr.heap.size:=(Array.getElem?_eq_some_iff.1 hst.box).1
 have hfw:Gn.Fw B w wr':=⟨h1.trans h.fw.os,h2.trans h.fw.tape,h3.trans h.fw.output,Nat.le_trans h.fw.size h4,fun k hk1 hk2=>(hk k (Nat.lt_of_lt_of_le hk1 h.fw.size) (by omega)).trans (h.fw.keep k hk1 hk2)⟩
 have hrow:wr'.ownsRow w.heap.size 124 3 fv F.length (Gn.sgCs F):=Gn.own_keep h.row (fun k e _ hl2=>hk k hl2 (hl.1 k e))
 have hpar:∀ s ∈ F,wr'.ownsRow w.heap.size 3 1 s.pv s.params.length (Gn.intCs s.params):=fun s hs=>Gn.own_keep (h.par s hs) (fun k e _ hl2=>hk k hl2 (hl.2 s hs k e))
 obtain ⟨p,hp,hr⟩:=hst.rd
 exact ⟨⟨hst.lo,⟨p,hp,Gn.Rd_keep hr (fun k hk2=>hk k (by omega) (by omega))⟩,(hk g hgs hg).trans hst.box,⟨rfl,.inl ⟨rfl,rfl⟩⟩,hst.nbd,⟨Gn.own_mono hrow (by omega),fun s hs=>Gn.own_mono (hpar s hs) (by omega),hst.fns.bd⟩,hst.bd⟩,hrow,hpar,hfw,h.lo⟩
theorem Gn.Ph.addFn {B g R P:Nat} {w wr V w5:World} {fv v5:Value} {F:List Gn.Sg} {size:Int} (h:Gn.Ph B g R P w wr fv F size) (hF:F.length≤4) (s:Gn.Sg) (hsb:s.name.size≤30∧s.params.length≤3∧Gn.ty s.result∧∀ t ∈ s.params,Gn.ty t) (hb:Below wr.heap.size wr V) (hp:V.ownsRow w.heap.size 3 1 s.pv s.params.length (Gn.intCs s.params)) (ho:w5.ownsRow w.heap.size 124 3 v5 (F.length+1) (Gn.sgCs F++Gn.sgC s)) (hg:V.grownBy w5 fv.ownBlock) :
  Gn.Ph B g R P w (w5.setCell ⟨g,2,none⟩ v5) v5 (F++[s]) size∧(w5.cell? ⟨g,2,none⟩=some fv∧w5.frozen? ⟨g,2,none⟩=false):=by
 have hV:=h.below hb
 have hlo:=h.st.lo
 have hph:=h.lo
 have hzg:=hg.size
 have hgl:g < V.heap.size:=(Array.getElem?_eq_some_iff.1 hV.st.box).1
 have hne:∀ k,fv.ownBlock=some k→k≠g∧w.heap.size≤k∧∃ c1,V.heap[k]? = some (.cells c1 124):=fun k hk=>by
  obtain ⟨hkl,c1,hc1⟩:=Gn.row_type hV.row hk
  refine ⟨fun e => ?_,hkl.1,c1,hc1⟩
  subst e;rw [hV.st.box] at hc1;injection hc1 with hc1;injection hc1 with _ hc1 _;exact absurd hc1 (by decide)
 have hbg:w5.heap[g]? = V.heap[g]?:=hg.block g hgl (fun e=>(hne g e.symm).1 rfl)
 rw [hV.st.box] at hbg
 have hne5:∀ k,v5.ownBlock=some k→k≠g:=fun k hk e=>by
  obtain ⟨_,c1,hc1⟩:=Gn.row_type ho hk
  subst e
  rw [hbg] at hc1;injection hc1 with hc1;injection hc1 with _ hc1 _;exact absurd hc1 (by decide)
 have hint:∀ {v:Value} {n:Nat} {xs:List Value},V.ownsRow w.heap.size 3 1 v n xs→(w5.setCell ⟨g,2,none⟩ v5).ownsRow w.heap.size 3 1 v n xs:=fun {v n xs} hr=>Gn.own_keep hr (fun k hk _ hl=>by
  obtain ⟨_,c1,hc1⟩:=Gn.row_type hr hk
  refine (Gn.set_oth (fun e => ?_)).trans (hg.block k hl (fun e => ?_))
  ·subst e;rw [hV.st.box] at hc1;injection hc1 with hc1;injection hc1 with _ hc1 _;exact absurd hc1 (by decide)
  ·obtain ⟨_,_,c2,hc2⟩:=hne k e.symm
   rw [hc2] at hc1;injection hc1 with hc1;injection hc1 with _ hc1 _;exact absurd hc1 (by decide))
 have hrow:(w5.setCell ⟨g,2,none⟩ v5).ownsRow w.heap.size 124 3 v5 (F++[s]).length (Gn.sgCs (F++[s])):=by
  rw [List.length_append,List.length_singleton,Gn.sgCs,List.flatMap_append]
  have e:List.flatMap Gn.sgC [s]=Gn.sgC s:=by simp
  rw [e]
  exact Gn.own_keep ho (fun k hk _ _=>Gn.set_oth (hne5 k hk))
 have hpar:∀ x ∈ F++[s],(w5.setCell ⟨g,2,none⟩ v5).ownsRow w.heap.size 3 1 x.pv x.params.length (Gn.intCs x.params):=fun x hx=>by
  rcases List.mem_append.1 hx with hx | hx
  ·exact hint (hV.par x hx)
  ·rw [List.mem_singleton.1 hx];exact hint hp
 have hfw:Gn.Fw B w (w5.setCell ⟨g,2,none⟩ v5):=⟨hg.os.trans hV.fw.os,hg.tape.trans hV.fw.tape,hg.output.trans hV.fw.output,Nat.le_trans hV.fw.size (by simpa [World.setCell] using hzg),fun k hk1 hk2=>(Gn.set_oth (by omega)).trans ((hg.block k (Nat.lt_of_lt_of_le hk1 hV.fw.size) (fun e=>by have:=(hne k e.symm).2.1;omega)).trans (hV.fw.keep k hk1 hk2))⟩
 obtain ⟨p,hpp,hr⟩:=hV.st.rd
 have hb0:=hV.st.bd
 refine ⟨⟨⟨hV.st.lo,⟨p,hpp,Gn.Rd_keep hr (fun k hk2=>(Gn.set_oth (by omega)).trans (hg.block k (by omega) (fun e=>by have:=(hne k e.symm).2.1;omega)))⟩,by rw [Gn.set_same hbg];rfl,⟨rfl,.inl ⟨rfl,rfl⟩⟩,hV.st.nbd,⟨Gn.own_mono hrow (by omega),fun x hx=>Gn.own_mono (hpar x hx) (by omega), ?_⟩,hb0⟩,hrow,hpar,hfw,h.lo⟩,by rw [Lib.cell_of_heap hbg];rfl,by simp [World.frozen?,hbg]⟩
 refine ⟨by rw [List.length_append,List.length_singleton];omega,fun x hx => ?_⟩
 rcases List.mem_append.1 hx with hx | hx
 ·exact hV.st.fns.bd.2 x hx
 ·rw [List.mem_singleton.1 hx];exact hsb
theorem Gn.pickS {B g R P:Nat} {w:World} {nv:Value} {nl:List (ByteArray × Int)} {fv:Value} {F:List Gn.Sg} {ret loops count size:Int} (h:Gn.St B g R P w nv nl fv F ret loops count size) (n:Int) (h1:1≤n) (h2:n≤1000000000) (hP:P≤1000000000) :
  Calls Tryz.prog 8 #[.pointer (some ⟨R,0,none⟩),.int .i64 n] w fun e w' => ∃ v:Int,e = .returned (.int .i64 v)∧(0≤v∧v < n)∧Gn.St B g R (P+1) w' nv nl fv F ret loops count size∧Gn.Fr B w w':=by
 refine (Gn.pick_any h n h1 h2 hP).mono ?_
 rintro e w' ⟨v,he,hv,hs,hf⟩
 exact ⟨v,he,by omega,hs,hf⟩
theorem Gn.itab3 {W:World} {b T:Nat} {t:Int} (h:W.heap[b]? = some (.cells #[.int .i64 0,.int .i64 2,.int .i64 t] T)) (ht:1≤t∧t≤10) {v:Nat} (hv:(v:Int) < 3):∃ r:Int,W.cell? ⟨b,v,none⟩=some (.int .i64 r)∧Gn.ty r:=by
 have hd:v=0∨v=1∨v=2:=by omega
 rcases hd with rfl | rfl | rfl
 ·exact ⟨0,by rw [Lib.cell_of_heap h];rfl,by unfold Gn.ty;omega⟩
 ·exact ⟨2,by rw [Lib.cell_of_heap h];rfl,by unfold Gn.ty;omega⟩
 ·exact ⟨t,by rw [Lib.cell_of_heap h];rfl,by unfold Gn.ty;omega⟩
theorem Gn.infoInt : (Tryz.prog.info? 3).map (fun i=>(i.zero,i.size,i.bytes))=some (some (.int .i64 0),1,8):=by kernel_rfl
theorem Gn.infoSig : (Tryz.prog.info? 124).map (fun i=>(i.zero,i.size,i.bytes))=some (some (.agg #[.string ⟨#[]⟩,.slice none 0 0,.int .i64 0]),3,48):=by kernel_rfl
theorem Gn.step_int {V:World} {ops:Array Oper} {o:Oper} {a:Act} {K:Act→World→Prop} {Q:Exit→Act→World→Prop} {E:Prop} (hgd:o.guard=none) (s x:Operand)
  (ho:o.op = .call { callee:=.builtin .append,args := #[s,x],argTypes := #[93,93] }) {A:Nat} {pv:Value} {ps:List Int} (hp:V.ownsRow A 3 1 pv ps.length (Gn.intCs ps)) (hn:ps.length≤100) (t:Int) {b:Nat} (hV:V.heap[b]? = some (.cells #[.int .i64 t] 3)) (hA:A≤V.heap.size)
  (hs:a.eval s=pv) (hx:a.eval x = .slice (some ⟨b,0,none⟩) 1 1)
  (h:∀ a' c' w',w'.ownsRow A 3 1 (.slice a' (ps.length+1) c') (ps.length+1) (Gn.intCs (ps++[t]))→V.grownBy w' pv.ownBlock→K (a.put o.dst (.slice a' (ps.length+1) c')) w') :
  if Region.wanted o (yielded ops a.tmps)=true then Oper.wp Tryz.prog o a V K Q else E:=by
 have hwt:Region.wanted o (yielded ops a.tmps)=true:=by simp [Region.wanted,hgd]
 rw [if_pos hwt]
 obtain ⟨i0,hi0,hy0,hy1,hy2⟩:=info_parts Gn.infoInt
 have hsrc:Gn.Src V (some ⟨b,0,none⟩) 1 [.int .i64 t]:=fun _=>⟨_,rfl,fun k u hk=>by
  rw [Gn.add_at,Lib.cell_of_heap hV]
  simpa using hk⟩
 obtain ⟨v6,w6,hr,hown6,hg6⟩:=Gn.run_append_any (P:=Tryz.prog) (w:=V) A 93 o.type 3 i0 (.int .i64 0) 1 8 Tryz.underlying93 hi0 hy0 hy1 hy2 rfl (by decide) pv _ _ hp (some ⟨b,0,none⟩) 1 1 [.int .i64 t] rfl hsrc (by intro u hu;simp at hu;subst hu;rfl) (by unfold maxLen;omega) (by omega) hA
 obtain ⟨a7,c7,e7⟩:=Gn.rowLen hown6
 subst e7
 unfold Oper.wp execOp
 simp only [ho,resolve,invoke,builtin,Sem.run_bind,Sem.run_pure,Result.andThen_ok,List.map_toArray,List.map_cons,List.map_nil,hs,hx,hr]
 refine h a7 c7 w6 ?_ hg6
 have e:Gn.intCs (ps++[t])=Gn.intCs ps++[.int .i64 t]:=by simp [Gn.intCs]
 rw [e];exact hown6
theorem Gn.Ph.fpar {B g R P bf:Nat} {w V w7:World} {fv pv v7:Value} {F:List Gn.Sg} {size res:Int} {x:ByteArray} {ps:List Int} {n7:Nat} {xs:List Value} (h:Gn.Ph B g R P w V fv F size) (hl:Gn.Lt bf fv F) (hg:g < bf) (hx:V.heap[bf]? = some (.cells #[.string x,pv,.int .i64 res] 124)) (hp:V.ownsRow bf 3 1 pv ps.length (Gn.intCs ps)) (ho:w7.ownsRow bf 3 1 v7 n7 xs) (hgr:V.grownBy w7 pv.ownBlock) :
  Gn.Ph B g R P w (w7.setCell ⟨bf,1,none⟩ v7) fv F size∧(w7.setCell ⟨bf,1,none⟩ v7).heap[bf]? = some (.cells #[.string x,v7,.int .i64 res] 124)∧(w7.setCell ⟨bf,1,none⟩ v7).ownsRow bf 3 1 v7 n7 xs∧w7.cell? ⟨bf,1,none⟩=some pv∧w7.frozen? ⟨bf,1,none⟩=false:=by
 have hbl:bf < V.heap.size:=(Array.getElem?_eq_some_iff.1 hx).1
 have hne:∀ k,pv.ownBlock=some k→k≠bf∧bf≤k:=fun k hk=>by
  obtain ⟨hkl,c1,hc1⟩:=Gn.row_type hp hk
  refine ⟨fun e => ?_,hkl.1⟩
  subst e;rw [hx] at hc1;injection hc1 with hc1;injection hc1 with _ hc1 _;exact absurd hc1 (by decide)
 have hb7:w7.heap[bf]? = some (.cells #[.string x,pv,.int .i64 res] 124):=(hgr.block bf hbl (fun e=>(hne bf e.symm).1 rfl)).trans hx
 refine ⟨h.high hl hg hgr.os hgr.tape hgr.output (by simpa [World.setCell] using hgr.size) (fun k hk hkz=>(Gn.set_oth (by omega)).trans (hgr.block k hk (fun e=>by have:=(hne k e.symm).2;omega))),by rw [Gn.set_same hb7];rfl,Gn.own_keep ho (fun k hk _ _=>Gn.set_oth (fun e => ?_)),by rw [Lib.cell_of_heap hb7];rfl,by simp [World.frozen?,hb7]⟩
 obtain ⟨_,c1,hc1⟩:=Gn.row_type ho hk
 subst e;rw [hb7] at hc1;injection hc1 with hc1;injection hc1 with _ hc1 _;exact absurd hc1 (by decide)
theorem Gn.step_fn {wr V:World} {ops:Array Oper} {o:Oper} {a:Act} {K:Act→World→Prop} {Q:Exit→Act→World→Prop} {E:Prop} (hgd:o.guard=none) (s x:Operand)
  (ho:o.op = .call { callee:=.builtin .append,args := #[s,x],argTypes := #[119,119] }) {B g R P:Nat} {w:World} {fv:Value} {F:List Gn.Sg} {size:Int} (h:Gn.Ph B g R P w wr fv F size) (hF:F.length≤4) (nm:ByteArray) (pv:Value) (ps:List Int) (res:Int) (hsb:nm.size≤30∧ps.length≤3∧Gn.ty res∧∀ t ∈ ps,Gn.ty t) (hb:Below wr.heap.size wr V) (hp:wr.ownsRow w.heap.size 3 1 pv ps.length (Gn.intCs ps)) {b:Nat} (hV:V.heap[b]? = some (.cells #[.string nm,pv,.int .i64 res] 124))
  (hs:a.eval s=fv) (hx:a.eval x = .slice (some ⟨b,0,none⟩) 1 1)
  (hK:∀ a' c' w',(w'.cell? ⟨g,2,none⟩=some fv∧w'.frozen? ⟨g,2,none⟩=false)→Gn.Ph B g R P w (w'.setCell ⟨g,2,none⟩ (.slice a' (F.length+1) c')) (.slice a' (F.length+1) c') (F++[⟨nm,pv,ps,res⟩]) size→(∀ k,k < wr.heap.size→fv.ownBlock≠some k→w'.heap[k]? = wr.heap[k]?)→K (a.put o.dst (.slice a' (F.length+1) c')) w') :
  if Region.wanted o (yielded ops a.tmps)=true then Oper.wp Tryz.prog o a V K Q else E:=by
 have hwt:Region.wanted o (yielded ops a.tmps)=true:=by simp [Region.wanted,hgd]
 rw [if_pos hwt]
 obtain ⟨i0,hi0,hy0,hy1,hy2⟩:=info_parts Gn.infoSig
 have hpo:pv.oneCell'=true:=by obtain ⟨a1,c1,e1⟩:=Gn.rowLen hp;rw [e1];rfl
 have hsrc:Gn.Src V (some ⟨b,0,none⟩) 1 [.string nm,pv,.int .i64 res]:=fun _=>⟨_,rfl,fun k u hk=>by
  rw [Gn.add_at,Lib.cell_of_heap hV]
  simpa using hk⟩
 have hpV:=Gn.own_keep hp (fun k _ _ hl=>hb.block k hl)
 have hz:=h.fw.size
 have hz2:=hb.size
 obtain ⟨v6,w6,hr,hown6,hg6⟩:=Gn.run_append_any (P:=Tryz.prog) (w:=V) w.heap.size 119 o.type 124 i0 (.agg #[.string ⟨#[]⟩,.slice none 0 0,.int .i64 0]) 3 48 Tryz.underlying119 hi0 hy0 hy1 hy2 rfl (by decide) fv _ _ (h.below hb).row (some ⟨b,0,none⟩) 1 1 [.string nm,pv,.int .i64 res] rfl hsrc (by intro u hu;simp at hu;rcases hu with rfl | rfl | rfl <;> first | rfl | exact hpo) (by unfold maxLen;omega) (by omega) (by omega)
 obtain ⟨a7,c7,e7⟩:=Gn.rowLen hown6
 subst e7
 obtain ⟨hph,hcf⟩:=h.addFn hF ⟨nm,pv,ps,res⟩ hsb hb hpV hown6 hg6
 unfold Oper.wp execOp
 simp only [ho,resolve,invoke,builtin,Sem.run_bind,Sem.run_pure,Result.andThen_ok,List.map_toArray,List.map_cons,List.map_nil,hs,hx,hr]
 exact hK a7 c7 w6 hcf hph (fun k hk1 hk2=>(hg6.block k (by omega) (fun e=>hk2 e.symm)).trans (hb.block k hk1))
theorem Gn.f_len {j n:Int} {F:List Gn.Sg} (hj:0≤j∧j≤n) (hn:0≤n∧n < 4) (h:F.length=j.toNat):F.length≤3:=by omega
theorem Gn.f_len2 {j n:Int} {F:List Gn.Sg} (_hj:0≤j∧j≤n) (hn:0≤n∧n < 4) (h:F.length=j.toNat) (hl:j < n):F.length≤2:=by omega
theorem Gn.wr_j {j n:Int} (hj:0≤j∧j≤n) (hn:0≤n∧n < 4):wrap64 (j+1)=j+1:=IntWalk.wrap64_in _ (by omega)
theorem Gn.wr_k {k:Int} (hk:0≤k∧k≤2) (h:0 < k):wrap64 (k - 1)=k - 1:=IntWalk.wrap64_in _ (by omega)
theorem Gn.j_hi2 {j n:Int} (hj:0≤j∧j≤n) (hn:0≤n∧n < 4):j≤9223372036854775807:=by omega
theorem Gn.pb0 {P l:Nat} (hP:P≤300000000) (hl:l≤3):P+1+20 * l≤900000000:=by omega
theorem Gn.pb1 {P l:Nat} (hP:P≤300000000) (hl:l≤3):P+1+20 * l+2≤1000000000:=by omega
theorem Gn.pb2 {P l:Nat} (hP:P≤300000000) (hl:l≤3):P+1+20 * l+2+1≤1000000000:=by omega
theorem Gn.pbT {P l m:Nat} {k:Int} (hP:P≤300000000) (hl:l≤3) (hm:m+k.toNat≤2):P+1+20 * l+6+2 * m≤900000000:=by omega
theorem Gn.pb_up (P m:Nat):P+2 * m+2≤P+2 * (m+1):=by omega
theorem Gn.pb_nx {P l m:Nat} {k:Int} (hm:m+k.toNat≤2):P+1+20 * l+6+2 * m≤P+1+20 * (l+1):=by omega
theorem Gn.ps_len {m:Nat} {k:Int} (hm:m+k.toNat≤2):m≤100:=by omega
theorem Gn.ps_len3 {m:Nat} {k:Int} (hm:m+k.toNat≤2):m≤3:=by omega
theorem Gn.kk_dn {k:Int} (hk:0≤k∧k≤2) (h:0 < k):0≤k - 1∧k - 1≤2:=by omega
theorem Gn.kk_len {k:Int} {ps:List Int} {t:Int} (hk:0≤k∧k≤2) (h:0 < k) (hm:ps.length+k.toNat≤2):(ps++[t]).length+(k - 1).toNat≤2:=by rw [List.length_append,List.length_singleton];omega
theorem Gn.ty_app {ps:List Int} {t:Int} (h:∀ x ∈ ps,Gn.ty x) (ht:1≤t∧t≤10):∀ x ∈ ps++[t],Gn.ty x:=fun x hx=>by
 rcases List.mem_append.1 hx with hx | hx
 ·exact h x hx
 ·rw [List.mem_singleton.1 hx];exact Gn.ty_of ht
theorem Gn.len_app {α:Type} (l:List α) (x:α):(l++[x]).length=l.length+1:=by simp
theorem Gn.j_up {j n:Int} (hj:0≤j∧j≤n) (h:j < n):0≤j+1∧j+1≤n:=by omega
theorem Gn.j_len {j n:Int} {l:Nat} (hj:0≤j∧j≤n) (h:l=j.toNat):l+1=(j+1).toNat:=by omega
theorem Gn.f_n {j n:Int} {F:List Gn.Sg} (hj:0≤j∧j≤n) (hn:0≤n∧n < 4) (h:¬ j < n) (hF:F.length=j.toNat):F.length=n.toNat:=by omega
theorem Gn.pb3 {P l:Nat} (hP:P≤300000000) (hl:l≤3):P+1+20 * l≤1000000000:=by omega
theorem Gn.v6 {v:Int} (_h:0≤v∧v < 6):v=0∨¬ v=0:=by omega
theorem Gn.ty2 : Gn.ty 2:=by unfold Gn.ty;omega
def Gn.kq (M2 M3:Nat) (a j:Int):Nat:=M2 * j.toNat+(if a < j then M3 else 0)
theorem Gn.kq_lo {P0 PB:Nat} (h:P0≤PB) (M2 M3:Nat) (a j:Int):P0≤PB+Gn.kq M2 M3 a j:=Nat.le_trans h (Nat.le_add_right _ _)
theorem Gn.kq_le {M2 M3:Nat} {a j n:Int} (hj:0≤j∧j≤n) (hn:0≤n∧n < 4):Gn.kq M2 M3 a j≤3 * M2+M3:=by
 unfold Gn.kq
 have h1:M2 * j.toNat≤M2 * 3:=Nat.mul_le_mul_left _ (by omega)
 split <;> omega
theorem Gn.kq_eq (M2 M3:Nat) (j:Int) (hj:0≤j):Gn.kq M2 M3 j j+M3+M2=Gn.kq M2 M3 j (j+1):=by
 unfold Gn.kq
 rw [if_neg (by omega),if_pos (by omega),show (j+1).toNat=j.toNat+1 by omega,Nat.mul_add];omega
theorem Gn.kq_ne (M2 M3:Nat) {a:Int} (j:Int) (hj:0≤j) (h:¬ j=a):Gn.kq M2 M3 a j+M2=Gn.kq M2 M3 a (j+1):=by
 unfold Gn.kq
 rw [show (j+1).toNat=j.toNat+1 by omega,Nat.mul_add]
 by_cases h1:a < j
 ·rw [if_pos h1,if_pos (by omega)];omega
 ·rw [if_neg h1,if_neg (by omega)];omega
theorem Gn.m2_le {M:Nat} (h:7 * Gn.mb 2=M):M≤13200000:=by rw [← h];decide
theorem Gn.m3_le {M:Nat} (h:7 * Gn.mb 3=M):M≤158000000:=by rw [← h];decide
theorem Gn.kq_fn3 {PB M2 M3:Nat} {a j n:Int} (hP:PB≤300000100) (h2:M2≤13200000) (h3:M3≤158000000) (hj:0≤j∧j≤n) (hn:0≤n∧n < 4):PB+Gn.kq M2 M3 a j+M3≤700000000:=by have:=Gn.kq_le (M2:=M2) (M3:=M3) (a:=a) hj hn;omega
theorem Gn.kq_f3 {PB M2 M3:Nat} {a j n:Int} (hP:PB≤300000100) (h2:M2≤13200000) (h3:M3≤158000000) (e:7 * Gn.mb 3=M3) (hj:0≤j∧j≤n) (hn:0≤n∧n < 4):PB+Gn.kq M2 M3 a j+7 * Gn.mb 3≤700000000:=by rw [e];exact Gn.kq_fn3 hP h2 h3 hj hn
theorem Gn.kq_f4 {PB M2 M3:Nat} {a j n:Int} (hP:PB≤300000100) (h2:M2≤13200000) (h3:M3≤158000000) (e:7 * Gn.mb 2=M2) (hj:0≤j∧j≤n) (hn:0≤n∧n < 4):PB+Gn.kq M2 M3 a j+M3+7 * Gn.mb 2≤700000000:=by rw [e];have:=Gn.kq_le (M2:=M2) (M3:=M3) (a:=a) hj hn;omega
theorem Gn.kq_f5 {PB M2 M3:Nat} {a j n:Int} (hP:PB≤300000100) (h2:M2≤13200000) (h3:M3≤158000000) (e:7 * Gn.mb 2=M2) (hj:0≤j∧j≤n) (hn:0≤n∧n < 4):PB+Gn.kq M2 M3 a j+7 * Gn.mb 2≤700000000:=by rw [e];have:=Gn.kq_le (M2:=M2) (M3:=M3) (a:=a) hj hn;omega
theorem Gn.kq_k3 {M2 M3:Nat} {a j n:Int} (h2:M2≤13200000) (h3:M3≤158000000) (hj:0≤j∧j≤n) (hn:0≤n∧n < 4):Gn.kq M2 M3 a j+M3≤1000000000:=by have:=Gn.kq_le (M2:=M2) (M3:=M3) (a:=a) hj hn;omega
theorem Gn.kq_k4 {M2 M3:Nat} {a j n:Int} (h2:M2≤13200000) (h3:M3≤158000000) (hj:0≤j∧j≤n) (hn:0≤n∧n < 4):Gn.kq M2 M3 a j+M3+M2≤1000000000:=by have:=Gn.kq_le (M2:=M2) (M3:=M3) (a:=a) hj hn;omega
theorem Gn.kq_k5 {M2 M3:Nat} {a j n:Int} (h2:M2≤13200000) (h3:M3≤158000000) (hj:0≤j∧j≤n) (hn:0≤n∧n < 4):Gn.kq M2 M3 a j+M2≤1000000000:=by have:=Gn.kq_le (M2:=M2) (M3:=M3) (a:=a) hj hn;omega
theorem Gn.kq_k6 {M2 M3:Nat} {a j n:Int} (h2:M2≤13200000) (h3:M3≤158000000) (hj:0≤j∧j≤n) (hn:0≤n∧n < 4):Gn.kq M2 M3 a j+M3+1≤1000000000:=by have:=Gn.kq_le (M2:=M2) (M3:=M3) (a:=a) hj hn;omega
theorem Gn.kq_k7 {M2 M3:Nat} {a j n:Int} (h2:M2≤13200000) (h3:M3≤158000000) (hj:0≤j∧j≤n) (hn:0≤n∧n < 4):Gn.kq M2 M3 a j+1≤1000000000:=by have:=Gn.kq_le (M2:=M2) (M3:=M3) (a:=a) hj hn;omega
theorem Gn.kq_self {M2 M3:Nat} {j:Int} {n:Int} (hj:0≤j∧j≤n) (hn:0≤n∧n < 4):Gn.kq M2 M3 j j≤3 * M2:=by
 unfold Gn.kq
 have h1:M2 * j.toNat≤M2 * 3:=Nat.mul_le_mul_left _ (by omega)
 rw [if_neg (by omega)];omega
theorem Gn.kq_q1 {M2 M3:Nat} {j n:Int} (h2:M2≤13200000) (h3:M3≤158000000) (hj:0≤j∧j≤n) (hn:0≤n∧n < 4):Gn.kq M2 M3 j j+M3+1≤300000000:=by have:=Gn.kq_self (M2:=M2) (M3:=M3) hj hn;omega
theorem Gn.kq_q2 {M2 M3:Nat} {a j n:Int} (h2:M2≤13200000) (h3:M3≤158000000) (hj:0≤j∧j≤n) (hn:0≤n∧n < 4):Gn.kq M2 M3 a j+1≤300000000:=by have:=Gn.kq_le (M2:=M2) (M3:=M3) (a:=a) hj hn;omega
theorem Gn.kq_r1 {P PB M2 M3:Nat} {j n:Int} (hP:PB≤P+100) (h2:M2≤13200000) (h3:M3≤158000000) (hj:0≤j∧j≤n) (hn:0≤n∧n < 4):PB+Gn.kq M2 M3 j j+M3≤P+200000000:=by have:=Gn.kq_self (M2:=M2) (M3:=M3) hj hn;omega
theorem Gn.kq_r2 {P PB M2 M3:Nat} {a j n:Int} (hP:PB≤P+100) (h2:M2≤13200000) (h3:M3≤158000000) (hj:0≤j∧j≤n) (hn:0≤n∧n < 4):PB+Gn.kq M2 M3 a j≤P+200000000:=by have:=Gn.kq_le (M2:=M2) (M3:=M3) (a:=a) hj hn;omega
theorem Gn.pb_pb {P PB l:Nat} (h:P+100=PB) (hl:l≤3):P+1+20 * l+1+1≤PB:=by omega
theorem Gn.pb_pb2 {P PB:Nat} (h:P+100=PB) (hl:P≤300000000):PB≤300000100:=by omega
theorem Gn.n_1 {n:Int} (hn:0≤n∧n < 4):1≤n+1:=by omega
theorem Gn.n_2 {n:Int} (hn:0≤n∧n < 4):n+1≤1000000000:=by omega
theorem Gn.wr_n {n:Int} (hn:0≤n∧n < 4):wrap64 (n+1)=n+1:=IntWalk.wrap64_in _ (by omega)
theorem Gn.pb4 {P l:Nat} (hP:P≤300000000) (hl:l≤3):P+1+20 * l+1≤1000000000:=by omega
theorem Gn.j_fl {j n:Int} {fl:Nat} (hj:0≤j∧j≤n) (h:n.toNat≤fl) (hl:j < n):j < (fl:Int):=by omega
theorem Gn.k_fl {j n:Int} {k fl:Nat} (hj:0≤j∧j≤n) (h:j < (fl:Int)) (hk:j.toNat=k):k < fl:=by omega
theorem Gn.j_n {j n:Int} (hj:0≤j∧j≤n) (h:¬ j < n):j=n:=by omega
def Gn.ProgPost (R P:Nat) (w:World) (e:Ending) (w':World):Prop := ∃ a n c p',e = .returned (.agg #[.slice a n c])∧Gn.Row w.heap.size w' (.slice a n c) 300000000∧p'≤P+200000000∧Mill.Rd w' R p'∧Gn.Fw R w w'
theorem Gn.prog_end {R g P n c:Nat} {w w9:World} {a:Option Addr} {nv:Value} {nl:List (ByteArray × Int)} {fv:Value} {F:List Gn.Sg} {ret loops count size:Int} (hs:Gn.St R g R (P+200000000) w9 nv nl fv F ret loops count size) (hr:Gn.Row w.heap.size w9 (.slice a n c) 300000000) (hf:Gn.Fw R w w9) (hT:w9.heap[w.heap.size]? = some (.cells #[.slice none 0 0] 73)) (hR:R < w.heap.size) :
  Gn.ProgPost R P w (.returned (.agg #[.slice a n c])) (w9.setCell ⟨w.heap.size,0,none⟩ (.slice a n c)):=by
 obtain ⟨p,hp,hrd⟩:=hs.rd
 obtain ⟨l,h1,h2,h3⟩:=hr
 refine ⟨a,n,c,p,rfl,⟨l,h1,h2,Gn.own_keep h3 (fun k hk _ _=>Gn.set_oth (fun e => ?_))⟩,hp,Gn.Rd_keep hrd (fun k hk=>Gn.set_oth (by omega)),⟨hf.os,hf.tape,hf.output,Nat.le_trans hf.size (by simp [World.setCell]),fun k hk1 hk2=>(Gn.set_oth (by omega)).trans (hf.keep k hk1 hk2)⟩⟩
 obtain ⟨_,c1,hc1⟩:=Gn.row_type h3 hk
 subst e;rw [hT] at hc1;injection hc1 with hc1;injection hc1 with _ hc1 _;exact absurd hc1 (by decide)
end Go.Proofs.YtfoimmnlojjfbaaGreatDoor
