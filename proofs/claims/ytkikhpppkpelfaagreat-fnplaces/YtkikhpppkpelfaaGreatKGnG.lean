import Derived.Test.YtkikhpppkpelfaaGreatKGnF
namespace Go.Proofs.YtkikhpppkpelfaaGreat
open Go.RowKit
def Gn.Bd (N:Nat) (L:List Bx.Fl):Prop:=L.length≤N∧∀ d ∈ L,d.name.size≤100∧d.text.size≤20000
theorem Gn.Bd.app {N:Nat} {L:List Bx.Fl} {x t:ByteArray} (h:Gn.Bd N L) (hx:x.size≤100) (ht:t.size≤20000):Gn.Bd (N+1) (L++[⟨x,t⟩]):=⟨by rw [List.length_append,List.length_singleton];have:=h.1;omega,fun d hd=>by
  rcases List.mem_append.1 hd with hd | hd
  · exact h.2 d hd
  · rw [List.mem_singleton.1 hd];exact ⟨hx,ht⟩⟩
theorem Gn.Bd.mono {N N':Nat} {L:List Bx.Fl} (h:Gn.Bd N L) (hN:N≤N'):Gn.Bd N' L:=⟨Nat.le_trans h.1 hN,h.2⟩
theorem Gn.run_file {V:World} (ty:TypeId) {A:Nat} {da:Option Addr} {dc:Nat} {L:List Bx.Fl} (hp:V.ownsRow A 36 2 (.slice da L.length dc) L.length (Bx.fCs L)) (hl:L.length≤1000) (nm tx:ByteArray) {b:Nat} (hV:V.heap[b]? = some (.cells #[.string nm,.string tx] 36)) (hA:A≤V.heap.size) :
    ∃ a' c' w',(Builtin.append_ #[23,23] ty #[.slice da L.length dc,.slice (some ⟨b,0,none⟩) 1 1]).run Tryz.prog V = .ok (.slice a' (L.length+1) c') w'∧w'.ownsRow A 36 2 (.slice a' (L.length+1) c') (L.length+1) (Bx.fCs (L++[⟨nm,tx⟩]))∧V.grownBy w' (Value.slice da L.length dc).ownBlock:=by
  obtain ⟨i0,hi0,hy0,hy1,hy2⟩:=info_parts Tryz.infoFile
  have hsrc:Gn.Src V (some ⟨b,0,none⟩) 1 [.string nm,.string tx]:=fun _=>⟨_,rfl,fun k u hk=>by
    rw [Gn.add_at,Lib.cell_of_heap hV]
    simpa using hk⟩
  obtain ⟨v6,w6,hr,hown6,hg6⟩:=Gn.run_append_any (P:=Tryz.prog) (w:=V) A 23 ty 36 i0 (.agg #[.string ByteArray.empty,.string ByteArray.empty]) 2 32 Tryz.underlying23 hi0 hy0 hy1 hy2 rfl (by decide) _ _ _ hp (some ⟨b,0,none⟩) 1 1 [.string nm,.string tx] rfl hsrc (by intro u hu;simp at hu;rcases hu with rfl | rfl <;> rfl) (by unfold maxLen;omega) (by omega) hA
  obtain ⟨a7,c7,e7⟩:=Gn.rowLen hown6
  subst e7
  have e:Bx.fCs (L++[⟨nm,tx⟩])=Bx.fCs L++[.string nm,.string tx]:=by simp [Bx.fCs,Bx.fC]
  exact ⟨a7,c7,w6,hr,by rw [e];exact hown6,hg6⟩
theorem Gn.wp_file {V:World} {ops:Array Oper} {rest:List Oper} {o:Oper} {a:Act} {Q:Exit→Act→World→Prop} (hgd:o.guard=none) (s x:Operand)
    (ho:o.op = .call { callee:=.builtin .append,args := #[s,x],argTypes := #[23,23] }) {A:Nat} {da:Option Addr} {dc:Nat} {L:List Bx.Fl} (hp:V.ownsRow A 36 2 (.slice da L.length dc) L.length (Bx.fCs L)) (hl:L.length≤1000) (nm tx:ByteArray) {b:Nat} (hV:V.heap[b]? = some (.cells #[.string nm,.string tx] 36)) (hA:A≤V.heap.size)
    (hs:a.eval s = .slice da L.length dc) (hx:a.eval x = .slice (some ⟨b,0,none⟩) 1 1)
    (h:∀ a' c' w',w'.ownsRow A 36 2 (.slice a' (L.length+1) c') (L.length+1) (Bx.fCs (L++[⟨nm,tx⟩]))→V.grownBy w' (Value.slice da L.length dc).ownBlock→wpList Tryz.prog ops Q rest (a.put o.dst (.slice a' (L.length+1) c')) w') :
    wpList Tryz.prog ops Q (o::rest) a V:=by
  refine wpList_plain hgd fun K hK => ?_
  obtain ⟨a7,c7,w6,hr,h1,h2⟩:=Gn.run_file o.type hp hl nm tx hV hA
  unfold Oper.wp execOp
  simp only [ho,resolve,invoke,builtin,Sem.run_bind,Sem.run_pure,Result.andThen_ok,List.map_toArray,List.map_cons,List.map_nil,hs,hx,hr]
  exact hK _ _ (h a7 c7 w6 h1 h2)
theorem Gn.step_file {V:World} {ops:Array Oper} {o:Oper} {a:Act} {K:Act→World→Prop} {Q:Exit→Act→World→Prop} {E:Prop} (hgd:o.guard=none) (s x:Operand)
    (ho:o.op = .call { callee:=.builtin .append,args := #[s,x],argTypes := #[23,23] }) {A:Nat} {da:Option Addr} {dc:Nat} {L:List Bx.Fl} (hp:V.ownsRow A 36 2 (.slice da L.length dc) L.length (Bx.fCs L)) (hl:L.length≤1000) (nm tx:ByteArray) {b:Nat} (hV:V.heap[b]? = some (.cells #[.string nm,.string tx] 36)) (hA:A≤V.heap.size)
    (hs:a.eval s = .slice da L.length dc) (hx:a.eval x = .slice (some ⟨b,0,none⟩) 1 1)
    (h:∀ a' c' w',w'.ownsRow A 36 2 (.slice a' (L.length+1) c') (L.length+1) (Bx.fCs (L++[⟨nm,tx⟩]))→V.grownBy w' (Value.slice da L.length dc).ownBlock→K (a.put o.dst (.slice a' (L.length+1) c')) w') :
    if Region.wanted o (yielded ops a.tmps)=true then Oper.wp Tryz.prog o a V K Q else E:=by
  have hwt:Region.wanted o (yielded ops a.tmps)=true:=by simp [Region.wanted,hgd]
  rw [if_pos hwt]
  obtain ⟨a7,c7,w6,hr,h1,h2⟩:=Gn.run_file o.type hp hl nm tx hV hA
  unfold Oper.wp execOp
  simp only [ho,resolve,invoke,builtin,Sem.run_bind,Sem.run_pure,Result.andThen_ok,List.map_toArray,List.map_cons,List.map_nil,hs,hx,hr]
  exact h a7 c7 w6 h1 h2
theorem Gn.Dr_grown {R p k n:Nat} {Wz W W':World} {v:Value} {xs:List Value} {e size:Nat} (h:Mill.Dr R p k Wz W) (ho:W.ownsRow Wz.heap.size e size v n xs) (hR:R < Wz.heap.size) (hg:W.grownBy W' v.ownBlock):Mill.Dr R p k Wz W' :=
  h.grown hg (fun _ hj=>(Gn.row_type ho hj).1.1) hR (Nat.le_refl _)
theorem Gn.stab {W:World} {b T M:Nat} {cs:Array Value} (h:W.heap[b]? = some (.cells cs T)) (hM:cs.toList.all (Mill.strB M)=true) (v:Nat) (hv:v < cs.size):∃ t:ByteArray,W.cell? ⟨b,v,none⟩=some (.string t)∧t.size≤M:=by
  obtain ⟨t,ht,hs⟩:=Mill.strB_of (List.all_eq_true.1 hM cs[v] (by simp))
  exact ⟨t,by simp [World.cell?,h,hv,ht],hs⟩
def Gn.SpoilIs : Prop := ∀ (R P:Nat) (w:World) (A:Nat) (a:Option Addr) (n c:Nat) (L:List Bx.Fl),(∃ p,p≤P∧Mill.Rd w R p)→P≤800000000→w.ownsRow A 36 2 (.slice a n c) L.length (Bx.fCs L)→Gn.Bd 9 L→Gn.Sh L→Calls Tryz.prog 14 #[.pointer (some ⟨R,0,none⟩),.agg #[.slice a n c]] w fun e w' => ∃ a' n' c' L',e = .returned (.agg #[.slice a' n' c'])∧w'.ownsRow w.heap.size 36 2 (.slice a' n' c') L'.length (Bx.fCs L')∧Gn.Bd 50 L'∧Gn.Dw R (P+10) w w'
theorem Gn.bytes_below {w w':World} {v:Value} {n:Nat} (h:Mill.Bytes w w.heap.size v n) (hb:Below w.heap.size w w'):Mill.Bytes w' w'.heap.size v n:=by
  rcases h with e | ⟨b,off,cap,h1,h2,h3⟩
  · exact .inl e
  · refine .inr ⟨b,off,cap,h1,Nat.lt_of_lt_of_le h2 hb.size,fun i hi => ?_⟩
    obtain ⟨x,x0,x1,hx⟩:=h3 i hi
    exact ⟨x,x0,x1,(hb.cell (p:=⟨b,off+i,none⟩) h2).trans hx⟩
def Gn.DLPost (w:World) (e:Ending) (w':World):Prop := ∃ a n c a' n' c' fs ss,e = .returned (.tuple #[.agg #[.slice a n c],.slice a' n' c'])∧Bx.Off w' (.slice a n c) fs∧Bx.Off w' (.slice a' n' c') ss∧Gn.Bd 50 fs∧Gn.Bd 50 ss∧Below w.heap.size w w'
theorem Gn.below_fw {R:Nat} {w W W':World} (h:Below w.heap.size w W) (hf:Gn.Fw R W W') (hR:w.heap.size≤R):Below w.heap.size w W':=⟨hf.os.trans h.os,hf.tape.trans h.tape,hf.output.trans h.output,Nat.le_trans h.size hf.size,fun k hk=>(hf.keep k (Nat.lt_of_lt_of_le hk h.size) (.inl (by omega))).trans (h.block k hk)⟩
theorem Gn.tab_but {R p k b T:Nat} {Wz W W':World} {cs:Array Value} (hd:Mill.Dr R p k Wz W) (hb:Mill.But R W W') (h:W.heap[b]? = some (.cells cs T)) (hT:T≠62):W'.heap[b]? = some (.cells cs T):=by
  obtain ⟨p',_,_,hR⟩:=hd.at_
  obtain ⟨cur,hc⟩:=Gn.Rd_type hR
  exact (hb.block b (Array.getElem?_eq_some_iff.1 h).1 (fun e=>by subst e;rw [h] at hc;injection hc with hc;injection hc with _ hc _;exact hT hc)).trans h
theorem Gn.manyD {w w1:World} {R p k:Nat} (s:ByteArray) (n:Int) (hD:Mill.Dr R p k w w1) (hs:s.size≤1) (h0:0≤n) (h1:n≤3001) :
    Calls Tryz.prog 17 #[.string s,.int .i64 n] w1 fun e w' => ∃ t:ByteArray,e = .returned (.string t)∧t.size≤3001∧Mill.Dr R p k w w'∧Mill.But R w1 w':=by
  obtain ⟨m,rfl⟩:=Int.eq_ofNat_of_zero_le h0
  refine (l1Many_any s m w1 (by omega) (by omega)).mono ?_
  rintro e w' ⟨t,he,ht,hb⟩
  refine ⟨t,he, ?_,hD.below hb,Mill.But.of_below hb⟩
  have:=Nat.mul_le_mul_right m hs
  omega
theorem Gn.below_set {w W:World} {b i:Nat} {v:Value} (h:Below w.heap.size w W) (hb:w.heap.size≤b):Below w.heap.size w (W.setCell ⟨b,i,none⟩ v):=⟨h.os,h.tape,h.output,Nat.le_trans h.size (by simp [World.setCell]),fun k hk=>(Gn.set_oth (by omega)).trans (h.block k hk)⟩
theorem Gn.row_set {W:World} {A bq n:Nat} {v u u':Value} {xs:List Value} (hr:W.ownsRow A 36 2 v n xs) (hx:W.heap[bq]? = some (.cells #[u] 25)):(W.setCell ⟨bq,0,none⟩ u').ownsRow A 36 2 v n xs:=Gn.own_keep hr (fun k hk _ _=>Gn.set_oth (fun e=>by
  obtain ⟨_,c1,hc1⟩:=Gn.row_type hr hk
  subst e;rw [hx] at hc1;injection hc1 with hc1;injection hc1 with _ hc1 _;exact absurd hc1 (by decide)))
def Gn.rlen (v:Value):Nat:=match v with | .slice _ n _=>n | _=>0
theorem Gn.wi3000 {v:Int} (h:0≤v∧v < 2):IntKind.i64.wrap (3000+v)=3000+v:=(IntWalk.i64_left _).trans (IntWalk.wrap64_in _ (by omega))
theorem Gn.dl_c {k:Int} (hk:0≤k∧k≤3):0+1+9 * (3 - k).toNat≤40:=by omega
theorem Gn.dl_d {k:Int} (hk:0≤k∧k≤3):(3 - k).toNat≤3:=by omega
theorem Gn.dl_end {R p k pn pc n' c':Nat} {w Wz W:World} {pa a':Option Addr} {Lp S:List Bx.Fl} {A:Nat} (hd:Mill.Dr R p k Wz W) (hpr:Wz.ownsRow A 36 2 (.slice pa pn pc) Lp.length (Bx.fCs Lp)) (hro:W.ownsRow Wz.heap.size 36 2 (.slice a' n' c') S.length (Bx.fCs S)) (hT:W.heap[w.heap.size]? = some (.cells #[.slice none 0 0] 25)) (hbp:Gn.Bd 50 Lp) (hbs:Gn.Bd 50 S) (hbz:Below w.heap.size w Wz) (hRw:w.heap.size < R) (hrz:Mill.Rd Wz R p) :
    Gn.DLPost w (.returned (.tuple #[.agg #[.slice pa pn pc],.slice a' n' c'])) (W.setCell ⟨w.heap.size,0,none⟩ (.slice pa pn pc)):=by
  have hk:∀ {v:Value} {n A:Nat} {xs:List Value},W.ownsRow A 36 2 v n xs→(W.setCell ⟨w.heap.size,0,none⟩ (.slice pa pn pc)).ownsRow A 36 2 v n xs:=fun {v n A xs} hr=>Gn.own_keep hr (fun k hk _ _=>Gn.set_oth (fun e=>by
    obtain ⟨_,c1,hc1⟩:=Gn.row_type hr hk
    subst e;rw [hT] at hc1;injection hc1 with hc1;injection hc1 with _ hc1 _;exact absurd hc1 (by decide)))
  obtain ⟨cur,hcur⟩:=Gn.Rd_type hrz
  have hprW:W.ownsRow A 36 2 (.slice pa pn pc) Lp.length (Bx.fCs Lp):=Gn.own_keep hpr (fun k hk _ hl=>hd.but.block k hl (fun e=>by
    obtain ⟨_,c1,hc1⟩:=Gn.row_type hpr hk
    subst e;rw [hcur] at hc1;injection hc1 with hc1;injection hc1 with _ hc1 _;exact absurd hc1 (by decide)))
  refine ⟨pa,pn,pc,a',n',c',Lp,S,rfl,Bx.own_off (hk hprW),Bx.own_off (hk hro),hbp,hbs,⟨hd.but.os.trans hbz.os,hd.but.tape.trans hbz.tape,hd.but.output.trans hbz.output,Nat.le_trans hbz.size (Nat.le_trans hd.but.size (by simp [World.setCell])),fun k hk=>(Gn.set_oth (by omega)).trans ((hd.but.block k (Nat.lt_of_lt_of_le hk hbz.size) (by omega)).trans (hbz.block k hk))⟩⟩
theorem Gn.same_bd {T:List Bx.Fl} {v:Int} {x:Bx.Fl} (h:Gn.Bd 42 T) (hl:(T.length:Int) < 40+v) (hv:0≤v∧v < 2) (hx:x.name.size≤100∧x.text.size≤20000:=by decide):Gn.Bd 42 (T++[x]):=⟨by rw [List.length_append,List.length_singleton];omega,fun d hd=>by
  rcases List.mem_append.1 hd with hd | hd
  · exact h.2 d hd
  · rw [List.mem_singleton.1 hd];exact hx⟩
theorem Gn.same_ms {n:Nat} {v:Int} {a a':Option Addr} {c c':Nat} (hl:(n:Int) < 40+v) (hv:0≤v∧v < 2):42 - Gn.rlen (.slice a' (n+1) c') < 42 - Gn.rlen (.slice a n c):=by simp only [Gn.rlen];omega
theorem Gn.k3 {k:Int} (hk:0≤k∧k≤3) (h:0 < k):(0≤k - 1∧k - 1≤3)∧(3 - (k - 1)).toNat=(3 - k).toNat+1∧(3 - k).toNat≤2:=by omega
theorem Gn.wr_k3 {k:Int} (hk:0≤k∧k≤3) (h:0 < k):wrap64 (k - 1)=k - 1:=IntWalk.wrap64_in _ (by omega)
theorem Gn.v20 {v n:Int} (_h:0≤v∧v < n):(v=0∧Gn.Mk)∨(¬ v=0∧Gn.Mk):=by simp only [Gn.Mk,and_true];omega
theorem Gn.dl_b {p q:Nat} (hp:p≤800000000) (hq:q≤2):p+(0+1+9 * q) < 100000000000∧p+(0+1+9 * q+1) < 10000000000∧0+1+9 * q+1+8≤0+1+9 * (q+1):=by refine ⟨?_, ?_, ?_⟩ <;> omega
structure Gn.So (bt bp A N:Nat) (W:World) (v:Value) (L:List Bx.Fl):Prop where
  res:W.heap[bt]? = some (.cells #[.slice none 0 0] 25)
  box:W.heap[bp]? = some (.cells #[v] 25)
  row:W.ownsRow A 36 2 v L.length (Bx.fCs L)
  bd:Gn.Bd N L
  ne:bt≠bp
theorem Gn.So.but {bt bp A N R p k:Nat} {w W W':World} {v:Value} {L:List Bx.Fl} (h:Gn.So bt bp A N W v L) (hd:Mill.Dr R p k w W) (hb:Mill.But R W W') (hR:R < A):Gn.So bt bp A N W' v L:=⟨Gn.tab_but hd hb h.res (by decide),Gn.tab_but hd hb h.box (by decide),Mill.own_but h.row hR hb,h.bd,h.ne⟩
theorem Gn.So.below {bt bp A N:Nat} {W W':World} {v:Value} {L:List Bx.Fl} (h:Gn.So bt bp A N W v L) (hb:Below W.heap.size W W'):Gn.So bt bp A N W' v L:=⟨(hb.block _ (Array.getElem?_eq_some_iff.1 h.res).1).trans h.res,(hb.block _ (Array.getElem?_eq_some_iff.1 h.box).1).trans h.box,Gn.own_keep h.row (fun k _ _ hl=>hb.block k hl),h.bd,h.ne⟩
theorem Gn.So.mono {bt bp A N N':Nat} {W:World} {v:Value} {L:List Bx.Fl} (h:Gn.So bt bp A N W v L) (hN:N≤N'):Gn.So bt bp A N' W v L:=⟨h.res,h.box,h.row,h.bd.mono hN,h.ne⟩
theorem Gn.So.cell {bt bp A N:Nat} {W:World} {v:Value} {L:List Bx.Fl} (h:Gn.So bt bp A N W v L):W.cell? ⟨bp,0,none⟩=some v:=by rw [Lib.cell_of_heap h.box];rfl
theorem Gn.So.froz {bt bp A N:Nat} {W:World} {v:Value} {L:List Bx.Fl} (h:Gn.So bt bp A N W v L):W.frozen? ⟨bp,0,none⟩=false:=by simp [World.frozen?,h.box]
theorem Gn.So.set {bt bp A N N':Nat} {W:World} {v v':Value} {L L':List Bx.Fl} (h:Gn.So bt bp A N W v L) (hr:W.ownsRow A 36 2 v' L'.length (Bx.fCs L')) (hbd:Gn.Bd N' L'):Gn.So bt bp A N' (W.setCell ⟨bp,0,none⟩ v') v' L':=⟨(Gn.set_oth h.ne).trans h.res,by rw [Gn.set_same h.box];rfl,Gn.row_set hr h.box,hbd,h.ne⟩
theorem Gn.So.app {bt bp A N N':Nat} {W W':World} {v v':Value} {L L':List Bx.Fl} (h:Gn.So bt bp A N W v L) (hg:W.grownBy W' v.ownBlock) (hr:W'.ownsRow A 36 2 v' L'.length (Bx.fCs L')) (hbd:Gn.Bd N' L'):Gn.So bt bp A N' (W'.setCell ⟨bp,0,none⟩ v') v' L'∧W'.cell? ⟨bp,0,none⟩=some v∧W'.frozen? ⟨bp,0,none⟩=false:=by
  have hk:∀ {b:Nat} {u:Value},W.heap[b]? = some (.cells #[u] 25)→W'.heap[b]? = some (.cells #[u] 25):=fun {b u} hb=>(hg.block b (Array.getElem?_eq_some_iff.1 hb).1 (fun e=>by
    obtain ⟨_,c1,hc1⟩:=Gn.row_type h.row e.symm
    rw [hb] at hc1;injection hc1 with hc1;injection hc1 with _ hc1 _;exact absurd hc1 (by decide))).trans hb
  have hb':=hk h.box
  exact ⟨⟨(Gn.set_oth h.ne).trans (hk h.res),by rw [Gn.set_same hb'];rfl,Gn.row_set hr hb',hbd,h.ne⟩,by rw [Lib.cell_of_heap hb'];rfl,by simp [World.frozen?,hb']⟩
theorem Gn.Dr_set {R p k b i:Nat} {w W:World} {v:Value} (h:Mill.Dr R p k w W) (hb:w.heap.size≤b) (hR:R < b):Mill.Dr R p k w (W.setCell ⟨b,i,none⟩ v):=by
  obtain ⟨p',a1,a2,hr⟩:=h.at_
  exact ⟨⟨p',a1,a2,Gn.Rd_keep hr (fun k hk=>Gn.set_oth (by omega))⟩,⟨h.but.os,h.but.tape,h.but.output,Nat.le_trans h.but.size (by simp [World.setCell]),fun k hk hkR=>(Gn.set_oth (by omega)).trans (h.but.block k hk hkR)⟩⟩
theorem Gn.Dr_grow {R p k A n:Nat} {w W W':World} {v:Value} {xs:List Value} {e size:Nat} (h:Mill.Dr R p k w W) (ho:W.ownsRow A e size v n xs) (hA:w.heap.size≤A) (hR:R < A) (hg:W.grownBy W' v.ownBlock):Mill.Dr R p k w W' :=
  h.grown hg (fun _ hj=>(Gn.row_type ho hj).1.1) hR hA
def Gn.SqPost (R P:Nat) (w:World) (e:Ending) (w':World):Prop := ∃ a' n' c' L',e = .returned (.agg #[.slice a' n' c'])∧w'.ownsRow w.heap.size 36 2 (.slice a' n' c') L'.length (Bx.fCs L')∧Gn.Bd 50 L'∧Gn.Dw R (P+10) w w'
theorem Gn.sp_end {R P p k bt bp A n c:Nat} {w W:World} {a:Option Addr} {L:List Bx.Fl} (hd:Mill.Dr R p k w W) (hk:k≤10) (hp:p≤P) (hrd:Mill.Rd w R p) (h:Gn.So bt bp A 50 W (.slice a n c) L) (hbt:w.heap.size≤bt) (hA:w.heap.size≤A):Gn.SqPost R P w (.returned (.agg #[.slice a n c])) (W.setCell ⟨bt,0,none⟩ (.slice a n c)):=by
  have hRw:=hrd.lt
  exact ⟨a,n,c,L,rfl,Gn.own_mono (Gn.row_set h.row h.res) hA,h.bd,(Gn.Dw.of_dr (Gn.Dw.refl hrd hp) hrd hp (Gn.Dr_set hd hbt (by omega))).mono (by omega)⟩
theorem Gn.f_one (L:List Bx.Fl):∀ u ∈ Bx.fCs L,u.oneCell'=true:=fun u hu=>by
  obtain ⟨f,_,hf⟩:=List.mem_flatMap.1 hu
  simp [Bx.fC] at hf
  rcases hf with rfl | rfl <;> rfl
theorem Gn.wp_files {V:World} {ops:Array Oper} {rest:List Oper} {o:Oper} {a:Act} {Q:Exit→Act→World→Prop} (hgd:o.guard=none) (s x:Operand)
    (ho:o.op = .call { callee:=.builtin .append,args := #[s,x],argTypes := #[23,23] }) {A A2:Nat} {da sa:Option Addr} {dn dc sn sc:Nat} {L:List Bx.Fl} (hp:V.ownsRow A 36 2 (.slice da dn dc) 0 (Bx.fCs [])) (h2:V.ownsRow A2 36 2 (.slice sa sn sc) L.length (Bx.fCs L)) (hl:L.length≤1000) (hA:A≤V.heap.size)
    (hs:a.eval s = .slice da dn dc) (hx:a.eval x = .slice sa sn sc)
    (h:∀ a' c' w',w'.ownsRow A 36 2 (.slice a' L.length c') L.length (Bx.fCs L)→V.grownBy w' (Value.slice da dn dc).ownBlock→wpList Tryz.prog ops Q rest (a.put o.dst (.slice a' L.length c')) w') :
    wpList Tryz.prog ops Q (o::rest) a V:=by
  obtain ⟨i0,hi0,hy0,hy1,hy2⟩:=info_parts Tryz.infoFile
  obtain ⟨a3,c3,e3⟩:=Gn.rowLen h2
  injection e3 with e31 e32 e33
  subst e31;subst e32;subst e33
  refine Gn.wp_append_any hgd s x 23 ho A 36 i0 (.agg #[.string ByteArray.empty,.string ByteArray.empty]) 2 32 Tryz.underlying23 hi0 hy0 hy1 hy2 rfl (by decide) _ _ _ hs hp sa L.length sc hx (Bx.fCs L) (Bx.fCs_length L) (Gn.own_src h2) (Gn.f_one L) (by unfold maxLen;omega) (by omega) hA ?_
  intro v6 w6 hown6 hg6
  obtain ⟨a7,c7,e7⟩:=Gn.rowLen hown6
  subst e7
  rw [Nat.zero_add] at hown6 ⊢
  exact h a7 c7 w6 (by simpa [Bx.fCs] using hown6) hg6
theorem Gn.manyE {w w1:World} {R p k:Nat} (s:ByteArray) (n:Int) (hD:Mill.Dr R p k w w1) (hs:s.size≤1) (h0:0≤n) (h1:n≤3001) :
    Calls Tryz.prog 17 #[.string s,.int .i64 n] w1 fun e w' => ∃ t:ByteArray,e = .returned (.string t)∧(t.size:Int)≤n∧Mill.Dr R p k w w'∧Mill.But R w1 w':=by
  obtain ⟨m,rfl⟩:=Int.eq_ofNat_of_zero_le h0
  refine (l1Many_any s m w1 (by omega) (by omega)).mono ?_
  rintro e w' ⟨t,he,ht,hb⟩
  refine ⟨t,he, ?_,hD.below hb,Mill.But.of_below hb⟩
  have:=Nat.mul_le_mul_right m hs
  omega
theorem Gn.many_60 {t:ByteArray} {v:Int} (h:(t.size:Int)≤60+v) (hv:0≤v∧v < 2):t.size≤100:=by omega
theorem Gn.many_3000 {t:ByteArray} {v:Int} (h:(t.size:Int)≤3000+v) (hv:0≤v∧v < 2):t.size≤20000:=by omega
theorem Gn.own_put {W:World} {A e size n b i:Nat} {v u:Value} {xs:List Value} (h:W.ownsRow A e size v n xs) (hb:v.ownBlock=some b):(W.setCell ⟨b,i,none⟩ u).ownsRow A e size v n (xs.set i u):=by
  rcases h.2 with ⟨rfl,_⟩ | ⟨g,cap,cur,rfl,h1,h2,h3,h4,h5,h6⟩
  · simp [Value.ownBlock] at hb
  · have e:g=b:=by simpa [Value.ownBlock] using hb
    subst e
    refine ⟨by simpa using h.1,.inr ⟨g,cap,cur.setIfInBounds i u,rfl,h1,Gn.set_same h2,h3,h4,by simpa using h5, ?_⟩⟩
    rw [Array.toList_setIfInBounds,List.take_set,h6]
theorem Gn.row_blk {W:World} {A e size n c:Nat} {a:Option Addr} {m:Nat} {xs:List Value} (h:W.ownsRow A e size (.slice a n c) m xs) (hm:0 < m):∃ b,a=some ⟨b,0,none⟩∧(Value.slice a n c).ownBlock=some b:=by
  rcases h.2 with ⟨_,e⟩ | ⟨g,cap,cur,e,_⟩
  · omega
  · injection e with e1 e2 e3
    exact ⟨g,e1,by rw [e1];rfl⟩
theorem Gn.So.row_ne {bt bp A N b:Nat} {W:World} {v:Value} {L:List Bx.Fl} (h:Gn.So bt bp A N W v L) (hb:v.ownBlock=some b):bt≠b∧bp≠b:=by
  obtain ⟨_,c1,hc1⟩:=Gn.row_type h.row hb
  refine ⟨fun e => ?_,fun e => ?_⟩
  · subst e;rw [h.res] at hc1;injection hc1 with hc1;injection hc1 with _ hc1 _;exact absurd hc1 (by decide)
  · subst e;rw [h.box] at hc1;injection hc1 with hc1;injection hc1 with _ hc1 _;exact absurd hc1 (by decide)
theorem Gn.So.write {bt bp A N b i:Nat} {W:World} {v u:Value} {L L':List Bx.Fl} (h:Gn.So bt bp A N W v L) (hb:v.ownBlock=some b) (hl:L'.length=L.length) (he:(Bx.fCs L).set i u=Bx.fCs L') (hbd:∀ d ∈ L',d.name.size≤100∧d.text.size≤20000):Gn.So bt bp A N (W.setCell ⟨b,i,none⟩ u) v L':=by
  obtain ⟨n1,n2⟩:=h.row_ne hb
  refine ⟨(Gn.set_oth n1).trans h.res,(Gn.set_oth n2).trans h.box, ?_,⟨by rw [hl];exact h.bd.1,hbd⟩,h.ne⟩
  rw [hl,← he];exact Gn.own_put h.row hb
theorem Gn.So.at_ {bt bp A N b i:Nat} {W:World} {v u:Value} {L:List Bx.Fl} (h:Gn.So bt bp A N W v L) (hb:v.ownBlock=some b) (hu:(Bx.fCs L)[i]? = some u):W.cell? ⟨b,i,none⟩=some u∧W.frozen? ⟨b,i,none⟩=false:=by
  obtain ⟨_,c1,hc1⟩:=Gn.row_type h.row hb
  exact ⟨Gn.own_cells h.row hb i u hu,by simp [World.frozen?,hc1]⟩
theorem Gn.k5 {k:Int} (h:0≤k∧k < 5):(k=0∧Gn.Mk)∨(k=1∧Gn.Mk)∨(k=2∧Gn.Mk)∨(k=3∧Gn.Mk)∨(k=4∧Gn.Mk):=by
  simp only [Gn.Mk,and_true];omega
def Gn.Nm (k:Nat) (x:ByteArray):Prop:=x.size=60∧x.data[58]? = some (UInt8.ofNat (65+k % 26))∧x.data[59]? = some (UInt8.ofNat (97+k / 26))
def Gn.Nz (j:Nat) (L:List Bx.Fl):Prop := ∀ d ∈ L,d.name.size≤10∨∃ k,k < j∧Gn.Nm k d.name
theorem Gn.Nm.one {k m:Nat} {x:ByteArray} (hk:k < 600) (hm:m < 600) (h:Gn.Nm k x) (h2:Gn.Nm m x):k=m:=by
  obtain ⟨_,a1,a2⟩:=h
  obtain ⟨_,b1,b2⟩:=h2
  rw [a1] at b1;rw [a2] at b2
  injection b1 with b1
  injection b2 with b2
  have c1:=congrArg UInt8.toNat b1
  have c2:=congrArg UInt8.toNat b2
  simp only [UInt8.toNat_ofNat'] at c1 c2
  omega
theorem Gn.Nz.new {j:Nat} {L:List Bx.Fl} {x:ByteArray} (h:Gn.Nz j L) (hj:j < 600) (hx:Gn.Nm j x):∀ d ∈ L,d.name≠x:=fun d hd e=>by
  rcases h d hd with h1 | ⟨k,hk,h1⟩
  · rw [e,hx.1] at h1;omega
  · rw [e] at h1
    have:=Gn.Nm.one (by omega) hj h1 hx
    omega
theorem Gn.put_len_new {L:List Bx.Fl} {f:Bx.Fl} (h:∀ d ∈ L,d.name≠f.name):(Bx.put L f).length=L.length+1:=by
  have h1:=congrArg List.length (Bx.put_names f h)
  simp only [List.length_map,List.length_append,List.length_take,List.length_drop,List.length_singleton] at h1
  omega
theorem Gn.Nz.put {j:Nat} {L:List Bx.Fl} {f:Bx.Fl} (h:Gn.Nz j L) (hx:Gn.Nm j f.name):Gn.Nz (j+1) (Bx.put L f):=fun d hd=>by
  rcases Bx.put_mem hd with rfl | hd
  · exact .inr ⟨j,Nat.lt_succ_self j,hx⟩
  · rcases h d hd with h1 | ⟨k,hk,h1⟩
    · exact .inl h1
    · exact .inr ⟨k,by omega,h1⟩
theorem Gn.Nz.start {L:List Bx.Fl} (h:Gn.Sh L):Gn.Nz 0 L:=fun d hd => .inl (h.2 d hd)
theorem Gn.Nm.of (k:Nat) {a:ByteArray} (ha:a.size=58):Gn.Nm k (a++⟨#[UInt8.ofNat (65+k % 26),UInt8.ofNat (97+k / 26)]⟩):=by
  have hd:a.data.size=58:=ha
  refine ⟨by rw [ByteArray.size_append,ha];rfl, ?_, ?_⟩
  · rw [ByteArray.data_append,Array.getElem?_append_right (by omega),hd];rfl
  · rw [ByteArray.data_append,Array.getElem?_append_right (by omega),hd];rfl
end Go.Proofs.YtkikhpppkpelfaaGreat
