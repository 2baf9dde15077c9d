import Derived.Test.YtbkhedpabfanoaaGreatDoorKRcE
import Derived.Test.YtbkhedpabfanoaaGreatDoorKCdN
import Derived.Deep.RegionLaw
import Derived.Deep.RegionWith
namespace Go.Proofs.YtbkhedpabfanoaaGreatDoor
open Go.RowKit

theorem Rc.own_keep {w w':World} {B e size n:Nat} {v:Value} {xs:List Value} (h:w.ownsRow B e size v n xs) (hk:∀ k,v.ownBlock=some k→B≤k→k < w.heap.size→w'.heap[k]? = w.heap[k]?):w'.ownsRow B e size v n xs:=by
  obtain ⟨h1,h2⟩:=h
  refine ⟨h1, ?_⟩
  rcases h2 with h2 | ⟨g,cap,cur,rfl,hB,hg,r⟩
  · exact .inl h2
  · exact .inr ⟨g,cap,cur,rfl,hB,(hk g rfl hB (Array.getElem?_eq_some_iff.1 hg).1).trans hg,r⟩
def Rc.insCs (l:List Cd.Ins):List Value:=l.flatMap Cd.insC
theorem Rc.insCs_app (a b:List Cd.Ins):Rc.insCs (a++b)=Rc.insCs a++Rc.insCs b:=List.flatMap_append
structure Rc.FnSt (w:World) (g:Nat) (s:ByteArray) (p:Nat) (bad:Bool) (R X:Nat) (f:Cd.Fn) (pv iv:Value) (U:World):Prop where
  dk:Rc.Dk g s p bad U
  rb:U.heap[R]? = some (.cells #[.string ⟨#[]⟩,.slice none 0 0,.int .i64 0,.int .i64 0,.slice none 0 0] 37)
  xb:U.heap[X]? = some (.cells #[.string f.name,pv,.int .i64 f.result,.int .i64 f.slots,iv] 37)
  po:U.ownsRow w.heap.size 3 1 pv f.params.length (Cd.ints f.params)
  io:U.ownsRow w.heap.size 54 4 iv f.ins.length (Rc.insCs f.ins)
  fr:Rc.Fr (fun k=>k=g) w U
  ne:R≠X∧w.heap.size≤R∧w.heap.size≤X∧g < w.heap.size
theorem Rc.cells5 {w:World} {g:Nat} {a b c d e:Value} {t:TypeId} (h:w.heap[g]? = some (.cells #[a,b,c,d,e] t)):(w.cell? ⟨g,0,none⟩=some a∧w.cell? ⟨g,1,none⟩=some b∧w.cell? ⟨g,2,none⟩=some c∧w.cell? ⟨g,3,none⟩=some d∧w.cell? ⟨g,4,none⟩=some e)∧(w.frozen? ⟨g,0,none⟩=false∧w.frozen? ⟨g,1,none⟩=false∧w.frozen? ⟨g,2,none⟩=false∧w.frozen? ⟨g,3,none⟩=false∧w.frozen? ⟨g,4,none⟩=false):=by
  refine ⟨⟨?_, ?_, ?_, ?_, ?_⟩, ?_, ?_, ?_, ?_, ?_⟩
  · rw [Lib.cell_of_heap h];rfl
  · rw [Lib.cell_of_heap h];rfl
  · rw [Lib.cell_of_heap h];rfl
  · rw [Lib.cell_of_heap h];rfl
  · rw [Lib.cell_of_heap h];rfl
  all_goals simp [World.frozen?,h]
theorem Rc.FnSt.call {w:World} {g:Nat} {s:ByteArray} {p:Nat} {bad:Bool} {R X:Nat} {f:Cd.Fn} {pv iv:Value} {U U':World} (h:Rc.FnSt w g s p bad R X f pv iv U) {p':Nat} {bad':Bool} (hd:Rc.Dk g s p' bad' U') (hf:Rc.Fr (fun k=>k=g) U U'):Rc.FnSt w g s p' bad' R X f pv iv U' :=
  ⟨hd,(hf.keep R (Array.getElem?_eq_some_iff.1 h.rb).1 (by have:=h.ne;omega)).trans h.rb,(hf.keep X (Array.getElem?_eq_some_iff.1 h.xb).1 (by have:=h.ne;omega)).trans h.xb,
    Rc.own_keep h.po (fun k _ h1 h2=>hf.keep k h2 (by have:=h.ne;omega)),Rc.own_keep h.io (fun k _ h1 h2=>hf.keep k h2 (by have:=h.ne;omega)),h.fr.trans hf,h.ne⟩
def Rc.fnIn (f:Cd.Fn):Prop:=f.name.size≤3000∧f.params.length≤8∧f.ins.length≤50000∧∀ i ∈ f.ins,Rc.insIn i
def Rc.FnPost (g:Nat) (s:ByteArray) (p:Nat) (bad:Bool) (w:World) (e:Ending) (w':World):Prop :=
  ∃ f pv iv p' bad',e = .returned (Cd.fnV f pv iv)∧Rc.fnIn f∧w'.ownsRow w.heap.size 3 1 pv f.params.length (Cd.ints f.params)∧w'.ownsRow w.heap.size 54 4 iv f.ins.length (Rc.insCs f.ins)∧Rc.Dk g s p' bad' w'∧Rc.Rd Wc.fn Rc.fnFit s p bad f p' bad'∧Rc.Fr (fun k=>k=g) w w'
theorem Rc.cells_new (w:World) (l:List Value) (t:TypeId):∀ j u,l[j]? = some u→(w.alloc (.cells l.toArray t)).cell? ((⟨w.heap.size,0,none⟩:Addr).add j)=some u:=by
  intro j u hj
  have h:=(MapKept.heap_alloc w (.cells l.toArray t)).1
  have e:(⟨w.heap.size,0,none⟩:Addr).add j=⟨w.heap.size,j,none⟩:=by
    rcases Nat.eq_zero_or_pos j with rfl | hp
    · rfl
    · simp [Addr.add];omega
  rw [e,Lib.cell_of_heap h];simpa using hj
theorem Rc.infoIns : (Tryz.prog.info? 54).map (fun i=>(i.zero,i.size,i.bytes))=some (some (.agg #[.int .i64 0,.int .i64 0,.int .i64 0,.string ⟨#[]⟩]),4,40):=by kernel_rfl
def Rc.L {α:Type} (enc:α→List UInt8) (l xs:List α) (k:Nat) (rest cur:List UInt8):Prop:=k+xs.length=l.length∧xs=l.take xs.length∧cur=(l.drop xs.length).flatMap enc++rest
theorem Rc.L.start {α:Type} {enc:α→List UInt8} {l:List α} {rest cur:List UInt8} (h:cur=l.flatMap enc++rest):Rc.L enc l [] l.length rest cur:=⟨rfl,rfl,h⟩
theorem Rc.L.step {α:Type} {enc:α→List UInt8} {l xs:List α} {k:Nat} {rest cur:List UInt8} (h:Rc.L enc l xs (k+1) rest cur):∃ x cur',x ∈ l∧cur=enc x++cur'∧Rc.L enc l (xs++[x]) k rest cur':=by
  obtain ⟨h1,h2,h3⟩:=h
  have hl:xs.length < l.length:=by omega
  refine ⟨l[xs.length],(l.drop (xs.length+1)).flatMap enc++rest,List.getElem_mem hl, ?_,by simp;omega, ?_,by simp⟩
  · rw [h3,List.drop_eq_getElem_cons hl,List.flatMap_cons,List.append_assoc]
  · rw [List.length_append,List.length_singleton,List.take_add_one,List.getElem?_eq_getElem hl,← h2];rfl
theorem Rc.L.done {α:Type} {enc:α→List UInt8} {l xs:List α} {rest cur:List UInt8} (h:Rc.L enc l xs 0 rest cur):xs=l∧cur=rest:=by
  obtain ⟨h1,h2,h3⟩:=h
  have e:xs.length=l.length:=by omega
  rw [e] at h2 h3
  rw [List.take_length] at h2
  rw [List.drop_length] at h3
  exact ⟨h2,by simpa using h3⟩
def Rc.tl (y:Cd.Fn):List UInt8:=Wc.num (Wc.u y.result)++(Wc.num (Wc.u y.slots)++(Wc.num y.ins.length++Wc.inss y.ins))
theorem Rc.fn_head (y:Cd.Fn) (r:List UInt8):Wc.fn y++r=Wc.txt y.name++(Wc.num y.params.length++(Wc.pars y.params++(Rc.tl y++r))):=by
  simp [Wc.fn,Wc.fnH,Rc.tl]
def Rc.If (s:ByteArray) (p:Nat) (bad:Bool) (C:Cd.Fn→List UInt8→Prop):Prop := ∀ y r,Rc.fnFit y→bad=false→s.data.toList.drop p=Wc.fn y++r→C y r
theorem Rc.row_type {w:World} {B e size n:Nat} {v:Value} {xs:List Value} (h:w.ownsRow B e size v n xs) {k:Nat} (hk:v.ownBlock=some k):(B≤k∧k < w.heap.size)∧∃ cur,w.heap[k]? = some (.cells cur e):=by
  rcases h.2 with ⟨rfl,h0⟩ | ⟨g,cap,cur,rfl,hb,hg,_⟩
  · simp [Value.ownBlock] at hk
  · have:g=k:=by simpa [Value.ownBlock] using hk
    subst this
    exact ⟨⟨hb,(Array.getElem?_eq_some_iff.1 hg).1⟩,cur,hg⟩
theorem Rc.row_ne {w:World} {B e size n:Nat} {v:Value} {xs:List Value} (h:w.ownsRow B e size v n xs) {k:Nat} {cur:Array Value} {e':TypeId} (hk:w.heap[k]? = some (.cells cur e')) (hne:e≠e'):some k≠v.ownBlock:=fun hh=>by
  obtain ⟨-,c,hc⟩:=Rc.row_type h hh.symm
  rw [hc] at hk
  injection hk with hk;injection hk with _ hk
  exact hne hk
theorem Rc.FnSt.drew {w:World} {g:Nat} {s:ByteArray} {p:Nat} {bad:Bool} {R X:Nat} {f:Cd.Fn} {pv iv:Value} {U:World} (h:Rc.FnSt w g s p bad R X f pv iv U):Rc.FnSt w g s p bad R X f pv iv U.drew:=h.call (U':=U.drew) h.dk ⟨rfl,rfl,rfl,Nat.le_refl _,fun _ _ _=>rfl⟩
theorem Rc.grown_keep {W2 w3:World} {o:Obj} {row:Option Nat} (hg:(W2.alloc o).grownBy w3 row) {k:Nat} (hk:k < W2.heap.size) (hne:some k≠row):w3.heap[k]? = W2.heap[k]?:=by
  rw [hg.block k (by simp;omega) hne]
  exact (Wc.b1 W2 o).block k hk
theorem Rc.grown_fr {S:Nat→Prop} {w W2 w3:World} {o:Obj} {row:Option Nat} (h:Rc.Fr S w W2) (hg:(W2.alloc o).grownBy w3 row) (hr:∀ k,k < w.heap.size→some k≠row):Rc.Fr S w w3 :=
  ⟨hg.os.trans h.os,hg.tape.trans h.tape,hg.output.trans h.output,Nat.le_trans h.size (Nat.le_trans (by simp) hg.size),fun k hk hs=>(Rc.grown_keep hg (Nat.lt_of_lt_of_le hk h.size) (hr k hk)).trans (h.keep k hk hs)⟩
theorem Rc.FnSt.base {w:World} {g:Nat} {s:ByteArray} {p:Nat} {bad:Bool} {R X:Nat} {f:Cd.Fn} {pv iv:Value} {W2:World} (h:Rc.FnSt w g s p bad R X f pv iv W2) {o:Obj} {w3:World} {v:Value} {B e size n:Nat} {xs:List Value} (hv:W2.ownsRow B e size v n xs) (hB:w.heap.size≤B) (he:e≠37∧e≠32) (hg:(W2.alloc o).grownBy w3 v.ownBlock) :
    Rc.Dk g s p bad w3∧w3.heap[R]? = some (.cells #[.string ⟨#[]⟩,.slice none 0 0,.int .i64 0,.int .i64 0,.slice none 0 0] 37)∧w3.heap[X]? = some (.cells #[.string f.name,pv,.int .i64 f.result,.int .i64 f.slots,iv] 37)∧Rc.Fr (fun k=>k=g) w w3 :=
  ⟨h.dk.keep (Rc.grown_keep hg h.dk.lt (Rc.row_ne hv h.dk he.2)),(Rc.grown_keep hg (Array.getElem?_eq_some_iff.1 h.rb).1 (Rc.row_ne hv h.rb he.1)).trans h.rb,(Rc.grown_keep hg (Array.getElem?_eq_some_iff.1 h.xb).1 (Rc.row_ne hv h.xb he.1)).trans h.xb,Rc.grown_fr h.fr hg (fun k hk e=>by have:=(Rc.row_type hv e.symm).1.1;omega)⟩
theorem Rc.own_grown {W2 w3:World} {o:Obj} {v u:Value} {B e size n B' e' size' n':Nat} {xs xs':List Value} (hv:W2.ownsRow B e size v n xs) (hu:W2.ownsRow B' e' size' u n' xs') (he:e≠e') (hg:(W2.alloc o).grownBy w3 v.ownBlock):w3.ownsRow B' e' size' u n' xs' :=
  Rc.own_keep hu (fun k hk _ h2=>Rc.grown_keep hg h2 (by obtain ⟨-,c,hc⟩:=Rc.row_type hu hk;exact Rc.row_ne hv hc he))
theorem Rc.own_set {w:World} {B e size n:Nat} {v:Value} {xs:List Value} (h:w.ownsRow B e size v n xs) {X j:Nat} {x:Value} {cur:Array Value} {t:TypeId} (hX:w.heap[X]? = some (.cells cur t)) (hne:e≠t):(w.setCell ⟨X,j,none⟩ x).ownsRow B e size v n xs :=
  Rc.own_keep h (fun k hk _ _=>Rc.set_oth (fun e2=>by subst e2;exact Rc.row_ne h hX hne hk.symm))
theorem Rc.FnSt.par {w:World} {g:Nat} {s:ByteArray} {p:Nat} {bad:Bool} {R X:Nat} {f:Cd.Fn} {pv iv:Value} {W2:World} (h:Rc.FnSt w g s p bad R X f pv iv W2) {o:Obj} {w3:World} {v':Value} {t:Int} (hn:w3.ownsRow w.heap.size 3 1 v' (f.params.length+1) (Cd.ints f.params++[.int .i64 t])) (hg:(W2.alloc o).grownBy w3 pv.ownBlock) :
    Rc.FnSt w g s p bad R X { f with params:=f.params++[t] } v' iv (w3.setCell ⟨X,1,none⟩ v'):=by
  obtain ⟨h1,h2,h3,h4⟩:=h.base h.po (Nat.le_refl _) (by decide) hg
  have hne:=h.ne
  refine ⟨h1.keep (Rc.set_oth (by omega)),(Rc.set_oth hne.1).trans h2,by rw [Rc.set_same h3];rfl, ?_,Rc.own_set (Rc.own_grown h.po h.io (by decide) hg) h3 (by decide),h4.new X 1 v' hne.2.2.1,hne⟩
  have:=Rc.own_set (j:=1) (x:=v') hn h3 (by decide)
  simp only [List.length_append,List.length_singleton]
  rw [Cd.ints_app];exact this
theorem Rc.FnSt.inst {w:World} {g:Nat} {s:ByteArray} {p:Nat} {bad:Bool} {R X:Nat} {f:Cd.Fn} {pv iv:Value} {W2:World} (h:Rc.FnSt w g s p bad R X f pv iv W2) {o:Obj} {w3:World} {v':Value} {t:Cd.Ins} (hn:w3.ownsRow w.heap.size 54 4 v' (f.ins.length+1) (Rc.insCs f.ins++Cd.insC t)) (hg:(W2.alloc o).grownBy w3 iv.ownBlock) :
    Rc.FnSt w g s p bad R X { f with ins:=f.ins++[t] } pv v' (w3.setCell ⟨X,4,none⟩ v'):=by
  obtain ⟨h1,h2,h3,h4⟩:=h.base h.io (Nat.le_refl _) (by decide) hg
  have hne:=h.ne
  refine ⟨h1.keep (Rc.set_oth (by omega)),(Rc.set_oth hne.1).trans h2,by rw [Rc.set_same h3];rfl,Rc.own_set (Rc.own_grown h.io h.po (by decide) hg) h3 (by decide), ?_,h4.new X 4 v' hne.2.2.1,hne⟩
  have:=Rc.own_set (j:=4) (x:=v') hn h3 (by decide)
  simp only [List.length_append,List.length_singleton]
  rw [Rc.insCs_app]
  have e:Rc.insCs [t]=Cd.insC t:=by simp [Rc.insCs]
  rw [e];exact this
theorem Rc.FnSt.put {w:World} {g:Nat} {s:ByteArray} {p:Nat} {bad:Bool} {R X:Nat} {f:Cd.Fn} {pv iv:Value} {U:World} (h:Rc.FnSt w g s p bad R X f pv iv U) (j:Nat) (v:Value) (f':Cd.Fn) (e:(#[.string f.name,pv,.int .i64 f.result,.int .i64 f.slots,iv]:Array Value).setIfInBounds j v = #[.string f'.name,pv,.int .i64 f'.result,.int .i64 f'.slots,iv]) (e1:f'.params=f.params) (e2:f'.ins=f.ins):Rc.FnSt w g s p bad R X f' pv iv (U.setCell ⟨X,j,none⟩ v):=by
  have hne:=h.ne
  exact ⟨h.dk.keep (Rc.set_oth (by omega)),(Rc.set_oth hne.1).trans h.rb,by rw [Rc.set_same h.xb,e],by rw [e1];exact Rc.own_set h.po h.xb (by decide),by rw [e2];exact Rc.own_set h.io h.xb (by decide),h.fr.new X j v hne.2.2.1,hne⟩
theorem Rc.FnSt.ret {w:World} {g:Nat} {s:ByteArray} {p:Nat} {bad:Bool} {R X:Nat} {f:Cd.Fn} {pv iv:Value} {U:World} (h:Rc.FnSt w g s p bad R X f pv iv U) :
    ∃ U5,((((U.setCell ⟨R,0,none⟩ (.string f.name)).setCell ⟨R,1,none⟩ pv).setCell ⟨R,2,none⟩ (.int .i64 f.result)).setCell ⟨R,3,none⟩ (.int .i64 f.slots)).setCell ⟨R,4,none⟩ iv=U5∧U5.ownsRow w.heap.size 3 1 pv f.params.length (Cd.ints f.params)∧U5.ownsRow w.heap.size 54 4 iv f.ins.length (Rc.insCs f.ins)∧Rc.Dk g s p bad U5∧Rc.Fr (fun k=>k=g) w U5∧U5.cell? ⟨R,0,none⟩=some (.string f.name)∧U5.cell? ⟨R,1,none⟩=some pv∧U5.cell? ⟨R,2,none⟩=some (.int .i64 f.result)∧U5.cell? ⟨R,3,none⟩=some (.int .i64 f.slots)∧U5.cell? ⟨R,4,none⟩=some iv:=by
  have b1:=Rc.set_same (i:=0) (v:=.string f.name) h.rb
  have b2:=Rc.set_same (i:=1) (v:=pv) b1
  have b3:=Rc.set_same (i:=2) (v:=.int .i64 f.result) b2
  have b4:=Rc.set_same (i:=3) (v:=.int .i64 f.slots) b3
  have b5:=Rc.set_same (i:=4) (v:=iv) b4
  obtain ⟨⟨c0,c1,c2,c3,c4⟩,-⟩:=Rc.cells5 (a:=.string f.name) (b:=pv) (c:=.int .i64 f.result) (d:=.int .i64 f.slots) (e:=iv) b5
  have hn:=h.ne.2.1
  have hg:g≠R:=by have:=h.ne;omega
  exact ⟨_,rfl,Rc.own_set (Rc.own_set (Rc.own_set (Rc.own_set (Rc.own_set h.po h.rb (by decide)) b1 (by decide)) b2 (by decide)) b3 (by decide)) b4 (by decide),Rc.own_set (Rc.own_set (Rc.own_set (Rc.own_set (Rc.own_set h.io h.rb (by decide)) b1 (by decide)) b2 (by decide)) b3 (by decide)) b4 (by decide),h.dk.keep ((Rc.set_oth hg).trans ((Rc.set_oth hg).trans ((Rc.set_oth hg).trans ((Rc.set_oth hg).trans (Rc.set_oth hg))))),((((h.fr.new R 0 _ hn).new R 1 _ hn).new R 2 _ hn).new R 3 _ hn).new R 4 _ hn,c0,c1,c2,c3,c4⟩
theorem Rc.step_append_at {P:Program} {ops:Array Oper} {o:Oper} {a:Act} {w:World} {K:Act→World→Prop} {Q:Exit→Act→World→Prop} {E:Prop}
    (hg:o.guard=none) (s x:Operand) (t:TypeId) (hop:o.op=Op.call { callee:=Callee.builtin Builtin.append,args := #[s,x],argTypes := #[t,t] })
    (base:Nat) (e:TypeId) (i:TypeInfo) (z:Value) (size bytes:Nat) (h1:P.underlying t=some (.slice e)) (h2:P.info? e=some i) (h3:i.zero=some z) (h4:i.size=size) (h5:i.bytes=bytes) (h6:z.cells.size=size) (h7:0 < size)
    (v:Value) (n:Nat) (xs:List Value) (hs:a.eval s=v) (hown:w.ownsRow base e size v n xs)
    (ad:Addr) (m c:Nat) (news:List Value) (hx:a.eval x = .slice (some ad) m c) (hn:news.length=m * size) (hc:∀ j u,news[j]? = some u→w.cell? (ad.add j)=some u) (h1c:∀ u ∈ news,u.oneCell'=true)
    (b1:n+m≤maxLen) (b2:(n+m) * bytes≤140737488355328) (hbase:base≤w.heap.size)
    (hK:∀ v' w',w'.ownsRow base e size v' (n+m) (xs++news)→w.grownBy w' v.ownBlock→K (a.put o.dst v') w') :
    if Region.wanted o (yielded ops a.tmps)=true then Oper.wp P o a w K Q else E:=by
  have hw:Region.wanted o (yielded ops a.tmps)=true:=by simp [Region.wanted,hg]
  rw [if_pos hw]
  obtain ⟨v',w',hrun,r1,r2,_,_⟩:=run_append_own_at (P:=P) (w:=w) base t o.type e i z size bytes h1 h2 h3 h4 h5 h6 h7 v n xs hown ad m c news hn hc h1c b1 b2 hbase
  unfold Oper.wp
  simp [execOp,hop,resolve,invoke,builtin,hs,hx,hrun,Result.andThen]
  exact hK v' w' r1 r2
set_option maxRecDepth 100000 in
set_option maxHeartbeats 1000000 in
theorem Rc.fn_any (g:Nat) (s:ByteArray) (p:Nat) (bad:Bool) (hs:s.size≤1048576) (hp:p≤s.size) (w:World) (hD:Rc.Dk g s p bad w) :
    Calls Tryz.prog 10 #[.pointer (some ⟨g,0,none⟩)] w (Rc.FnPost g s p bad w):=by
  have hgw:g < w.heap.size:=hD.lt
  have HS:Hid (∀ (m p:Nat) (bad:Bool) (U:World),m≤1000000→p≤s.size→Rc.Dk g s p bad U→Calls Tryz.prog 9 #[.pointer (some ⟨g,0,none⟩),.int .i64 (m:Int)] U (Rc.SmallPost m g s p bad U)):=fun m p bad U h1 h2 h3=>Rc.small_any m g s p bad h1 hs h2 U h3
  obtain ⟨V,hV⟩:∃ V,w.alloc (.cells #[.string ⟨#[]⟩,.slice none 0 0,.int .i64 0,.int .i64 0,.slice none 0 0] 37)=V:=⟨_,rfl⟩
  have hbV:Below w.heap.size w V:=by rw [← hV];exact Wc.b1 w _
  have HVR:Hid (V.heap[w.heap.size]? = some (.cells #[.string ⟨#[]⟩,.slice none 0 0,.int .i64 0,.int .i64 0,.slice none 0 0] 37)):=by rw [Hid,← hV];exact (MapKept.heap_alloc w _).1
  have HDV:Hid (Rc.Dk g s p bad V):=hD.below hbV
  have HFV:Hid (Rc.Fr (fun k=>k=g) w V):=Rc.Fr.of_below hbV
  clear hD hbV
  go_enter Tryz.func10,Tryz.ntmps10
  go_wp2_with fail
  refine (Rc.text_any g s p bad hs hp V HDV.out).mono ?_
  rintro e w1 ⟨nm,p1,b1,rfl,hnm,hD1,⟨⟨h1,h2⟩,h3⟩,hF1⟩
  obtain ⟨i0,hi0,hz0,hz1,hz2⟩:=Cd.int_info
  obtain ⟨R,HR⟩:∃ R,Hid (w.heap.size=R):=⟨_,(rfl:w.heap.size=_)⟩
  obtain ⟨X,HX⟩:∃ X,Hid (w1.heap.size=X):=⟨_,(rfl:w1.heap.size=_)⟩
  clear hV
  rw [HR.out]
  go_wp2_with fail
  obtain ⟨V1,hV1⟩:∃ V,w1.alloc (.cells #[.string nm,.slice none 0 0,.int .i64 0,.int .i64 0,.slice none 0 0] 37)=V:=⟨_,rfl⟩
  have HST:Hid (Rc.FnSt w g s p1 b1 R X ⟨nm,[],0,0,[]⟩ (.slice none 0 0) (.slice none 0 0) V1):=by
    have hb1:Below w1.heap.size w1 V1:=by rw [← hV1];exact Wc.b1 w1 _
    have hr1:w1.heap[w.heap.size]? = _:=(hF1.keep w.heap.size (Array.getElem?_eq_some_iff.1 HVR.out).1 (by omega)).trans HVR.out
    have hlt:=(Array.getElem?_eq_some_iff.1 hr1).1
    have:=(HFV.out.trans hF1).size
    rw [HX.out] at hlt this
    rw [HR.out] at hlt this hgw hr1
    exact ⟨hD1.below hb1,(hb1.block R (by rw [HX.out];exact hlt)).trans hr1,by rw [← hV1,← HX.out];exact (MapKept.heap_alloc w1 _).1,⟨rfl,.inl ⟨rfl,rfl⟩⟩,⟨rfl,.inl ⟨rfl,rfl⟩⟩,(HFV.out.trans hF1).trans (Rc.Fr.of_below hb1),by omega,by rw [HR.out];omega,by rw [HR.out];omega,by rw [HR.out];omega⟩
  have HI1:Hid (Rc.If s p bad fun y r=>nm=y.name∧b1=false∧s.data.toList.drop p1=Wc.num y.params.length++(Wc.pars y.params++(Rc.tl y++r))):=fun y r hy h0 hd=>by
    rw [Rc.fn_head] at hd
    obtain ⟨e1,e2,-,e3⟩:=h3 y.name _ (by have:=hy.1;omega) h0 hd
    exact ⟨e1,e2,e3⟩
  rw [hV1,HX.out]
  clear hD1 h3 hF1 hV1 HVR HFV HDV
  refine (HS.out 8 p1 b1 V1 (by omega) h2 HST.out.dk).mono ?_
  rintro e w2 ⟨n,p2,b2,rfl,hn,hD2,⟨⟨h3,h4⟩,h5⟩,hF2⟩
  have HST2:Hid (Rc.FnSt w g s p2 b2 R X ⟨nm,[],0,0,[]⟩ (.slice none 0 0) (.slice none 0 0) w2):=HST.out.call hD2 hF2
  have HI2:Hid (Rc.If s p bad fun y r=>nm=y.name∧b2=false∧Rc.L (fun t=>Wc.num (Wc.u t)) y.params [] n (Rc.tl y++r) (s.data.toList.drop p2)):=fun y r hy h0 hd=>by
    obtain ⟨e1,e2,e3⟩:=HI1.out y r hy h0 hd
    obtain ⟨e4,e5,-,e6⟩:=h5 _ _ hy.2.1 e2 e3
    exact ⟨e1,e5,by rw [e4];exact Rc.L.start e6⟩
  clear hD2 h5 hF2 HST HI1
  go_wp2_with fail
  go_loopw [4] (fun t wr => ∃ (k q:Nat) (b:Bool) (ps:List Int) (pa:Option Addr) (pc:Nat),k+ps.length≤8∧t = .int .i64 (k:Int)∧(p≤q∧q≤s.size)∧Rc.FnSt w g s q b R X ⟨nm,ps,0,0,[]⟩ (.slice pa ps.length pc) (.slice none 0 0) wr∧Rc.If s p bad (fun y r=>nm=y.name∧b=false∧Rc.L (fun t=>Wc.num (Wc.u t)) y.params ps k (Rc.tl y++r) (s.data.toList.drop q))) (fun t _=>(intOf t).toNat)
  case atStart=>exact ⟨n,p2,b2,[],none,0,by simp;omega,rfl,⟨by omega,h4⟩,HST2.out,HI2.out⟩
  case round =>
    obtain ⟨k,q,b,ps,pa,pc,hk,rfl,⟨hq1,hq2⟩,hST,hIF⟩:=hrel
    have HST3:Hid (Rc.FnSt w g s q b R X ⟨nm,ps,0,0,[]⟩ (.slice pa ps.length pc) (.slice none 0 0) wr):=hST
    have HI3:Hid (Rc.If s p bad (fun y r=>nm=y.name∧b=false∧Rc.L (fun t=>Wc.num (Wc.u t)) y.params ps k (Rc.tl y++r) (s.data.toList.drop q))):=hIF
    obtain ⟨⟨c0,c1,c2⟩,-⟩:=hST.dk.cells
    clear hST hIF HST2 HI2
    by_cases hgo:0 < k∧b=false
    · obtain ⟨hk0,rfl⟩:=hgo
      have hk0I:(0:Int) < (k:Int):=by omega
      obtain ⟨k',HKK⟩:∃ k',Hid (k=k'+1):=⟨k - 1,(by omega:k=k - 1+1)⟩
      have hkw:(k:Int) - 1=(k':Int):=by have:=HKK.out;omega
      obtain ⟨⟨x0,x1,x2,x3,x4⟩,y0,y1,y2,y3,y4⟩:=Rc.cells5 HST3.out.xb
      simp only at x0 x1 x2 x3 x4
      have HOWN:=HST3.out.po
      go_wp2_with fail
      go_region_law (first
        | (go_simp;go_at_call 9;refine (HS.out 10 q false wr.drew (by omega) hq2 HST3.out.dk).mono ?_;rintro e w4 ⟨t,p4,b4,rfl,ht,hD4,⟨⟨h6,h7⟩,h8⟩,hF4⟩;have HST4:Hid (Rc.FnSt w g s p4 b4 R X ⟨nm,ps,0,0,[]⟩ (.slice pa ps.length pc) (.slice none 0 0) w4):=HST3.out.drew.call hD4 hF4;have z1:=(Rc.cells5 HST4.out.xb).1.2.1;(try simp only at z1);have z2:(w4.alloc (.cells #[.int .i64 (t:Int)] 3)).cell? ⟨X,1,none⟩=some (.slice pa ps.length pc):=(by rw [World.cell?_alloc_lt _ _ ⟨X,1,none⟩ (World.block_lt_of_cell? _ _ z1)];exact z1);(try simp only))
        | (refine Rc.step_append_at rfl (.tmp 23) (.tmp 26) 34 rfl w.heap.size 3 i0 (.int .i64 0) 1 8 Tryz.underlying34 hi0 hz0 hz1 hz2 rfl (by decide) (.slice pa ps.length pc) ps.length (Cd.ints ps) rfl (HST4.out.po.alloc _) ⟨w4.heap.size,0,none⟩ 1 1 [.int .i64 (t:Int)] rfl rfl (Wc.cell_new _ _ _) (fun x hx=>by simp at hx;subst hx;rfl) (by unfold maxLen;omega) (by omega) (by have:=HST4.out.fr.size;simp;omega) ?_;intro v' w5 hown' hg5;obtain ⟨a5,c5,hv5⟩:=Cd.rowLen hown';subst hv5;have u1:=(Rc.cells5 (HST4.out.base HST4.out.po (Nat.le_refl _) (by decide) hg5).2.2.1).1.2.1;have u2:=(Rc.cells5 (HST4.out.base HST4.out.po (Nat.le_refl _) (by decide) hg5).2.2.1).2.2.1;(try simp only at u1)))
      all_goals
        have HST5:Hid (Rc.FnSt w g s p4 b4 R X ⟨nm,ps++[(t:Int)],0,0,[]⟩ (.slice a5 (ps.length+1) c5) (.slice none 0 0) (w5.setCell ⟨X,1,none⟩ (.slice a5 (ps.length+1) c5))):=HST4.out.par hown' hg5
        have HI5:Hid (Rc.If s p bad (fun y r=>nm=y.name∧b4=false∧Rc.L (fun t=>Wc.num (Wc.u t)) y.params (ps++[(t:Int)]) k' (Rc.tl y++r) (s.data.toList.drop p4))):=fun y r hy h0 hd=>by
          obtain ⟨e1,e2,e3⟩:=HI3.out y r hy h0 hd
          rw [HKK.out] at e3
          obtain ⟨x,cur',e4,e5,e6⟩:=e3.step
          obtain ⟨e7,e8,-,e9⟩:=h8 (Wc.u x) cur' (Rc.u_le (hy.2.2.1 x e4).1 (hy.2.2.1 x e4).2 (by omega)) rfl e5
          have e10:=Rc.u_small (hy.2.2.1 x e4).1 (by have:=(hy.2.2.1 x e4).2;omega) e7
          exact ⟨e1,e8,by rw [e10,e9];exact e6⟩
        have hk1:k'+(ps++[(t:Int)]).length≤8:=by have:=HKK.out;simp;omega
        have hq3:p≤p4:=by omega
        clear HST3 HI3 HST4 hown' hg5 u1 u2 z1 z2 h8 hF4 hD4 x0 x1 x2 x3 x4 y0 y1 y2 y3 y4 c0 c1 c2 HOWN
        go_wp2_with fail
        go_roundw
        case rel=>exact ⟨k',p4,b4,ps++[(t:Int)],a5,c5,hk1,by rw [← hkw],⟨hq3,h7⟩,by rw [List.length_append,List.length_singleton];exact HST5.out,HI5.out⟩
        case measure=>have:=HKK.out;simp [intOf];omega
    · have hC:k=0∨(0 < k∧b=true):=by
        rcases Nat.eq_zero_or_pos k with h | h
        · exact .inl h
        · right;refine ⟨h, ?_⟩
          cases b with
          | true=>rfl
          | false=>exact absurd ⟨h,rfl⟩ hgo
      have HI4:Hid (Rc.If s p bad (fun y r=>nm=y.name∧b=false∧ps=y.params∧s.data.toList.drop q=Rc.tl y++r)):=fun y r hy h0 hd=>by
        obtain ⟨e1,e2,e3⟩:=HI3.out y r hy h0 hd
        rcases hC with h | ⟨_,h⟩
        · rw [h] at e3;exact ⟨e1,e2,e3.done.1,e3.done.2⟩
        · rw [h] at e2;cases e2
      have hps:ps.length≤8:=by omega
      clear HI3 hgo
      obtain ⟨j0,hj0,hy0,hy1,hy2⟩:=info_parts Rc.infoIns
      rcases hC with hk0 | ⟨hk0,hb⟩
      all_goals first | (have hk0I:¬ (0:Int) < (k:Int):=(by omega)) | (have hk0I:(0:Int) < (k:Int):=(by omega);rw [hb] at c2)
      all_goals
        go_wp2_with fail
        clear c0 c1 c2
        refine (HS.out 10 q b wr (by omega) hq2 HST3.out.dk).mono ?_
        rintro e w6 ⟨rs,p6,b6,rfl,hrs,hD6,⟨⟨h6,h7⟩,h8⟩,hF6⟩
        have HST6:Hid (Rc.FnSt w g s p6 b6 R X ⟨nm,ps,rs,0,[]⟩ (.slice pa ps.length pc) (.slice none 0 0) (w6.setCell ⟨X,2,none⟩ (.int .i64 (rs:Int)))):=(HST3.out.call hD6 hF6).put 2 _ _ rfl rfl rfl
        have z1:=(Rc.cells5 (HST3.out.call hD6 hF6).xb).1.2.2.1
        have z2:=(Rc.cells5 (HST3.out.call hD6 hF6).xb).2.2.2.1
        simp only at z1
        have HI6:Hid (Rc.If s p bad (fun y r=>nm=y.name∧b6=false∧ps=y.params∧(rs:Int)=y.result∧s.data.toList.drop p6=Wc.num (Wc.u y.slots)++(Wc.num y.ins.length++(Wc.inss y.ins++r)))):=fun y r hy h0 hd=>by
          obtain ⟨e1,e2,e3,e4⟩:=HI4.out y r hy h0 hd
          obtain ⟨e5,e6,-,e7⟩:=h8 _ _ (Rc.u_le hy.2.2.2.1.1 hy.2.2.2.1.2 (by omega)) e2 (by rw [e4,Rc.tl,List.append_assoc])
          exact ⟨e1,e6,e3,Rc.u_small hy.2.2.2.1.1 (by have:=hy.2.2.2.1.2;omega) e5,by rw [e7,List.append_assoc,List.append_assoc]⟩
        clear h8 HI4 HST3 hD6 hF6
        go_wp2_with fail
        clear z1 z2
        refine (HS.out 200 p6 b6 _ (by omega) h7 HST6.out.dk).mono ?_
        rintro e w7 ⟨ss,p7,b7,rfl,hss,hD7,⟨⟨h9,h10⟩,h11⟩,hF7⟩
        have HST7:Hid (Rc.FnSt w g s p7 b7 R X ⟨nm,ps,rs,ss,[]⟩ (.slice pa ps.length pc) (.slice none 0 0) (w7.setCell ⟨X,3,none⟩ (.int .i64 (ss:Int)))):=(HST6.out.call hD7 hF7).put 3 _ _ rfl rfl rfl
        have z1:=(Rc.cells5 (HST6.out.call hD7 hF7).xb).1.2.2.2.1
        have z2:=(Rc.cells5 (HST6.out.call hD7 hF7).xb).2.2.2.2.1
        simp only at z1
        have HI7:Hid (Rc.If s p bad (fun y r=>nm=y.name∧b7=false∧ps=y.params∧(rs:Int)=y.result∧(ss:Int)=y.slots∧s.data.toList.drop p7=Wc.num y.ins.length++(Wc.inss y.ins++r))):=fun y r hy h0 hd=>by
          obtain ⟨e1,e2,e3,e4,e5⟩:=HI6.out y r hy h0 hd
          obtain ⟨e6,e7,-,e8⟩:=h11 _ _ (Rc.u_le hy.2.2.2.2.1.1 hy.2.2.2.2.1.2 (by omega)) e2 e5
          exact ⟨e1,e7,e3,e4,Rc.u_small hy.2.2.2.2.1.1 (by have:=hy.2.2.2.2.1.2;omega) e6,e8⟩
        clear h11 HI6 HST6 hD7 hF7
        go_wp2_with fail
        clear z1 z2
        refine (HS.out 50000 p7 b7 _ (by omega) h10 HST7.out.dk).mono ?_
        rintro e w8 ⟨m,p8,b8,rfl,hm,hD8,⟨⟨h12,h13⟩,h14⟩,hF8⟩
        have HST8:Hid (Rc.FnSt w g s p8 b8 R X ⟨nm,ps,rs,ss,[]⟩ (.slice pa ps.length pc) (.slice none 0 0) w8):=HST7.out.call hD8 hF8
        have HI8:Hid (Rc.If s p bad (fun y r=>(nm=y.name∧ps=y.params∧(rs:Int)=y.result∧(ss:Int)=y.slots)∧b8=false∧Rc.L Wc.ins y.ins [] m r (s.data.toList.drop p8))):=fun y r hy h0 hd=>by
          obtain ⟨e1,e2,e3,e4,e5,e6⟩:=HI7.out y r hy h0 hd
          obtain ⟨e7,e8,-,e9⟩:=h14 _ _ hy.2.2.2.2.2.1 e2 e6
          exact ⟨⟨e1,e3,e4,e5⟩,e8,by rw [e7];exact Rc.L.start e9⟩
        have hq8:p≤p8:=by omega
        clear h14 HI7 HST7 hD8 hF8
        go_wp2_with fail
        go_loopw [5] (fun t wr => ∃ (k q:Nat) (b:Bool) (is:List Cd.Ins) (ia:Option Addr) (ic:Nat),k+is.length≤50000∧t = .int .i64 (k:Int)∧(p≤q∧q≤s.size)∧(∀ i ∈ is,Rc.insIn i)∧Rc.FnSt w g s q b R X ⟨nm,ps,rs,ss,is⟩ (.slice pa ps.length pc) (.slice ia is.length ic) wr∧Rc.If s p bad (fun y r=>(nm=y.name∧ps=y.params∧(rs:Int)=y.result∧(ss:Int)=y.slots)∧b=false∧Rc.L Wc.ins y.ins is k r (s.data.toList.drop q))) (fun t _=>(intOf t).toNat)
        case atStart=>exact ⟨m,p8,b8,[],none,0,by simp;omega,rfl,⟨hq8,h13⟩,fun i hi=>by simp at hi,HST8.out,HI8.out⟩
        case round =>
          obtain ⟨k,q,b,is,ia,ic,hk,rfl,⟨hq1,hq2⟩,hin,hST,hIF⟩:=hrel
          have HST3:Hid (Rc.FnSt w g s q b R X ⟨nm,ps,rs,ss,is⟩ (.slice pa ps.length pc) (.slice ia is.length ic) wr):=hST
          have HI3:Hid (Rc.If s p bad (fun y r=>(nm=y.name∧ps=y.params∧(rs:Int)=y.result∧(ss:Int)=y.slots)∧b=false∧Rc.L Wc.ins y.ins is k r (s.data.toList.drop q))):=hIF
          have HIN:Hid (∀ i ∈ is,Rc.insIn i):=hin
          obtain ⟨⟨c0,c1,c2⟩,-⟩:=hST.dk.cells
          clear hST hIF HST8 HI8 hin
          by_cases hgo:0 < k∧b=false
          · obtain ⟨hk0,rfl⟩:=hgo
            have hk0I:(0:Int) < (k:Int):=by omega
            obtain ⟨k',HKK⟩:∃ k',Hid (k=k'+1):=⟨k - 1,(by omega:k=k - 1+1)⟩
            have hkw:(k:Int) - 1=(k':Int):=by have:=HKK.out;omega
            obtain ⟨⟨x0,x1,x2,x3,x4⟩,y0,y1,y2,y3,y4⟩:=Rc.cells5 HST3.out.xb
            simp only at x0 x1 x2 x3 x4
            go_wp2_with fail
            go_region_law (first
              | (go_simp;go_at_call 19;refine (Rc.ins_any g s q false hs hq2 wr.drew HST3.out.dk).mono ?_;rintro e w4 ⟨⟨io,ja,jn,jt⟩,p4,b4,rfl,hii,hD4,⟨⟨h6,h7⟩,h8⟩,hF4⟩;have HST4:Hid (Rc.FnSt w g s p4 b4 R X ⟨nm,ps,rs,ss,is⟩ (.slice pa ps.length pc) (.slice ia is.length ic) w4):=HST3.out.drew.call hD4 hF4;have z1:=(Rc.cells5 HST4.out.xb).1.2.2.2.2;(try simp only at z1);have z2:(w4.alloc (.cells #[.int .i64 io,.int .i64 ja,.int .i64 jn,.string jt] 54)).cell? ⟨X,4,none⟩=some (.slice ia is.length ic):=(by rw [World.cell?_alloc_lt _ _ ⟨X,4,none⟩ (World.block_lt_of_cell? _ _ z1)];exact z1);unfold Cd.insV;(try simp only))
              | (refine Rc.step_append_at rfl (.tmp 49) (.tmp 52) 35 rfl w.heap.size 54 j0 (.agg #[.int .i64 0,.int .i64 0,.int .i64 0,.string ⟨#[]⟩]) 4 40 Tryz.underlying35 hj0 hy0 hy1 hy2 rfl (by decide) (.slice ia is.length ic) is.length (Rc.insCs is) rfl (HST4.out.io.alloc _) ⟨w4.heap.size,0,none⟩ 1 1 [.int .i64 io,.int .i64 ja,.int .i64 jn,.string jt] rfl rfl (Rc.cells_new _ [.int .i64 io,.int .i64 ja,.int .i64 jn,.string jt] _) (fun x hx=>by simp at hx;rcases hx with rfl | rfl | rfl | rfl <;> rfl) (by unfold maxLen;omega) (by omega) (by have:=HST4.out.fr.size;simp;omega) ?_;intro v' w5 hown' hg5;obtain ⟨a5,c5,hv5⟩:=Cd.rowLen hown';subst hv5;have u1:=(Rc.cells5 (HST4.out.base HST4.out.io (Nat.le_refl _) (by decide) hg5).2.2.1).1.2.2.2.2;have u2:=(Rc.cells5 (HST4.out.base HST4.out.io (Nat.le_refl _) (by decide) hg5).2.2.1).2.2.2.2.2;(try simp only at u1)))
            all_goals
              have HST5:Hid (Rc.FnSt w g s p4 b4 R X ⟨nm,ps,rs,ss,is++[⟨io,ja,jn,jt⟩]⟩ (.slice pa ps.length pc) (.slice a5 (is.length+1) c5) (w5.setCell ⟨X,4,none⟩ (.slice a5 (is.length+1) c5))):=HST4.out.inst (t:=⟨io,ja,jn,jt⟩) hown' hg5
              have HI5:Hid (Rc.If s p bad (fun y r=>(nm=y.name∧ps=y.params∧(rs:Int)=y.result∧(ss:Int)=y.slots)∧b4=false∧Rc.L Wc.ins y.ins (is++[⟨io,ja,jn,jt⟩]) k' r (s.data.toList.drop p4))):=fun y r hy h0 hd=>by
                obtain ⟨e1,e2,e3⟩:=HI3.out y r hy h0 hd
                rw [HKK.out] at e3
                obtain ⟨x,cur',e4,e5,e6⟩:=e3.step
                obtain ⟨e7,e8,-,e9⟩:=h8 x cur' (hy.2.2.2.2.2.2 x e4) rfl e5
                exact ⟨e1,e8,by rw [e7,e9];exact e6⟩
              have HIN5:Hid (∀ i ∈ is++[(⟨io,ja,jn,jt⟩:Cd.Ins)],Rc.insIn i):=fun i hi=>by
                rcases List.mem_append.1 hi with h | h
                · exact HIN.out i h
                · rw [List.mem_singleton.1 h];exact hii
              have hk1:k'+(is++[(⟨io,ja,jn,jt⟩:Cd.Ins)]).length≤50000:=by have:=HKK.out;simp;omega
              have hq3:p≤p4:=by omega
              clear HST3 HI3 HST4 hown' hg5 u1 u2 z1 z2 h8 hF4 hD4 x0 x1 x2 x3 x4 y0 y1 y2 y3 y4 c0 c1 c2 HIN hii
              go_wp2_with fail
              go_roundw
              case rel=>exact ⟨k',p4,b4,is++[⟨io,ja,jn,jt⟩],a5,c5,hk1,by rw [← hkw],⟨hq3,h7⟩,HIN5.out,by rw [List.length_append,List.length_singleton];exact HST5.out,HI5.out⟩
              case measure=>have:=HKK.out;simp [intOf];omega
          · have hC:k=0∨(0 < k∧b=true):=by
              rcases Nat.eq_zero_or_pos k with h | h
              · exact .inl h
              · right;refine ⟨h, ?_⟩
                cases b with
                | true=>rfl
                | false=>exact absurd ⟨h,rfl⟩ hgo
            have HRD:Hid (Rc.Rd Wc.fn Rc.fnFit s p bad ⟨nm,ps,rs,ss,is⟩ q b):=Rc.Rd.mk hq1 hq2 (fun y r hy h0 hd=>by
              obtain ⟨⟨e1,e2,e3,e4⟩,e5,e6⟩:=HI3.out y r hy h0 hd
              rcases hC with h | ⟨_,h⟩
              · rw [h] at e6
                refine ⟨?_,e5,e6.done.2⟩
                rw [e1,e2,e3,e4,e6.done.1]
              · rw [h] at e5;cases e5)
            obtain ⟨⟨x0,x1,x2,x3,x4⟩,y0,y1,y2,y3,y4⟩:=Rc.cells5 HST3.out.xb
            obtain ⟨⟨r0,r1,r2,r3,r4⟩,g0,g1,g2,g3,g4⟩:=Rc.cells5 HST3.out.rb
            simp only at x0 x1 x2 x3 x4
            clear HI3 hgo
            rcases hC with hk0 | ⟨hk0,hb⟩
            all_goals first | (have hk0I:¬ (0:Int) < (k:Int):=(by omega)) | (have hk0I:(0:Int) < (k:Int):=(by omega);rw [hb] at c2)
            all_goals
              go_wp2_with fail
              obtain ⟨U5,hU5,hP5,hI5,hD5,hF5,d0,d1,d2,d3,d4⟩:=HST3.out.ret
              simp only at hU5 d0 d1 d2 d3 d4
              rw [hU5]
              clear hU5 x0 x1 x2 x3 x4 y0 y1 y2 y3 y4 r0 r1 r2 r3 r4 g0 g1 g2 g3 g4 c0 c1 c2
              exact bodyPost_ret (v:=Cd.fnV ⟨nm,ps,rs,ss,is⟩ (.slice pa ps.length pc) (.slice ia is.length ic)) (by simp [results,Tryz.results10,go_sem,d0,d1,d2,d3,d4,Cd.fnV]) rfl ⟨⟨nm,ps,rs,ss,is⟩,_,_,q,b,rfl,⟨hnm,hps,(by simp only;omega),HIN.out⟩,hP5,hI5,hD5,HRD.out,hF5⟩
end Go.Proofs.YtbkhedpabfanoaaGreatDoor
