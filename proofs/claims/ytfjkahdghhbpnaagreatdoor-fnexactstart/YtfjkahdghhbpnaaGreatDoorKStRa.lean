import Derived.Test.YtfjkahdghhbpnaaGreatDoorKStL
import Derived.Deep.RegionHeld3
namespace Go.Proofs.YtfjkahdghhbpnaaGreatDoor
open Go.RowKit
theorem Qb2 (l:Array Bool) (i j:Nat) (hi:i < l.size):(l.setIfInBounds i true).getD j false=(j == i || l.getD j false):=by
 by_cases e:j=i
 ·subst e;simp[hi]
 ·have a:¬ i=j:=fun h=>e h.symm
  simp[e,a]
theorem Pg (l:List Bool) (i:Nat) (h:l[i]? = some false):(l.set i true).count false+1=l.count false:=by
 induction l generalizing i with
 | nil=>simp at h
 | cons x t ih =>
  cases i with
  | zero=>simp at h;subst h;simp
  | succ i=>simp at h;have:=ih i h;simp[List.count_cons];omega
theorem Kz {P:Program} {ops:Array Oper} {Q:Exit->Act->World->Prop} {md:Region.Mode} {S:World->Prop} (I:(Nat->Bool)->Act->World->Prop)
  (htop:(List.range ops.size).all (fun i=>((ops[i]?).map (·.after.all fun e=>decide (e.on < i))).getD true)=true)
  (hS:∀ L a w,I L a w->S w)
  (hstep:∀ (L:Nat->Bool) (i:Nat) (o:Oper),ops[i]? = some o->L i=false->(∀ e ∈ o.after,Region.binds md e=true->L e.on=true)->∀ a w,I L a w->∀ K':Act->World->Prop,Shut (∀ a' w',I (fun j=>j == i || L j) a' w'->K' a' w')->if Region.wanted o (yielded ops a.tmps)=true then Oper.wp P o a w K' Q else K' (a.put o.dst undef) w)
  (hdone:∀ (L:Nat->Bool),(∀ i,i < ops.size->L i=true)->∀ a w,I L a w->Q .normal a w) :
  ∀ (c:Nat) (b:Array Bool) (a:Act) (w:World),b.size=ops.size->b.toList.count false<=c->I (fun j=>b.getD j false) a w->wpAnyH P md ops Q S c b a w:=by
 have g:∀ b:Array Bool,b.size=ops.size->Region.ready md ops b=[]->∀ n i,i<=n->i < ops.size->b.getD i false=true:=by
  intro b hs u n
  induction n using Nat.strongRecOn with
  | ind n ih =>
   intro i t d
   by_cases m:b.getD i false=true
   ·exact m
   ·exfalso
    have k:i ∈ Region.ready md ops b:=by
     rw[mem_ready]
     refine⟨?_,ops[i],by simp[d],fun e he hb => ?_⟩
     ·have:i < b.size:=by omega
      simp[this]at m |-;exact m
     ·have h:=(List.all_eq_true.1 htop) i (List.mem_range.2 d)
      simp only[Array.getElem?_eq_getElem d,Option.map_some,Option.getD_some]at h
      rw[Array.all_eq_true_iff_forall_mem]at h
      have r:=of_decide_eq_true (h e he)
      exact ih e.on (by omega) e.on (Nat.le_refl _) (by omega)
    rw[u]at k;cases k
 intro c
 induction c with
 | zero =>
  intro b a w hs m q
  have f:Region.ready md ops b=[]:=by
   apply List.eq_nil_iff_forall_not_mem.2
   intro i k
   obtain⟨l,o,p,-⟩:=mem_ready.1 k
   have d:i < b.size:=by rw[hs];exact(Array.getElem?_eq_some_iff.1 p).1
   simp[d]at l
   have:b.toList[i]? = some false:=by simp[d,l]
   have:=Pg _ _ this
   omega
  exact⟨f,hdone _ (fun i d=>g b hs f i i (Nat.le_refl _) d) a w q⟩
 | succ c ih =>
  intro b a w hs m q
  refine⟨fun f=>hdone _ (fun i d=>g b hs f i i (Nat.le_refl _) d) a w q,fun i k => ?_⟩
  obtain⟨l,o,p,s⟩:=mem_ready.1 k
  have d:i < b.size:=by rw[hs];exact(Array.getElem?_eq_some_iff.1 p).1
  have h:b.getD i false=false:=by simp[d]at l |-;exact l
  refine wpOp_step p (fun K' hK=>hstep _ i o p h s a w q K' (fun a' w' hI'=>hK a' w' ⟨hS _ _ _ hI', ?_⟩))
  refine ih _ a' w' (by simp[hs]) ?_ ?_
  ·have r:b.toList[i]? = some false:=by simp[d]at h |-;exact h
   have:=Pg _ _ r
   simp only[Array.toList_setIfInBounds];omega
  ·have e:(fun j=>(b.setIfInBounds i true).getD j false)=(fun j=>j == i || b.getD j false):=funext fun j=>Qb2 b i j d
   rw[e];exact hI'
theorem Sk {P:Program} {o:Oper} {a:Act} {w:World} {K:Act->World->Prop} {Q:Exit->Act->World->Prop} {ops:Array Oper} {E:Prop}
  (hg:o.guard=none) (s x:Operand) (t:TypeId) (hop:o.op=Op.call { callee:=Callee.builtin Builtin.append,args := #[s,x],argTypes := #[t,t] })
  (base:Nat) (e:TypeId) (i:TypeInfo) (z:Value) (size bytes:Nat) (ht:P.underlying t=some (.slice e)) (hi:P.info? e=some i) (hz:i.zero=some z) (hsize:i.size=size) (hby:i.bytes=bytes) (hzs:z.cells.size=size) (hs0:0 < size)
  (v:Value) (n:Nat) (xs:List Value) (hs:a.eval s=v) (hown:w.ownsRow base e size v n xs) (ao:Option Addr) (m c:Nat) (hx:a.eval x = .slice ao m c) (news:List Value) (hlen:news.length=m * size) (hsrc:P9 w ao m news) (h1c:∀ u ∈ news,u.oneCell'=true) (b1:n+m<=maxLen) (b2:(n+m) * bytes<=140737488355328) (hbase:base<=w.heap.size)
  (hK:∀ b w',w'.ownsRow base e size b (n+m) (xs++news)->w.grownBy w' v.ownBlock->(b.ownBlock=v.ownBlock\/b.ownBlock=some w.heap.size)->K (a.put o.dst b) w') :
  if Region.wanted o (yielded ops a.tmps)=true then Oper.wp P o a w K Q else E:=by
 have r:Region.wanted o (yielded ops a.tmps)=true:=by simp[Region.wanted,hg]
 rw[if_pos r]
 obtain⟨b,w',q,d,f,j⟩:∃ b w',(Builtin.append_ #[t,t] o.type #[v,.slice ao m c]).run P w = .ok b w'/\w'.ownsRow base e size b (n+m) (xs++news)/\w.grownBy w' v.ownBlock/\(b.ownBlock=v.ownBlock\/b.ownBlock=some w.heap.size):=by
  by_cases h0:m=0
  ·subst h0
   have p:news=[]:=List.eq_nil_of_length_eq_zero (by omega)
   subst p
   refine⟨v,w,Ho base t o.type e i size ht hi v n _ hown ao c, ?_,⟨rfl,rfl,rfl,Nat.le_refl _,fun _ _ _=>rfl⟩,.inl rfl⟩
   simpa using hown
  ·obtain⟨g,rfl,l⟩:=hsrc (by omega)
   obtain⟨b,w',h,d,f,_,k⟩:=run_append_own_at (P:=P) (w:=w) base t o.type e i z size bytes ht hi hz hsize hby hzs hs0 v n xs hown g m c news hlen l h1c b1 b2 hbase
   exact⟨b,w',h,d,f,k⟩
 unfold Oper.wp execOp
 simp only[hop,resolve,invoke,builtin,Sem.run_bind,Sem.run_pure,Result.andThen_ok,List.map_toArray,List.map_cons,List.map_nil,hs,hx,q]
 exact hK b w' d f j
theorem Qb3 {w:World} {a:Option Addr} {cp:Nat} {xs:List ByteArray} (h:Cx w (.slice a xs.length cp) xs):P9 w a xs.length (Be xs):=fun h0=>by
 obtain⟨l,i,e,f⟩:=h
 injection e with e1 d e3
 subst e1
 obtain⟨g,o,rfl,-,-⟩:=f 0 h0
 refine⟨⟨g,o,none⟩,rfl,fun j u hj => ?_⟩
 have c:j < xs.length:=by have:=(List.getElem?_eq_some_iff.1 hj).1;simpa[Be]using this
 obtain⟨m,n,d,-,b⟩:=f j c
 injection d with d
 injection d with e3 e4
 subst e3;subst e4
 have k:u = .string xs[j]:=by simp[Be,c]at hj;exact hj.symm
 subst k
 by_cases hj0:j=0
 ·subst hj0;simpa[Addr.add]using b
 ·simpa[Addr.add,hj0]using b
theorem Ue (w:World) (B:Nat) (hB:B<=w.heap.size) (e:TypeId) (x:Value):(w.alloc (.cells #[x] e)).ownsRow B e 1 (.slice (some ⟨w.heap.size,0,none⟩) 1 1) 1 [x] :=
 ⟨rfl,.inr ⟨w.heap.size,1,#[x],rfl,hB,Ag w _,by omega,by unfold maxLen;omega,rfl,rfl⟩⟩
def Ny (t:TypeId) (W W':World):Prop := ∀ k,k < W.heap.size->(∀ cur,W.heap[k]? ≠ some (.cells cur t))->W'.heap[k]? = W.heap[k]?
theorem Ny.row {t:TypeId} {W W':World} (h:Ny t W W') {A e size n:Nat} {v:Value} {xs:List Value} (hr:W.ownsRow A e size v n xs) (he:e≠t):W'.ownsRow A e size v n xs :=
 Ah hr (fun k hk _ hlt=>h k hlt (fun cur hc=>by obtain⟨b,a⟩:=(A3 hr hk).2;rw[a]at hc;injection hc with hc;injection hc with _ hc;exact he hc))
theorem Ny.own {t:TypeId} {W W':World} (h:Ny t W W') {A:Nat} {v:Value} {E:List B0} (hr:A2 A W v E) (h1:97≠t) (h2:3≠t) (h3:140≠t):A2 A W' v E :=
 ⟨h.row hr.row h1,fun e he=>h.row (hr.par e he) h2,fun e he=>h.row (hr.ins e he) h3,hr.apart⟩
theorem Qau {t:TypeId} {W W':World} {A size n:Nat} {v:Value} {xs:List Value} (hr:W.ownsRow A t size v n xs) (hg:W.grownBy W' v.ownBlock):Ny t W W':=fun k hk hc=>hg.block k hk (fun e=>by obtain⟨b,a⟩:=(A3 hr e.symm).2;exact hc _ a)
def Po (a b c d:Value):Array Value := #[a,b,c,d,.int .i64 1,.int .i64 0,.int .i64 0,.string ⟨#[]⟩,.string ⟨#[]⟩,.bool false,.int .i64 0,.string ⟨#[]⟩,.slice none 0 0,.slice none 0 0]
def Na : Array Value := #[.slice none 0 0,.slice none 0 0,.slice none 0 0,.slice none 0 0,.int .i64 0,.int .i64 0,.int .i64 0,.string ⟨#[]⟩,.string ⟨#[]⟩,.bool false,.int .i64 0,.string ⟨#[]⟩,.slice none 0 0,.slice none 0 0]
structure Fs (c:List Ae) (n no:Nat) (arg:ByteArray) (outs:List ByteArray) (w2:World) (L:Nat->Bool) (W:World) (v16 v17 v20 v21 v24 v25 v5:Value):Prop where
 lo:L 0=true/\L 3=true/\L 4=true/\L 7=true/\L 8=true
 bel:Below w2.heap.size w2 W
 d9:L 9=true->L 6=true
 d10:L 10=true->L 2=true/\L 5=true/\L 9=true
 d12:L 12=true->L 10=true/\L 11=true
 f1:L 1=true->∃ x cp E,v16 = .agg #[.slice x n cp]/\D0 E=c/\A2 w2.heap.size W (.slice x n cp) E
 f2:L 2=true->∃ g x cp E,v17 = .slice (some ⟨g,0,none⟩) 1 1/\W.ownsRow w2.heap.size 38 1 (.slice (some ⟨g,0,none⟩) 1 1) 1 [.slice x n cp]/\D0 E=c/\A2 w2.heap.size W (.slice x n cp) E
 f5:L 5=true->∃ g,v20 = .slice (some ⟨g,0,none⟩) 1 1/\W.ownsRow w2.heap.size 9 1 (.slice (some ⟨g,0,none⟩) 1 1) 1 (Be [arg])
 f6:L 6=true->L 9=false->∃ x cp,v21 = .slice x 0 cp/\W.ownsRow w2.heap.size 9 1 (.slice x 0 cp) 0 []
 n6:L 6=true->L 9=false->L 5=true->∀ k,v20.ownBlock=some k->v21.ownBlock≠some k
 f9:L 9=true->∃ x cp,v24 = .slice x no cp/\W.ownsRow w2.heap.size 9 1 (.slice x no cp) no (Be outs)
 n9:L 9=true->L 5=true->∀ k,v20.ownBlock=some k->v24.ownBlock≠some k
 f10:L 10=true->v25 = .agg (Po v17 v20 v24 (.slice none 0 0))
 f11:L 11=true->L 12=false->∃ g,v5 = .pointer (some ⟨g,0,none⟩)/\w2.heap.size<=g/\W.heap[g]? = some (.cells Na 34)
 f12:L 12=true->∃ g,v5 = .pointer (some ⟨g,0,none⟩)/\w2.heap.size<=g/\W.heap[g]? = some (.cells (Po v17 v20 v24 (.slice none 0 0)) 34)
theorem Fs.keep {c:List Ae} {n no:Nat} {arg:ByteArray} {outs:List ByteArray} {w2:World} {L:Nat->Bool} {W W':World} {v16 v17 v20 v21 v24 v25 v5:Value} (h:Fs c n no arg outs w2 L W v16 v17 v20 v21 v24 v25 v5) (hb:Below W.heap.size W W'):Fs c n no arg outs w2 L W' v16 v17 v20 v21 v24 v25 v5 :=
 { h with
  bel:=h.bel.trans (hb.mono h.bel.size)
  f1:=fun q=>let ⟨x,cp,E,a,b,d⟩:=h.f1 q;⟨x,cp,E,a,b,d.below hb⟩
  f2:=fun q=>let ⟨g,x,cp,E,a,r,b,d⟩:=h.f2 q;⟨g,x,cp,E,a,Ah r (fun k _ _ hl=>hb.block k hl),b,d.below hb⟩
  f5:=fun q=>let ⟨g,a,r⟩:=h.f5 q;⟨g,a,Ah r (fun k _ _ hl=>hb.block k hl)⟩
  f6:=fun q q'=>let ⟨x,cp,a,r⟩:=h.f6 q q';⟨x,cp,a,Ah r (fun k _ _ hl=>hb.block k hl)⟩
  f9:=fun q=>let ⟨x,cp,a,r⟩:=h.f9 q;⟨x,cp,a,Ah r (fun k _ _ hl=>hb.block k hl)⟩
  f11:=fun q q'=>let ⟨g,a,b,r⟩:=h.f11 q q';⟨g,a,b,(hb.block g (Array.getElem?_eq_some_iff.1 r).1).trans r⟩
  f12:=fun q=>let ⟨g,a,b,r⟩:=h.f12 q;⟨g,a,b,(hb.block g (Array.getElem?_eq_some_iff.1 r).1).trans r⟩ }
theorem Ey {b:Bool} {P:Prop} (h:b=false) (k:b=true):P:=by rw[h]at k;cases k
theorem Fs.do1 {c:List Ae} {n no:Nat} {arg:ByteArray} {outs:List ByteArray} {w2:World} {L:Nat->Bool} {W:World} {v16 v17 v20 v21 v24 v25 v5:Value} (h:Fs c n no arg outs w2 L W v16 v17 v20 v21 v24 v25 v5) {x:Option Addr} {cp:Nat} {E:List B0} (hE:D0 E=c) (hO:A2 w2.heap.size W (.slice x n cp) E):Fs c n no arg outs w2 (fun j=>j == 1 || L j) W (.agg #[.slice x n cp]) v17 v20 v21 v24 v25 v5 :=
 ⟨h.lo,h.bel,h.d9,h.d10,h.d12,fun _=>⟨x,cp,E,rfl,hE,hO⟩,h.f2,h.f5,h.f6,h.n6,h.f9,h.n9,h.f10,h.f11,h.f12⟩
theorem Fs.do2 {c:List Ae} {n no:Nat} {arg:ByteArray} {outs:List ByteArray} {w2:World} {L:Nat->Bool} {W:World} {v16 v17 v20 v21 v24 v25 v5:Value} (h:Fs c n no arg outs w2 L W v16 v17 v20 v21 v24 v25 v5) (h2:L 2=false) {x:Option Addr} {cp:Nat} {E:List B0} (hE:D0 E=c) (hO:A2 w2.heap.size W (.slice x n cp) E) {g:Nat} (hr:W.ownsRow w2.heap.size 38 1 (.slice (some ⟨g,0,none⟩) 1 1) 1 [.slice x n cp]):Fs c n no arg outs w2 (fun j=>j == 2 || L j) W v16 (.slice (some ⟨g,0,none⟩) 1 1) v20 v21 v24 v25 v5 :=
 ⟨h.lo,h.bel,h.d9,fun q=>⟨rfl,(h.d10 q).2⟩,h.d12,h.f1,fun _=>⟨g,x,cp,E,rfl,hr,hE,hO⟩,h.f5,h.f6,h.n6,h.f9,h.n9,fun q=>Ey h2 (h.d10 q).1,h.f11,fun q=>Ey h2 (h.d10 (h.d12 q).1).1⟩
theorem Fs.do5 {c:List Ae} {n no:Nat} {arg:ByteArray} {outs:List ByteArray} {w2:World} {L:Nat->Bool} {W:World} {v16 v17 v20 v21 v24 v25 v5:Value} (h:Fs c n no arg outs w2 L W v16 v17 v20 v21 v24 v25 v5) (h5:L 5=false):Fs c n no arg outs w2 (fun j=>j == 5 || L j) (W.alloc (.cells #[.string arg] 9)) v16 v17 (.slice (some ⟨W.heap.size,0,none⟩) 1 1) v21 v24 v25 v5:=by
 have a:=h.keep (Di W (.cells #[.string arg] 9))
 refine⟨h.lo,a.bel,h.d9,fun q=>⟨(h.d10 q).1,rfl,(h.d10 q).2.2⟩,h.d12,a.f1,a.f2,fun _=>⟨_,rfl,Ue W _ h.bel.size _ _⟩,a.f6,fun q q' _ k e1 e2 => ?_,a.f9,fun q _ k e1 e2 => ?_,fun q=>Ey h5 (h.d10 q).2.1,a.f11,fun q=>Ey h5 (h.d10 (h.d12 q).1).2.1⟩
 ·obtain⟨x,b,rfl,r⟩:=h.f6 q q'
  have:=(A3 r e2).1
  simp[Value.ownBlock]at e1;omega
 ·obtain⟨x,b,rfl,r⟩:=h.f9 q
  have:=(A3 r e2).1
  simp[Value.ownBlock]at e1;omega
theorem Fs.do6 {c:List Ae} {n no:Nat} {arg:ByteArray} {outs:List ByteArray} {w2:World} {L:Nat->Bool} {W:World} {v16 v17 v20 v21 v24 v25 v5:Value} (h:Fs c n no arg outs w2 L W v16 v17 v20 v21 v24 v25 v5) (_h6:L 6=false):Fs c n no arg outs w2 (fun j=>j == 6 || L j) (W.alloc (.cells #[] 9)) v16 v17 v20 (.slice (some ⟨W.heap.size,0,none⟩) 0 0) v24 v25 v5:=by
 have a:=h.keep (Di W (.cells #[] 9))
 refine⟨h.lo,a.bel,fun _=>rfl,h.d10,h.d12,a.f1,a.f2,a.f5,fun _ _=>⟨_,_,rfl,Gh W _ h.bel.size _⟩,fun _ _ q k e1 e2 => ?_,a.f9,a.n9,a.f10,a.f11,a.f12⟩
 obtain⟨g,rfl,r⟩:=h.f5 q
 have:=(A3 r e1).1
 simp[Value.ownBlock]at e2;omega
theorem Fs.do9 {c:List Ae} {n no:Nat} {arg:ByteArray} {outs:List ByteArray} {w2:World} {L:Nat->Bool} {W W':World} {v16 v17 v20 v21 v24 v25 v5:Value} (h:Fs c n no arg outs w2 L W v16 v17 v20 v21 v24 v25 v5) (h6:L 6=true) (h9:L 9=false) {x:Option Addr} {cp:Nat} (hr:W'.ownsRow w2.heap.size 9 1 (.slice x no cp) no (Be outs)) (hg:W.grownBy W' v21.ownBlock) (hat:(Value.slice x no cp).ownBlock=v21.ownBlock\/(Value.slice x no cp).ownBlock=some W.heap.size):Fs c n no arg outs w2 (fun j=>j == 9 || L j) W' v16 v17 v20 v21 (.slice x no cp) v25 v5:=by
 obtain⟨u,s,i,l⟩:=h.f6 h6 h9
 have f:Ny 9 W W':=Qau l (by rw[<- i];exact hg)
 have p:=h.n6 h6 h9
 refine⟨h.lo,h.bel.trans ?_,fun _=>h6,fun q=>Ey h9 (h.d10 q).2.2,h.d12, ?_, ?_, ?_,fun _ q=>by simp at q,fun _ q=>by simp at q,fun _=>⟨x,cp,rfl,hr⟩,fun _ q k e1 e2 => ?_,fun q=>Ey h9 (h.d10 q).2.2, ?_,fun q=>Ey h9 (h.d10 (h.d12 q).1).2.2⟩
 ·exact⟨hg.os,hg.tape,hg.output,hg.size,fun k hk=>hg.block k (by have:=h.bel.size;omega) (fun e=>by rw[i]at e;have:=(A3 l e.symm).1.1;omega)⟩
 ·intro q;obtain⟨y,m,E,a,b,d⟩:=h.f1 q;exact⟨y,m,E,a,b,f.own d (by decide) (by decide) (by decide)⟩
 ·intro q;obtain⟨g,y,m,E,a,r,b,d⟩:=h.f2 q;exact⟨g,y,m,E,a,f.row r (by decide),b,f.own d (by decide) (by decide) (by decide)⟩
 ·intro q;obtain⟨g,a,r⟩:=h.f5 q;exact⟨g,a,Ah r (fun k hk _ o=>hg.block k o (fun e=>p q k (by rw[a];exact hk) e.symm))⟩
 ·obtain⟨g,a,r⟩:=h.f5 q
  have o:=(A3 r (a ▸ e1)).1
  rcases hat with e|e
  ·exact p q k e1 (e ▸ e2)
  ·rw[e2]at e;injection e with e;omega
 ·intro q t;obtain⟨g,a,b,r⟩:=h.f11 q t;exact⟨g,a,b,(f g (Array.getElem?_eq_some_iff.1 r).1 (fun cur e=>by rw[r]at e;injection e with e;injection e with _ e;exact absurd e (by decide))).trans r⟩
theorem Fs.do10 {c:List Ae} {n no:Nat} {arg:ByteArray} {outs:List ByteArray} {w2:World} {L:Nat->Bool} {W:World} {v16 v17 v20 v21 v24 v25 v5:Value} (h:Fs c n no arg outs w2 L W v16 v17 v20 v21 v24 v25 v5) (h2:L 2=true) (h5:L 5=true) (h9:L 9=true):Fs c n no arg outs w2 (fun j=>j == 10 || L j) W v16 v17 v20 v21 v24 (.agg (Po v17 v20 v24 (.slice none 0 0))) v5 :=
 ⟨h.lo,h.bel,h.d9,fun _=>⟨h2,h5,h9⟩,fun q=>⟨rfl,(h.d12 q).2⟩,h.f1,h.f2,h.f5,h.f6,h.n6,h.f9,h.n9,fun _=>rfl,h.f11,h.f12⟩
theorem Fs.do11 {c:List Ae} {n no:Nat} {arg:ByteArray} {outs:List ByteArray} {w2:World} {L:Nat->Bool} {W:World} {v16 v17 v20 v21 v24 v25 v5:Value} (h:Fs c n no arg outs w2 L W v16 v17 v20 v21 v24 v25 v5) (h11:L 11=false):Fs c n no arg outs w2 (fun j=>j == 11 || L j) (W.alloc (.cells Na 34)) v16 v17 v20 v21 v24 v25 (.pointer (some ⟨W.heap.size,0,none⟩)):=by
 have a:=h.keep (Di W (.cells Na 34))
 exact⟨h.lo,a.bel,h.d9,h.d10,fun q=>⟨(h.d12 q).1,rfl⟩,a.f1,a.f2,a.f5,a.f6,a.n6,a.f9,a.n9,a.f10,fun _ _=>⟨_,rfl,h.bel.size,Ag W _⟩,fun q=>Ey h11 (h.d12 q).2⟩
theorem Fs.do12 {c:List Ae} {n no:Nat} {arg:ByteArray} {outs:List ByteArray} {w2:World} {L:Nat->Bool} {W W':World} {v16 v17 v20 v21 v24 v25 v5:Value} (h:Fs c n no arg outs w2 L W v16 v17 v20 v21 v24 v25 v5) (h10:L 10=true) (h11:L 11=true) (h12:L 12=false) {g:Nat} (e5:v5 = .pointer (some ⟨g,0,none⟩)) (hb:Below w2.heap.size w2 W') (hk:∀ k,k≠g->W'.heap[k]? = W.heap[k]?) (hm:W'.heap[g]? = some (.cells (Po v17 v20 v24 (.slice none 0 0)) 34)):Fs c n no arg outs w2 (fun j=>j == 12 || L j) W' v16 v17 v20 v21 v24 v25 v5:=by
 obtain⟨o,i,p,t⟩:=h.f11 h11 h12
 have:o=g:=by rw[e5]at i;injection i with i;injection i with i;injection i with i _ _;exact i.symm
 subst this
 have f:Ny 34 W W':=fun k _ hc=>hk k (fun e=>by subst e;exact hc _ t)
 refine⟨h.lo,hb,h.d9,h.d10,fun _=>⟨h10,h11⟩, ?_, ?_, ?_, ?_,h.n6, ?_,h.n9,h.f10,fun _ q=>by simp at q,fun _=>⟨o,e5,p,hm⟩⟩
 ·intro q;obtain⟨y,m,E,a,b,d⟩:=h.f1 q;exact⟨y,m,E,a,b,f.own d (by decide) (by decide) (by decide)⟩
 ·intro q;obtain⟨g,y,m,E,a,r,b,d⟩:=h.f2 q;exact⟨g,y,m,E,a,f.row r (by decide),b,f.own d (by decide) (by decide) (by decide)⟩
 ·intro q;obtain⟨g,a,r⟩:=h.f5 q;exact⟨g,a,f.row r (by decide)⟩
 ·intro q s;obtain⟨x,l,a,r⟩:=h.f6 q s;exact⟨x,l,a,f.row r (by decide)⟩
 ·intro q;obtain⟨x,l,a,r⟩:=h.f9 q;exact⟨x,l,a,f.row r (by decide)⟩
theorem Qay (w:World) (B:Nat) (hB:B<=w.heap.size) (e:TypeId) (x0 x1 x2 x3 x4:Value):(w.alloc (.cells #[x0,x1,x2,x3,x4] e)).ownsRow B e 5 (.slice (some ⟨w.heap.size,0,none⟩) 1 1) 1 [x0,x1,x2,x3,x4] :=
 ⟨rfl,.inr ⟨w.heap.size,1,#[x0,x1,x2,x3,x4],rfl,hB,Ag w _,by omega,by unfold maxLen;omega,rfl,rfl⟩⟩
theorem Vx {A:Nat} {W:World} {v:Value} {E:List B0} (h:A2 A W v E) (k:Nat) (hk:k < E.length):∃ g a,v = .slice (some ⟨g,0,none⟩) E.length a/\W.cell? ⟨g,k * 5+3,none⟩=some (.int .i64 E[k].f.slots):=by
 obtain⟨g,a,e,b,-⟩:=Iy h.row (by omega)
 exact⟨g,a,e,Bp h.row b _ _ (by rw[E4,G2 Ez 5 (fun _=>rfl) E k hk 3 (by omega)];rfl)⟩
def Ua (fn ns:Nat) (x:Option Addr) (cp:Nat):List Value:=[.int .i64 0,.int .i64 (fn:Int),.int .i64 0,.slice x ns cp,.slice none 0 0]
structure Gt (fn ns g5:Nat) (v17 v20 v24:Value) (W3:World) (L:Nat->Bool) (W:World) (v29 v30 v31 v32 v33:Value):Prop where
 lo:L 0=true/\L 1=true/\L 2=true
 d8:L 8=true->L 3=true/\L 4=true/\L 5=true/\L 6=true
 bel:L 8=false->Below W3.heap.size W3 W
 f3:L 3=true->v29 = .int .i64 (fn:Int)
 f4:L 4=true->∃ x,v30 = .slice x 0 0
 f5:L 5=true->∃ x cp,v31 = .agg (Ua fn ns x cp).toArray/\W.ownsRow W3.heap.size 99 3 (.slice x ns cp) ns (Bj (B3 ns))
 f6:L 6=true->∃ g x cp,v32 = .slice (some ⟨g,0,none⟩) 1 1/\W.ownsRow W3.heap.size 56 5 (.slice (some ⟨g,0,none⟩) 1 1) 1 (Ua fn ns x cp)/\W.ownsRow W3.heap.size 99 3 (.slice x ns cp) ns (Bj (B3 ns))
 f7:L 7=true->v33 = .pointer (some ⟨g5,3,none⟩)
 f8:L 8=true->Au (fun k=>k=g5) W3 W/\W.heap[g5]? = some (.cells (Po v17 v20 v24 v32) 34)
theorem Gt.n8 {fn ns g5:Nat} {v17 v20 v24:Value} {W3:World} {L:Nat->Bool} {W:World} {v29 v30 v31 v32 v33:Value} (h:Gt fn ns g5 v17 v20 v24 W3 L W v29 v30 v31 v32 v33) (k:L 3=false\/L 4=false\/L 5=false\/L 6=false):L 8=false:=by
 cases e:L 8 with
 | false=>rfl
 | true =>
  obtain⟨a,b,c,d⟩:=h.d8 e
  rcases k with k|k|k|k
  ·exact Ey k a
  ·exact Ey k b
  ·exact Ey k c
  ·exact Ey k d
theorem Gt.keep {fn ns g5:Nat} {v17 v20 v24:Value} {W3:World} {L:Nat->Bool} {W W':World} {v29 v30 v31 v32 v33:Value} (h:Gt fn ns g5 v17 v20 v24 W3 L W v29 v30 v31 v32 v33) (h8:L 8=false) (hb:Below W.heap.size W W'):Gt fn ns g5 v17 v20 v24 W3 L W' v29 v30 v31 v32 v33 :=
 ⟨h.lo,h.d8,fun q=>(h.bel q).trans (hb.mono (h.bel q).size),h.f3,h.f4,fun q=>let ⟨x,cp,a,r⟩:=h.f5 q;⟨x,cp,a,Ah r (fun k _ _ hl=>hb.block k hl)⟩,fun q=>let ⟨g,x,cp,a,r,s⟩:=h.f6 q;⟨g,x,cp,a,Ah r (fun k _ _ hl=>hb.block k hl),Ah s (fun k _ _ hl=>hb.block k hl)⟩,h.f7,fun q=>Ey h8 q⟩
theorem Gt.do3 {fn ns g5:Nat} {v17 v20 v24:Value} {W3:World} {L:Nat->Bool} {W:World} {v29 v30 v31 v32 v33:Value} (h:Gt fn ns g5 v17 v20 v24 W3 L W v29 v30 v31 v32 v33) (h3:L 3=false):Gt fn ns g5 v17 v20 v24 W3 (fun j=>j == 3 || L j) W (.int .i64 (fn:Int)) v30 v31 v32 v33 :=
 ⟨h.lo,fun q=>⟨rfl,(h.d8 q).2⟩,h.bel,fun _=>rfl,h.f4,h.f5,h.f6,h.f7,fun q=>Ey h3 (h.d8 q).1⟩
theorem Gt.do4 {fn ns g5:Nat} {v17 v20 v24:Value} {W3:World} {L:Nat->Bool} {W:World} {v29 v30 v31 v32 v33:Value} (h:Gt fn ns g5 v17 v20 v24 W3 L W v29 v30 v31 v32 v33) (h4:L 4=false) (x:Option Addr):Gt fn ns g5 v17 v20 v24 W3 (fun j=>j == 4 || L j) W v29 (.slice x 0 0) v31 v32 v33 :=
 ⟨h.lo,fun q=>⟨(h.d8 q).1,rfl,(h.d8 q).2.2⟩,h.bel,h.f3,fun _=>⟨x,rfl⟩,h.f5,h.f6,h.f7,fun q=>Ey h4 (h.d8 q).2.1⟩
theorem Gt.do5 {fn ns g5:Nat} {v17 v20 v24:Value} {W3:World} {L:Nat->Bool} {W:World} {v29 v30 v31 v32 v33:Value} (h:Gt fn ns g5 v17 v20 v24 W3 L W v29 v30 v31 v32 v33) (h5:L 5=false) {x:Option Addr} {cp:Nat} (hr:W.ownsRow W3.heap.size 99 3 (.slice x ns cp) ns (Bj (B3 ns))):Gt fn ns g5 v17 v20 v24 W3 (fun j=>j == 5 || L j) W v29 v30 (.agg (Ua fn ns x cp).toArray) v32 v33 :=
 ⟨h.lo,fun q=>⟨(h.d8 q).1,(h.d8 q).2.1,rfl,(h.d8 q).2.2.2⟩,h.bel,h.f3,h.f4,fun _=>⟨x,cp,rfl,hr⟩,h.f6,h.f7,fun q=>Ey h5 (h.d8 q).2.2.1⟩
theorem Gt.do6 {fn ns g5:Nat} {v17 v20 v24:Value} {W3:World} {L:Nat->Bool} {W:World} {v29 v30 v31 v32 v33:Value} (h:Gt fn ns g5 v17 v20 v24 W3 L W v29 v30 v31 v32 v33) (h6:L 6=false) {g:Nat} {x:Option Addr} {cp:Nat} (hg:W.ownsRow W3.heap.size 56 5 (.slice (some ⟨g,0,none⟩) 1 1) 1 (Ua fn ns x cp)) (hr:W.ownsRow W3.heap.size 99 3 (.slice x ns cp) ns (Bj (B3 ns))):Gt fn ns g5 v17 v20 v24 W3 (fun j=>j == 6 || L j) W v29 v30 v31 (.slice (some ⟨g,0,none⟩) 1 1) v33 :=
 ⟨h.lo,fun q=>⟨(h.d8 q).1,(h.d8 q).2.1,(h.d8 q).2.2.1,rfl⟩,h.bel,h.f3,h.f4,h.f5,fun _=>⟨g,x,cp,rfl,hg,hr⟩,h.f7,fun q=>Ey h6 (h.d8 q).2.2.2⟩
theorem Gt.do7 {fn ns g5:Nat} {v17 v20 v24:Value} {W3:World} {L:Nat->Bool} {W:World} {v29 v30 v31 v32 v33:Value} (h:Gt fn ns g5 v17 v20 v24 W3 L W v29 v30 v31 v32 v33):Gt fn ns g5 v17 v20 v24 W3 (fun j=>j == 7 || L j) W v29 v30 v31 v32 (.pointer (some ⟨g5,3,none⟩)) :=
 ⟨h.lo,h.d8,h.bel,h.f3,h.f4,h.f5,h.f6,fun _=>rfl,h.f8⟩
theorem Gt.do8 {fn ns g5:Nat} {v17 v20 v24:Value} {W3:World} {L:Nat->Bool} {W:World} {v29 v30 v31 v32 v33:Value} (h:Gt fn ns g5 v17 v20 v24 W3 L W v29 v30 v31 v32 v33) (h8:L 8=false) (hall:L 3=true/\L 4=true/\L 5=true/\L 6=true) (hm:W3.heap[g5]? = some (.cells (Po v17 v20 v24 (.slice none 0 0)) 34)):Gt fn ns g5 v17 v20 v24 W3 (fun j=>j == 8 || L j) (W.setCell ⟨g5,3,none⟩ v32) v29 v30 v31 v32 v33:=by
 have c:=h.bel h8
 have i:g5 < W3.heap.size:=(Array.getElem?_eq_some_iff.1 hm).1
 have f:W.heap[g5]? = _:=(c.block g5 i).trans hm
 have b:∀ k,W3.heap.size<=k->(W.setCell ⟨g5,3,none⟩ v32).heap[k]? = W.heap[k]?:=fun k hk=>A7 (by omega)
 refine⟨h.lo,fun _=>hall,fun q=>by simp at q,h.f3,h.f4,fun q => ?_,fun q => ?_,h.f7,fun _=>⟨⟨c.os,c.tape,c.output,by simp[World.setCell];exact c.size,fun k hk hne=>(A7 hne).trans (c.block k hk)⟩, ?_⟩⟩
 ·obtain⟨x,d,a,r⟩:=h.f5 q
  exact⟨x,d,a,Ah r (fun k _ hk _=>b k hk)⟩
 ·obtain⟨g,x,d,a,r,s⟩:=h.f6 q
  exact⟨g,x,d,a,Ah r (fun k _ hk _=>b k hk),Ah s (fun k _ hk _=>b k hk)⟩
 ·rw[A6 f];rfl
end Go.Proofs.YtfjkahdghhbpnaaGreatDoor
