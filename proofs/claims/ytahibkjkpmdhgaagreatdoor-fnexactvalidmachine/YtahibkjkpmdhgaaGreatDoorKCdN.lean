import Derived.Test.YtahibkjkpmdhgaaGreatDoorKCdM
import Derived.Maps.AppendAt
set_option maxRecDepth 100000
set_option maxHeartbeats 1000000
namespace Go.Proofs.YtahibkjkpmdhgaaGreatDoor
open Go.RowKit
theorem Yo {c:List Ae} {f:Ae} {i:Ay} (h:Ar c f i=true):1<=i.op/\i.op<=16:=by
 by_cases hc:At i.op 1 16=true
 ·exact Fv hc
 ·unfold Ar at h;rw[if_pos (.inl (by simpa using hc))]at h;simp at h
theorem Ib {c:List Ae} {f:Ae} {i:Ay} (h:Ar c f i=true) (h1:i.op≠1):i.n=0/\i.text.toList.isEmpty=true:=by
 constructor
 ·refine Classical.byContradiction (fun hn => ?_);rw[Gm c f i h1 (.inl hn)]at h;simp at h
 ·cases hx:i.text.toList.isEmpty with
  | true=>rfl
  | false =>
   rw[Gm c f i h1 (.inr hx)]at h;simp at h
theorem Qcu (n:Nat):n=0\/n=1\/∃ m,n=m+2:=by
 cases n with
 | zero=>exact .inl rfl
 | succ n=>cases n with
  | zero=>exact .inr (.inl rfl)
  | succ m=>exact .inr (.inr ⟨m,rfl⟩)
theorem N6 (c:List Ae) (f:Ae) (i:Ay) (s k:List Int) (ca ia sa ka:Option Addr) (cc ic sc kc:Nat) (pv:Value) (hcl:c.length<=60) (hil:f.ins.length<=50000) (hsl:s.length<=200) (hk600:k.length<=600) (hkc:k.length<=kc) (hka:ka=none\/∃ g,ka=some ⟨g,0,none⟩) (hsf:(s.length:Int)=f.slots) (hpl:∀ g ∈ c,g.params.length<=8) (hok:Ar c f i=true) (w:World) (hC:An w.heap.size w (.slice ca c.length cc) c) (hS:Ab w.heap.size w (.slice sa s.length sc) s) (hK:Ab w.heap.size w (.slice ka k.length kc) k) :
  Calls Tryz.prog 114 #[.agg #[.slice ca c.length cc],Ax f pv (.slice ia f.ins.length ic),Ak i,Ah 1 (.slice sa s.length sc) (.slice ka k.length kc)] w (Ai c f i s k w):=by
 have r:=Yo hok;have d:i.op≠1->i.n=0/\i.text.toList.isEmpty=true:=fun h=>Ib hok h
 obtain⟨p,a,n,b⟩:=i;simp only at r d;have q:p=1\/p=2\/p=3\/p=4\/p=5\/p=6\/p=7\/p=8\/p=9\/p=10\/p=11\/p=12\/p=13\/p=14\/p=15\/p=16:=by omega
 have j:=Qcu k.length;rcases q with rfl|rfl|rfl|rfl|rfl|rfl|rfl|rfl|rfl|rfl|rfl|rfl|rfl|rfl|rfl|rfl
 ·skip;rcases j with h|h|⟨m,h⟩
  ·exact Xy c f a n b s k ca ia sa ka cc ic sc kc pv hcl hil hsl h hk600 w hS hK
  ·exact Xz c f a n b s k ca ia sa ka cc ic sc kc pv hcl hil hsl h hk600 w hS hK
  ·exact X1 c f a n b s k m ca ia sa ka cc ic sc kc pv hcl hil hsl h hk600 w hS hK
 ·skip;obtain⟨rfl,o⟩:=d (by decide);rw[Wd c f a b o]at hok;have l:=Fv hok;rcases j with h|h|⟨m,h⟩
  ·exact X4 c f a 0 b s k ca ia sa ka cc ic sc kc pv hcl hil hsl h hk600 l.1 (by omega) w hS hK
  ·exact X5 c f a 0 b s k ca ia sa ka cc ic sc kc pv hcl hil hsl h hk600 l.1 (by omega) w hS hK
  ·exact X6 c f a 0 b s k m ca ia sa ka cc ic sc kc pv hcl hil hsl h hk600 l.1 (by omega) w hS hK
 ·skip;obtain⟨rfl,o⟩:=d (by decide);rcases j with h|h|⟨m,h⟩
  ·exact Gj 3 (by omega) c f a 0 b s k ca ia sa ka cc ic sc kc pv hcl hil hsl h hk600 w hS hK
  ·exact G1 3 (by omega) c f a 0 b s k ca ia sa ka cc ic sc kc pv hcl hil hsl h hk600 w hS hK
  ·exact G2 3 (by omega) c f a 0 b s k m ca ia sa ka cc ic sc kc pv hcl hil hsl h hk600 w hS hK
 ·skip;obtain⟨rfl,o⟩:=d (by decide);rcases j with h|h|⟨m,h⟩
  ·exact Gj 4 (by omega) c f a 0 b s k ca ia sa ka cc ic sc kc pv hcl hil hsl h hk600 w hS hK
  ·exact G1 4 (by omega) c f a 0 b s k ca ia sa ka cc ic sc kc pv hcl hil hsl h hk600 w hS hK
  ·exact G2 4 (by omega) c f a 0 b s k m ca ia sa ka cc ic sc kc pv hcl hil hsl h hk600 w hS hK
 ·skip;obtain⟨rfl,o⟩:=d (by decide);rcases j with h|h|⟨m,h⟩
  ·exact X7 c f a 0 b s k ca ia sa ka cc ic sc kc pv hcl hil hsl h hk600 w hS hK
  ·exact X8 c f a 0 b s k ca ia sa ka cc ic sc kc pv hcl hil hsl h hk600 w hS hK
  ·exact X9 c f a 0 b s k m ca ia sa ka cc ic sc kc pv hcl hil hsl h hk600 w hS hK
 ·skip;obtain⟨rfl,o⟩:=d (by decide);rcases j with h|h|⟨m,h⟩
  ·exact Ya c f a 0 b s k ca ia sa ka cc ic sc kc pv hcl hil hsl h hk600 w hS hK
  ·exact Yb c f a 0 b s k ca ia sa ka cc ic sc kc pv hcl hil hsl h hk600 w hS hK
  ·exact Yc c f a 0 b s k m ca ia sa ka cc ic sc kc pv hcl hil hsl h hk600 w hS hK
 ·skip;obtain⟨rfl,o⟩:=d (by decide);rcases j with h|h|⟨m,h⟩
  ·exact Yd c f a 0 b s k ca ia sa ka cc ic sc kc pv hcl hil hsl h hk600 w hS hK
  ·exact Ye c f a 0 b s k ca ia sa ka cc ic sc kc pv hcl hil hsl h hk600 w hS hK
  ·exact Yf c f a 0 b s k m ca ia sa ka cc ic sc kc pv hcl hil hsl h hk600 w hS hK
 ·skip;obtain⟨rfl,o⟩:=d (by decide);rw[We c f a b o]at hok;have l:=Fv hok;rcases j with h|h|⟨m,h⟩
  ·by_cases hf:k.length < (Bk a).length
   ·exact Vz c f a 0 b s k ca ia sa ka cc ic sc kc pv hcl hil hsl h hk600 l.1 l.2 hf w hS hK
   ·exact Yg c f a 0 b s k ca ia sa ka cc ic sc kc pv hcl hil hsl h hk600 l.1 l.2 (by omega) hkc hka w hS hK
  ·by_cases hf:k.length < (Bk a).length
   ·exact V4 c f a 0 b s k ca ia sa ka cc ic sc kc pv hcl hil hsl h hk600 l.1 l.2 hf w hS hK
   ·exact Yh c f a 0 b s k ca ia sa ka cc ic sc kc pv hcl hil hsl h hk600 l.1 l.2 (by omega) hkc w hS hK
  ·by_cases hf:k.length < (Bk a).length
   ·exact V5 c f a 0 b s k m ca ia sa ka cc ic sc kc pv hcl hil hsl h hk600 l.1 l.2 hf w hS hK
   ·exact Yi c f a 0 b s k m ca ia sa ka cc ic sc kc pv hcl hil hsl h hk600 l.1 l.2 (by omega) hkc w hS hK
 ·skip;obtain⟨rfl,o⟩:=d (by decide);rw[Wf c f a b o]at hok;have l:=Fv hok;rcases j with h|h|⟨m,h⟩
  ·by_cases hf:k.length < (c.getD a.toNat A6).params.length
   ·exact V6 c f a 0 b s k ca ia sa ka cc ic sc kc pv hcl hil hsl h hk600 l.1 (by omega) hpl hf w hC hS hK
   ·exact Yj c f a 0 b s k ca ia sa ka cc ic sc kc pv hcl hil hsl h hk600 l.1 (by omega) hpl (by omega) w hC hS hK
  ·by_cases hf:k.length < (c.getD a.toNat A6).params.length
   ·exact V7 c f a 0 b s k ca ia sa ka cc ic sc kc pv hcl hil hsl h hk600 l.1 (by omega) hpl hf w hC hS hK
   ·exact Yk c f a 0 b s k ca ia sa ka cc ic sc kc pv hcl hil hsl h hk600 l.1 (by omega) hpl (by omega) w hC hS hK
  ·by_cases hf:k.length < (c.getD a.toNat A6).params.length
   ·exact V8 c f a 0 b s k m ca ia sa ka cc ic sc kc pv hcl hil hsl h hk600 l.1 (by omega) hpl hf w hC hS hK
   ·exact Yl c f a 0 b s k m ca ia sa ka cc ic sc kc pv hcl hil hsl h hk600 l.1 (by omega) hpl (by omega) w hC hS hK
 ·skip;obtain⟨rfl,o⟩:=d (by decide);rcases j with h|h|⟨m,h⟩
  ·exact Gj 10 (by omega) c f a 0 b s k ca ia sa ka cc ic sc kc pv hcl hil hsl h hk600 w hS hK
  ·exact G1 10 (by omega) c f a 0 b s k ca ia sa ka cc ic sc kc pv hcl hil hsl h hk600 w hS hK
  ·exact G2 10 (by omega) c f a 0 b s k m ca ia sa ka cc ic sc kc pv hcl hil hsl h hk600 w hS hK
 ·skip;obtain⟨rfl,o⟩:=d (by decide);rcases j with h|h|⟨m,h⟩
  ·exact Gj 11 (by omega) c f a 0 b s k ca ia sa ka cc ic sc kc pv hcl hil hsl h hk600 w hS hK
  ·exact G1 11 (by omega) c f a 0 b s k ca ia sa ka cc ic sc kc pv hcl hil hsl h hk600 w hS hK
  ·exact G2 11 (by omega) c f a 0 b s k m ca ia sa ka cc ic sc kc pv hcl hil hsl h hk600 w hS hK
 ·skip;obtain⟨rfl,o⟩:=d (by decide);rw[Na c f a b o]at hok;have l:a=0\/a=1:=by
   by_cases h0:a=0
   ·exact .inl h0
   ·by_cases h1:a=1
    ·exact .inr h1
    ·simp[h0,h1]at hok
  rcases j with h|h|⟨m,h⟩
  ·rcases l with rfl|rfl
   ·exact Tl c f 0 b s k ca ia sa ka cc ic sc kc pv hcl hil hsl h hk600 w hS hK
   ·exact Tm c f 0 b s k ca ia sa ka cc ic sc kc pv hcl hil hsl h hk600 w hS hK
  ·rcases l with rfl|rfl
   ·exact Tn c f 0 b s k ca ia sa ka cc ic sc kc pv hcl hil hsl h hk600 w hS hK
   ·exact To c f 0 b s k ca ia sa ka cc ic sc kc pv hcl hil hsl h hk600 w hS hK
  ·rcases l with rfl|rfl
   ·exact Tp c f 0 b s k m ca ia sa ka cc ic sc kc pv hcl hil hsl h hk600 w hS hK
   ·exact Tq c f 0 b s k m ca ia sa ka cc ic sc kc pv hcl hil hsl h hk600 w hS hK
 ·skip;obtain⟨rfl,o⟩:=d (by decide);rcases j with h|h|⟨m,h⟩
  ·exact Gj 13 (by omega) c f a 0 b s k ca ia sa ka cc ic sc kc pv hcl hil hsl h hk600 w hS hK
  ·exact G1 13 (by omega) c f a 0 b s k ca ia sa ka cc ic sc kc pv hcl hil hsl h hk600 w hS hK
  ·exact G2 13 (by omega) c f a 0 b s k m ca ia sa ka cc ic sc kc pv hcl hil hsl h hk600 w hS hK
 ·skip;obtain⟨rfl,o⟩:=d (by decide);rcases j with h|h|⟨m,h⟩
  ·exact Gj 14 (by omega) c f a 0 b s k ca ia sa ka cc ic sc kc pv hcl hil hsl h hk600 w hS hK
  ·exact Vx c f a 0 b s k ca ia sa ka cc ic sc kc pv hcl hil hsl h hk600 w hS hK
  ·exact Vy c f a 0 b s k m ca ia sa ka cc ic sc kc pv hcl hil hsl h hk600 w hS hK
 ·skip;obtain⟨rfl,o⟩:=d (by decide);rcases j with h|h|⟨m,h⟩
  ·exact Gj 15 (by omega) c f a 0 b s k ca ia sa ka cc ic sc kc pv hcl hil hsl h hk600 w hS hK
  ·exact G1 15 (by omega) c f a 0 b s k ca ia sa ka cc ic sc kc pv hcl hil hsl h hk600 w hS hK
  ·exact G2 15 (by omega) c f a 0 b s k m ca ia sa ka cc ic sc kc pv hcl hil hsl h hk600 w hS hK
 ·skip;obtain⟨rfl,o⟩:=d (by decide);rcases j with h|h|⟨m,h⟩
  ·exact Gj 16 (by omega) c f a 0 b s k ca ia sa ka cc ic sc kc pv hcl hil hsl h hk600 w hS hK
  ·exact G1 16 (by omega) c f a 0 b s k ca ia sa ka cc ic sc kc pv hcl hil hsl h hk600 w hS hK
  ·exact G2 16 (by omega) c f a 0 b s k m ca ia sa ka cc ic sc kc pv hcl hil hsl h hk600 w hS hK
theorem Nu {P:Program} {w:World} (base:Nat) (t ty e:TypeId) (i:TypeInfo) (size:Nat) (ht:P.underlying t=some (.slice e)) (hi:P.info? e=some i) (v:Value) (n:Nat) (xs:List Value) (hown:w.ownsRow base e size v n xs) (ao:Option Addr) (c:Nat) :
  (Builtin.append_ #[t,t] ty #[v,.slice ao 0 c]).run P w = .ok v w:=by
 rcases hown.2 with⟨rfl,rfl⟩|⟨g,b,d,rfl,_,_,a,_⟩
 ·cases ao <;> simp[Builtin.append_,run_underlying ht,sizeOf,typeInfo,hi,Builtin.lenOf,Builtin.firstCells,loadCells,loadCellsFrom]
 ·cases ao <;> simp[Builtin.append_,run_underlying ht,sizeOf,typeInfo,hi,Builtin.lenOf,Builtin.firstCells,a,storeCells,loadCells,loadCellsFrom]
theorem J8 {xs:List Int}:∀ u ∈ As xs,u.oneCell'=true:=by
 intro u a;obtain⟨z,_,rfl⟩:=List.mem_map.1 a;rfl
theorem J7 (a b:List Int):As (a++b)=As a++As b:=List.map_append ..
theorem Nt {P:Program} {w:World} (base:Nat) (t ty e:TypeId) (i:TypeInfo) (z:Value) (ht:P.underlying t=some (.slice e)) (hi:P.info? e=some i) (hz:i.zero=some z) (hsize:i.size=1) (hby:i.bytes=8) (hzs:z.cells.size=1)
  (v:Value) (n:Nat) (xs:List Int) (hown:w.ownsRow base e 1 v n (As xs)) (C:Nat) (src:Value) (news:List Int) (hsrc:Ab C w src news) (hsmall:n+news.length<=1048576) (hbase:base<=w.heap.size) :
  ∃ b w',(Builtin.append_ #[t,t] ty #[v,src]).run P w = .ok b w'/\w'.ownsRow base e 1 b (n+news.length) (As (xs++news))/\w.grownBy w' v.ownBlock:=by
 obtain⟨m,c,rfl,k⟩:=hsrc;by_cases h0:news.length=0
 ·have s:news=[]:=List.eq_nil_of_length_eq_zero h0;subst s;refine⟨v,w,Nu base t ty e i 1 ht hi v n _ hown m c, ?_,⟨rfl,rfl,rfl,Nat.le_refl _,fun _ _ _=>rfl⟩⟩;simpa using hown
 ·obtain⟨g,o,rfl,_,_⟩:=k 0 (by omega);obtain⟨b,w',p,q,r,_⟩:=run_append_own_at (P:=P) (w:=w) base t ty e i z 1 8 ht hi hz hsize hby hzs (by decide) v n (As xs) hown ⟨g,o,none⟩ news.length c (As news) (by simp[As]) (fun j u hu=>by
   have l:j < news.length:=by have:=List.getElem?_eq_some_iff.1 hu;obtain⟨h,_⟩:=this;simpa[As]using h
   obtain⟨x,y,d,_,a⟩:=k j l
   injection d with d;injection d with e3 e4
   subst e3 e4
   have f:u = .int .i64 news[j]:=by simpa[As,List.getElem?_eq_getElem l]using hu.symm
   rw[f];by_cases hj0:j=0
   ·subst hj0;simpa[Addr.add]using a
   ·simpa[Addr.add,hj0]using a) J8 (by unfold maxLen;omega) (by omega) hbase
  exact⟨b,w',p,by rw[J7];exact q,r⟩
theorem Bn {P:Program} {w:World} {ops:Array Oper} {rest:List Oper} {o:Oper} {a:Act} {Q:Exit->Act->World->Prop} (hgd:o.guard=none) (s x:Operand) (t:TypeId)
  (ho:o.op = .call { callee:=.builtin .append,args := #[s,x],argTypes := #[t,t] }) (base:Nat) (e:TypeId) (i:TypeInfo) (z:Value) (ht:P.underlying t=some (.slice e)) (hi:P.info? e=some i) (hz:i.zero=some z) (hsize:i.size=1) (hby:i.bytes=8) (hzs:z.cells.size=1)
  (v:Value) (n:Nat) (xs:List Int) (hs:a.eval s=v) (hown:w.ownsRow base e 1 v n (As xs)) (C:Nat) (src:Value) (hx:a.eval x=src) (news:List Int) (hsrc:Ab C w src news) (hsmall:n+news.length<=1048576) (hbase:base<=w.heap.size)
  (h:∀ b w',w'.ownsRow base e 1 b (n+news.length) (As (xs++news))->w.grownBy w' v.ownBlock->wpList P ops Q rest (a.put o.dst b) w') :
  wpList P ops Q (o::rest) a w:=by
 refine wpList_plain hgd fun K hK => ?_
 obtain⟨b,w',f,c,d⟩:=Nt (P:=P) (w:=w) base t o.type e i z ht hi hz hsize hby hzs v n xs hown C src news hsrc hsmall hbase;unfold Oper.wp execOp;simp only[ho,resolve,invoke,builtin,Sem.run_bind,Sem.run_pure,Result.andThen_ok,List.map_toArray,List.map_cons,List.map_nil,hs,hx,f];exact hK _ _ (h b w' c d)
theorem Hw (w:World) (B:Nat) (hB:B<=w.heap.size) (e:TypeId):(w.alloc (.cells #[] e)).ownsRow B e 1 (.slice (some ⟨w.heap.size,0,none⟩) 0 0) 0 (As []) :=
 ⟨rfl,.inr ⟨w.heap.size,0,#[],rfl,hB,Af w _,by omega,by unfold maxLen;omega,rfl,rfl⟩⟩
theorem Am {Y:World} (o:Obj) {g:Nat} {x:Obj} (h:Y.heap[g]? = some x):(Y.alloc o).heap[g]? = some x:=by
 have a:g < Y.heap.size:=(Array.getElem?_eq_some_iff.1 h).1;rw[(MapKept.heap_alloc Y _).2 g a];exact h
theorem C9 {w:World} {B e size n:Nat} {v:Value} {xs:List Value} (h:w.ownsRow B e size v n xs):∃ a b,v = .slice a n b:=by
 rcases h.2 with⟨rfl,d⟩|⟨g,b,c,rfl,_⟩
 ·exact⟨none,0,by rw[d]⟩
 ·exact⟨_,_,rfl⟩
theorem Bt {w:World} {B e size n:Nat} {v:Value} {xs:List Value} (h:w.ownsRow B e size v n xs) {g:Nat} (hg:g < B):v.ownBlock≠some g:=by
 rcases h.2 with⟨rfl,d⟩|⟨c,a,b,rfl,f,_⟩
 ·simp[Value.ownBlock]
 ·simp only[Value.ownBlock,ne_eq,Option.some.injEq];omega
theorem Tryz.infoIntC : (Tryz.prog.info? 3).map (fun i=>(i.zero,i.size,i.bytes))=some (some (.int .i64 0),1,8):=by kernel_rfl
theorem I0 : ∃ i,Tryz.prog.info? 3=some i/\i.zero=some (.int .i64 0)/\i.size=1/\i.bytes=8:=by
 have h:=Tryz.infoIntC;cases hi:Tryz.prog.info? 3 with
 | none=>rw[hi]at h;simp at h
 | some i=>rw[hi]at h;simp at h;exact⟨i,rfl,h.1,h.2.1,h.2.2⟩
theorem G8 {W1 Wx w3:World} {g:Nat} {X:Obj} {row:Option Nat} (o:Obj) (h:W1.heap[g]? = some X) (hx:Wx.heap=W1.heap.push o) (hg:Wx.grownBy w3 row) (hne:row≠some g):w3.heap[g]? = some X:=by
 have a:g < W1.heap.size:=(Array.getElem?_eq_some_iff.1 h).1;have b:W1.heap.size+1=Wx.heap.size:=by rw[hx,Array.size_push]
 rw[hg.block g (by omega) (fun e=>hne e.symm),hx,Array.getElem?_push_lt a,<- Array.getElem?_eq_getElem a];exact h
theorem Cr {B:Nat} {a w w':World} {row:Option Nat} (h:Below B a w) (hg:w.grownBy w' row) (hB:B<=w.heap.size) (hr:∀ k,k < B->row≠some k):Below B a w' :=
 ⟨hg.os.trans h.os,hg.tape.trans h.tape,hg.output.trans h.output,Nat.le_trans h.size hg.size,fun k hk=>(hg.block k (Nat.lt_of_lt_of_le hk hB) (fun e=>hr k hk e.symm)).trans (h.block k hk)⟩
theorem Ab.keep {B C:Nat} {w w':World} {v:Value} {ns:List Int} (h:Ab B w v ns) (hk:∀ k,v.ownBlock=some k->w'.heap[k]? = w.heap[k]?) (hC:B<=C):Ab C w' v ns:=by
 obtain⟨a,c,rfl,f⟩:=h;refine⟨a,c,rfl,fun i hi => ?_⟩;obtain⟨g,o,d,j,b⟩:=f i hi;refine⟨g,o,d,by omega, ?_⟩;rw[World.cell?_of_block (hk g (by rw[d];rfl))];exact b
def De (B:Nat) (w:World) (v:Value):Prop := ∀ g,v.ownBlock=some g->g < B/\∃ cur fr,w.heap[g]? = some (.cells cur 3 fr)
theorem De.own {w:World} {B C n:Nat} {v:Value} {xs:List Value} (h:w.ownsRow B 3 1 v n xs) (hC:w.heap.size<=C):De C w v:=by
 intro g b;rcases h.2 with⟨rfl,_⟩|⟨f,d,a,rfl,_,c,_⟩
 ·simp[Value.ownBlock]at b
 ·simp only[Value.ownBlock,Option.some.injEq]at b;subst b;exact⟨Nat.lt_of_lt_of_le (Array.getElem?_eq_some_iff.1 c).1 hC,a,_,c⟩
theorem De.keep {B C:Nat} {w w':World} {v:Value} (h:De B w v) (hk:∀ k,v.ownBlock=some k->w'.heap[k]? = w.heap[k]?) (hC:B<=C):De C w' v:=fun g hg=>by
 obtain⟨d,a,b,c⟩:=h g hg
 exact⟨by omega,a,b,(hk g hg).trans c⟩
theorem De.below {B:Nat} {w w':World} {v:Value} (h:De B w v) (hb:Below B w w'):De B w' v:=h.keep (fun k hk=>hb.block k (h k hk).1) (Nat.le_refl _)
theorem De.nil (B:Nat) (w:World):De B w (.slice none 0 0):=fun g hg=>by simp[Value.ownBlock]at hg
def Ba (B:Nat) (w:World) (v:Value):Ao->Prop
 | .none=>v=Ah 0 (.slice none 0 0) (.slice none 0 0)
 | .clash=>v=Ah 2 (.slice none 0 0) (.slice none 0 0)
 | .known s k => ∃ sa sc ka kc,v=Ah 1 (.slice sa s.length sc) (.slice ka k.length kc)/\k.length<=kc/\(ka=none/\kc=0\/∃ g,ka=some ⟨g,0,none⟩)/\Ab B w (.slice sa s.length sc) s/\Ab B w (.slice ka k.length kc) k/\De B w (.slice sa s.length sc)/\De B w (.slice ka k.length kc)
theorem Ba.keep {B C:Nat} {w w':World} (hC:B<=C):∀ {v:Value} {sh:Ao},Ba B w v sh->(∀ st sv kv,v=Ah st sv kv->∀ k,(sv.ownBlock=some k\/kv.ownBlock=some k)->w'.heap[k]? = w.heap[k]?)->Ba C w' v sh
 | _,.none,h,_=>h
 | _,.clash,h,_=>h
 | _,.known _ _,h,hk=>by
  obtain⟨l,m,i,j,rfl,a,b,c,d,f,g⟩:=h
  exact⟨l,m,i,j,rfl,a,b,c.keep (fun k h=>hk _ _ _ rfl k (.inl h)) hC,d.keep (fun k h=>hk _ _ _ rfl k (.inr h)) hC,f.keep (fun k h=>hk _ _ _ rfl k (.inl h)) hC,g.keep (fun k h=>hk _ _ _ rfl k (.inr h)) hC⟩
theorem Ba.below {B:Nat} {w w':World} {v:Value} (hb:Below B w w'):∀ {sh:Ao},Ba B w v sh->Ba B w' v sh
 | .none,h=>h
 | .clash,h=>h
 | .known _ _,h=>by
  obtain⟨l,m,j,k,a,b,c,d,f,g,i⟩:=h
  exact⟨l,m,j,k,a,b,c,d.below hb,f.below hb,g.below hb,i.below hb⟩
theorem Ba.mono {B C:Nat} {w:World} {v:Value} (hb:B<=C):∀ {sh:Ao},Ba B w v sh->Ba C w v sh
 | .none,h=>h
 | .clash,h=>h
 | .known _ _,h=>by
  obtain⟨l,m,j,k,a,b,c,d,f,g,i⟩:=h
  exact⟨l,m,j,k,a,b,c,d.mono hb,f.mono hb,g.keep (fun _ _=>rfl) hb,i.keep (fun _ _=>rfl) hb⟩
theorem Ad {w Z:World} (h:Below w.heap.size w Z) (d i:Nat) (v:Value):Below w.heap.size w (Z.setCell ⟨w.heap.size+d,i,none⟩ v):=h.setCell (p:=⟨w.heap.size+d,i,none⟩) (by show w.heap.size<=w.heap.size+d;omega) v
theorem Qaa (sa ka sb kb:Option Addr) (n1 c1 n2 c2 n3 c3 n4 c4:Nat) (w:World) :
  Calls Tryz.prog 113 #[Ah 0 (.slice sa n1 c1) (.slice ka n2 c2),Ah 0 (.slice sb n3 c3) (.slice kb n4 c4)] w fun e w'=>e = .returned (.tuple #[Ah 0 (.slice sa n1 c1) (.slice ka n2 c2),.bool false])/\Below w.heap.size w w':=by
 obtain⟨r,k⟩:∃ Y,w.alloc (.cells #[.int .i64 0,.slice sa n1 c1,.slice ka n2 c2] 126)=Y:=⟨_,rfl⟩;have p:Below w.heap.size w r:=by rw[<- k];exact Au w _
 have t:r.heap.size=w.heap.size+1:=by rw[<- k];exact World.size_alloc _ _
 have h:r.heap[w.heap.size]? = some (.cells #[.int .i64 0,.slice sa n1 c1,.slice ka n2 c2] 126):=by rw[<- k];exact Af w _
 obtain⟨l,g⟩:∃ Y,r.alloc (.cells #[.int .i64 0,.slice sb n3 c3,.slice kb n4 c4] 126)=Y:=⟨_,rfl⟩;have q:Below w.heap.size w l:=by rw[<- g];exact Ac p _
 have u:l.heap.size=w.heap.size+2:=by rw[<- g,World.size_alloc];omega
 have i:l.heap[w.heap.size]? = some (.cells #[.int .i64 0,.slice sa n1 c1,.slice ka n2 c2] 126):=by rw[<- g];exact Am _ h
 have j:l.heap[w.heap.size+1]? = some (.cells #[.int .i64 0,.slice sb n3 c3,.slice kb n4 c4] 126):=by rw[<- g,<- t];exact Af _ _
 clear h;obtain⟨b,f⟩:∃ Y,l.alloc (.cells #[.int .i64 0,.slice none 0 0,.slice none 0 0] 126)=Y:=⟨_,rfl⟩;have s:Below w.heap.size w b:=by rw[<- f];exact Ac q _
 have G:b.heap.size=w.heap.size+3:=by rw[<- f,World.size_alloc];omega
 have c:b.heap[w.heap.size]? = some (.cells #[.int .i64 0,.slice sa n1 c1,.slice ka n2 c2] 126):=by rw[<- f];exact Am _ i
 have d:b.heap[w.heap.size+1]? = some (.cells #[.int .i64 0,.slice sb n3 c3,.slice kb n4 c4] 126):=by rw[<- f];exact Am _ j
 have a:b.heap[w.heap.size+2]? = some (.cells #[.int .i64 0,.slice none 0 0,.slice none 0 0] 126):=by rw[<- f,<- u];exact Af _ _
 clear i j;have x:b.cell? ⟨w.heap.size,0,none⟩=some (.int .i64 0):=by rw[Lib.cell_of_heap c];rfl
 have y:b.cell? ⟨w.heap.size,1,none⟩=some (.slice sa n1 c1):=by rw[Lib.cell_of_heap c];rfl
 have z:b.cell? ⟨w.heap.size,2,none⟩=some (.slice ka n2 c2):=by rw[Lib.cell_of_heap c];rfl
 have A:b.cell? ⟨w.heap.size+1,0,none⟩=some (.int .i64 0):=by rw[Lib.cell_of_heap d];rfl
 have B:b.cell? ⟨w.heap.size+1,1,none⟩=some (.slice sb n3 c3):=by rw[Lib.cell_of_heap d];rfl
 have C:b.cell? ⟨w.heap.size+1,2,none⟩=some (.slice kb n4 c4):=by rw[Lib.cell_of_heap d];rfl
 have m:b.cell? ⟨w.heap.size+2,0,none⟩=some (.int .i64 0):=by rw[Lib.cell_of_heap a];rfl
 have n:b.cell? ⟨w.heap.size+2,1,none⟩=some (.slice none 0 0):=by rw[Lib.cell_of_heap a];rfl
 have o:b.cell? ⟨w.heap.size+2,2,none⟩=some (.slice none 0 0):=by rw[Lib.cell_of_heap a];rfl
 have D:b.frozen? ⟨w.heap.size+2,0,none⟩=false:=by simp[World.frozen?,a]
 have E:b.frozen? ⟨w.heap.size+2,1,none⟩=false:=by simp[World.frozen?,a]
 have F:b.frozen? ⟨w.heap.size+2,2,none⟩=false:=by simp[World.frozen?,a]
 clear c d a p q;unfold Ah;go_enter Tryz.func113,Tryz.ntmps113;go_wp2_with fail;exact bodyPost_ret (v:=.tuple #[Ah 0 (.slice sa n1 c1) (.slice ka n2 c2),.bool false]) (by simp[results,Tryz.results113,go_sem,m,n,o,Ah]) rfl ⟨rfl,Ad (Ad (Ad s 2 0 _) 2 1 _) 2 2 _⟩
theorem Qad (sa ka sb kb:Option Addr) (n1 c1 n2 c2 n3 c3 n4 c4:Nat) (w:World) :
  Calls Tryz.prog 113 #[Ah 1 (.slice sa n1 c1) (.slice ka n2 c2),Ah 0 (.slice sb n3 c3) (.slice kb n4 c4)] w fun e w'=>e = .returned (.tuple #[Ah 1 (.slice sa n1 c1) (.slice ka n2 c2),.bool false])/\Below w.heap.size w w':=by
 obtain⟨r,k⟩:∃ Y,w.alloc (.cells #[.int .i64 1,.slice sa n1 c1,.slice ka n2 c2] 126)=Y:=⟨_,rfl⟩;have p:Below w.heap.size w r:=by rw[<- k];exact Au w _
 have t:r.heap.size=w.heap.size+1:=by rw[<- k];exact World.size_alloc _ _
 have h:r.heap[w.heap.size]? = some (.cells #[.int .i64 1,.slice sa n1 c1,.slice ka n2 c2] 126):=by rw[<- k];exact Af w _
 obtain⟨l,g⟩:∃ Y,r.alloc (.cells #[.int .i64 0,.slice sb n3 c3,.slice kb n4 c4] 126)=Y:=⟨_,rfl⟩;have q:Below w.heap.size w l:=by rw[<- g];exact Ac p _
 have u:l.heap.size=w.heap.size+2:=by rw[<- g,World.size_alloc];omega
 have i:l.heap[w.heap.size]? = some (.cells #[.int .i64 1,.slice sa n1 c1,.slice ka n2 c2] 126):=by rw[<- g];exact Am _ h
 have j:l.heap[w.heap.size+1]? = some (.cells #[.int .i64 0,.slice sb n3 c3,.slice kb n4 c4] 126):=by rw[<- g,<- t];exact Af _ _
 clear h;obtain⟨b,f⟩:∃ Y,l.alloc (.cells #[.int .i64 0,.slice none 0 0,.slice none 0 0] 126)=Y:=⟨_,rfl⟩;have s:Below w.heap.size w b:=by rw[<- f];exact Ac q _
 have G:b.heap.size=w.heap.size+3:=by rw[<- f,World.size_alloc];omega
 have c:b.heap[w.heap.size]? = some (.cells #[.int .i64 1,.slice sa n1 c1,.slice ka n2 c2] 126):=by rw[<- f];exact Am _ i
 have d:b.heap[w.heap.size+1]? = some (.cells #[.int .i64 0,.slice sb n3 c3,.slice kb n4 c4] 126):=by rw[<- f];exact Am _ j
 have a:b.heap[w.heap.size+2]? = some (.cells #[.int .i64 0,.slice none 0 0,.slice none 0 0] 126):=by rw[<- f,<- u];exact Af _ _
 clear i j;have x:b.cell? ⟨w.heap.size,0,none⟩=some (.int .i64 1):=by rw[Lib.cell_of_heap c];rfl
 have y:b.cell? ⟨w.heap.size,1,none⟩=some (.slice sa n1 c1):=by rw[Lib.cell_of_heap c];rfl
 have z:b.cell? ⟨w.heap.size,2,none⟩=some (.slice ka n2 c2):=by rw[Lib.cell_of_heap c];rfl
 have A:b.cell? ⟨w.heap.size+1,0,none⟩=some (.int .i64 0):=by rw[Lib.cell_of_heap d];rfl
 have B:b.cell? ⟨w.heap.size+1,1,none⟩=some (.slice sb n3 c3):=by rw[Lib.cell_of_heap d];rfl
 have C:b.cell? ⟨w.heap.size+1,2,none⟩=some (.slice kb n4 c4):=by rw[Lib.cell_of_heap d];rfl
 have m:b.cell? ⟨w.heap.size+2,0,none⟩=some (.int .i64 0):=by rw[Lib.cell_of_heap a];rfl
 have n:b.cell? ⟨w.heap.size+2,1,none⟩=some (.slice none 0 0):=by rw[Lib.cell_of_heap a];rfl
 have o:b.cell? ⟨w.heap.size+2,2,none⟩=some (.slice none 0 0):=by rw[Lib.cell_of_heap a];rfl
 have D:b.frozen? ⟨w.heap.size+2,0,none⟩=false:=by simp[World.frozen?,a]
 have E:b.frozen? ⟨w.heap.size+2,1,none⟩=false:=by simp[World.frozen?,a]
 have F:b.frozen? ⟨w.heap.size+2,2,none⟩=false:=by simp[World.frozen?,a]
 clear c d a p q;unfold Ah;go_enter Tryz.func113,Tryz.ntmps113;go_wp2_with fail;exact bodyPost_ret (v:=.tuple #[Ah 1 (.slice sa n1 c1) (.slice ka n2 c2),.bool false]) (by simp[results,Tryz.results113,go_sem,m,n,o,Ah]) rfl ⟨rfl,Ad (Ad (Ad s 2 0 _) 2 1 _) 2 2 _⟩
theorem Qaf (sa ka sb kb:Option Addr) (n1 c1 n2 c2 n3 c3 n4 c4:Nat) (w:World) :
  Calls Tryz.prog 113 #[Ah 2 (.slice sa n1 c1) (.slice ka n2 c2),Ah 0 (.slice sb n3 c3) (.slice kb n4 c4)] w fun e w'=>e = .returned (.tuple #[Ah 2 (.slice sa n1 c1) (.slice ka n2 c2),.bool false])/\Below w.heap.size w w':=by
 obtain⟨r,k⟩:∃ Y,w.alloc (.cells #[.int .i64 2,.slice sa n1 c1,.slice ka n2 c2] 126)=Y:=⟨_,rfl⟩;have p:Below w.heap.size w r:=by rw[<- k];exact Au w _
 have t:r.heap.size=w.heap.size+1:=by rw[<- k];exact World.size_alloc _ _
 have h:r.heap[w.heap.size]? = some (.cells #[.int .i64 2,.slice sa n1 c1,.slice ka n2 c2] 126):=by rw[<- k];exact Af w _
 obtain⟨l,g⟩:∃ Y,r.alloc (.cells #[.int .i64 0,.slice sb n3 c3,.slice kb n4 c4] 126)=Y:=⟨_,rfl⟩;have q:Below w.heap.size w l:=by rw[<- g];exact Ac p _
 have u:l.heap.size=w.heap.size+2:=by rw[<- g,World.size_alloc];omega
 have i:l.heap[w.heap.size]? = some (.cells #[.int .i64 2,.slice sa n1 c1,.slice ka n2 c2] 126):=by rw[<- g];exact Am _ h
 have j:l.heap[w.heap.size+1]? = some (.cells #[.int .i64 0,.slice sb n3 c3,.slice kb n4 c4] 126):=by rw[<- g,<- t];exact Af _ _
 clear h;obtain⟨b,f⟩:∃ Y,l.alloc (.cells #[.int .i64 0,.slice none 0 0,.slice none 0 0] 126)=Y:=⟨_,rfl⟩;have s:Below w.heap.size w b:=by rw[<- f];exact Ac q _
 have G:b.heap.size=w.heap.size+3:=by rw[<- f,World.size_alloc];omega
 have c:b.heap[w.heap.size]? = some (.cells #[.int .i64 2,.slice sa n1 c1,.slice ka n2 c2] 126):=by rw[<- f];exact Am _ i
 have d:b.heap[w.heap.size+1]? = some (.cells #[.int .i64 0,.slice sb n3 c3,.slice kb n4 c4] 126):=by rw[<- f];exact Am _ j
 have a:b.heap[w.heap.size+2]? = some (.cells #[.int .i64 0,.slice none 0 0,.slice none 0 0] 126):=by rw[<- f,<- u];exact Af _ _
 clear i j;have x:b.cell? ⟨w.heap.size,0,none⟩=some (.int .i64 2):=by rw[Lib.cell_of_heap c];rfl
 have y:b.cell? ⟨w.heap.size,1,none⟩=some (.slice sa n1 c1):=by rw[Lib.cell_of_heap c];rfl
 have z:b.cell? ⟨w.heap.size,2,none⟩=some (.slice ka n2 c2):=by rw[Lib.cell_of_heap c];rfl
 have A:b.cell? ⟨w.heap.size+1,0,none⟩=some (.int .i64 0):=by rw[Lib.cell_of_heap d];rfl
 have B:b.cell? ⟨w.heap.size+1,1,none⟩=some (.slice sb n3 c3):=by rw[Lib.cell_of_heap d];rfl
 have C:b.cell? ⟨w.heap.size+1,2,none⟩=some (.slice kb n4 c4):=by rw[Lib.cell_of_heap d];rfl
 have m:b.cell? ⟨w.heap.size+2,0,none⟩=some (.int .i64 0):=by rw[Lib.cell_of_heap a];rfl
 have n:b.cell? ⟨w.heap.size+2,1,none⟩=some (.slice none 0 0):=by rw[Lib.cell_of_heap a];rfl
 have o:b.cell? ⟨w.heap.size+2,2,none⟩=some (.slice none 0 0):=by rw[Lib.cell_of_heap a];rfl
 have D:b.frozen? ⟨w.heap.size+2,0,none⟩=false:=by simp[World.frozen?,a]
 have E:b.frozen? ⟨w.heap.size+2,1,none⟩=false:=by simp[World.frozen?,a]
 have F:b.frozen? ⟨w.heap.size+2,2,none⟩=false:=by simp[World.frozen?,a]
 clear c d a p q;unfold Ah;go_enter Tryz.func113,Tryz.ntmps113;go_wp2_with fail;exact bodyPost_ret (v:=.tuple #[Ah 2 (.slice sa n1 c1) (.slice ka n2 c2),.bool false]) (by simp[results,Tryz.results113,go_sem,m,n,o,Ah]) rfl ⟨rfl,Ad (Ad (Ad s 2 0 _) 2 1 _) 2 2 _⟩
theorem Qag (sa ka sb kb:Option Addr) (n1 c1 n2 c2 n3 c3 n4 c4:Nat) (w:World) :
  Calls Tryz.prog 113 #[Ah 2 (.slice sa n1 c1) (.slice ka n2 c2),Ah 1 (.slice sb n3 c3) (.slice kb n4 c4)] w fun e w'=>e = .returned (.tuple #[Ah 2 (.slice sa n1 c1) (.slice ka n2 c2),.bool false])/\Below w.heap.size w w':=by
 obtain⟨r,k⟩:∃ Y,w.alloc (.cells #[.int .i64 2,.slice sa n1 c1,.slice ka n2 c2] 126)=Y:=⟨_,rfl⟩;have p:Below w.heap.size w r:=by rw[<- k];exact Au w _
 have t:r.heap.size=w.heap.size+1:=by rw[<- k];exact World.size_alloc _ _
 have h:r.heap[w.heap.size]? = some (.cells #[.int .i64 2,.slice sa n1 c1,.slice ka n2 c2] 126):=by rw[<- k];exact Af w _
 obtain⟨l,g⟩:∃ Y,r.alloc (.cells #[.int .i64 1,.slice sb n3 c3,.slice kb n4 c4] 126)=Y:=⟨_,rfl⟩;have q:Below w.heap.size w l:=by rw[<- g];exact Ac p _
 have u:l.heap.size=w.heap.size+2:=by rw[<- g,World.size_alloc];omega
 have i:l.heap[w.heap.size]? = some (.cells #[.int .i64 2,.slice sa n1 c1,.slice ka n2 c2] 126):=by rw[<- g];exact Am _ h
 have j:l.heap[w.heap.size+1]? = some (.cells #[.int .i64 1,.slice sb n3 c3,.slice kb n4 c4] 126):=by rw[<- g,<- t];exact Af _ _
 clear h;obtain⟨b,f⟩:∃ Y,l.alloc (.cells #[.int .i64 0,.slice none 0 0,.slice none 0 0] 126)=Y:=⟨_,rfl⟩;have s:Below w.heap.size w b:=by rw[<- f];exact Ac q _
 have G:b.heap.size=w.heap.size+3:=by rw[<- f,World.size_alloc];omega
 have c:b.heap[w.heap.size]? = some (.cells #[.int .i64 2,.slice sa n1 c1,.slice ka n2 c2] 126):=by rw[<- f];exact Am _ i
 have d:b.heap[w.heap.size+1]? = some (.cells #[.int .i64 1,.slice sb n3 c3,.slice kb n4 c4] 126):=by rw[<- f];exact Am _ j
 have a:b.heap[w.heap.size+2]? = some (.cells #[.int .i64 0,.slice none 0 0,.slice none 0 0] 126):=by rw[<- f,<- u];exact Af _ _
 clear i j;have x:b.cell? ⟨w.heap.size,0,none⟩=some (.int .i64 2):=by rw[Lib.cell_of_heap c];rfl
 have y:b.cell? ⟨w.heap.size,1,none⟩=some (.slice sa n1 c1):=by rw[Lib.cell_of_heap c];rfl
 have z:b.cell? ⟨w.heap.size,2,none⟩=some (.slice ka n2 c2):=by rw[Lib.cell_of_heap c];rfl
 have A:b.cell? ⟨w.heap.size+1,0,none⟩=some (.int .i64 1):=by rw[Lib.cell_of_heap d];rfl
 have B:b.cell? ⟨w.heap.size+1,1,none⟩=some (.slice sb n3 c3):=by rw[Lib.cell_of_heap d];rfl
 have C:b.cell? ⟨w.heap.size+1,2,none⟩=some (.slice kb n4 c4):=by rw[Lib.cell_of_heap d];rfl
 have m:b.cell? ⟨w.heap.size+2,0,none⟩=some (.int .i64 0):=by rw[Lib.cell_of_heap a];rfl
 have n:b.cell? ⟨w.heap.size+2,1,none⟩=some (.slice none 0 0):=by rw[Lib.cell_of_heap a];rfl
 have o:b.cell? ⟨w.heap.size+2,2,none⟩=some (.slice none 0 0):=by rw[Lib.cell_of_heap a];rfl
 have D:b.frozen? ⟨w.heap.size+2,0,none⟩=false:=by simp[World.frozen?,a]
 have E:b.frozen? ⟨w.heap.size+2,1,none⟩=false:=by simp[World.frozen?,a]
 have F:b.frozen? ⟨w.heap.size+2,2,none⟩=false:=by simp[World.frozen?,a]
 clear c d a p q;unfold Ah;go_enter Tryz.func113,Tryz.ntmps113;go_wp2_with fail;exact bodyPost_ret (v:=.tuple #[Ah 2 (.slice sa n1 c1) (.slice ka n2 c2),.bool false]) (by simp[results,Tryz.results113,go_sem,m,n,o,Ah]) rfl ⟨rfl,Ad (Ad (Ad s 2 0 _) 2 1 _) 2 2 _⟩
theorem Qah (sa ka sb kb:Option Addr) (n1 c1 n2 c2 n3 c3 n4 c4:Nat) (w:World) :
  Calls Tryz.prog 113 #[Ah 2 (.slice sa n1 c1) (.slice ka n2 c2),Ah 2 (.slice sb n3 c3) (.slice kb n4 c4)] w fun e w'=>e = .returned (.tuple #[Ah 2 (.slice sa n1 c1) (.slice ka n2 c2),.bool false])/\Below w.heap.size w w':=by
 obtain⟨r,k⟩:∃ Y,w.alloc (.cells #[.int .i64 2,.slice sa n1 c1,.slice ka n2 c2] 126)=Y:=⟨_,rfl⟩;have p:Below w.heap.size w r:=by rw[<- k];exact Au w _
 have t:r.heap.size=w.heap.size+1:=by rw[<- k];exact World.size_alloc _ _
 have h:r.heap[w.heap.size]? = some (.cells #[.int .i64 2,.slice sa n1 c1,.slice ka n2 c2] 126):=by rw[<- k];exact Af w _
 obtain⟨l,g⟩:∃ Y,r.alloc (.cells #[.int .i64 2,.slice sb n3 c3,.slice kb n4 c4] 126)=Y:=⟨_,rfl⟩;have q:Below w.heap.size w l:=by rw[<- g];exact Ac p _
 have u:l.heap.size=w.heap.size+2:=by rw[<- g,World.size_alloc];omega
 have i:l.heap[w.heap.size]? = some (.cells #[.int .i64 2,.slice sa n1 c1,.slice ka n2 c2] 126):=by rw[<- g];exact Am _ h
 have j:l.heap[w.heap.size+1]? = some (.cells #[.int .i64 2,.slice sb n3 c3,.slice kb n4 c4] 126):=by rw[<- g,<- t];exact Af _ _
 clear h;obtain⟨b,f⟩:∃ Y,l.alloc (.cells #[.int .i64 0,.slice none 0 0,.slice none 0 0] 126)=Y:=⟨_,rfl⟩;have s:Below w.heap.size w b:=by rw[<- f];exact Ac q _
 have G:b.heap.size=w.heap.size+3:=by rw[<- f,World.size_alloc];omega
 have c:b.heap[w.heap.size]? = some (.cells #[.int .i64 2,.slice sa n1 c1,.slice ka n2 c2] 126):=by rw[<- f];exact Am _ i
 have d:b.heap[w.heap.size+1]? = some (.cells #[.int .i64 2,.slice sb n3 c3,.slice kb n4 c4] 126):=by rw[<- f];exact Am _ j
 have a:b.heap[w.heap.size+2]? = some (.cells #[.int .i64 0,.slice none 0 0,.slice none 0 0] 126):=by rw[<- f,<- u];exact Af _ _
 clear i j;have x:b.cell? ⟨w.heap.size,0,none⟩=some (.int .i64 2):=by rw[Lib.cell_of_heap c];rfl
 have y:b.cell? ⟨w.heap.size,1,none⟩=some (.slice sa n1 c1):=by rw[Lib.cell_of_heap c];rfl
 have z:b.cell? ⟨w.heap.size,2,none⟩=some (.slice ka n2 c2):=by rw[Lib.cell_of_heap c];rfl
 have A:b.cell? ⟨w.heap.size+1,0,none⟩=some (.int .i64 2):=by rw[Lib.cell_of_heap d];rfl
 have B:b.cell? ⟨w.heap.size+1,1,none⟩=some (.slice sb n3 c3):=by rw[Lib.cell_of_heap d];rfl
 have C:b.cell? ⟨w.heap.size+1,2,none⟩=some (.slice kb n4 c4):=by rw[Lib.cell_of_heap d];rfl
 have m:b.cell? ⟨w.heap.size+2,0,none⟩=some (.int .i64 0):=by rw[Lib.cell_of_heap a];rfl
 have n:b.cell? ⟨w.heap.size+2,1,none⟩=some (.slice none 0 0):=by rw[Lib.cell_of_heap a];rfl
 have o:b.cell? ⟨w.heap.size+2,2,none⟩=some (.slice none 0 0):=by rw[Lib.cell_of_heap a];rfl
 have D:b.frozen? ⟨w.heap.size+2,0,none⟩=false:=by simp[World.frozen?,a]
 have E:b.frozen? ⟨w.heap.size+2,1,none⟩=false:=by simp[World.frozen?,a]
 have F:b.frozen? ⟨w.heap.size+2,2,none⟩=false:=by simp[World.frozen?,a]
 clear c d a p q;unfold Ah;go_enter Tryz.func113,Tryz.ntmps113;go_wp2_with fail;exact bodyPost_ret (v:=.tuple #[Ah 2 (.slice sa n1 c1) (.slice ka n2 c2),.bool false]) (by simp[results,Tryz.results113,go_sem,m,n,o,Ah]) rfl ⟨rfl,Ad (Ad (Ad s 2 0 _) 2 1 _) 2 2 _⟩
theorem Qab (sa ka sb kb:Option Addr) (n1 c1 n2 c2 n3 c3 n4 c4:Nat) (w:World) :
  Calls Tryz.prog 113 #[Ah 0 (.slice sa n1 c1) (.slice ka n2 c2),Ah 1 (.slice sb n3 c3) (.slice kb n4 c4)] w fun e w'=>e = .returned (.tuple #[Ah 1 (.slice sb n3 c3) (.slice kb n4 c4),.bool true])/\Below w.heap.size w w':=by
 obtain⟨r,k⟩:∃ Y,w.alloc (.cells #[.int .i64 0,.slice sa n1 c1,.slice ka n2 c2] 126)=Y:=⟨_,rfl⟩;have p:Below w.heap.size w r:=by rw[<- k];exact Au w _
 have t:r.heap.size=w.heap.size+1:=by rw[<- k];exact World.size_alloc _ _
 have h:r.heap[w.heap.size]? = some (.cells #[.int .i64 0,.slice sa n1 c1,.slice ka n2 c2] 126):=by rw[<- k];exact Af w _
 obtain⟨l,g⟩:∃ Y,r.alloc (.cells #[.int .i64 1,.slice sb n3 c3,.slice kb n4 c4] 126)=Y:=⟨_,rfl⟩;have q:Below w.heap.size w l:=by rw[<- g];exact Ac p _
 have u:l.heap.size=w.heap.size+2:=by rw[<- g,World.size_alloc];omega
 have i:l.heap[w.heap.size]? = some (.cells #[.int .i64 0,.slice sa n1 c1,.slice ka n2 c2] 126):=by rw[<- g];exact Am _ h
 have j:l.heap[w.heap.size+1]? = some (.cells #[.int .i64 1,.slice sb n3 c3,.slice kb n4 c4] 126):=by rw[<- g,<- t];exact Af _ _
 clear h;obtain⟨b,f⟩:∃ Y,l.alloc (.cells #[.int .i64 0,.slice none 0 0,.slice none 0 0] 126)=Y:=⟨_,rfl⟩;have s:Below w.heap.size w b:=by rw[<- f];exact Ac q _
 have G:b.heap.size=w.heap.size+3:=by rw[<- f,World.size_alloc];omega
 have c:b.heap[w.heap.size]? = some (.cells #[.int .i64 0,.slice sa n1 c1,.slice ka n2 c2] 126):=by rw[<- f];exact Am _ i
 have d:b.heap[w.heap.size+1]? = some (.cells #[.int .i64 1,.slice sb n3 c3,.slice kb n4 c4] 126):=by rw[<- f];exact Am _ j
 have a:b.heap[w.heap.size+2]? = some (.cells #[.int .i64 0,.slice none 0 0,.slice none 0 0] 126):=by rw[<- f,<- u];exact Af _ _
 clear i j;have x:b.cell? ⟨w.heap.size,0,none⟩=some (.int .i64 0):=by rw[Lib.cell_of_heap c];rfl
 have y:b.cell? ⟨w.heap.size,1,none⟩=some (.slice sa n1 c1):=by rw[Lib.cell_of_heap c];rfl
 have z:b.cell? ⟨w.heap.size,2,none⟩=some (.slice ka n2 c2):=by rw[Lib.cell_of_heap c];rfl
 have A:b.cell? ⟨w.heap.size+1,0,none⟩=some (.int .i64 1):=by rw[Lib.cell_of_heap d];rfl
 have B:b.cell? ⟨w.heap.size+1,1,none⟩=some (.slice sb n3 c3):=by rw[Lib.cell_of_heap d];rfl
 have C:b.cell? ⟨w.heap.size+1,2,none⟩=some (.slice kb n4 c4):=by rw[Lib.cell_of_heap d];rfl
 have m:b.cell? ⟨w.heap.size+2,0,none⟩=some (.int .i64 0):=by rw[Lib.cell_of_heap a];rfl
 have n:b.cell? ⟨w.heap.size+2,1,none⟩=some (.slice none 0 0):=by rw[Lib.cell_of_heap a];rfl
 have o:b.cell? ⟨w.heap.size+2,2,none⟩=some (.slice none 0 0):=by rw[Lib.cell_of_heap a];rfl
 have D:b.frozen? ⟨w.heap.size+2,0,none⟩=false:=by simp[World.frozen?,a]
 have E:b.frozen? ⟨w.heap.size+2,1,none⟩=false:=by simp[World.frozen?,a]
 have F:b.frozen? ⟨w.heap.size+2,2,none⟩=false:=by simp[World.frozen?,a]
 clear c d a p q;unfold Ah;go_enter Tryz.func113,Tryz.ntmps113;go_wp2_with fail;exact bodyPost_ret (v:=.tuple #[Ah 1 (.slice sb n3 c3) (.slice kb n4 c4),.bool true]) (by simp[results,Tryz.results113,go_sem,m,n,o,Ah]) rfl ⟨rfl,Ad (Ad (Ad s 2 0 _) 2 1 _) 2 2 _⟩
theorem Qac (sa ka sb kb:Option Addr) (n1 c1 n2 c2 n3 c3 n4 c4:Nat) (w:World) :
  Calls Tryz.prog 113 #[Ah 0 (.slice sa n1 c1) (.slice ka n2 c2),Ah 2 (.slice sb n3 c3) (.slice kb n4 c4)] w fun e w'=>e = .returned (.tuple #[Ah 2 (.slice sb n3 c3) (.slice kb n4 c4),.bool true])/\Below w.heap.size w w':=by
 obtain⟨r,k⟩:∃ Y,w.alloc (.cells #[.int .i64 0,.slice sa n1 c1,.slice ka n2 c2] 126)=Y:=⟨_,rfl⟩;have p:Below w.heap.size w r:=by rw[<- k];exact Au w _
 have t:r.heap.size=w.heap.size+1:=by rw[<- k];exact World.size_alloc _ _
 have h:r.heap[w.heap.size]? = some (.cells #[.int .i64 0,.slice sa n1 c1,.slice ka n2 c2] 126):=by rw[<- k];exact Af w _
 obtain⟨l,g⟩:∃ Y,r.alloc (.cells #[.int .i64 2,.slice sb n3 c3,.slice kb n4 c4] 126)=Y:=⟨_,rfl⟩;have q:Below w.heap.size w l:=by rw[<- g];exact Ac p _
 have u:l.heap.size=w.heap.size+2:=by rw[<- g,World.size_alloc];omega
 have i:l.heap[w.heap.size]? = some (.cells #[.int .i64 0,.slice sa n1 c1,.slice ka n2 c2] 126):=by rw[<- g];exact Am _ h
 have j:l.heap[w.heap.size+1]? = some (.cells #[.int .i64 2,.slice sb n3 c3,.slice kb n4 c4] 126):=by rw[<- g,<- t];exact Af _ _
 clear h;obtain⟨b,f⟩:∃ Y,l.alloc (.cells #[.int .i64 0,.slice none 0 0,.slice none 0 0] 126)=Y:=⟨_,rfl⟩;have s:Below w.heap.size w b:=by rw[<- f];exact Ac q _
 have G:b.heap.size=w.heap.size+3:=by rw[<- f,World.size_alloc];omega
 have c:b.heap[w.heap.size]? = some (.cells #[.int .i64 0,.slice sa n1 c1,.slice ka n2 c2] 126):=by rw[<- f];exact Am _ i
 have d:b.heap[w.heap.size+1]? = some (.cells #[.int .i64 2,.slice sb n3 c3,.slice kb n4 c4] 126):=by rw[<- f];exact Am _ j
 have a:b.heap[w.heap.size+2]? = some (.cells #[.int .i64 0,.slice none 0 0,.slice none 0 0] 126):=by rw[<- f,<- u];exact Af _ _
 clear i j;have x:b.cell? ⟨w.heap.size,0,none⟩=some (.int .i64 0):=by rw[Lib.cell_of_heap c];rfl
 have y:b.cell? ⟨w.heap.size,1,none⟩=some (.slice sa n1 c1):=by rw[Lib.cell_of_heap c];rfl
 have z:b.cell? ⟨w.heap.size,2,none⟩=some (.slice ka n2 c2):=by rw[Lib.cell_of_heap c];rfl
 have A:b.cell? ⟨w.heap.size+1,0,none⟩=some (.int .i64 2):=by rw[Lib.cell_of_heap d];rfl
 have B:b.cell? ⟨w.heap.size+1,1,none⟩=some (.slice sb n3 c3):=by rw[Lib.cell_of_heap d];rfl
 have C:b.cell? ⟨w.heap.size+1,2,none⟩=some (.slice kb n4 c4):=by rw[Lib.cell_of_heap d];rfl
 have m:b.cell? ⟨w.heap.size+2,0,none⟩=some (.int .i64 0):=by rw[Lib.cell_of_heap a];rfl
 have n:b.cell? ⟨w.heap.size+2,1,none⟩=some (.slice none 0 0):=by rw[Lib.cell_of_heap a];rfl
 have o:b.cell? ⟨w.heap.size+2,2,none⟩=some (.slice none 0 0):=by rw[Lib.cell_of_heap a];rfl
 have D:b.frozen? ⟨w.heap.size+2,0,none⟩=false:=by simp[World.frozen?,a]
 have E:b.frozen? ⟨w.heap.size+2,1,none⟩=false:=by simp[World.frozen?,a]
 have F:b.frozen? ⟨w.heap.size+2,2,none⟩=false:=by simp[World.frozen?,a]
 clear c d a p q;unfold Ah;go_enter Tryz.func113,Tryz.ntmps113;go_wp2_with fail;exact bodyPost_ret (v:=.tuple #[Ah 2 (.slice sb n3 c3) (.slice kb n4 c4),.bool true]) (by simp[results,Tryz.results113,go_sem,m,n,o,Ah]) rfl ⟨rfl,Ad (Ad (Ad s 2 0 _) 2 1 _) 2 2 _⟩
theorem Qae (sa ka sb kb:Option Addr) (n1 c1 n2 c2 n3 c3 n4 c4:Nat) (w:World) :
  Calls Tryz.prog 113 #[Ah 1 (.slice sa n1 c1) (.slice ka n2 c2),Ah 2 (.slice sb n3 c3) (.slice kb n4 c4)] w fun e w'=>e = .returned (.tuple #[Ah 2 (.slice sb n3 c3) (.slice kb n4 c4),.bool true])/\Below w.heap.size w w':=by
 obtain⟨r,k⟩:∃ Y,w.alloc (.cells #[.int .i64 1,.slice sa n1 c1,.slice ka n2 c2] 126)=Y:=⟨_,rfl⟩;have p:Below w.heap.size w r:=by rw[<- k];exact Au w _
 have t:r.heap.size=w.heap.size+1:=by rw[<- k];exact World.size_alloc _ _
 have h:r.heap[w.heap.size]? = some (.cells #[.int .i64 1,.slice sa n1 c1,.slice ka n2 c2] 126):=by rw[<- k];exact Af w _
 obtain⟨l,g⟩:∃ Y,r.alloc (.cells #[.int .i64 2,.slice sb n3 c3,.slice kb n4 c4] 126)=Y:=⟨_,rfl⟩;have q:Below w.heap.size w l:=by rw[<- g];exact Ac p _
 have u:l.heap.size=w.heap.size+2:=by rw[<- g,World.size_alloc];omega
 have i:l.heap[w.heap.size]? = some (.cells #[.int .i64 1,.slice sa n1 c1,.slice ka n2 c2] 126):=by rw[<- g];exact Am _ h
 have j:l.heap[w.heap.size+1]? = some (.cells #[.int .i64 2,.slice sb n3 c3,.slice kb n4 c4] 126):=by rw[<- g,<- t];exact Af _ _
 clear h;obtain⟨b,f⟩:∃ Y,l.alloc (.cells #[.int .i64 0,.slice none 0 0,.slice none 0 0] 126)=Y:=⟨_,rfl⟩;have s:Below w.heap.size w b:=by rw[<- f];exact Ac q _
 have G:b.heap.size=w.heap.size+3:=by rw[<- f,World.size_alloc];omega
 have c:b.heap[w.heap.size]? = some (.cells #[.int .i64 1,.slice sa n1 c1,.slice ka n2 c2] 126):=by rw[<- f];exact Am _ i
 have d:b.heap[w.heap.size+1]? = some (.cells #[.int .i64 2,.slice sb n3 c3,.slice kb n4 c4] 126):=by rw[<- f];exact Am _ j
 have a:b.heap[w.heap.size+2]? = some (.cells #[.int .i64 0,.slice none 0 0,.slice none 0 0] 126):=by rw[<- f,<- u];exact Af _ _
 clear i j;have x:b.cell? ⟨w.heap.size,0,none⟩=some (.int .i64 1):=by rw[Lib.cell_of_heap c];rfl
 have y:b.cell? ⟨w.heap.size,1,none⟩=some (.slice sa n1 c1):=by rw[Lib.cell_of_heap c];rfl
 have z:b.cell? ⟨w.heap.size,2,none⟩=some (.slice ka n2 c2):=by rw[Lib.cell_of_heap c];rfl
 have A:b.cell? ⟨w.heap.size+1,0,none⟩=some (.int .i64 2):=by rw[Lib.cell_of_heap d];rfl
 have B:b.cell? ⟨w.heap.size+1,1,none⟩=some (.slice sb n3 c3):=by rw[Lib.cell_of_heap d];rfl
 have C:b.cell? ⟨w.heap.size+1,2,none⟩=some (.slice kb n4 c4):=by rw[Lib.cell_of_heap d];rfl
 have m:b.cell? ⟨w.heap.size+2,0,none⟩=some (.int .i64 0):=by rw[Lib.cell_of_heap a];rfl
 have n:b.cell? ⟨w.heap.size+2,1,none⟩=some (.slice none 0 0):=by rw[Lib.cell_of_heap a];rfl
 have o:b.cell? ⟨w.heap.size+2,2,none⟩=some (.slice none 0 0):=by rw[Lib.cell_of_heap a];rfl
 have D:b.frozen? ⟨w.heap.size+2,0,none⟩=false:=by simp[World.frozen?,a]
 have E:b.frozen? ⟨w.heap.size+2,1,none⟩=false:=by simp[World.frozen?,a]
 have F:b.frozen? ⟨w.heap.size+2,2,none⟩=false:=by simp[World.frozen?,a]
 clear c d a p q;unfold Ah;go_enter Tryz.func113,Tryz.ntmps113;go_wp2_with fail;exact bodyPost_ret (v:=.tuple #[Ah 2 (.slice sb n3 c3) (.slice kb n4 c4),.bool true]) (by simp[results,Tryz.results113,go_sem,m,n,o,Ah]) rfl ⟨rfl,Ad (Ad (Ad s 2 0 _) 2 1 _) 2 2 _⟩
def Qdf (s t:List Int) (kv:Value) (N:Nat) (Y:World) (tc ti:Value) (wr:World):Prop :=
 ∃ (i:Nat) (hv:Value),i<=s.length/\ti = .int .i64 (i:Int)/\tc = .bool (decide ((Bg s t).take i≠s.take i))/\wr.ownsRow (N+4) 3 1 hv i (As ((Bg s t).take i))/\wr.heap[N+3]? = some (.cells #[.int .i64 1,hv,kv] 126)/\Below (N+3) Y wr
theorem Nl {s t:List Int} {kv:Value} {N:Nat} {Y wr w3:World} {i:Nat} {hv v':Value} {o:Obj} {cf:Bool} {z:Int} (hB:Below (N+3) Y wr) (hout:wr.heap[N+3]? = some (.cells #[.int .i64 1,hv,kv] 126)) (hown:wr.ownsRow (N+4) 3 1 hv i (As ((Bg s t).take i))) (hgrow:(wr.alloc o).grownBy w3 hv.ownBlock) (hown':w3.ownsRow (N+4) 3 1 v' (i+1) (As ((Bg s t).take i++[z]))) (hz:(Bg s t).take (i+1)=(Bg s t).take i++[z]) (hi:i < s.length) (hc:cf=decide ((Bg s t).take (i+1)≠s.take (i+1))):Qdf s t kv N Y (.bool cf) (.int .i64 ((i:Int)+1)) (w3.setCell ⟨N+3,1,none⟩ v'):=by
 have c:N+3 < wr.heap.size:=(Array.getElem?_eq_some_iff.1 hout).1;have b:w3.heap[N+3]? = some (.cells #[.int .i64 1,hv,kv] 126):=G8 o hout rfl hgrow (Bt hown (by omega));refine⟨i+1,v',hi,rfl,by rw[hc], ?_, ?_, ?_⟩
 ·rw[hz];exact ownsRow_setCell_other (a:=⟨N+3,1,none⟩) hown' (Bt hown' (by show N+3 < _;omega)) _
 ·exact(heap_setCell_same w3 (N+3) 1 _ _ v' b).trans rfl
 ·exact(Cr (hB.alloc (by omega) o) hgrow (by simp;omega) (fun k hk=>Bt hown (by omega))).setCell (p:=⟨N+3,1,none⟩) (by show N+3<=N+3;omega) _
theorem Qaj (s t k l:List Int) (hl:s.length=t.length) (_hsl:s.length<=1048576) (hk:k.length<=1048576) (hk2:l.length<=1048576) (sa ka sb kb:Option Addr) (c1 c2 c3 c4:Nat) (w:World) (_hS:Ab w.heap.size w (.slice sa s.length c1) s) (_hT:Ab w.heap.size w (.slice sb t.length c3) t) (hK:Ab w.heap.size w (.slice ka k.length c2) k) (hL:Ab w.heap.size w (.slice kb l.length c4) l) (hne:k≠l) :
  Calls Tryz.prog 113 #[Ah 1 (.slice sa s.length c1) (.slice ka k.length c2),Ah 1 (.slice sb t.length c3) (.slice kb l.length c4)] w fun e w'=>e = .returned (.tuple #[Ah 2 (.slice none 0 0) (.slice none 0 0),.bool true])/\Below w.heap.size w w':=by
 have P:Hid (s.length=t.length):=hl;clear hl;obtain⟨z,m⟩:∃ Y,w.alloc (.cells #[.int .i64 1,.slice sa s.length c1,.slice ka k.length c2] 126)=Y:=⟨_,rfl⟩;have x:Below w.heap.size w z:=by rw[<- m];exact Au w _
 have C:z.heap.size=w.heap.size+1:=by rw[<- m];exact World.size_alloc _ _
 have h:z.heap[w.heap.size]? = some (.cells #[.int .i64 1,.slice sa s.length c1,.slice ka k.length c2] 126):=by rw[<- m];exact Af w _
 obtain⟨o,g⟩:∃ Y,z.alloc (.cells #[.int .i64 1,.slice sb t.length c3,.slice kb l.length c4] 126)=Y:=⟨_,rfl⟩;have y:Below w.heap.size w o:=by rw[<- g];exact Ac x _
 have D:o.heap.size=w.heap.size+2:=by rw[<- g,World.size_alloc];omega
 have i:o.heap[w.heap.size]? = some (.cells #[.int .i64 1,.slice sa s.length c1,.slice ka k.length c2] 126):=by rw[<- g];exact Am _ h
 have j:o.heap[w.heap.size+1]? = some (.cells #[.int .i64 1,.slice sb t.length c3,.slice kb l.length c4] 126):=by rw[<- g,<- C];exact Af _ _
 clear h;obtain⟨b,f⟩:∃ Y,o.alloc (.cells #[.int .i64 0,.slice none 0 0,.slice none 0 0] 126)=Y:=⟨_,rfl⟩;have n:Below w.heap.size w b:=by rw[<- f];exact Ac y _
 have O:b.heap.size=w.heap.size+3:=by rw[<- f,World.size_alloc];omega
 have c:b.heap[w.heap.size]? = some (.cells #[.int .i64 1,.slice sa s.length c1,.slice ka k.length c2] 126):=by rw[<- f];exact Am _ i
 have d:b.heap[w.heap.size+1]? = some (.cells #[.int .i64 1,.slice sb t.length c3,.slice kb l.length c4] 126):=by rw[<- f];exact Am _ j
 have a:b.heap[w.heap.size+2]? = some (.cells #[.int .i64 0,.slice none 0 0,.slice none 0 0] 126):=by rw[<- f,<- D];exact Af _ _
 clear i j;have E:b.cell? ⟨w.heap.size,0,none⟩=some (.int .i64 1):=by rw[Lib.cell_of_heap c];rfl
 have F:b.cell? ⟨w.heap.size,1,none⟩=some (.slice sa s.length c1):=by rw[Lib.cell_of_heap c];rfl
 have G:b.cell? ⟨w.heap.size,2,none⟩=some (.slice ka k.length c2):=by rw[Lib.cell_of_heap c];rfl
 have H:b.cell? ⟨w.heap.size+1,0,none⟩=some (.int .i64 1):=by rw[Lib.cell_of_heap d];rfl
 have I:b.cell? ⟨w.heap.size+1,1,none⟩=some (.slice sb t.length c3):=by rw[Lib.cell_of_heap d];rfl
 have J:b.cell? ⟨w.heap.size+1,2,none⟩=some (.slice kb l.length c4):=by rw[Lib.cell_of_heap d];rfl
 have p:b.cell? ⟨w.heap.size+2,0,none⟩=some (.int .i64 0):=by rw[Lib.cell_of_heap a];rfl
 have r:b.cell? ⟨w.heap.size+2,1,none⟩=some (.slice none 0 0):=by rw[Lib.cell_of_heap a];rfl
 have u:b.cell? ⟨w.heap.size+2,2,none⟩=some (.slice none 0 0):=by rw[Lib.cell_of_heap a];rfl
 have K:b.frozen? ⟨w.heap.size+2,0,none⟩=false:=by simp[World.frozen?,a]
 have L:b.frozen? ⟨w.heap.size+2,1,none⟩=false:=by simp[World.frozen?,a]
 have M:b.frozen? ⟨w.heap.size+2,2,none⟩=false:=by simp[World.frozen?,a]
 clear x y;clear c d a;have A:Hid (Ab w.heap.size b (.slice ka k.length c2) k):=hK.below n;have B:Hid (Ab w.heap.size b (.slice kb l.length c4) l):=hL.below n;have N:Hid (decide (k=l)=false):=by rw[Hid];simp[hne]
 clear _hS _hT hK hL hne;unfold Ah;go_enter Tryz.func113,Tryz.ntmps113;go_wp2_with (first|(go_at_call 139;refine(P4 w.heap.size _ _ k l hk hk2 _ A.out B.out).mono ?_;rintro e w' ⟨rfl,q,rfl⟩;rw[N.out]));exact bodyPost_ret (v:=.tuple #[Ah 2 (.slice none 0 0) (.slice none 0 0),.bool true]) (by simp[results,Tryz.results113,go_sem,p,r,u,Ah]) rfl ⟨rfl,Ad (Ad (Ad (B5 _ n) 2 0 _) 2 1 _) 2 2 _⟩
theorem Qai (s t k l:List Int) (hl:s.length=t.length) (hsl:s.length<=1048576) (hk:k.length<=1048576) (hk2:l.length<=1048576) (sa ka sb kb:Option Addr) (c1 c2 c3 c4:Nat) (w:World) (hS:Ab w.heap.size w (.slice sa s.length c1) s) (hT:Ab w.heap.size w (.slice sb t.length c3) t) (hK:Ab w.heap.size w (.slice ka k.length c2) k) (hL:Ab w.heap.size w (.slice kb l.length c4) l) (he:k=l) :
  Calls Tryz.prog 113 #[Ah 1 (.slice sa s.length c1) (.slice ka k.length c2),Ah 1 (.slice sb t.length c3) (.slice kb l.length c4)] w fun e w' => ∃ N,e = .returned (.tuple #[Ah 1 N (.slice ka k.length c2),.bool (decide (Bg s t≠s))])/\Ab w'.heap.size w' N (Bg s t)/\De w'.heap.size w' N/\Below w.heap.size w w':=by
 have Hl:Hid (s.length=t.length):=hl;clear hl;obtain⟨Y1,M⟩:∃ Y,w.alloc (.cells #[.int .i64 1,.slice sa s.length c1,.slice ka k.length c2] 126)=Y:=⟨_,rfl⟩;have aw:Below w.heap.size w Y1:=by rw[<- M];exact Au w _
 have az:Y1.heap.size=w.heap.size+1:=by rw[<- M];exact World.size_alloc _ _
 have Q:Y1.heap[w.heap.size]? = some (.cells #[.int .i64 1,.slice sa s.length c1,.slice ka k.length c2] 126):=by rw[<- M];exact Af w _
 obtain⟨Y2,E⟩:∃ Y,Y1.alloc (.cells #[.int .i64 1,.slice sb t.length c3,.slice kb l.length c4] 126)=Y:=⟨_,rfl⟩;have ax:Below w.heap.size w Y2:=by rw[<- E];exact Ac aw _
 have a1:Y2.heap.size=w.heap.size+2:=by rw[<- E,World.size_alloc];omega
 have R:Y2.heap[w.heap.size]? = some (.cells #[.int .i64 1,.slice sa s.length c1,.slice ka k.length c2] 126):=by rw[<- E];exact Am _ Q
 have S:Y2.heap[w.heap.size+1]? = some (.cells #[.int .i64 1,.slice sb t.length c3,.slice kb l.length c4] 126):=by rw[<- E,<- az];exact Af _ _
 clear Q;obtain⟨n,C⟩:∃ Y,Y2.alloc (.cells #[.int .i64 0,.slice none 0 0,.slice none 0 0] 126)=Y:=⟨_,rfl⟩;have F:Below w.heap.size w n:=by rw[<- C];exact Ac ax _
 have a2:n.heap.size=w.heap.size+3:=by rw[<- C,World.size_alloc];omega
 have u:n.heap[w.heap.size]? = some (.cells #[.int .i64 1,.slice sa s.length c1,.slice ka k.length c2] 126):=by rw[<- C];exact Am _ R
 have z:n.heap[w.heap.size+1]? = some (.cells #[.int .i64 1,.slice sb t.length c3,.slice kb l.length c4] 126):=by rw[<- C];exact Am _ S
 have r:n.heap[w.heap.size+2]? = some (.cells #[.int .i64 0,.slice none 0 0,.slice none 0 0] 126):=by rw[<- C,<- a1];exact Af _ _
 clear R S;have ag:n.cell? ⟨w.heap.size,0,none⟩=some (.int .i64 1):=by rw[Lib.cell_of_heap u];rfl
 have ah:n.cell? ⟨w.heap.size,1,none⟩=some (.slice sa s.length c1):=by rw[Lib.cell_of_heap u];rfl
 have ai:n.cell? ⟨w.heap.size,2,none⟩=some (.slice ka k.length c2):=by rw[Lib.cell_of_heap u];rfl
 have aj:n.cell? ⟨w.heap.size+1,0,none⟩=some (.int .i64 1):=by rw[Lib.cell_of_heap z];rfl
 have ak:n.cell? ⟨w.heap.size+1,1,none⟩=some (.slice sb t.length c3):=by rw[Lib.cell_of_heap z];rfl
 have al:n.cell? ⟨w.heap.size+1,2,none⟩=some (.slice kb l.length c4):=by rw[Lib.cell_of_heap z];rfl
 have am:n.cell? ⟨w.heap.size+2,0,none⟩=some (.int .i64 0):=by rw[Lib.cell_of_heap r];rfl
 have an:n.cell? ⟨w.heap.size+2,1,none⟩=some (.slice none 0 0):=by rw[Lib.cell_of_heap r];rfl
 have ao:n.cell? ⟨w.heap.size+2,2,none⟩=some (.slice none 0 0):=by rw[Lib.cell_of_heap r];rfl
 have aq:n.frozen? ⟨w.heap.size+2,0,none⟩=false:=by simp[World.frozen?,r]
 have ar:n.frozen? ⟨w.heap.size+2,1,none⟩=false:=by simp[World.frozen?,r]
 have au:n.frozen? ⟨w.heap.size+2,2,none⟩=false:=by simp[World.frozen?,r]
 clear aw ax;have ac:Hid (Ab w.heap.size n (.slice ka k.length c2) k):=hK.below F;have ad:Hid (Ab w.heap.size n (.slice kb l.length c4) l):=hL.below F;have HD:Hid (decide (k=l)=true):=by rw[Hid];simp[he]
 have ae:Hid (Ab w.heap.size w (.slice sa s.length c1) s):=hS;have af:Hid (Ab w.heap.size w (.slice sb t.length c3) t):=hT;clear hS hT hK hL he;unfold Ah;go_enter Tryz.func113,Tryz.ntmps113;go_wp2_with (first|(go_at_call 139;refine(P4 w.heap.size _ _ k l hk hk2 _ ac.out ad.out).mono ?_;rintro e w' ⟨rfl,q,rfl⟩;rw[HD.out]));have a7:Hid (Ab w.heap.size n (.slice sa s.length c1) s):=ae.out.below F;have a8:Hid (Ab w.heap.size n (.slice sb t.length c3) t):=af.out.below F;have HP:Hid (n.heap[w.heap.size]? = some (.cells #[.int .i64 1,.slice sa s.length c1,.slice ka k.length c2] 126)/\n.heap[w.heap.size+1]? = some (.cells #[.int .i64 1,.slice sb t.length c3,.slice kb l.length c4] 126)/\n.heap[w.heap.size+2]? = some (.cells #[.int .i64 0,.slice none 0 0,.slice none 0 0] 126)):=⟨u,z,r⟩;clear u z r ag ah ai aj ak al am an ao aq ar au ae af ac ad HD hk hk2 M E C az a1;go_loopw [7,8] (fun tc ti wr=>Qdf s t (.slice ka k.length c2) w.heap.size n tc ti wr) (fun _ ti _=>s.length - (intOf ti).toNat);case atStart =>
  exact⟨0,.slice none 0 0,by omega,rfl,by simp,World.ownsRow_nil _ _ _ _,by rw[<- a2];exact Af _ _,(B5 _ (Below.refl _ n)).alloc (Nat.le_of_eq a2.symm) _⟩
 case round =>
  obtain⟨i,N,hi,rfl,rfl,H,G,D⟩:=hrel;have HB:Hid (Below (w.heap.size+3) n wr):=D;have d:Hid (wr.heap[w.heap.size+3]? = some (.cells #[.int .i64 1,N,.slice ka k.length c2] 126)):=G;have a:Hid (wr.ownsRow (w.heap.size+4) 3 1 N i (As ((Bg s t).take i))):=H;have q0:wr.heap[w.heap.size]? = some (.cells #[.int .i64 1,.slice sa s.length c1,.slice ka k.length c2] 126):=(D.block _ (by omega)).trans HP.out.1;have q1:wr.heap[w.heap.size+1]? = some (.cells #[.int .i64 1,.slice sb t.length c3,.slice kb l.length c4] 126):=(D.block _ (by omega)).trans HP.out.2.1;have T:wr.heap[w.heap.size+2]? = some (.cells #[.int .i64 0,.slice none 0 0,.slice none 0 0] 126):=(D.block _ (by omega)).trans HP.out.2.2;have bi:wr.cell? ⟨w.heap.size,1,none⟩=some (.slice sa s.length c1):=by rw[Lib.cell_of_heap q0];rfl
  have ba:wr.cell? ⟨w.heap.size+1,1,none⟩=some (.slice sb t.length c3):=by rw[Lib.cell_of_heap q1];rfl
  by_cases hlt:i < s.length
  ·have P:i < t.length:=(by rw[<- Hl.out];exact hlt);obtain⟨ga,oa,rfl,da⟩:∃ g o,sa=some ⟨g,o,none⟩/\wr.cell? ⟨g,o+i,none⟩=some (.int .i64 s[i]):=by
    obtain⟨a',cp,he,hc⟩:=a7.out;injection he with e1;subst e1;obtain⟨g,o,ha,hg,A⟩:=hc i hlt;exact⟨g,o,ha,(HB.out.cell (p:=⟨g,o+i,none⟩) (by show g < _;omega)).trans A⟩
   obtain⟨gb,ob,rfl,db⟩:∃ g o,sb=some ⟨g,o,none⟩/\wr.cell? ⟨g,o+i,none⟩=some (.int .i64 t[i]):=by
    obtain⟨a',cp,he,hc⟩:=a8.out;injection he with e1;subst e1;obtain⟨g,o,ha,hg,A⟩:=hc i P;exact⟨g,o,ha,(HB.out.cell (p:=⟨g,o+i,none⟩) (by show g < _;omega)).trans A⟩
   have J:Hid ((Bg s t).take (i+1)=(Bg s t).take i++[if s[i]=t[i] then s[i] else 0]):=by
    have h1:i < (Bg s t).length:=(by rw[Fy Hl.out];exact hlt);rw[Hid,List.take_succ_eq_append_getElem h1,J5 hlt P]
   have K:Hid (s.take (i+1)=s.take i++[s[i]]):=List.take_succ_eq_append_getElem hlt;obtain⟨x,hx⟩:∃ x,s[i]=x:=⟨_,rfl⟩;obtain⟨y,hy⟩:∃ y,t[i]=y:=⟨_,rfl⟩;rw[hx]at da J K;rw[hy]at db J;clear hx hy H G D q0 q1 T;have bf:(i:Int) < (s.length:Int):=(by omega);have bg:(i:Int) < (t.length:Int):=(by omega);obtain⟨cf,B⟩:∃ b,Hid (decide ((Bg s t).take i≠s.take i)=b):=⟨_,rfl⟩;rw[B.out];obtain⟨L,j,rfl⟩:=C9 a.out;have o1:wr.cell? ⟨w.heap.size+3,1,none⟩=some (.slice L i j):=(by rw[Lib.cell_of_heap d.out];rfl);have bo:∀ o:Obj,(wr.alloc o).cell? ⟨w.heap.size+3,1,none⟩=some (.slice L i j):=fun o=>by rw[Lib.cell_of_heap (Am o d.out)];rfl
   have be:w.heap.size+3 < wr.heap.size:=(Array.getElem?_eq_some_iff.1 d.out).1;obtain⟨i0,W,X,Z,aa⟩:=I0;by_cases hxy:x=y
   ·subst hxy;have V:Hid ((Bg s t).take (i+1)=(Bg s t).take i++[x]):=(by rw[Hid,J.out,if_pos rfl]);have HC:Hid (cf=decide ((Bg s t).take (i+1)≠s.take (i+1))):=by
     rw[Hid,V.out,K.out,<- B.out];simp
    go_wp2_with (first|(at_builtin;refine Bn rfl _ _ 124 rfl (w.heap.size+4) 3 i0 (.int .i64 0) Tryz.underlying124 W X Z aa rfl _ i ((Bg s t).take i) rfl (a.out.alloc _) (wr.heap.size+1) _ rfl [x] (Ab.new wr [x] 3 1) (by simp only[List.length_cons,List.length_nil];omega) (by simp;omega) ?_;intro v' U h c;obtain⟨a3,O,I⟩:=C9 h;subst I;have f:=G8 _ d.out rfl c (Bt a.out (by omega));have ap:U.cell? ⟨w.heap.size+3,1,none⟩=some (.slice L i j):=(by rw[Lib.cell_of_heap f];rfl);have av:U.frozen? ⟨w.heap.size+3,1,none⟩=false:=(by simp[World.frozen?,f])));go_roundw;case rel=>exact Nl HB.out d.out a.out c h V.out hlt HC.out
    case measure=>simp[intOf];omega
   ·have bn:(x != y)=true:=(by simp[hxy]);have V:Hid ((Bg s t).take (i+1)=(Bg s t).take i++[0]):=(by rw[Hid,J.out,if_neg hxy]);clear hxy;by_cases hx0:x=0
    ·subst hx0;have HC:Hid (cf=decide ((Bg s t).take (i+1)≠s.take (i+1))):=by
      rw[Hid,V.out,K.out,<- B.out];simp
     go_wp2_with (first|(at_builtin;refine Bn rfl _ _ 124 rfl (w.heap.size+4) 3 i0 (.int .i64 0) Tryz.underlying124 W X Z aa rfl _ i ((Bg s t).take i) rfl (a.out.alloc _) (wr.heap.size+1) _ rfl [0] (Ab.new wr [0] 3 1) (by simp only[List.length_cons,List.length_nil];omega) (by simp;omega) ?_;intro v' U h c;obtain⟨a3,O,I⟩:=C9 h;subst I;have f:=G8 _ d.out rfl c (Bt a.out (by omega));have ap:U.cell? ⟨w.heap.size+3,1,none⟩=some (.slice L i j):=(by rw[Lib.cell_of_heap f];rfl);have av:U.frozen? ⟨w.heap.size+3,1,none⟩=false:=(by simp[World.frozen?,f])));go_roundw;case rel=>exact Nl HB.out d.out a.out c h V.out hlt HC.out
     case measure=>simp[intOf];omega
    ·have bh:(x != 0)=true:=(by simp[hx0]);have HC:Hid (true=decide ((Bg s t).take (i+1)≠s.take (i+1))):=by
      have h2:¬ (Bg s t).take (i+1)=s.take (i+1):=fun e=>by
       rw[V.out,K.out]at e;have e2:=(List.append_inj' e rfl).2;simp at e2;exact hx0 e2.symm
      rw[Hid];simp[h2]
     clear hx0;go_wp2_with (first|(at_builtin;refine Bn rfl _ _ 124 rfl (w.heap.size+4) 3 i0 (.int .i64 0) Tryz.underlying124 W X Z aa rfl _ i ((Bg s t).take i) rfl (a.out.alloc _) (wr.heap.size+1) _ rfl [0] (Ab.new wr [0] 3 1) (by simp only[List.length_cons,List.length_nil];omega) (by simp;omega) ?_;intro v' U h c;obtain⟨a3,O,I⟩:=C9 h;subst I;have f:=G8 _ d.out rfl c (Bt a.out (by omega));have ap:U.cell? ⟨w.heap.size+3,1,none⟩=some (.slice L i j):=(by rw[Lib.cell_of_heap f];rfl);have av:U.frozen? ⟨w.heap.size+3,1,none⟩=false:=(by simp[World.frozen?,f])));go_roundw;case rel=>exact Nl HB.out d.out a.out c h V.out hlt HC.out
     case measure=>simp[intOf];omega
  ·have ay:i=s.length:=(by omega);have HE:Hid (i=s.length):=ay;have ab:Hid ((Bg s t).take i=Bg s t):=by
    rw[Hid,HE.out,<- Fy Hl.out];exact List.take_length
   have a5:Hid (decide ((Bg s t).take i≠s.take i)=decide (Bg s t≠s)):=by
    have h2:s.take i=s:=(by rw[HE.out];exact List.take_length);rw[Hid,ab.out,h2]
   have a6:Hid (∀ B',wr.heap.size<=B'->Ab B' wr N (Bg s t)):=fun B' hB'=>by
    have h0:i=(Bg s t).length:=(by rw[HE.out,Fy Hl.out]);have h1:=a.out;rw[ab.out,h0]at h1;exact Ab.own h1 hB'
   have a9:Hid (De wr.heap.size wr N):=De.own a.out (Nat.le_refl _);have m:Hid (N.ownBlock≠some (w.heap.size+2)):=Bt a.out (by omega);rw[a5.out];obtain⟨cf,B⟩:∃ b,Hid (decide (Bg s t≠s)=b):=⟨_,rfl⟩;rw[B.out];obtain⟨L,j,rfl⟩:=C9 a.out;have o0:wr.cell? ⟨w.heap.size+3,0,none⟩=some (.int .i64 1):=(by rw[Lib.cell_of_heap d.out];rfl);have o1:wr.cell? ⟨w.heap.size+3,1,none⟩=some (.slice L i j):=(by rw[Lib.cell_of_heap d.out];rfl);have o2:wr.cell? ⟨w.heap.size+3,2,none⟩=some (.slice ka k.length c2):=(by rw[Lib.cell_of_heap d.out];rfl);have bb:wr.cell? ⟨w.heap.size+2,0,none⟩=some (.int .i64 0):=(by rw[Lib.cell_of_heap T];rfl);have bc:wr.cell? ⟨w.heap.size+2,1,none⟩=some (.slice none 0 0):=(by rw[Lib.cell_of_heap T];rfl);have bd:wr.cell? ⟨w.heap.size+2,2,none⟩=some (.slice none 0 0):=(by rw[Lib.cell_of_heap T];rfl);have bj:wr.frozen? ⟨w.heap.size+2,0,none⟩=false:=(by simp[World.frozen?,T]);have bk:wr.frozen? ⟨w.heap.size+2,1,none⟩=false:=(by simp[World.frozen?,T]);have bl:wr.frozen? ⟨w.heap.size+2,2,none⟩=false:=(by simp[World.frozen?,T]);have bm:¬ (i:Int) < (s.length:Int):=(by omega);have a4:Hid (Below w.heap.size w wr):=F.trans (HB.out.mono (by omega));clear ay hlt H G D q0 q1 T ba;go_wp2_with fail;refine bodyPost_ret (v:=.tuple #[Ah 1 (.slice L i j) (.slice ka k.length c2),.bool cf]) (by simp[results,Tryz.results113,go_sem,bb,bc,bd,Ah]) rfl ⟨.slice L i j,by rw[<- B.out];simp[Ah], ?_,De.keep a9.out (fun k hk=>by rw[Below.heap_setCell _ _ _ _ (by intro e;subst e;exact m.out hk),Below.heap_setCell _ _ _ _ (by intro e;subst e;exact m.out hk),Below.heap_setCell _ _ _ _ (by intro e;subst e;exact m.out hk)]) (by simp),Ad (Ad (Ad a4.out 2 0 _) 2 1 _) 2 2 _⟩;exact Ab.keep (a6.out _ (Nat.le_refl _)) (fun k hk=>by rw[Below.heap_setCell _ _ _ _ (by intro e;subst e;exact m.out hk),Below.heap_setCell _ _ _ _ (by intro e;subst e;exact m.out hk),Below.heap_setCell _ _ _ _ (by intro e;subst e;exact m.out hk)]) (by simp)
theorem M6 (_c:List Ae) (f:Ae) (at':Nat) (hat:at' < f.ins.length) (_hil:f.ins.length<=50000) (cv pv sv kv:Value) (ia:Option Addr) (ic:Nat) (st:Int) (hst:st≠1) (w:World) (hI:Bb w.heap.size w (.slice ia f.ins.length ic) f.ins) :
  Calls Tryz.prog 85 #[.agg #[cv],Ax f pv (.slice ia f.ins.length ic),.int .i64 (at':Int),Ah st sv kv] w fun e w'=>(∃ v,e = .returned v/\Ba w'.heap.size w' v .clash)/\Below w.heap.size w w':=by
 obtain⟨d,rfl,l,a⟩:∃ d,ia=some ⟨d,0,none⟩/\d < w.heap.size/\∀ j,j < 4->w.cell? ⟨d,at' * 4+j,none⟩=(Gl f.ins[at'])[j]?:=by
  obtain⟨a',cp,P,hc⟩:=hI;injection P with e1;subst e1;exact hc at' hat
 obtain⟨C,q⟩:∃ Y,w.alloc (.cells #[cv] 59)=Y:=⟨_,rfl⟩;have r:Below w.heap.size w C:=by rw[<- q];exact Au w _
 have L:C.heap.size=w.heap.size+1:=by rw[<- q];exact World.size_alloc _ _
 obtain⟨o,n⟩:∃ Y,C.alloc (.cells #[.string f.name,pv,.int .i64 f.result,.int .i64 f.slots,.slice (some ⟨d,0,none⟩) f.ins.length ic] 130)=Y:=⟨_,rfl⟩;have s:Below w.heap.size w o:=by rw[<- n];exact Ac r _
 have M:o.heap.size=w.heap.size+2:=by rw[<- n,World.size_alloc];omega
 have Z:o.cell? ⟨w.heap.size+1,4,none⟩=some (.slice (some ⟨d,0,none⟩) f.ins.length ic):=by rw[<- n];exact Bm C _ _ 4 _ L
 obtain⟨g,i⟩:∃ Y,o.alloc (.cells #[.int .i64 st,sv,kv] 126)=Y:=⟨_,rfl⟩;have t:Below w.heap.size w g:=by rw[<- i];exact Ac s _
 have N:g.heap.size=w.heap.size+3:=by rw[<- i,World.size_alloc];omega
 have z4:g.cell? ⟨w.heap.size+1,4,none⟩=some (.slice (some ⟨d,0,none⟩) f.ins.length ic):=by rw[<- i];exact((Au o _).cell (p:=⟨w.heap.size+1,4,none⟩) (by show w.heap.size+1 < _;omega)).trans Z
 have z:g.cell? ⟨w.heap.size+2,0,none⟩=some (.int .i64 st):=by rw[<- i];exact Bm o _ _ 0 _ M
 obtain⟨g,U,b,W,am,B,r0,r1,r2⟩:∃ Y,g.alloc (.cells #[.int .i64 0,.slice none 0 0,.slice none 0 0] 126)=Y/\Below w.heap.size w Y/\Y.heap.size=w.heap.size+4/\Y.cell? ⟨w.heap.size+1,4,none⟩=some (.slice (some ⟨d,0,none⟩) f.ins.length ic)/\Y.cell? ⟨w.heap.size+2,0,none⟩=some (.int .i64 st)/\Y.heap[w.heap.size+3]? = some (.cells #[.int .i64 0,.slice none 0 0,.slice none 0 0] 126)/\True/\True :=
  ⟨_,rfl,Ac t _,by rw[World.size_alloc];omega,((Au g _).cell (p:=⟨w.heap.size+1,4,none⟩) (by show w.heap.size+1 < _;omega)).trans z4,((Au g _).cell (p:=⟨w.heap.size+2,0,none⟩) (by show w.heap.size+2 < _;omega)).trans z,by rw[<- N];exact Af g _,trivial,trivial⟩
 clear r1 r2 z4 z;rename_i Y3o
 obtain⟨x,X⟩:∃ x,f.ins[at']=x:=⟨_,rfl⟩;rw[X]at a;have Q:=a 0 (by omega);have R:=a 1 (by omega);have S:=a 2 (by omega);have T:=a 3 (by omega);simp only[Gl,Nat.add_zero,List.getElem?_cons_zero,List.getElem?_cons_succ]at Q R S T;have j0:=(b.cell (p:=⟨d,at' * 4,none⟩) l).trans Q;have j1:=(b.cell (p:=⟨d,at' * 4+1,none⟩) l).trans R;have j2:=(b.cell (p:=⟨d,at' * 4+2,none⟩) l).trans S;have j3:=(b.cell (p:=⟨d,at' * 4+3,none⟩) l).trans T;obtain⟨m,k⟩:∃ Y,g.alloc (.cells #[.int .i64 x.op,.int .i64 x.a,.int .i64 x.n,.string x.text] 107)=Y:=⟨_,rfl⟩;have u:Below w.heap.size w m:=by rw[<- k];exact Ac b _
 have O:m.heap.size=w.heap.size+5:=by rw[<- k,World.size_alloc];omega
 have A:m.cell? ⟨w.heap.size+2,0,none⟩=some (.int .i64 st):=by rw[<- k];exact((Au g _).cell (p:=⟨w.heap.size+2,0,none⟩) (by show w.heap.size+2 < _;omega)).trans B
 have y:m.heap[w.heap.size+3]? = some (.cells #[.int .i64 0,.slice none 0 0,.slice none 0 0] 126):=by rw[<- k,Below.heap_alloc _ _ _ (by omega)];exact r0
 obtain⟨c,h⟩:∃ Y,m.alloc (.cells #[.int .i64 0,.slice none 0 0,.slice none 0 0] 126)=Y:=⟨_,rfl⟩;have K:Below w.heap.size w c:=by rw[<- h];exact Ac u _
 have ak:c.heap.size=w.heap.size+6:=by rw[<- h,World.size_alloc];omega
 have al:c.cell? ⟨w.heap.size+2,0,none⟩=some (.int .i64 st):=by rw[<- h];exact((Au m _).cell (p:=⟨w.heap.size+2,0,none⟩) (by show w.heap.size+2 < _;omega)).trans A
 have G:c.heap[w.heap.size+3]? = some (.cells #[.int .i64 0,.slice none 0 0,.slice none 0 0] 126):=by rw[<- h,Below.heap_alloc _ _ _ (by omega)];exact y
 have F:c.heap[w.heap.size+5]? = some (.cells #[.int .i64 0,.slice none 0 0,.slice none 0 0] 126):=by rw[<- h,<- O];exact Af m _
 have aa:c.cell? ⟨w.heap.size+5,0,none⟩=some (.int .i64 0):=by rw[Lib.cell_of_heap F];rfl
 have ab:c.cell? ⟨w.heap.size+5,1,none⟩=some (.slice none 0 0):=by rw[Lib.cell_of_heap F];rfl
 have ac:c.cell? ⟨w.heap.size+5,2,none⟩=some (.slice none 0 0):=by rw[Lib.cell_of_heap F];rfl
 have E:∀ j,c.frozen? ⟨w.heap.size+5,j,none⟩=false:=fun j=>by simp[World.frozen?,F]
 have ag:=E 0;have ah:=E 1;have ai:=E 2;have H:c.cell? ⟨w.heap.size+3,0,none⟩=some (.int .i64 0):=by rw[Lib.cell_of_heap G];rfl
 have I:c.cell? ⟨w.heap.size+3,1,none⟩=some (.slice none 0 0):=by rw[Lib.cell_of_heap G];rfl
 have J:c.cell? ⟨w.heap.size+3,2,none⟩=some (.slice none 0 0):=by rw[Lib.cell_of_heap G];rfl
 have D:∀ j,c.frozen? ⟨w.heap.size+3,j,none⟩=false:=fun j=>by simp[World.frozen?,G]
 have ad:=D 0;have ae:=D 1;have af:=D 2;clear D r s t b u y r0 E Q R S T a X Z;have aj:(st != 1)=true:=by simp[hst]
 have V:(at':Int) < (f.ins.length:Int):=by omega
 clear hst;unfold Ax Ah;go_enter Tryz.func85,Tryz.ntmps85;go_wp2_with fail;exact bodyPost_ret (v:=Ah 2 (.slice none 0 0) (.slice none 0 0)) (by simp[results,Tryz.results85,go_sem,H,I,J,Ah]) rfl ⟨⟨_,rfl,rfl⟩,Ad (Ad (Ad (Ad (Ad (Ad K 5 0 _) 5 1 _) 5 2 _) 3 0 _) 3 1 _) 3 2 _⟩
end Go.Proofs.YtahibkjkpmdhgaaGreatDoor
