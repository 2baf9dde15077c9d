import Derived.Test.YtahibkjkpmdhgaaGreatDoorKTk
import Derived.Test.YtahibkjkpmdhgaaGreatDoorKCdM
import Derived.Maps.AppendAt
set_option maxRecDepth 100000
set_option maxHeartbeats 1000000
namespace Go.Proofs.YtahibkjkpmdhgaaGreatDoor
open Go.RowKit
theorem Qbl {c:List Af} {f:Af} {i:Az} (h:Aq c f i=true):1<=i.op/\i.op<=16:=by
 by_cases hc:As i.op 1 16=true
 ·exact Gf hc
 ·unfold Aq at h;rw[if_pos (.inl (by simpa using hc))]at h;simp at h
theorem I5 {c:List Af} {f:Af} {i:Az} (h:Aq c f i=true) (h1:i.op≠1):i.n=0/\i.text.toList.isEmpty=true:=by
 constructor
 ·refine Classical.byContradiction (fun hn => ?_);rw[Ha c f i h1 (.inl hn)]at h;simp at h
 ·cases hx:i.text.toList.isEmpty with
  | true=>rfl
  | false =>
   rw[Ha c f i h1 (.inr hx)]at h;simp at h
theorem Qf8 (n:Nat):n=0\/n=1\/∃ m,n=m+2:=by
 cases n with
 | zero=>exact .inl rfl
 | succ n=>cases n with
  | zero=>exact .inr (.inl rfl)
  | succ m=>exact .inr (.inr ⟨m,rfl⟩)
theorem P7 (c:List Af) (f:Af) (i:Az) (s k:List Int) (ca ia sa ka:Option Addr) (cc ic sc kc:Nat) (pv:Value) (_hcl:c.length<=60) (_hil:f.ins.length<=50000) (_hsl:s.length<=200) (hk600:k.length<=600) (hkc:k.length<=kc) (hka:ka=none\/∃ g,ka=some (OI g 0)) (hsf:(s.length:Int)=f.slots) (hpl:∀ g ∈ c,g.params.length<=8) (hok:Aq c f i=true) (w:World) (hC:Al w.heap.size w (.slice ca c.length cc) c) (hS:Ac w.heap.size w (.slice sa s.length sc) s) (hK:Ac w.heap.size w (.slice ka k.length kc) k) :
  Calls Tryz.prog 114 #[.agg #[.slice ca c.length cc],Bp f pv (.slice ia f.ins.length ic),Aw i,Ah 1 (.slice sa s.length sc) (.slice ka k.length kc)] w (Au c f i s k w):=by
 have r:=Qbl hok;have b:i.op≠1->i.n=0/\i.text.toList.isEmpty=true:=fun h=>I5 hok h
 obtain⟨o,a,n,p⟩:=i;simp only at r b;have q:o=1\/o=2\/o=3\/o=4\/o=5\/o=6\/o=7\/o=8\/o=9\/o=10\/o=11\/o=12\/o=13\/o=14\/o=15\/o=16:=Ou
 have d:=Qf8 k.length;rcases q with rfl|rfl|rfl|rfl|rfl|rfl|rfl|rfl|rfl|rfl|rfl|rfl|rfl|rfl|rfl|rfl
 ·skip;rcases d with h|h|⟨m,h⟩
  ·exact Qay hk600 hS hK h
  ·exact Qaz hk600 hS hK h
  ·exact Qa0 hk600 hS hK h
 ·skip;obtain⟨rfl,l⟩:=b Ov;rw[Zf c f a p l]at hok;have j:=Gf hok;rcases d with h|h|⟨m,h⟩
  ·exact Qa1 hk600 hS hK h j.1 Ou
  ·exact Qa2 hk600 hS hK h j.1 Ou
  ·exact Qa3 hk600 hS hK h j.1 Ou
 ·skip;obtain⟨rfl,l⟩:=b Ov;rcases d with h|h|⟨m,h⟩
  ·exact G7 hk600 hS hK 3 Ou h
  ·exact Hq hk600 hS hK 3 Ou h
  ·exact Hr hk600 hS hK 3 Ou h
 ·skip;obtain⟨rfl,l⟩:=b Ov;rcases d with h|h|⟨m,h⟩
  ·exact G7 hk600 hS hK 4 Ou h
  ·exact Hq hk600 hS hK 4 Ou h
  ·exact Hr hk600 hS hK 4 Ou h
 ·skip;obtain⟨rfl,l⟩:=b Ov;rcases d with h|h|⟨m,h⟩
  ·exact Qa4 hk600 hS hK h
  ·exact Qa5 hk600 hS hK h
  ·exact Qa6 hk600 hS hK h
 ·skip;obtain⟨rfl,l⟩:=b Ov;rcases d with h|h|⟨m,h⟩
  ·exact Qa7 hk600 hS hK h
  ·exact Qa8 hk600 hS hK h
  ·exact Qa9 hk600 hS hK h
 ·skip;obtain⟨rfl,l⟩:=b Ov;rcases d with h|h|⟨m,h⟩
  ·exact Qba hk600 hS hK h
  ·exact Qbb hk600 hS hK h
  ·exact Qbc hk600 hS hK h
 ·skip;obtain⟨rfl,l⟩:=b Ov;rw[Zg c f a p l]at hok;have j:=Gf hok;rcases d with h|h|⟨m,h⟩
  ·by_cases hf:k.length < (Bj a).length
   ·exact Y4 hk600 hS hK h j.1 j.2 hf
   ·exact Qbd hk600 hS hK h j.1 j.2 Ou hkc hka
  ·by_cases hf:k.length < (Bj a).length
   ·exact Y7 hk600 hS hK h j.1 j.2 hf
   ·exact Qbe hk600 hS hK h j.1 j.2 Ou hkc
  ·by_cases hf:k.length < (Bj a).length
   ·exact Y8 hk600 hS hK h j.1 j.2 hf
   ·exact Qbf hk600 hS hK h j.1 j.2 Ou hkc
 ·skip;obtain⟨rfl,l⟩:=b Ov;rw[Zh c f a p l]at hok;have j:=Gf hok;rcases d with h|h|⟨m,h⟩
  ·by_cases hf:k.length < (c.getD a.toNat A6).params.length
   ·exact Y9 hk600 hS hK h j.1 Ou hpl hf hC
   ·exact Qbg hk600 hS hK h j.1 Ou hpl Ou hC
  ·by_cases hf:k.length < (c.getD a.toNat A6).params.length
   ·exact Za hk600 hS hK h j.1 Ou hpl hf hC
   ·exact Qbh hk600 hS hK h j.1 Ou hpl Ou hC
  ·by_cases hf:k.length < (c.getD a.toNat A6).params.length
   ·exact Zb hk600 hS hK h j.1 Ou hpl hf hC
   ·exact Qbi hk600 hS hK h j.1 Ou hpl Ou hC
 ·skip;obtain⟨rfl,l⟩:=b Ov;rcases d with h|h|⟨m,h⟩
  ·exact G7 hk600 hS hK 10 Ou h
  ·exact Hq hk600 hS hK 10 Ou h
  ·exact Hr hk600 hS hK 10 Ou h
 ·skip;obtain⟨rfl,l⟩:=b Ov;rcases d with h|h|⟨m,h⟩
  ·exact G7 hk600 hS hK 11 Ou h
  ·exact Hq hk600 hS hK 11 Ou h
  ·exact Hr hk600 hS hK 11 Ou h
 ·skip;obtain⟨rfl,l⟩:=b Ov;rw[O8 c f a p l]at hok;have j:a=0\/a=1:=by
   by_cases h0:a=0
   ·exact .inl h0
   ·by_cases h1:a=1
    ·exact .inr h1
    ·simp[h0,h1]at hok
  rcases d with h|h|⟨m,h⟩
  ·rcases j with rfl|rfl
   ·exact Wo hk600 hS hK h
   ·exact Wp hk600 hS hK h
  ·rcases j with rfl|rfl
   ·exact Wq hk600 hS hK h
   ·exact Wr hk600 hS hK h
  ·rcases j with rfl|rfl
   ·exact Ws hk600 hS hK h
   ·exact Wt hk600 hS hK h
 ·skip;obtain⟨rfl,l⟩:=b Ov;rcases d with h|h|⟨m,h⟩
  ·exact G7 hk600 hS hK 13 Ou h
  ·exact Hq hk600 hS hK 13 Ou h
  ·exact Hr hk600 hS hK 13 Ou h
 ·skip;obtain⟨rfl,l⟩:=b Ov;rcases d with h|h|⟨m,h⟩
  ·exact G7 hk600 hS hK 14 Ou h
  ·exact Yz hk600 hS hK h
  ·exact Y0 hk600 hS hK h
 ·skip;obtain⟨rfl,l⟩:=b Ov;rcases d with h|h|⟨m,h⟩
  ·exact G7 hk600 hS hK 15 Ou h
  ·exact Hq hk600 hS hK 15 Ou h
  ·exact Hr hk600 hS hK 15 Ou h
 ·skip;obtain⟨rfl,l⟩:=b Ov;rcases d with h|h|⟨m,h⟩
  ·exact G7 hk600 hS hK 16 Ou h
  ·exact Hq hk600 hS hK 16 Ou h
  ·exact Hr hk600 hS hK 16 Ou h
theorem Ky {P:Program} {w:World} (base:Nat) (t ty e:TypeId) (i:TypeInfo) (size:Nat) (ht:P.underlying t=some (.slice e)) (hi:P.info? e=some i) (v:Value) (n:Nat) (xs:List Value) (hown:w.ownsRow base e size v n xs) (ao:Option Addr) (c:Nat) :
  (Builtin.append_ #[t,t] ty #[v,.slice ao 0 c]).run P w = .ok v w:=by
 rcases hown.2 with⟨rfl,rfl⟩|⟨g,b,d,rfl,_,_,a,_⟩
 ·cases ao <;> simp[Builtin.append_,run_underlying ht,sizeOf,typeInfo,hi,Builtin.lenOf,Builtin.firstCells,loadCells,loadCellsFrom]
 ·cases ao <;> simp[Builtin.append_,run_underlying ht,sizeOf,typeInfo,hi,Builtin.lenOf,Builtin.firstCells,a,storeCells,loadCells,loadCellsFrom]
theorem Lf {xs:List Int}:∀ u ∈ Ar xs,u.oneCell'=true:=by
 intro u a;obtain⟨z,_,rfl⟩:=List.mem_map.1 a;rfl
theorem Le (a b:List Int):Ar (a++b)=Ar a++Ar b:=List.map_append ..
theorem Pr {P:Program} {w:World} (base:Nat) (t ty e:TypeId) (i:TypeInfo) (z:Value) (ht:P.underlying t=some (.slice e)) (hi:P.info? e=some i) (hz:i.zero=some z) (hsize:i.size=1) (hby:i.bytes=8) (hzs:z.cells.size=1)
  (v:Value) (n:Nat) (xs:List Int) (hown:w.ownsRow base e 1 v n (Ar xs)) (C:Nat) (src:Value) (news:List Int) (hsrc:Ac C w src news) (hsmall:n+news.length<=1048576) (hbase:base<=w.heap.size) :
  ∃ b w',(Builtin.append_ #[t,t] ty #[v,src]).run P w = .ok b w'/\w'.ownsRow base e 1 b (n+news.length) (Ar (xs++news))/\w.grownBy w' v.ownBlock:=by
 obtain⟨m,c,rfl,k⟩:=hsrc;by_cases h0:news.length=0
 ·have s:news=[]:=List.eq_nil_of_length_eq_zero h0;subst s;refine⟨v,w,Ky base t ty e i 1 ht hi v n _ hown m c, ?_,⟨rfl,rfl,rfl,Nat.le_refl _,fun _ _ _=>rfl⟩⟩;simpa using hown
 ·obtain⟨g,o,rfl,_,_⟩:=k 0 Ou;obtain⟨b,w',p,q,r,_⟩:=run_append_own_at (P:=P) (w:=w) base t ty e i z 1 8 ht hi hz hsize hby hzs Ov v n (Ar xs) hown (OI g o) news.length c (Ar news) (by simp[Ar]) (fun j u hu=>by
   have l:j < news.length:=by have:=List.getElem?_eq_some_iff.1 hu;obtain⟨h,_⟩:=this;simpa[Ar]using h
   obtain⟨x,y,d,_,a⟩:=k j l
   injection d with d;injection d with e3 e4
   subst e3 e4
   have f:u = .int .i64 news[j]:=by simpa[Ar,List.getElem?_eq_getElem l]using hu.symm
   rw[f];by_cases hj0:j=0
   ·subst hj0;simpa[Addr.add]using a
   ·simpa[Addr.add,hj0]using a) Lf OF Ou hbase
  exact⟨b,w',p,by rw[Le];exact q,r⟩
theorem Bm {P:Program} {w:World} {ops:Array Oper} {rest:List Oper} {o:Oper} {a:Act} {Q:Exit->Act->World->Prop} (hgd:o.guard=none) (s x:Operand) (t:TypeId)
  (ho:o.op = .call { callee:=.builtin .append,args := #[s,x],argTypes := #[t,t] }) (base:Nat) (e:TypeId) (i:TypeInfo) (z:Value) (ht:P.underlying t=some (.slice e)) (hi:P.info? e=some i) (hz:i.zero=some z) (hsize:i.size=1) (hby:i.bytes=8) (hzs:z.cells.size=1)
  (v:Value) (n:Nat) (xs:List Int) (hs:a.eval s=v) (hown:w.ownsRow base e 1 v n (Ar xs)) (C:Nat) (src:Value) (hx:a.eval x=src) (news:List Int) (hsrc:Ac C w src news) (hsmall:n+news.length<=1048576) (hbase:base<=w.heap.size)
  (h:∀ b w',w'.ownsRow base e 1 b (n+news.length) (Ar (xs++news))->w.grownBy w' v.ownBlock->wpList P ops Q rest (a.put o.dst b) w') :
  wpList P ops Q (o::rest) a w:=by
 refine wpList_plain hgd fun K hK => ?_
 obtain⟨b,w',f,c,d⟩:=Pr (P:=P) (w:=w) base t o.type e i z ht hi hz hsize hby hzs v n xs hown C src news hsrc hsmall hbase;unfold Oper.wp execOp;simp only[ho,resolve,invoke,builtin,Sem.run_bind,Sem.run_pure,Result.andThen_ok,List.map_toArray,List.map_cons,List.map_nil,hs,hx,f];exact hK _ _ (h b w' c d)
theorem In (w:World) (B:Nat) (hB:B<=w.heap.size) (e:TypeId):(w.alloc (.cells #[] e)).ownsRow B e 1 (.slice (some (OK w 0)) 0 0) 0 (Ar []) :=
 ⟨rfl,.inr ⟨w.heap.size,0,#[],rfl,hB,Ae w _,by omega,by unfold maxLen;omega,rfl,rfl⟩⟩
theorem Ak {Y:World} (o:Obj) {g:Nat} {x:Obj} (h:Y.heap[g]? = some x):(Y.alloc o).heap[g]? = some x:=by
 have a:g < Y.heap.size:=(Array.getElem?_eq_some_iff.1 h).1;rw[(MapKept.heap_alloc Y _).2 g a];exact h
theorem Cp {w:World} {B e size n:Nat} {v:Value} {xs:List Value} (h:w.ownsRow B e size v n xs):∃ a b,v = .slice a n b:=by
 rcases h.2 with⟨rfl,d⟩|⟨g,b,c,rfl,_⟩
 ·exact⟨none,0,by rw[d]⟩
 ·exact⟨_,_,rfl⟩
theorem Bu {w:World} {B e size n:Nat} {v:Value} {xs:List Value} (h:w.ownsRow B e size v n xs) {g:Nat} (hg:g < B):v.ownBlock≠some g:=by
 rcases h.2 with⟨rfl,d⟩|⟨c,a,b,rfl,f,_⟩
 ·simp[Value.ownBlock]
 ·simp only[Value.ownBlock,ne_eq,Option.some.injEq];omega
theorem Tryz.infoIntC : (Tryz.prog.info? 3).map (fun i=>(i.zero,i.size,i.bytes))=some (some (.int .i64 0),1,8):=OA
theorem Jy : ∃ i,Tryz.prog.info? 3=some i/\i.zero=some (.int .i64 0)/\i.size=1/\i.bytes=8:=by
 have h:=Tryz.infoIntC;cases hi:Tryz.prog.info? 3 with
 | none=>rw[hi]at h;simp at h
 | some i=>rw[hi]at h;simp at h;exact⟨i,rfl,h.1,h.2.1,h.2.2⟩
theorem Hx {W1 Wx w3:World} {g:Nat} {X:Obj} {row:Option Nat} (o:Obj) (h:W1.heap[g]? = some X) (hx:Wx.heap=W1.heap.push o) (hg:Wx.grownBy w3 row) (hne:row≠some g):w3.heap[g]? = some X:=by
 have a:g < W1.heap.size:=(Array.getElem?_eq_some_iff.1 h).1;have b:W1.heap.size+1=Wx.heap.size:=by rw[hx,Array.size_push]
 rw[hg.block g Ou (fun e=>hne e.symm),hx,Array.getElem?_push_lt a,<- Array.getElem?_eq_getElem a];exact h
theorem C0 {B:Nat} {a w w':World} {row:Option Nat} (h:Below B a w) (hg:w.grownBy w' row) (hB:B<=w.heap.size) (hr:∀ k,k < B->row≠some k):Below B a w' :=
 ⟨hg.os.trans h.os,hg.tape.trans h.tape,hg.output.trans h.output,Nat.le_trans h.size hg.size,fun k hk=>(hg.block k (Nat.lt_of_lt_of_le hk hB) (fun e=>hr k hk e.symm)).trans (h.block k hk)⟩
theorem Ac.keep {B C:Nat} {w w':World} {v:Value} {ns:List Int} (h:Ac B w v ns) (hk:∀ k,v.ownBlock=some k->w'.heap[k]? = w.heap[k]?) (hC:B<=C):Ac C w' v ns:=by
 obtain⟨a,c,rfl,f⟩:=h;refine⟨a,c,rfl,fun i hi => ?_⟩;obtain⟨g,o,d,j,b⟩:=f i hi;refine⟨g,o,d,by omega, ?_⟩;rw[World.cell?_of_block (hk g (by rw[d];rfl))];exact b
def Dq (B:Nat) (w:World) (v:Value):Prop := ∀ g,v.ownBlock=some g->g < B/\∃ cur fr,w.heap[g]? = some (.cells cur 3 fr)
theorem Dq.own {w:World} {B C n:Nat} {v:Value} {xs:List Value} (h:w.ownsRow B 3 1 v n xs) (hC:w.heap.size<=C):Dq C w v:=by
 intro g b;rcases h.2 with⟨rfl,_⟩|⟨f,d,a,rfl,_,c,_⟩
 ·simp[Value.ownBlock]at b
 ·simp only[Value.ownBlock,Option.some.injEq]at b;subst b;exact⟨Nat.lt_of_lt_of_le (Array.getElem?_eq_some_iff.1 c).1 hC,a,_,c⟩
theorem Dq.keep {B C:Nat} {w w':World} {v:Value} (h:Dq B w v) (hk:∀ k,v.ownBlock=some k->w'.heap[k]? = w.heap[k]?) (hC:B<=C):Dq C w' v:=fun g hg=>by
 obtain⟨d,a,b,c⟩:=h g hg
 exact⟨by omega,a,b,(hk g hg).trans c⟩
theorem Dq.below {B:Nat} {w w':World} {v:Value} (h:Dq B w v) (hb:Below B w w'):Dq B w' v:=h.keep (fun k hk=>hb.block k (h k hk).1) (Nat.le_refl _)
theorem Dq.nil (B:Nat) (w:World):Dq B w (.slice none 0 0):=fun g hg=>by simp[Value.ownBlock]at hg
def A9 (B:Nat) (w:World) (v:Value):Am->Prop
 | .none=>v=Ah 0 (.slice none 0 0) (.slice none 0 0)
 | .clash=>v=Ah 2 (.slice none 0 0) (.slice none 0 0)
 | .known s k => ∃ sa sc ka kc,v=Ah 1 (.slice sa s.length sc) (.slice ka k.length kc)/\k.length<=kc/\(ka=none/\kc=0\/∃ g,ka=some (OI g 0))/\Ac B w (.slice sa s.length sc) s/\Ac B w (.slice ka k.length kc) k/\Dq B w (.slice sa s.length sc)/\Dq B w (.slice ka k.length kc)
theorem A9.keep {B C:Nat} {w w':World} (hC:B<=C):∀ {v:Value} {sh:Am},A9 B w v sh->(∀ st sv kv,v=Ah st sv kv->∀ k,(sv.ownBlock=some k\/kv.ownBlock=some k)->w'.heap[k]? = w.heap[k]?)->A9 C w' v sh
 | _,.none,h,_=>h
 | _,.clash,h,_=>h
 | _,.known _ _,h,hk=>by
  obtain⟨l,m,i,j,rfl,a,b,c,d,f,g⟩:=h
  exact⟨l,m,i,j,rfl,a,b,c.keep (fun k h=>hk _ _ _ rfl k (.inl h)) hC,d.keep (fun k h=>hk _ _ _ rfl k (.inr h)) hC,f.keep (fun k h=>hk _ _ _ rfl k (.inl h)) hC,g.keep (fun k h=>hk _ _ _ rfl k (.inr h)) hC⟩
theorem A9.below {B:Nat} {w w':World} {v:Value} (hb:Below B w w'):∀ {sh:Am},A9 B w v sh->A9 B w' v sh
 | .none,h=>h
 | .clash,h=>h
 | .known _ _,h=>by
  obtain⟨l,m,j,k,a,b,c,d,f,g,i⟩:=h
  exact⟨l,m,j,k,a,b,c,d.below hb,f.below hb,g.below hb,i.below hb⟩
theorem A9.mono {B C:Nat} {w:World} {v:Value} (hb:B<=C):∀ {sh:Am},A9 B w v sh->A9 C w v sh
 | .none,h=>h
 | .clash,h=>h
 | .known _ _,h=>by
  obtain⟨l,m,j,k,a,b,c,d,f,g,i⟩:=h
  exact⟨l,m,j,k,a,b,c,d.mono hb,f.mono hb,g.keep (fun _ _=>rfl) hb,i.keep (fun _ _=>rfl) hb⟩
theorem Ad {w Z:World} (h:OH w Z) (d i:Nat) (v:Value):OH w (Z.setCell (OI (w.heap.size+d) i) v):=h.setCell (p:=(OI (w.heap.size+d) i)) (by show w.heap.size<=w.heap.size+d;omega) v
theorem Qdf (sa ka sb kb:Option Addr) (n1 c1 n2 c2 n3 c3 n4 c4:Nat) (w:World) :
  Calls Tryz.prog 113 #[Ah 0 (.slice sa n1 c1) (.slice ka n2 c2),Ah 0 (.slice sb n3 c3) (.slice kb n4 c4)] w fun e w'=>e = .returned (.tuple #[Ah 0 (.slice sa n1 c1) (.slice ka n2 c2),.bool false])/\OH w w':=by
 obtain⟨r,k⟩:∃ Y,w.alloc (.cells #[.int .i64 0,.slice sa n1 c1,.slice ka n2 c2] 126)=Y:=⟨_,rfl⟩;have p:OH w r:=by rw[<- k];exact Ao w _
 have t:r.heap.size=w.heap.size+1:=by rw[<- k];exact World.size_alloc _ _
 have h:r.heap[w.heap.size]? = some (.cells #[.int .i64 0,.slice sa n1 c1,.slice ka n2 c2] 126):=by rw[<- k];exact Ae w _
 obtain⟨l,g⟩:∃ Y,r.alloc (.cells #[.int .i64 0,.slice sb n3 c3,.slice kb n4 c4] 126)=Y:=⟨_,rfl⟩;have q:OH w l:=by rw[<- g];exact Ab p _
 have u:l.heap.size=w.heap.size+2:=by rw[<- g,World.size_alloc];omega
 have i:l.heap[w.heap.size]? = some (.cells #[.int .i64 0,.slice sa n1 c1,.slice ka n2 c2] 126):=by rw[<- g];exact Ak _ h
 have j:l.heap[w.heap.size+1]? = some (.cells #[.int .i64 0,.slice sb n3 c3,.slice kb n4 c4] 126):=by rw[<- g,<- t];exact Ae _ _
 clear h;obtain⟨b,f⟩:∃ Y,l.alloc (.cells #[.int .i64 0,.slice none 0 0,.slice none 0 0] 126)=Y:=⟨_,rfl⟩;have s:OH w b:=by rw[<- f];exact Ab q _
 have G:b.heap.size=w.heap.size+3:=by rw[<- f,World.size_alloc];omega
 have c:b.heap[w.heap.size]? = some (.cells #[.int .i64 0,.slice sa n1 c1,.slice ka n2 c2] 126):=by rw[<- f];exact Ak _ i
 have d:b.heap[w.heap.size+1]? = some (.cells #[.int .i64 0,.slice sb n3 c3,.slice kb n4 c4] 126):=by rw[<- f];exact Ak _ j
 have a:b.heap[w.heap.size+2]? = some (.cells #[.int .i64 0,.slice none 0 0,.slice none 0 0] 126):=by rw[<- f,<- u];exact Ae _ _
 clear i j;have x:b.cell? (OK w 0)=some (.int .i64 0):=by rw[Lib.cell_of_heap c];rfl
 have y:b.cell? (OK w 1)=some (.slice sa n1 c1):=by rw[Lib.cell_of_heap c];rfl
 have z:b.cell? (OK w 2)=some (.slice ka n2 c2):=by rw[Lib.cell_of_heap c];rfl
 have A:b.cell? (OJ w 1 0)=some (.int .i64 0):=by rw[Lib.cell_of_heap d];rfl
 have B:b.cell? (OJ w 1 1)=some (.slice sb n3 c3):=by rw[Lib.cell_of_heap d];rfl
 have C:b.cell? (OJ w 1 2)=some (.slice kb n4 c4):=by rw[Lib.cell_of_heap d];rfl
 have m:b.cell? (OJ w 2 0)=some (.int .i64 0):=by rw[Lib.cell_of_heap a];rfl
 have n:b.cell? (OJ w 2 1)=some (.slice none 0 0):=by rw[Lib.cell_of_heap a];rfl
 have o:b.cell? (OJ w 2 2)=some (.slice none 0 0):=by rw[Lib.cell_of_heap a];rfl
 have D:b.frozen? (OJ w 2 0)=false:=by simp[World.frozen?,a]
 have E:b.frozen? (OJ w 2 1)=false:=by simp[World.frozen?,a]
 have F:b.frozen? (OJ w 2 2)=false:=by simp[World.frozen?,a]
 clear c d a p q;unfold Ah;go_enter Tryz.func113,Tryz.ntmps113;go_wp2_with fail;exact bodyPost_ret (v:=.tuple #[Ah 0 (.slice sa n1 c1) (.slice ka n2 c2),.bool false]) (by simp[results,Tryz.results113,go_sem,m,n,o,Ah]) rfl ⟨rfl,Ad (Ad (Ad s 2 0 _) 2 1 _) 2 2 _⟩
theorem Qdi (sa ka sb kb:Option Addr) (n1 c1 n2 c2 n3 c3 n4 c4:Nat) (w:World) :
  Calls Tryz.prog 113 #[Ah 1 (.slice sa n1 c1) (.slice ka n2 c2),Ah 0 (.slice sb n3 c3) (.slice kb n4 c4)] w fun e w'=>e = .returned (.tuple #[Ah 1 (.slice sa n1 c1) (.slice ka n2 c2),.bool false])/\OH w w':=by
 obtain⟨r,k⟩:∃ Y,w.alloc (.cells #[.int .i64 1,.slice sa n1 c1,.slice ka n2 c2] 126)=Y:=⟨_,rfl⟩;have p:OH w r:=by rw[<- k];exact Ao w _
 have t:r.heap.size=w.heap.size+1:=by rw[<- k];exact World.size_alloc _ _
 have h:r.heap[w.heap.size]? = some (.cells #[.int .i64 1,.slice sa n1 c1,.slice ka n2 c2] 126):=by rw[<- k];exact Ae w _
 obtain⟨l,g⟩:∃ Y,r.alloc (.cells #[.int .i64 0,.slice sb n3 c3,.slice kb n4 c4] 126)=Y:=⟨_,rfl⟩;have q:OH w l:=by rw[<- g];exact Ab p _
 have u:l.heap.size=w.heap.size+2:=by rw[<- g,World.size_alloc];omega
 have i:l.heap[w.heap.size]? = some (.cells #[.int .i64 1,.slice sa n1 c1,.slice ka n2 c2] 126):=by rw[<- g];exact Ak _ h
 have j:l.heap[w.heap.size+1]? = some (.cells #[.int .i64 0,.slice sb n3 c3,.slice kb n4 c4] 126):=by rw[<- g,<- t];exact Ae _ _
 clear h;obtain⟨b,f⟩:∃ Y,l.alloc (.cells #[.int .i64 0,.slice none 0 0,.slice none 0 0] 126)=Y:=⟨_,rfl⟩;have s:OH w b:=by rw[<- f];exact Ab q _
 have G:b.heap.size=w.heap.size+3:=by rw[<- f,World.size_alloc];omega
 have c:b.heap[w.heap.size]? = some (.cells #[.int .i64 1,.slice sa n1 c1,.slice ka n2 c2] 126):=by rw[<- f];exact Ak _ i
 have d:b.heap[w.heap.size+1]? = some (.cells #[.int .i64 0,.slice sb n3 c3,.slice kb n4 c4] 126):=by rw[<- f];exact Ak _ j
 have a:b.heap[w.heap.size+2]? = some (.cells #[.int .i64 0,.slice none 0 0,.slice none 0 0] 126):=by rw[<- f,<- u];exact Ae _ _
 clear i j;have x:b.cell? (OK w 0)=some (.int .i64 1):=by rw[Lib.cell_of_heap c];rfl
 have y:b.cell? (OK w 1)=some (.slice sa n1 c1):=by rw[Lib.cell_of_heap c];rfl
 have z:b.cell? (OK w 2)=some (.slice ka n2 c2):=by rw[Lib.cell_of_heap c];rfl
 have A:b.cell? (OJ w 1 0)=some (.int .i64 0):=by rw[Lib.cell_of_heap d];rfl
 have B:b.cell? (OJ w 1 1)=some (.slice sb n3 c3):=by rw[Lib.cell_of_heap d];rfl
 have C:b.cell? (OJ w 1 2)=some (.slice kb n4 c4):=by rw[Lib.cell_of_heap d];rfl
 have m:b.cell? (OJ w 2 0)=some (.int .i64 0):=by rw[Lib.cell_of_heap a];rfl
 have n:b.cell? (OJ w 2 1)=some (.slice none 0 0):=by rw[Lib.cell_of_heap a];rfl
 have o:b.cell? (OJ w 2 2)=some (.slice none 0 0):=by rw[Lib.cell_of_heap a];rfl
 have D:b.frozen? (OJ w 2 0)=false:=by simp[World.frozen?,a]
 have E:b.frozen? (OJ w 2 1)=false:=by simp[World.frozen?,a]
 have F:b.frozen? (OJ w 2 2)=false:=by simp[World.frozen?,a]
 clear c d a p q;unfold Ah;go_enter Tryz.func113,Tryz.ntmps113;go_wp2_with fail;exact bodyPost_ret (v:=.tuple #[Ah 1 (.slice sa n1 c1) (.slice ka n2 c2),.bool false]) (by simp[results,Tryz.results113,go_sem,m,n,o,Ah]) rfl ⟨rfl,Ad (Ad (Ad s 2 0 _) 2 1 _) 2 2 _⟩
theorem Qdk (sa ka sb kb:Option Addr) (n1 c1 n2 c2 n3 c3 n4 c4:Nat) (w:World) :
  Calls Tryz.prog 113 #[Ah 2 (.slice sa n1 c1) (.slice ka n2 c2),Ah 0 (.slice sb n3 c3) (.slice kb n4 c4)] w fun e w'=>e = .returned (.tuple #[Ah 2 (.slice sa n1 c1) (.slice ka n2 c2),.bool false])/\OH w w':=by
 obtain⟨r,k⟩:∃ Y,w.alloc (.cells #[.int .i64 2,.slice sa n1 c1,.slice ka n2 c2] 126)=Y:=⟨_,rfl⟩;have p:OH w r:=by rw[<- k];exact Ao w _
 have t:r.heap.size=w.heap.size+1:=by rw[<- k];exact World.size_alloc _ _
 have h:r.heap[w.heap.size]? = some (.cells #[.int .i64 2,.slice sa n1 c1,.slice ka n2 c2] 126):=by rw[<- k];exact Ae w _
 obtain⟨l,g⟩:∃ Y,r.alloc (.cells #[.int .i64 0,.slice sb n3 c3,.slice kb n4 c4] 126)=Y:=⟨_,rfl⟩;have q:OH w l:=by rw[<- g];exact Ab p _
 have u:l.heap.size=w.heap.size+2:=by rw[<- g,World.size_alloc];omega
 have i:l.heap[w.heap.size]? = some (.cells #[.int .i64 2,.slice sa n1 c1,.slice ka n2 c2] 126):=by rw[<- g];exact Ak _ h
 have j:l.heap[w.heap.size+1]? = some (.cells #[.int .i64 0,.slice sb n3 c3,.slice kb n4 c4] 126):=by rw[<- g,<- t];exact Ae _ _
 clear h;obtain⟨b,f⟩:∃ Y,l.alloc (.cells #[.int .i64 0,.slice none 0 0,.slice none 0 0] 126)=Y:=⟨_,rfl⟩;have s:OH w b:=by rw[<- f];exact Ab q _
 have G:b.heap.size=w.heap.size+3:=by rw[<- f,World.size_alloc];omega
 have c:b.heap[w.heap.size]? = some (.cells #[.int .i64 2,.slice sa n1 c1,.slice ka n2 c2] 126):=by rw[<- f];exact Ak _ i
 have d:b.heap[w.heap.size+1]? = some (.cells #[.int .i64 0,.slice sb n3 c3,.slice kb n4 c4] 126):=by rw[<- f];exact Ak _ j
 have a:b.heap[w.heap.size+2]? = some (.cells #[.int .i64 0,.slice none 0 0,.slice none 0 0] 126):=by rw[<- f,<- u];exact Ae _ _
 clear i j;have x:b.cell? (OK w 0)=some (.int .i64 2):=by rw[Lib.cell_of_heap c];rfl
 have y:b.cell? (OK w 1)=some (.slice sa n1 c1):=by rw[Lib.cell_of_heap c];rfl
 have z:b.cell? (OK w 2)=some (.slice ka n2 c2):=by rw[Lib.cell_of_heap c];rfl
 have A:b.cell? (OJ w 1 0)=some (.int .i64 0):=by rw[Lib.cell_of_heap d];rfl
 have B:b.cell? (OJ w 1 1)=some (.slice sb n3 c3):=by rw[Lib.cell_of_heap d];rfl
 have C:b.cell? (OJ w 1 2)=some (.slice kb n4 c4):=by rw[Lib.cell_of_heap d];rfl
 have m:b.cell? (OJ w 2 0)=some (.int .i64 0):=by rw[Lib.cell_of_heap a];rfl
 have n:b.cell? (OJ w 2 1)=some (.slice none 0 0):=by rw[Lib.cell_of_heap a];rfl
 have o:b.cell? (OJ w 2 2)=some (.slice none 0 0):=by rw[Lib.cell_of_heap a];rfl
 have D:b.frozen? (OJ w 2 0)=false:=by simp[World.frozen?,a]
 have E:b.frozen? (OJ w 2 1)=false:=by simp[World.frozen?,a]
 have F:b.frozen? (OJ w 2 2)=false:=by simp[World.frozen?,a]
 clear c d a p q;unfold Ah;go_enter Tryz.func113,Tryz.ntmps113;go_wp2_with fail;exact bodyPost_ret (v:=.tuple #[Ah 2 (.slice sa n1 c1) (.slice ka n2 c2),.bool false]) (by simp[results,Tryz.results113,go_sem,m,n,o,Ah]) rfl ⟨rfl,Ad (Ad (Ad s 2 0 _) 2 1 _) 2 2 _⟩
theorem Qdl (sa ka sb kb:Option Addr) (n1 c1 n2 c2 n3 c3 n4 c4:Nat) (w:World) :
  Calls Tryz.prog 113 #[Ah 2 (.slice sa n1 c1) (.slice ka n2 c2),Ah 1 (.slice sb n3 c3) (.slice kb n4 c4)] w fun e w'=>e = .returned (.tuple #[Ah 2 (.slice sa n1 c1) (.slice ka n2 c2),.bool false])/\OH w w':=by
 obtain⟨r,k⟩:∃ Y,w.alloc (.cells #[.int .i64 2,.slice sa n1 c1,.slice ka n2 c2] 126)=Y:=⟨_,rfl⟩;have p:OH w r:=by rw[<- k];exact Ao w _
 have t:r.heap.size=w.heap.size+1:=by rw[<- k];exact World.size_alloc _ _
 have h:r.heap[w.heap.size]? = some (.cells #[.int .i64 2,.slice sa n1 c1,.slice ka n2 c2] 126):=by rw[<- k];exact Ae w _
 obtain⟨l,g⟩:∃ Y,r.alloc (.cells #[.int .i64 1,.slice sb n3 c3,.slice kb n4 c4] 126)=Y:=⟨_,rfl⟩;have q:OH w l:=by rw[<- g];exact Ab p _
 have u:l.heap.size=w.heap.size+2:=by rw[<- g,World.size_alloc];omega
 have i:l.heap[w.heap.size]? = some (.cells #[.int .i64 2,.slice sa n1 c1,.slice ka n2 c2] 126):=by rw[<- g];exact Ak _ h
 have j:l.heap[w.heap.size+1]? = some (.cells #[.int .i64 1,.slice sb n3 c3,.slice kb n4 c4] 126):=by rw[<- g,<- t];exact Ae _ _
 clear h;obtain⟨b,f⟩:∃ Y,l.alloc (.cells #[.int .i64 0,.slice none 0 0,.slice none 0 0] 126)=Y:=⟨_,rfl⟩;have s:OH w b:=by rw[<- f];exact Ab q _
 have G:b.heap.size=w.heap.size+3:=by rw[<- f,World.size_alloc];omega
 have c:b.heap[w.heap.size]? = some (.cells #[.int .i64 2,.slice sa n1 c1,.slice ka n2 c2] 126):=by rw[<- f];exact Ak _ i
 have d:b.heap[w.heap.size+1]? = some (.cells #[.int .i64 1,.slice sb n3 c3,.slice kb n4 c4] 126):=by rw[<- f];exact Ak _ j
 have a:b.heap[w.heap.size+2]? = some (.cells #[.int .i64 0,.slice none 0 0,.slice none 0 0] 126):=by rw[<- f,<- u];exact Ae _ _
 clear i j;have x:b.cell? (OK w 0)=some (.int .i64 2):=by rw[Lib.cell_of_heap c];rfl
 have y:b.cell? (OK w 1)=some (.slice sa n1 c1):=by rw[Lib.cell_of_heap c];rfl
 have z:b.cell? (OK w 2)=some (.slice ka n2 c2):=by rw[Lib.cell_of_heap c];rfl
 have A:b.cell? (OJ w 1 0)=some (.int .i64 1):=by rw[Lib.cell_of_heap d];rfl
 have B:b.cell? (OJ w 1 1)=some (.slice sb n3 c3):=by rw[Lib.cell_of_heap d];rfl
 have C:b.cell? (OJ w 1 2)=some (.slice kb n4 c4):=by rw[Lib.cell_of_heap d];rfl
 have m:b.cell? (OJ w 2 0)=some (.int .i64 0):=by rw[Lib.cell_of_heap a];rfl
 have n:b.cell? (OJ w 2 1)=some (.slice none 0 0):=by rw[Lib.cell_of_heap a];rfl
 have o:b.cell? (OJ w 2 2)=some (.slice none 0 0):=by rw[Lib.cell_of_heap a];rfl
 have D:b.frozen? (OJ w 2 0)=false:=by simp[World.frozen?,a]
 have E:b.frozen? (OJ w 2 1)=false:=by simp[World.frozen?,a]
 have F:b.frozen? (OJ w 2 2)=false:=by simp[World.frozen?,a]
 clear c d a p q;unfold Ah;go_enter Tryz.func113,Tryz.ntmps113;go_wp2_with fail;exact bodyPost_ret (v:=.tuple #[Ah 2 (.slice sa n1 c1) (.slice ka n2 c2),.bool false]) (by simp[results,Tryz.results113,go_sem,m,n,o,Ah]) rfl ⟨rfl,Ad (Ad (Ad s 2 0 _) 2 1 _) 2 2 _⟩
theorem Qdm (sa ka sb kb:Option Addr) (n1 c1 n2 c2 n3 c3 n4 c4:Nat) (w:World) :
  Calls Tryz.prog 113 #[Ah 2 (.slice sa n1 c1) (.slice ka n2 c2),Ah 2 (.slice sb n3 c3) (.slice kb n4 c4)] w fun e w'=>e = .returned (.tuple #[Ah 2 (.slice sa n1 c1) (.slice ka n2 c2),.bool false])/\OH w w':=by
 obtain⟨r,k⟩:∃ Y,w.alloc (.cells #[.int .i64 2,.slice sa n1 c1,.slice ka n2 c2] 126)=Y:=⟨_,rfl⟩;have p:OH w r:=by rw[<- k];exact Ao w _
 have t:r.heap.size=w.heap.size+1:=by rw[<- k];exact World.size_alloc _ _
 have h:r.heap[w.heap.size]? = some (.cells #[.int .i64 2,.slice sa n1 c1,.slice ka n2 c2] 126):=by rw[<- k];exact Ae w _
 obtain⟨l,g⟩:∃ Y,r.alloc (.cells #[.int .i64 2,.slice sb n3 c3,.slice kb n4 c4] 126)=Y:=⟨_,rfl⟩;have q:OH w l:=by rw[<- g];exact Ab p _
 have u:l.heap.size=w.heap.size+2:=by rw[<- g,World.size_alloc];omega
 have i:l.heap[w.heap.size]? = some (.cells #[.int .i64 2,.slice sa n1 c1,.slice ka n2 c2] 126):=by rw[<- g];exact Ak _ h
 have j:l.heap[w.heap.size+1]? = some (.cells #[.int .i64 2,.slice sb n3 c3,.slice kb n4 c4] 126):=by rw[<- g,<- t];exact Ae _ _
 clear h;obtain⟨b,f⟩:∃ Y,l.alloc (.cells #[.int .i64 0,.slice none 0 0,.slice none 0 0] 126)=Y:=⟨_,rfl⟩;have s:OH w b:=by rw[<- f];exact Ab q _
 have G:b.heap.size=w.heap.size+3:=by rw[<- f,World.size_alloc];omega
 have c:b.heap[w.heap.size]? = some (.cells #[.int .i64 2,.slice sa n1 c1,.slice ka n2 c2] 126):=by rw[<- f];exact Ak _ i
 have d:b.heap[w.heap.size+1]? = some (.cells #[.int .i64 2,.slice sb n3 c3,.slice kb n4 c4] 126):=by rw[<- f];exact Ak _ j
 have a:b.heap[w.heap.size+2]? = some (.cells #[.int .i64 0,.slice none 0 0,.slice none 0 0] 126):=by rw[<- f,<- u];exact Ae _ _
 clear i j;have x:b.cell? (OK w 0)=some (.int .i64 2):=by rw[Lib.cell_of_heap c];rfl
 have y:b.cell? (OK w 1)=some (.slice sa n1 c1):=by rw[Lib.cell_of_heap c];rfl
 have z:b.cell? (OK w 2)=some (.slice ka n2 c2):=by rw[Lib.cell_of_heap c];rfl
 have A:b.cell? (OJ w 1 0)=some (.int .i64 2):=by rw[Lib.cell_of_heap d];rfl
 have B:b.cell? (OJ w 1 1)=some (.slice sb n3 c3):=by rw[Lib.cell_of_heap d];rfl
 have C:b.cell? (OJ w 1 2)=some (.slice kb n4 c4):=by rw[Lib.cell_of_heap d];rfl
 have m:b.cell? (OJ w 2 0)=some (.int .i64 0):=by rw[Lib.cell_of_heap a];rfl
 have n:b.cell? (OJ w 2 1)=some (.slice none 0 0):=by rw[Lib.cell_of_heap a];rfl
 have o:b.cell? (OJ w 2 2)=some (.slice none 0 0):=by rw[Lib.cell_of_heap a];rfl
 have D:b.frozen? (OJ w 2 0)=false:=by simp[World.frozen?,a]
 have E:b.frozen? (OJ w 2 1)=false:=by simp[World.frozen?,a]
 have F:b.frozen? (OJ w 2 2)=false:=by simp[World.frozen?,a]
 clear c d a p q;unfold Ah;go_enter Tryz.func113,Tryz.ntmps113;go_wp2_with fail;exact bodyPost_ret (v:=.tuple #[Ah 2 (.slice sa n1 c1) (.slice ka n2 c2),.bool false]) (by simp[results,Tryz.results113,go_sem,m,n,o,Ah]) rfl ⟨rfl,Ad (Ad (Ad s 2 0 _) 2 1 _) 2 2 _⟩
theorem Qdg (sa ka sb kb:Option Addr) (n1 c1 n2 c2 n3 c3 n4 c4:Nat) (w:World) :
  Calls Tryz.prog 113 #[Ah 0 (.slice sa n1 c1) (.slice ka n2 c2),Ah 1 (.slice sb n3 c3) (.slice kb n4 c4)] w fun e w'=>e = .returned (.tuple #[Ah 1 (.slice sb n3 c3) (.slice kb n4 c4),.bool true])/\OH w w':=by
 obtain⟨r,k⟩:∃ Y,w.alloc (.cells #[.int .i64 0,.slice sa n1 c1,.slice ka n2 c2] 126)=Y:=⟨_,rfl⟩;have p:OH w r:=by rw[<- k];exact Ao w _
 have t:r.heap.size=w.heap.size+1:=by rw[<- k];exact World.size_alloc _ _
 have h:r.heap[w.heap.size]? = some (.cells #[.int .i64 0,.slice sa n1 c1,.slice ka n2 c2] 126):=by rw[<- k];exact Ae w _
 obtain⟨l,g⟩:∃ Y,r.alloc (.cells #[.int .i64 1,.slice sb n3 c3,.slice kb n4 c4] 126)=Y:=⟨_,rfl⟩;have q:OH w l:=by rw[<- g];exact Ab p _
 have u:l.heap.size=w.heap.size+2:=by rw[<- g,World.size_alloc];omega
 have i:l.heap[w.heap.size]? = some (.cells #[.int .i64 0,.slice sa n1 c1,.slice ka n2 c2] 126):=by rw[<- g];exact Ak _ h
 have j:l.heap[w.heap.size+1]? = some (.cells #[.int .i64 1,.slice sb n3 c3,.slice kb n4 c4] 126):=by rw[<- g,<- t];exact Ae _ _
 clear h;obtain⟨b,f⟩:∃ Y,l.alloc (.cells #[.int .i64 0,.slice none 0 0,.slice none 0 0] 126)=Y:=⟨_,rfl⟩;have s:OH w b:=by rw[<- f];exact Ab q _
 have G:b.heap.size=w.heap.size+3:=by rw[<- f,World.size_alloc];omega
 have c:b.heap[w.heap.size]? = some (.cells #[.int .i64 0,.slice sa n1 c1,.slice ka n2 c2] 126):=by rw[<- f];exact Ak _ i
 have d:b.heap[w.heap.size+1]? = some (.cells #[.int .i64 1,.slice sb n3 c3,.slice kb n4 c4] 126):=by rw[<- f];exact Ak _ j
 have a:b.heap[w.heap.size+2]? = some (.cells #[.int .i64 0,.slice none 0 0,.slice none 0 0] 126):=by rw[<- f,<- u];exact Ae _ _
 clear i j;have x:b.cell? (OK w 0)=some (.int .i64 0):=by rw[Lib.cell_of_heap c];rfl
 have y:b.cell? (OK w 1)=some (.slice sa n1 c1):=by rw[Lib.cell_of_heap c];rfl
 have z:b.cell? (OK w 2)=some (.slice ka n2 c2):=by rw[Lib.cell_of_heap c];rfl
 have A:b.cell? (OJ w 1 0)=some (.int .i64 1):=by rw[Lib.cell_of_heap d];rfl
 have B:b.cell? (OJ w 1 1)=some (.slice sb n3 c3):=by rw[Lib.cell_of_heap d];rfl
 have C:b.cell? (OJ w 1 2)=some (.slice kb n4 c4):=by rw[Lib.cell_of_heap d];rfl
 have m:b.cell? (OJ w 2 0)=some (.int .i64 0):=by rw[Lib.cell_of_heap a];rfl
 have n:b.cell? (OJ w 2 1)=some (.slice none 0 0):=by rw[Lib.cell_of_heap a];rfl
 have o:b.cell? (OJ w 2 2)=some (.slice none 0 0):=by rw[Lib.cell_of_heap a];rfl
 have D:b.frozen? (OJ w 2 0)=false:=by simp[World.frozen?,a]
 have E:b.frozen? (OJ w 2 1)=false:=by simp[World.frozen?,a]
 have F:b.frozen? (OJ w 2 2)=false:=by simp[World.frozen?,a]
 clear c d a p q;unfold Ah;go_enter Tryz.func113,Tryz.ntmps113;go_wp2_with fail;exact bodyPost_ret (v:=.tuple #[Ah 1 (.slice sb n3 c3) (.slice kb n4 c4),.bool true]) (by simp[results,Tryz.results113,go_sem,m,n,o,Ah]) rfl ⟨rfl,Ad (Ad (Ad s 2 0 _) 2 1 _) 2 2 _⟩
theorem Qdh (sa ka sb kb:Option Addr) (n1 c1 n2 c2 n3 c3 n4 c4:Nat) (w:World) :
  Calls Tryz.prog 113 #[Ah 0 (.slice sa n1 c1) (.slice ka n2 c2),Ah 2 (.slice sb n3 c3) (.slice kb n4 c4)] w fun e w'=>e = .returned (.tuple #[Ah 2 (.slice sb n3 c3) (.slice kb n4 c4),.bool true])/\OH w w':=by
 obtain⟨r,k⟩:∃ Y,w.alloc (.cells #[.int .i64 0,.slice sa n1 c1,.slice ka n2 c2] 126)=Y:=⟨_,rfl⟩;have p:OH w r:=by rw[<- k];exact Ao w _
 have t:r.heap.size=w.heap.size+1:=by rw[<- k];exact World.size_alloc _ _
 have h:r.heap[w.heap.size]? = some (.cells #[.int .i64 0,.slice sa n1 c1,.slice ka n2 c2] 126):=by rw[<- k];exact Ae w _
 obtain⟨l,g⟩:∃ Y,r.alloc (.cells #[.int .i64 2,.slice sb n3 c3,.slice kb n4 c4] 126)=Y:=⟨_,rfl⟩;have q:OH w l:=by rw[<- g];exact Ab p _
 have u:l.heap.size=w.heap.size+2:=by rw[<- g,World.size_alloc];omega
 have i:l.heap[w.heap.size]? = some (.cells #[.int .i64 0,.slice sa n1 c1,.slice ka n2 c2] 126):=by rw[<- g];exact Ak _ h
 have j:l.heap[w.heap.size+1]? = some (.cells #[.int .i64 2,.slice sb n3 c3,.slice kb n4 c4] 126):=by rw[<- g,<- t];exact Ae _ _
 clear h;obtain⟨b,f⟩:∃ Y,l.alloc (.cells #[.int .i64 0,.slice none 0 0,.slice none 0 0] 126)=Y:=⟨_,rfl⟩;have s:OH w b:=by rw[<- f];exact Ab q _
 have G:b.heap.size=w.heap.size+3:=by rw[<- f,World.size_alloc];omega
 have c:b.heap[w.heap.size]? = some (.cells #[.int .i64 0,.slice sa n1 c1,.slice ka n2 c2] 126):=by rw[<- f];exact Ak _ i
 have d:b.heap[w.heap.size+1]? = some (.cells #[.int .i64 2,.slice sb n3 c3,.slice kb n4 c4] 126):=by rw[<- f];exact Ak _ j
 have a:b.heap[w.heap.size+2]? = some (.cells #[.int .i64 0,.slice none 0 0,.slice none 0 0] 126):=by rw[<- f,<- u];exact Ae _ _
 clear i j;have x:b.cell? (OK w 0)=some (.int .i64 0):=by rw[Lib.cell_of_heap c];rfl
 have y:b.cell? (OK w 1)=some (.slice sa n1 c1):=by rw[Lib.cell_of_heap c];rfl
 have z:b.cell? (OK w 2)=some (.slice ka n2 c2):=by rw[Lib.cell_of_heap c];rfl
 have A:b.cell? (OJ w 1 0)=some (.int .i64 2):=by rw[Lib.cell_of_heap d];rfl
 have B:b.cell? (OJ w 1 1)=some (.slice sb n3 c3):=by rw[Lib.cell_of_heap d];rfl
 have C:b.cell? (OJ w 1 2)=some (.slice kb n4 c4):=by rw[Lib.cell_of_heap d];rfl
 have m:b.cell? (OJ w 2 0)=some (.int .i64 0):=by rw[Lib.cell_of_heap a];rfl
 have n:b.cell? (OJ w 2 1)=some (.slice none 0 0):=by rw[Lib.cell_of_heap a];rfl
 have o:b.cell? (OJ w 2 2)=some (.slice none 0 0):=by rw[Lib.cell_of_heap a];rfl
 have D:b.frozen? (OJ w 2 0)=false:=by simp[World.frozen?,a]
 have E:b.frozen? (OJ w 2 1)=false:=by simp[World.frozen?,a]
 have F:b.frozen? (OJ w 2 2)=false:=by simp[World.frozen?,a]
 clear c d a p q;unfold Ah;go_enter Tryz.func113,Tryz.ntmps113;go_wp2_with fail;exact bodyPost_ret (v:=.tuple #[Ah 2 (.slice sb n3 c3) (.slice kb n4 c4),.bool true]) (by simp[results,Tryz.results113,go_sem,m,n,o,Ah]) rfl ⟨rfl,Ad (Ad (Ad s 2 0 _) 2 1 _) 2 2 _⟩
theorem Qdj (sa ka sb kb:Option Addr) (n1 c1 n2 c2 n3 c3 n4 c4:Nat) (w:World) :
  Calls Tryz.prog 113 #[Ah 1 (.slice sa n1 c1) (.slice ka n2 c2),Ah 2 (.slice sb n3 c3) (.slice kb n4 c4)] w fun e w'=>e = .returned (.tuple #[Ah 2 (.slice sb n3 c3) (.slice kb n4 c4),.bool true])/\OH w w':=by
 obtain⟨r,k⟩:∃ Y,w.alloc (.cells #[.int .i64 1,.slice sa n1 c1,.slice ka n2 c2] 126)=Y:=⟨_,rfl⟩;have p:OH w r:=by rw[<- k];exact Ao w _
 have t:r.heap.size=w.heap.size+1:=by rw[<- k];exact World.size_alloc _ _
 have h:r.heap[w.heap.size]? = some (.cells #[.int .i64 1,.slice sa n1 c1,.slice ka n2 c2] 126):=by rw[<- k];exact Ae w _
 obtain⟨l,g⟩:∃ Y,r.alloc (.cells #[.int .i64 2,.slice sb n3 c3,.slice kb n4 c4] 126)=Y:=⟨_,rfl⟩;have q:OH w l:=by rw[<- g];exact Ab p _
 have u:l.heap.size=w.heap.size+2:=by rw[<- g,World.size_alloc];omega
 have i:l.heap[w.heap.size]? = some (.cells #[.int .i64 1,.slice sa n1 c1,.slice ka n2 c2] 126):=by rw[<- g];exact Ak _ h
 have j:l.heap[w.heap.size+1]? = some (.cells #[.int .i64 2,.slice sb n3 c3,.slice kb n4 c4] 126):=by rw[<- g,<- t];exact Ae _ _
 clear h;obtain⟨b,f⟩:∃ Y,l.alloc (.cells #[.int .i64 0,.slice none 0 0,.slice none 0 0] 126)=Y:=⟨_,rfl⟩;have s:OH w b:=by rw[<- f];exact Ab q _
 have G:b.heap.size=w.heap.size+3:=by rw[<- f,World.size_alloc];omega
 have c:b.heap[w.heap.size]? = some (.cells #[.int .i64 1,.slice sa n1 c1,.slice ka n2 c2] 126):=by rw[<- f];exact Ak _ i
 have d:b.heap[w.heap.size+1]? = some (.cells #[.int .i64 2,.slice sb n3 c3,.slice kb n4 c4] 126):=by rw[<- f];exact Ak _ j
 have a:b.heap[w.heap.size+2]? = some (.cells #[.int .i64 0,.slice none 0 0,.slice none 0 0] 126):=by rw[<- f,<- u];exact Ae _ _
 clear i j;have x:b.cell? (OK w 0)=some (.int .i64 1):=by rw[Lib.cell_of_heap c];rfl
 have y:b.cell? (OK w 1)=some (.slice sa n1 c1):=by rw[Lib.cell_of_heap c];rfl
 have z:b.cell? (OK w 2)=some (.slice ka n2 c2):=by rw[Lib.cell_of_heap c];rfl
 have A:b.cell? (OJ w 1 0)=some (.int .i64 2):=by rw[Lib.cell_of_heap d];rfl
 have B:b.cell? (OJ w 1 1)=some (.slice sb n3 c3):=by rw[Lib.cell_of_heap d];rfl
 have C:b.cell? (OJ w 1 2)=some (.slice kb n4 c4):=by rw[Lib.cell_of_heap d];rfl
 have m:b.cell? (OJ w 2 0)=some (.int .i64 0):=by rw[Lib.cell_of_heap a];rfl
 have n:b.cell? (OJ w 2 1)=some (.slice none 0 0):=by rw[Lib.cell_of_heap a];rfl
 have o:b.cell? (OJ w 2 2)=some (.slice none 0 0):=by rw[Lib.cell_of_heap a];rfl
 have D:b.frozen? (OJ w 2 0)=false:=by simp[World.frozen?,a]
 have E:b.frozen? (OJ w 2 1)=false:=by simp[World.frozen?,a]
 have F:b.frozen? (OJ w 2 2)=false:=by simp[World.frozen?,a]
 clear c d a p q;unfold Ah;go_enter Tryz.func113,Tryz.ntmps113;go_wp2_with fail;exact bodyPost_ret (v:=.tuple #[Ah 2 (.slice sb n3 c3) (.slice kb n4 c4),.bool true]) (by simp[results,Tryz.results113,go_sem,m,n,o,Ah]) rfl ⟨rfl,Ad (Ad (Ad s 2 0 _) 2 1 _) 2 2 _⟩
def Qg1 (s t:List Int) (kv:Value) (N:Nat) (Y:World) (tc ti:Value) (wr:World):Prop :=
 ∃ (i:Nat) (hv:Value),i<=s.length/\ti = .int .i64 (i:Int)/\tc = .bool (decide ((Be s t).take i≠s.take i))/\wr.ownsRow (N+4) 3 1 hv i (Ar ((Be s t).take i))/\wr.heap[N+3]? = some (.cells #[.int .i64 1,hv,kv] 126)/\Below (N+3) Y wr
theorem Pj {s t:List Int} {kv:Value} {N:Nat} {Y wr w3:World} {i:Nat} {hv v':Value} {o:Obj} {cf:Bool} {z:Int} (hB:Below (N+3) Y wr) (hout:wr.heap[N+3]? = some (.cells #[.int .i64 1,hv,kv] 126)) (hown:wr.ownsRow (N+4) 3 1 hv i (Ar ((Be s t).take i))) (hgrow:(wr.alloc o).grownBy w3 hv.ownBlock) (hown':w3.ownsRow (N+4) 3 1 v' (i+1) (Ar ((Be s t).take i++[z]))) (hz:(Be s t).take (i+1)=(Be s t).take i++[z]) (hi:i < s.length) (hc:cf=decide ((Be s t).take (i+1)≠s.take (i+1))):Qg1 s t kv N Y (.bool cf) (.int .i64 ((i:Int)+1)) (w3.setCell (OI (N+3) 1) v'):=by
 have c:N+3 < wr.heap.size:=(Array.getElem?_eq_some_iff.1 hout).1;have b:w3.heap[N+3]? = some (.cells #[.int .i64 1,hv,kv] 126):=Hx o hout rfl hgrow (Bu hown Ou);refine⟨i+1,v',hi,rfl,by rw[hc], ?_, ?_, ?_⟩
 ·rw[hz];exact ownsRow_setCell_other (a:=(OI (N+3) 1)) hown' (Bu hown' (by show N+3 < _;omega)) _
 ·exact(heap_setCell_same w3 (N+3) 1 _ _ v' b).trans rfl
 ·exact(C0 (hB.alloc Ou o) hgrow OD (fun k hk=>Bu hown Ou)).setCell (p:=(OI (N+3) 1)) (by show N+3<=N+3;omega) _
theorem Qdo (s t k l:List Int) (hl:s.length=t.length) (_hsl:s.length<=1048576) (hk:k.length<=1048576) (hk2:l.length<=1048576) (sa ka sb kb:Option Addr) (c1 c2 c3 c4:Nat) (w:World) (_hS:Ac w.heap.size w (.slice sa s.length c1) s) (_hT:Ac w.heap.size w (.slice sb t.length c3) t) (hK:Ac w.heap.size w (.slice ka k.length c2) k) (hL:Ac w.heap.size w (.slice kb l.length c4) l) (hne:k≠l) :
  Calls Tryz.prog 113 #[Ah 1 (.slice sa s.length c1) (.slice ka k.length c2),Ah 1 (.slice sb t.length c3) (.slice kb l.length c4)] w fun e w'=>e = .returned (.tuple #[Ah 2 (.slice none 0 0) (.slice none 0 0),.bool true])/\OH w w':=by
 have P:Hid (s.length=t.length):=hl;clear hl;obtain⟨z,m⟩:∃ Y,w.alloc (.cells #[.int .i64 1,.slice sa s.length c1,.slice ka k.length c2] 126)=Y:=⟨_,rfl⟩;have x:OH w z:=by rw[<- m];exact Ao w _
 have C:z.heap.size=w.heap.size+1:=by rw[<- m];exact World.size_alloc _ _
 have h:z.heap[w.heap.size]? = some (.cells #[.int .i64 1,.slice sa s.length c1,.slice ka k.length c2] 126):=by rw[<- m];exact Ae w _
 obtain⟨o,g⟩:∃ Y,z.alloc (.cells #[.int .i64 1,.slice sb t.length c3,.slice kb l.length c4] 126)=Y:=⟨_,rfl⟩;have y:OH w o:=by rw[<- g];exact Ab x _
 have D:o.heap.size=w.heap.size+2:=by rw[<- g,World.size_alloc];omega
 have i:o.heap[w.heap.size]? = some (.cells #[.int .i64 1,.slice sa s.length c1,.slice ka k.length c2] 126):=by rw[<- g];exact Ak _ h
 have j:o.heap[w.heap.size+1]? = some (.cells #[.int .i64 1,.slice sb t.length c3,.slice kb l.length c4] 126):=by rw[<- g,<- C];exact Ae _ _
 clear h;obtain⟨b,f⟩:∃ Y,o.alloc (.cells #[.int .i64 0,.slice none 0 0,.slice none 0 0] 126)=Y:=⟨_,rfl⟩;have n:OH w b:=by rw[<- f];exact Ab y _
 have O:b.heap.size=w.heap.size+3:=by rw[<- f,World.size_alloc];omega
 have c:b.heap[w.heap.size]? = some (.cells #[.int .i64 1,.slice sa s.length c1,.slice ka k.length c2] 126):=by rw[<- f];exact Ak _ i
 have d:b.heap[w.heap.size+1]? = some (.cells #[.int .i64 1,.slice sb t.length c3,.slice kb l.length c4] 126):=by rw[<- f];exact Ak _ j
 have a:b.heap[w.heap.size+2]? = some (.cells #[.int .i64 0,.slice none 0 0,.slice none 0 0] 126):=by rw[<- f,<- D];exact Ae _ _
 clear i j;have E:b.cell? (OK w 0)=some (.int .i64 1):=by rw[Lib.cell_of_heap c];rfl
 have F:b.cell? (OK w 1)=some (.slice sa s.length c1):=by rw[Lib.cell_of_heap c];rfl
 have G:b.cell? (OK w 2)=some (.slice ka k.length c2):=by rw[Lib.cell_of_heap c];rfl
 have H:b.cell? (OJ w 1 0)=some (.int .i64 1):=by rw[Lib.cell_of_heap d];rfl
 have I:b.cell? (OJ w 1 1)=some (.slice sb t.length c3):=by rw[Lib.cell_of_heap d];rfl
 have J:b.cell? (OJ w 1 2)=some (.slice kb l.length c4):=by rw[Lib.cell_of_heap d];rfl
 have p:b.cell? (OJ w 2 0)=some (.int .i64 0):=by rw[Lib.cell_of_heap a];rfl
 have r:b.cell? (OJ w 2 1)=some (.slice none 0 0):=by rw[Lib.cell_of_heap a];rfl
 have u:b.cell? (OJ w 2 2)=some (.slice none 0 0):=by rw[Lib.cell_of_heap a];rfl
 have K:b.frozen? (OJ w 2 0)=false:=by simp[World.frozen?,a]
 have L:b.frozen? (OJ w 2 1)=false:=by simp[World.frozen?,a]
 have M:b.frozen? (OJ w 2 2)=false:=by simp[World.frozen?,a]
 clear x y;clear c d a;have A:Hid (Ac w.heap.size b (.slice ka k.length c2) k):=hK.below n;have B:Hid (Ac w.heap.size b (.slice kb l.length c4) l):=hL.below n;have N:Hid (decide (k=l)=false):=by rw[Hid];simp[hne]
 clear _hS _hT hK hL hne;unfold Ah;go_enter Tryz.func113,Tryz.ntmps113;go_wp2_with (first|(go_at_call 139;refine(Sj w.heap.size _ _ k l hk hk2 _ A.out B.out).mono ?_;rintro e w' ⟨rfl,q,rfl⟩;rw[N.out]));exact bodyPost_ret (v:=.tuple #[Ah 2 (.slice none 0 0) (.slice none 0 0),.bool true]) (by simp[results,Tryz.results113,go_sem,p,r,u,Ah]) rfl ⟨rfl,Ad (Ad (Ad (B9 _ n) 2 0 _) 2 1 _) 2 2 _⟩
theorem Qdn (s t k l:List Int) (hl:s.length=t.length) (hsl:s.length<=1048576) (hk:k.length<=1048576) (hk2:l.length<=1048576) (sa ka sb kb:Option Addr) (c1 c2 c3 c4:Nat) (w:World) (hS:Ac w.heap.size w (.slice sa s.length c1) s) (hT:Ac w.heap.size w (.slice sb t.length c3) t) (hK:Ac w.heap.size w (.slice ka k.length c2) k) (hL:Ac w.heap.size w (.slice kb l.length c4) l) (he:k=l) :
  Calls Tryz.prog 113 #[Ah 1 (.slice sa s.length c1) (.slice ka k.length c2),Ah 1 (.slice sb t.length c3) (.slice kb l.length c4)] w fun e w' => ∃ N,e = .returned (.tuple #[Ah 1 N (.slice ka k.length c2),.bool (decide (Be s t≠s))])/\Ac w'.heap.size w' N (Be s t)/\Dq w'.heap.size w' N/\OH w w':=by
 have Hl:Hid (s.length=t.length):=hl;clear hl;obtain⟨Y1,M⟩:∃ Y,w.alloc (.cells #[.int .i64 1,.slice sa s.length c1,.slice ka k.length c2] 126)=Y:=⟨_,rfl⟩;have aw:OH w Y1:=by rw[<- M];exact Ao w _
 have az:Y1.heap.size=w.heap.size+1:=by rw[<- M];exact World.size_alloc _ _
 have Q:Y1.heap[w.heap.size]? = some (.cells #[.int .i64 1,.slice sa s.length c1,.slice ka k.length c2] 126):=by rw[<- M];exact Ae w _
 obtain⟨Y2,E⟩:∃ Y,Y1.alloc (.cells #[.int .i64 1,.slice sb t.length c3,.slice kb l.length c4] 126)=Y:=⟨_,rfl⟩;have ax:OH w Y2:=by rw[<- E];exact Ab aw _
 have a1:Y2.heap.size=w.heap.size+2:=by rw[<- E,World.size_alloc];omega
 have R:Y2.heap[w.heap.size]? = some (.cells #[.int .i64 1,.slice sa s.length c1,.slice ka k.length c2] 126):=by rw[<- E];exact Ak _ Q
 have S:Y2.heap[w.heap.size+1]? = some (.cells #[.int .i64 1,.slice sb t.length c3,.slice kb l.length c4] 126):=by rw[<- E,<- az];exact Ae _ _
 clear Q;obtain⟨n,C⟩:∃ Y,Y2.alloc (.cells #[.int .i64 0,.slice none 0 0,.slice none 0 0] 126)=Y:=⟨_,rfl⟩;have F:OH w n:=by rw[<- C];exact Ab ax _
 have a2:n.heap.size=w.heap.size+3:=by rw[<- C,World.size_alloc];omega
 have u:n.heap[w.heap.size]? = some (.cells #[.int .i64 1,.slice sa s.length c1,.slice ka k.length c2] 126):=by rw[<- C];exact Ak _ R
 have z:n.heap[w.heap.size+1]? = some (.cells #[.int .i64 1,.slice sb t.length c3,.slice kb l.length c4] 126):=by rw[<- C];exact Ak _ S
 have r:n.heap[w.heap.size+2]? = some (.cells #[.int .i64 0,.slice none 0 0,.slice none 0 0] 126):=by rw[<- C,<- a1];exact Ae _ _
 clear R S;have ag:n.cell? (OK w 0)=some (.int .i64 1):=by rw[Lib.cell_of_heap u];rfl
 have ah:n.cell? (OK w 1)=some (.slice sa s.length c1):=by rw[Lib.cell_of_heap u];rfl
 have ai:n.cell? (OK w 2)=some (.slice ka k.length c2):=by rw[Lib.cell_of_heap u];rfl
 have aj:n.cell? (OJ w 1 0)=some (.int .i64 1):=by rw[Lib.cell_of_heap z];rfl
 have ak:n.cell? (OJ w 1 1)=some (.slice sb t.length c3):=by rw[Lib.cell_of_heap z];rfl
 have al:n.cell? (OJ w 1 2)=some (.slice kb l.length c4):=by rw[Lib.cell_of_heap z];rfl
 have am:n.cell? (OJ w 2 0)=some (.int .i64 0):=by rw[Lib.cell_of_heap r];rfl
 have an:n.cell? (OJ w 2 1)=some (.slice none 0 0):=by rw[Lib.cell_of_heap r];rfl
 have ao:n.cell? (OJ w 2 2)=some (.slice none 0 0):=by rw[Lib.cell_of_heap r];rfl
 have aq:n.frozen? (OJ w 2 0)=false:=by simp[World.frozen?,r]
 have ar:n.frozen? (OJ w 2 1)=false:=by simp[World.frozen?,r]
 have au:n.frozen? (OJ w 2 2)=false:=by simp[World.frozen?,r]
 clear aw ax;have ac:Hid (Ac w.heap.size n (.slice ka k.length c2) k):=hK.below F;have ad:Hid (Ac w.heap.size n (.slice kb l.length c4) l):=hL.below F;have HD:Hid (decide (k=l)=true):=by rw[Hid];simp[he]
 have ae:Hid (Ac w.heap.size w (.slice sa s.length c1) s):=hS;have af:Hid (Ac w.heap.size w (.slice sb t.length c3) t):=hT;clear hS hT hK hL he;unfold Ah;go_enter Tryz.func113,Tryz.ntmps113;go_wp2_with (first|(go_at_call 139;refine(Sj w.heap.size _ _ k l hk hk2 _ ac.out ad.out).mono ?_;rintro e w' ⟨rfl,q,rfl⟩;rw[HD.out]));have a7:Hid (Ac w.heap.size n (.slice sa s.length c1) s):=ae.out.below F;have a8:Hid (Ac w.heap.size n (.slice sb t.length c3) t):=af.out.below F;have HP:Hid (n.heap[w.heap.size]? = some (.cells #[.int .i64 1,.slice sa s.length c1,.slice ka k.length c2] 126)/\n.heap[w.heap.size+1]? = some (.cells #[.int .i64 1,.slice sb t.length c3,.slice kb l.length c4] 126)/\n.heap[w.heap.size+2]? = some (.cells #[.int .i64 0,.slice none 0 0,.slice none 0 0] 126)):=⟨u,z,r⟩;clear u z r ag ah ai aj ak al am an ao aq ar au ae af ac ad HD hk hk2 M E C az a1;go_loopw [7,8] (fun tc ti wr=>Qg1 s t (.slice ka k.length c2) w.heap.size n tc ti wr) (fun _ ti _=>s.length - (intOf ti).toNat);case atStart =>
  exact⟨0,.slice none 0 0,by omega,rfl,by simp,World.ownsRow_nil _ _ _ _,by rw[<- a2];exact Ae _ _,(B9 _ (Below.refl _ n)).alloc (Nat.le_of_eq a2.symm) _⟩
 case round =>
  obtain⟨i,N,hi,rfl,rfl,H,G,D⟩:=hrel;have HB:Hid (Below (w.heap.size+3) n wr):=D;have d:Hid (wr.heap[w.heap.size+3]? = some (.cells #[.int .i64 1,N,.slice ka k.length c2] 126)):=G;have a:Hid (wr.ownsRow (w.heap.size+4) 3 1 N i (Ar ((Be s t).take i))):=H;have q0:wr.heap[w.heap.size]? = some (.cells #[.int .i64 1,.slice sa s.length c1,.slice ka k.length c2] 126):=(D.block _ Ou).trans HP.out.1;have q1:wr.heap[w.heap.size+1]? = some (.cells #[.int .i64 1,.slice sb t.length c3,.slice kb l.length c4] 126):=(D.block _ Ou).trans HP.out.2.1;have T:wr.heap[w.heap.size+2]? = some (.cells #[.int .i64 0,.slice none 0 0,.slice none 0 0] 126):=(D.block _ Ou).trans HP.out.2.2;have bi:wr.cell? (OK w 1)=some (.slice sa s.length c1):=by rw[Lib.cell_of_heap q0];rfl
  have ba:wr.cell? (OJ w 1 1)=some (.slice sb t.length c3):=by rw[Lib.cell_of_heap q1];rfl
  by_cases hlt:i < s.length
  ·have P:i < t.length:=(by rw[<- Hl.out];exact hlt);obtain⟨ga,oa,rfl,da⟩:∃ g o,sa=some (OI g o)/\wr.cell? (OI g (o+i))=some (.int .i64 s[i]):=by
    obtain⟨a',cp,he,hc⟩:=a7.out;injection he with e1;subst e1;obtain⟨g,o,ha,hg,A⟩:=hc i hlt;exact⟨g,o,ha,(HB.out.cell (p:=(OI g (o+i))) (by show g < _;omega)).trans A⟩
   obtain⟨gb,ob,rfl,db⟩:∃ g o,sb=some (OI g o)/\wr.cell? (OI g (o+i))=some (.int .i64 t[i]):=by
    obtain⟨a',cp,he,hc⟩:=a8.out;injection he with e1;subst e1;obtain⟨g,o,ha,hg,A⟩:=hc i P;exact⟨g,o,ha,(HB.out.cell (p:=(OI g (o+i))) (by show g < _;omega)).trans A⟩
   have J:Hid ((Be s t).take (i+1)=(Be s t).take i++[if s[i]=t[i] then s[i] else 0]):=by
    have h1:i < (Be s t).length:=(by rw[Gi Hl.out];exact hlt);rw[Hid,List.take_succ_eq_append_getElem h1,Lc hlt P]
   have K:Hid (s.take (i+1)=s.take i++[s[i]]):=List.take_succ_eq_append_getElem hlt;obtain⟨x,hx⟩:∃ x,s[i]=x:=⟨_,rfl⟩;obtain⟨y,hy⟩:∃ y,t[i]=y:=⟨_,rfl⟩;rw[hx]at da J K;rw[hy]at db J;clear hx hy H G D q0 q1 T;have bf:(i:Int) < (s.length:Int):=Ou;have bg:(i:Int) < (t.length:Int):=Ou;obtain⟨cf,B⟩:∃ b,Hid (decide ((Be s t).take i≠s.take i)=b):=⟨_,rfl⟩;rw[B.out];obtain⟨L,j,rfl⟩:=Cp a.out;have o1:wr.cell? (OJ w 3 1)=some (.slice L i j):=(by rw[Lib.cell_of_heap d.out];rfl);have bo:∀ o:Obj,(wr.alloc o).cell? (OJ w 3 1)=some (.slice L i j):=fun o=>by rw[Lib.cell_of_heap (Ak o d.out)];rfl
   have be:w.heap.size+3 < wr.heap.size:=(Array.getElem?_eq_some_iff.1 d.out).1;obtain⟨i0,W,X,Z,aa⟩:=Jy;by_cases hxy:x=y
   ·subst hxy;have V:Hid ((Be s t).take (i+1)=(Be s t).take i++[x]):=(by rw[Hid,J.out,if_pos rfl]);have HC:Hid (cf=decide ((Be s t).take (i+1)≠s.take (i+1))):=by
     rw[Hid,V.out,K.out,<- B.out];simp
    go_wp2_with (first|(at_builtin;refine Bm rfl _ _ 124 rfl (w.heap.size+4) 3 i0 (.int .i64 0) Tryz.underlying124 W X Z aa rfl _ i ((Be s t).take i) rfl (a.out.alloc _) (wr.heap.size+1) _ rfl [x] (Ac.new wr [x] 3 1) (by simp only[List.length_cons,List.length_nil];omega) OD ?_;intro v' U h c;obtain⟨a3,O,I⟩:=Cp h;subst I;have f:=Hx _ d.out rfl c (Bu a.out Ou);have ap:U.cell? (OJ w 3 1)=some (.slice L i j):=(by rw[Lib.cell_of_heap f];rfl);have av:U.frozen? (OJ w 3 1)=false:=(by simp[World.frozen?,f])));go_roundw;case rel=>exact Pj HB.out d.out a.out c h V.out hlt HC.out
    case measure=>simp[intOf];omega
   ·have bn:(x != y)=true:=(by simp[hxy]);have V:Hid ((Be s t).take (i+1)=(Be s t).take i++[0]):=(by rw[Hid,J.out,if_neg hxy]);clear hxy;by_cases hx0:x=0
    ·subst hx0;have HC:Hid (cf=decide ((Be s t).take (i+1)≠s.take (i+1))):=by
      rw[Hid,V.out,K.out,<- B.out];simp
     go_wp2_with (first|(at_builtin;refine Bm rfl _ _ 124 rfl (w.heap.size+4) 3 i0 (.int .i64 0) Tryz.underlying124 W X Z aa rfl _ i ((Be s t).take i) rfl (a.out.alloc _) (wr.heap.size+1) _ rfl [0] (Ac.new wr [0] 3 1) (by simp only[List.length_cons,List.length_nil];omega) OD ?_;intro v' U h c;obtain⟨a3,O,I⟩:=Cp h;subst I;have f:=Hx _ d.out rfl c (Bu a.out Ou);have ap:U.cell? (OJ w 3 1)=some (.slice L i j):=(by rw[Lib.cell_of_heap f];rfl);have av:U.frozen? (OJ w 3 1)=false:=(by simp[World.frozen?,f])));go_roundw;case rel=>exact Pj HB.out d.out a.out c h V.out hlt HC.out
     case measure=>simp[intOf];omega
    ·have bh:(x != 0)=true:=(by simp[hx0]);have HC:Hid (true=decide ((Be s t).take (i+1)≠s.take (i+1))):=by
      have h2:¬ (Be s t).take (i+1)=s.take (i+1):=fun e=>by
       rw[V.out,K.out]at e;have e2:=(List.append_inj' e rfl).2;simp at e2;exact hx0 e2.symm
      rw[Hid];simp[h2]
     clear hx0;go_wp2_with (first|(at_builtin;refine Bm rfl _ _ 124 rfl (w.heap.size+4) 3 i0 (.int .i64 0) Tryz.underlying124 W X Z aa rfl _ i ((Be s t).take i) rfl (a.out.alloc _) (wr.heap.size+1) _ rfl [0] (Ac.new wr [0] 3 1) (by simp only[List.length_cons,List.length_nil];omega) OD ?_;intro v' U h c;obtain⟨a3,O,I⟩:=Cp h;subst I;have f:=Hx _ d.out rfl c (Bu a.out Ou);have ap:U.cell? (OJ w 3 1)=some (.slice L i j):=(by rw[Lib.cell_of_heap f];rfl);have av:U.frozen? (OJ w 3 1)=false:=(by simp[World.frozen?,f])));go_roundw;case rel=>exact Pj HB.out d.out a.out c h V.out hlt HC.out
     case measure=>simp[intOf];omega
  ·have ay:i=s.length:=Ou;have HE:Hid (i=s.length):=ay;have ab:Hid ((Be s t).take i=Be s t):=by
    rw[Hid,HE.out,<- Gi Hl.out];exact List.take_length
   have a5:Hid (decide ((Be s t).take i≠s.take i)=decide (Be s t≠s)):=by
    have h2:s.take i=s:=(by rw[HE.out];exact List.take_length);rw[Hid,ab.out,h2]
   have a6:Hid (∀ B',wr.heap.size<=B'->Ac B' wr N (Be s t)):=fun B' hB'=>by
    have h0:i=(Be s t).length:=(by rw[HE.out,Gi Hl.out]);have h1:=a.out;rw[ab.out,h0]at h1;exact Ac.own h1 hB'
   have a9:Hid (Dq wr.heap.size wr N):=Dq.own a.out (Nat.le_refl _);have m:Hid (N.ownBlock≠some (w.heap.size+2)):=Bu a.out Ou;rw[a5.out];obtain⟨cf,B⟩:∃ b,Hid (decide (Be s t≠s)=b):=⟨_,rfl⟩;rw[B.out];obtain⟨L,j,rfl⟩:=Cp a.out;have o0:wr.cell? (OJ w 3 0)=some (.int .i64 1):=(by rw[Lib.cell_of_heap d.out];rfl);have o1:wr.cell? (OJ w 3 1)=some (.slice L i j):=(by rw[Lib.cell_of_heap d.out];rfl);have o2:wr.cell? (OJ w 3 2)=some (.slice ka k.length c2):=(by rw[Lib.cell_of_heap d.out];rfl);have bb:wr.cell? (OJ w 2 0)=some (.int .i64 0):=(by rw[Lib.cell_of_heap T];rfl);have bc:wr.cell? (OJ w 2 1)=some (.slice none 0 0):=(by rw[Lib.cell_of_heap T];rfl);have bd:wr.cell? (OJ w 2 2)=some (.slice none 0 0):=(by rw[Lib.cell_of_heap T];rfl);have bj:wr.frozen? (OJ w 2 0)=false:=(by simp[World.frozen?,T]);have bk:wr.frozen? (OJ w 2 1)=false:=(by simp[World.frozen?,T]);have bl:wr.frozen? (OJ w 2 2)=false:=(by simp[World.frozen?,T]);have bm:¬ (i:Int) < (s.length:Int):=Ou;have a4:Hid (OH w wr):=F.trans (HB.out.mono Ou);clear ay hlt H G D q0 q1 T ba;go_wp2_with fail;refine bodyPost_ret (v:=.tuple #[Ah 1 (.slice L i j) (.slice ka k.length c2),.bool cf]) (by simp[results,Tryz.results113,go_sem,bb,bc,bd,Ah]) rfl ⟨.slice L i j,by rw[<- B.out];simp[Ah], ?_,Dq.keep a9.out (fun k hk=>by rw[Below.heap_setCell _ _ _ _ (by intro e;subst e;exact m.out hk),Below.heap_setCell _ _ _ _ (by intro e;subst e;exact m.out hk),Below.heap_setCell _ _ _ _ (by intro e;subst e;exact m.out hk)]) OB,Ad (Ad (Ad a4.out 2 0 _) 2 1 _) 2 2 _⟩;exact Ac.keep (a6.out _ (Nat.le_refl _)) (fun k hk=>by rw[Below.heap_setCell _ _ _ _ (by intro e;subst e;exact m.out hk),Below.heap_setCell _ _ _ _ (by intro e;subst e;exact m.out hk),Below.heap_setCell _ _ _ _ (by intro e;subst e;exact m.out hk)]) OB
theorem Oy (_c:List Af) (f:Af) (at':Nat) (hat:at' < f.ins.length) (_hil:f.ins.length<=50000) (cv pv sv kv:Value) (ia:Option Addr) (ic:Nat) (st:Int) (hst:st≠1) (w:World) (hI:Ba w.heap.size w (.slice ia f.ins.length ic) f.ins) :
  Calls Tryz.prog 85 #[.agg #[cv],Bp f pv (.slice ia f.ins.length ic),.int .i64 (at':Int),Ah st sv kv] w fun e w'=>(∃ v,e = .returned v/\A9 w'.heap.size w' v .clash)/\OH w w':=by
 obtain⟨d,rfl,l,a⟩:∃ d,ia=some (OI d 0)/\d < w.heap.size/\∀ j,j < 4->w.cell? (OI d (at' * 4+j))=(G9 f.ins[at'])[j]?:=by
  obtain⟨a',cp,P,hc⟩:=hI;injection P with e1;subst e1;exact hc at' hat
 obtain⟨C,q⟩:∃ Y,w.alloc (.cells #[cv] 59)=Y:=⟨_,rfl⟩;have r:OH w C:=by rw[<- q];exact Ao w _
 have L:C.heap.size=w.heap.size+1:=by rw[<- q];exact World.size_alloc _ _
 obtain⟨o,n⟩:∃ Y,C.alloc (.cells #[.string f.name,pv,.int .i64 f.result,.int .i64 f.slots,.slice (some (OI d 0)) f.ins.length ic] 130)=Y:=⟨_,rfl⟩;have s:OH w o:=by rw[<- n];exact Ab r _
 have M:o.heap.size=w.heap.size+2:=by rw[<- n,World.size_alloc];omega
 have Z:o.cell? (OJ w 1 4)=some (.slice (some (OI d 0)) f.ins.length ic):=by rw[<- n];exact Bk C _ _ 4 _ L
 obtain⟨g,i⟩:∃ Y,o.alloc (.cells #[.int .i64 st,sv,kv] 126)=Y:=⟨_,rfl⟩;have t:OH w g:=by rw[<- i];exact Ab s _
 have N:g.heap.size=w.heap.size+3:=by rw[<- i,World.size_alloc];omega
 have z4:g.cell? (OJ w 1 4)=some (.slice (some (OI d 0)) f.ins.length ic):=by rw[<- i];exact((Ao o _).cell (p:=(OJ w 1 4)) (by show w.heap.size+1 < _;omega)).trans Z
 have z:g.cell? (OJ w 2 0)=some (.int .i64 st):=by rw[<- i];exact Bk o _ _ 0 _ M
 obtain⟨g,U,b,W,am,B,r0,r1,r2⟩:∃ Y,g.alloc (.cells #[.int .i64 0,.slice none 0 0,.slice none 0 0] 126)=Y/\OH w Y/\Y.heap.size=w.heap.size+4/\Y.cell? (OJ w 1 4)=some (.slice (some (OI d 0)) f.ins.length ic)/\Y.cell? (OJ w 2 0)=some (.int .i64 st)/\Y.heap[w.heap.size+3]? = some (.cells #[.int .i64 0,.slice none 0 0,.slice none 0 0] 126)/\True/\True :=
  ⟨_,rfl,Ab t _,by rw[World.size_alloc];omega,((Ao g _).cell (p:=(OJ w 1 4)) (by show w.heap.size+1 < _;omega)).trans z4,((Ao g _).cell (p:=(OJ w 2 0)) (by show w.heap.size+2 < _;omega)).trans z,by rw[<- N];exact Ae g _,trivial,trivial⟩
 clear r1 r2 z4 z;rename_i Y3o
 obtain⟨x,X⟩:∃ x,f.ins[at']=x:=⟨_,rfl⟩;rw[X]at a;have Q:=a 0 Ou;have R:=a 1 Ou;have S:=a 2 Ou;have T:=a 3 Ou;simp only[G9,Nat.add_zero,List.getElem?_cons_zero,List.getElem?_cons_succ]at Q R S T;have j0:=(b.cell (p:=(OI d (at' * 4))) l).trans Q;have j1:=(b.cell (p:=(OI d (at' * 4+1))) l).trans R;have j2:=(b.cell (p:=(OI d (at' * 4+2))) l).trans S;have j3:=(b.cell (p:=(OI d (at' * 4+3))) l).trans T;obtain⟨m,k⟩:∃ Y,g.alloc (.cells #[.int .i64 x.op,.int .i64 x.a,.int .i64 x.n,.string x.text] 107)=Y:=⟨_,rfl⟩;have u:OH w m:=by rw[<- k];exact Ab b _
 have O:m.heap.size=w.heap.size+5:=by rw[<- k,World.size_alloc];omega
 have A:m.cell? (OJ w 2 0)=some (.int .i64 st):=by rw[<- k];exact((Ao g _).cell (p:=(OJ w 2 0)) (by show w.heap.size+2 < _;omega)).trans B
 have y:m.heap[w.heap.size+3]? = some (.cells #[.int .i64 0,.slice none 0 0,.slice none 0 0] 126):=by rw[<- k,Below.heap_alloc _ _ _ Ou];exact r0
 obtain⟨c,h⟩:∃ Y,m.alloc (.cells #[.int .i64 0,.slice none 0 0,.slice none 0 0] 126)=Y:=⟨_,rfl⟩;have K:OH w c:=by rw[<- h];exact Ab u _
 have ak:c.heap.size=w.heap.size+6:=by rw[<- h,World.size_alloc];omega
 have al:c.cell? (OJ w 2 0)=some (.int .i64 st):=by rw[<- h];exact((Ao m _).cell (p:=(OJ w 2 0)) (by show w.heap.size+2 < _;omega)).trans A
 have G:c.heap[w.heap.size+3]? = some (.cells #[.int .i64 0,.slice none 0 0,.slice none 0 0] 126):=by rw[<- h,Below.heap_alloc _ _ _ Ou];exact y
 have F:c.heap[w.heap.size+5]? = some (.cells #[.int .i64 0,.slice none 0 0,.slice none 0 0] 126):=by rw[<- h,<- O];exact Ae m _
 have aa:c.cell? (OJ w 5 0)=some (.int .i64 0):=by rw[Lib.cell_of_heap F];rfl
 have ab:c.cell? (OJ w 5 1)=some (.slice none 0 0):=by rw[Lib.cell_of_heap F];rfl
 have ac:c.cell? (OJ w 5 2)=some (.slice none 0 0):=by rw[Lib.cell_of_heap F];rfl
 have E:∀ j,c.frozen? (OJ w 5 j)=false:=fun j=>by simp[World.frozen?,F]
 have ag:=E 0;have ah:=E 1;have ai:=E 2;have H:c.cell? (OJ w 3 0)=some (.int .i64 0):=by rw[Lib.cell_of_heap G];rfl
 have I:c.cell? (OJ w 3 1)=some (.slice none 0 0):=by rw[Lib.cell_of_heap G];rfl
 have J:c.cell? (OJ w 3 2)=some (.slice none 0 0):=by rw[Lib.cell_of_heap G];rfl
 have D:∀ j,c.frozen? (OJ w 3 j)=false:=fun j=>by simp[World.frozen?,G]
 have ad:=D 0;have ae:=D 1;have af:=D 2;clear D r s t b u y r0 E Q R S T a X Z;have aj:(st != 1)=true:=by simp[hst]
 have V:(at':Int) < (f.ins.length:Int):=Ou
 clear hst;unfold Bp Ah;go_enter Tryz.func85,Tryz.ntmps85;go_wp2_with fail;exact bodyPost_ret (v:=Ah 2 (.slice none 0 0) (.slice none 0 0)) (by simp[results,Tryz.results85,go_sem,H,I,J,Ah]) rfl ⟨⟨_,rfl,rfl⟩,Ad (Ad (Ad (Ad (Ad (Ad K 5 0 _) 5 1 _) 5 2 _) 3 0 _) 3 1 _) 3 2 _⟩
end Go.Proofs.YtahibkjkpmdhgaaGreatDoor
