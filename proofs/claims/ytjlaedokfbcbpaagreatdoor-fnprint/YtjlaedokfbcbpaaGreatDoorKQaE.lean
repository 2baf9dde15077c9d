import Derived.Test.YtjlaedokfbcbpaaGreatDoorKQaA
set_option maxRecDepth 100000
set_option maxHeartbeats 2000000
namespace Go.Proofs.YtjlaedokfbcbpaaGreatDoor
open Go.RowKit Proofs.Tryz
variable {ts:List (Ab × Nat)} {g:Nat} {a:Option Addr} {c E i j:Nat} {w W W2:World}
theorem Uc {w:World} {A B e size n:Nat} {v:Value} {xs:List Value} (h:w.ownsRow B e size v n xs) (hA:A<=B):w.ownsRow A e size v n xs:=by
 obtain⟨d,c⟩:=h;refine⟨d, ?_⟩;rcases c with c|⟨g,a,b,rfl,f,r⟩
 ·exact .inl c
 ·exact .inr ⟨g,a,b,rfl,Nat.le_trans hA f,r⟩
theorem Zp {w:World} {B e size n:Nat} {v:Value} {xs:List Value} (h:w.ownsRow B e size v n xs):∃ a b,v = .slice a n b:=by
 rcases h.2 with⟨rfl,d⟩|⟨g,b,c,rfl,_⟩
 ·exact⟨none,0,by rw[d]⟩
 ·exact⟨_,_,rfl⟩
def Qhb (w:World) (ao:Option Addr) (m:Nat) (news:List Value):Prop:=0 < m->∃ ad,ao=some ad/\∀ j u,news[j]? = some u->w.cell? (ad.add j)=some u
theorem Wi {P:Program} {w:World} (base:Nat) (t ty e:TypeId) (i:TypeInfo) (size:Nat) (ht:P.underlying t=some (.slice e)) (hi:P.info? e=some i) (v:Value) (n:Nat) (xs:List Value) (hown:w.ownsRow base e size v n xs) (ao:Option Addr) (c:Nat) :
  (Builtin.append_ #[t,t] ty #[v,.slice ao 0 c]).run P w = .ok v w:=by
 rcases hown.2 with⟨rfl,rfl⟩|⟨g,b,d,rfl,_,_,a,_⟩
 ·cases ao <;> simp[Builtin.append_,run_underlying ht,sizeOf,typeInfo,hi,Builtin.lenOf,Builtin.firstCells,loadCells,loadCellsFrom]
 ·cases ao <;> simp[Builtin.append_,run_underlying ht,sizeOf,typeInfo,hi,Builtin.lenOf,Builtin.firstCells,a,storeCells,loadCells,loadCellsFrom]
theorem Ng {P:Program} {w:World} (base:Nat) (t ty e:TypeId) (i:TypeInfo) (z:Value) (size bytes:Nat) (ht:P.underlying t=some (.slice e)) (hi:P.info? e=some i) (hz:i.zero=some z) (hsize:i.size=size) (hby:i.bytes=bytes) (hzs:z.cells.size=size) (hs0:0 < size)
  (v:Value) (n:Nat) (xs:List Value) (hown:w.ownsRow base e size v n xs) (ao:Option Addr) (m c:Nat) (news:List Value) (hlen:news.length=m * size) (hsrc:Qhb w ao m news) (h1c:∀ u ∈ news,u.oneCell'=true) (b1:n+m<=maxLen) (b2:(n+m) * bytes<=140737488355328) (hbase:base<=w.heap.size) :
  ∃ v' w',(Builtin.append_ #[t,t] ty #[v,.slice ao m c]).run P w = .ok v' w'/\w'.ownsRow base e size v' (n+m) (xs++news)/\w.grownBy w' v.ownBlock/\(v'.ownBlock=v.ownBlock\/v'.ownBlock=some w.heap.size):=by
 by_cases h0:m=0
 ·subst h0;have j:news=[]:=List.eq_nil_of_length_eq_zero OC;subst j;refine⟨v,w,Wi base t ty e i size ht hi v n _ hown ao c, ?_,⟨rfl,rfl,rfl,Nat.le_refl _,fun _ _ _=>rfl⟩,.inl rfl⟩;simpa using hown
 ·obtain⟨a,rfl,h⟩:=hsrc OC;obtain⟨v',w',b,d,f,_,g⟩:=run_append_own_at (P:=P) (w:=w) base t ty e i z size bytes ht hi hz hsize hby hzs hs0 v n xs hown a m c news hlen h h1c b1 b2 hbase;exact⟨v',w',b,d,f,g⟩
theorem Tryz.infoBranchP : (prog.info? 86).map (fun i=>(i.zero,i.size,i.bytes))=some (some .nilIface,1,16):=OE
def Et (B:Nat) (W:World) (va:Option Addr) (vc:Nat) (l:List Aa):Prop :=
 ∃ us,W.ownsRow B 86 1 (.slice va l.length vc) l.length us/\An (fun b=>B<=b/\b < W.heap.size/\(Value.slice va l.length vc).ownBlock≠some b) W l us
theorem Et.nil (B:Nat) (W:World):Et B W none 0 []:=⟨[],⟨rfl,.inl ⟨rfl,rfl⟩⟩,by rw[An]⟩
theorem Et.fr {B:Nat} {va:Option Addr} {vc:Nat} {l:List Aa} (h:Et B W va vc l) (hF:Bl g W W2) (hB:g < B):Et B W2 va vc l:=by
 obtain⟨us,a,c⟩:=h;exact⟨us,hF.own a hB,An.below (fun b hb=>⟨hb.1,Nat.lt_of_lt_of_le hb.2.1 hF.size,hb.2.2⟩) (fun b hb=>hF.keep b hb.2.1 OC) l us c⟩
theorem Et.mono {B C:Nat} {va:Option Addr} {vc:Nat} {l:List Aa} (h:Et B W va vc l) (hC:C<=B):Et C W va vc l:=by
 obtain⟨us,a,c⟩:=h;exact⟨us,Uc a hC,An.below (fun b hb=>⟨by omega,hb.2⟩) (fun b hb=>rfl) l us c⟩
theorem Et.set {B k o:Nat} {va:Option Addr} {vc:Nat} {l:List Aa} (h:Et B W va vc l) (hk:k < B) (v:Value):Et B (W.setCell (OK k o) v) va vc l:=by
 obtain⟨us,a,c⟩:=h;exact⟨us,ownsRow_setCell_below a (by simpa using hk) _,An.below (fun b hb=>⟨hb.1,by simpa[World.setCell]using hb.2.1,hb.2.2⟩) (fun b hb=>Below.heap_setCell _ _ _ _ OJ) l us c⟩
theorem Et.blk {B:Nat} {va:Option Addr} {vc:Nat} {l:List Aa} (h:Et B W va vc l) {k:Nat} (hk:(Value.slice va l.length vc).ownBlock=some k):k < W.heap.size/\B<=k:=by
 obtain⟨us,f,_⟩:=h;rcases f.2 with⟨a,_⟩|⟨b,c,d,a,g,i,_⟩
 ·rw[a]at hk;simp[Value.ownBlock]at hk
 ·rw[a]at hk;simp[Value.ownBlock]at hk;subst hk;exact⟨(Array.getElem?_eq_some_iff.1 i).1,g⟩
theorem Et.sl {B:Nat} {va:Option Addr} {vc:Nat} {l:List Aa} (h:Et B W va vc l):∃ us,us.length=l.length/\Bk (fun b=>B<=b/\b < W.heap.size) W (.slice va l.length vc) us.length us/\Hq B W l us:=by
 obtain⟨us,g,i⟩:=h;have a:=An.len l us i;refine⟨us,a, ?_,An.below (fun b c=>⟨c.1,c.2.1⟩) (fun b c=>rfl) l us i⟩;rcases g.2 with⟨d,q⟩|⟨b,k,m,d,c,o,f⟩
 ·injection d with e1 e2 e3;refine⟨va,vc,by rw[a],fun j u hj => ?_⟩;have:us=[]:=List.eq_nil_of_length_eq_zero OC;rw[this]at hj;simp at hj
 ·injection d with e1 e2 e3;refine⟨va,vc,by rw[a],fun j u hj=>⟨b,e1,⟨c,(Array.getElem?_eq_some_iff.1 o).1⟩, ?_⟩⟩;have p:=(List.getElem?_eq_some_iff.1 hj).1;subst e1;subst e3;have n:=g.cellAt j OC;rw[n];exact hj
theorem Qc3 {B:Nat} {va:Option Addr} {vc:Nat} {l:List Aa} (x:List UInt8) (h:Et B W va vc l) (hl:l.length<=100000):Ck B W (Co 7 0 0 x l) (.iface 183 (.agg #[.string (Aj x),.slice va l.length vc])):=by
 obtain⟨us,c,a,b⟩:=h.sl;exact Eh ⟨7,0,0,0,Aj x,(l.length:Int)⟩ l us _ OF OF ⟨_,a,rfl⟩ b OC
theorem Qjs {B:Nat} {va:Option Addr} {vc:Nat} {l:List Aa} (o:Int) (h:Et B W va vc l) (hl:l.length<=100000):Ck B W (Co 8 o 0 [] l) (.iface 188 (.agg #[.int .i64 o,.slice va l.length vc])):=by
 obtain⟨us,c,a,b⟩:=h.sl;exact Eh ⟨8,o,0,0,Aj [],(l.length:Int)⟩ l us _ OF OF ⟨_,a,rfl⟩ b OC
theorem Mb {B:Nat} {va:Option Addr} {vc:Nat} {l:List Aa} (h:Et B W va vc l) (hl:l.length<=100000):Ck B W (Co 21 0 0 [] l) (.iface 51 (.agg #[.slice va l.length vc])):=by
 obtain⟨us,c,a,b⟩:=h.sl;exact Eh ⟨21,0,0,0,Aj [],(l.length:Int)⟩ l us _ OF OF ⟨_,a,rfl⟩ b OC
theorem Et.grown {B C:Nat} {va a':Option Addr} {vc c':Nat} {l:List Aa} {t:Aa} {ty:TypeId} {x:Value} {us:List Value} (hr:An (fun b=>B<=b/\b < W.heap.size/\(Value.slice va l.length vc).ownBlock≠some b) W l us) (hu:Ck C W t (.iface ty x)) (hC:B<=C) (hk:∀ k,(Value.slice va l.length vc).ownBlock=some k->k < C) (ho:W2.ownsRow B 86 1 (.slice a' (l++[t]).length c') (l++[t]).length (us++[.iface ty x])) (hg:W.grownBy W2 (Value.slice va l.length vc).ownBlock) (a:(Value.slice a' (l++[t]).length c').ownBlock=(Value.slice va l.length vc).ownBlock\/(Value.slice a' (l++[t]).length c').ownBlock=some W.heap.size):Et B W2 a' c' (l++[t]):=by
 refine⟨_,ho,An.app _ _ _ _ ?_ ?_⟩
 ·refine An.below (fun b h=>⟨h.1,Nat.lt_of_lt_of_le h.2.1 hg.size, ?_⟩) (fun b h=>hg.block b h.2.1 (fun e=>h.2.2 e.symm)) l us hr;rcases a with a|a
  ·rw[a];exact h.2.2
  ·rw[a];intro e;injection e with e;omega
 ·rw[An];refine⟨_,[],rfl, ?_,by rw[An]⟩;refine Ba.below (fun b h=>⟨by omega,Nat.lt_of_lt_of_le h.2 hg.size, ?_⟩) (fun b h=>hg.block b h.2 (fun e=>by have:=hk b e.symm;omega)) t _ hu;rcases a with a|a
  ·rw[a];intro e;have:=hk b e;omega
  ·rw[a];intro e;injection e with e;omega
theorem DdQaEx106 {P:Prop} (h:P:=by
 rw[m.block k OB (fun e => ?_)]
 ·exact f.block k hk2
 ·rcases F.2 with⟨H,_⟩|⟨b,O,Q,H,q,_⟩
  ·rw[H]at e;simp[Value.ownBlock]at e
  ·rw[H]at e;simp[Value.ownBlock]at e;omega
 ):P:=h
theorem Qas (T:TypeId) {B C vc:Nat} {va:Option Addr} {l:List Aa} {t:Aa} {ty:TypeId} {x:Value} (hK:Et B W va vc l) (G:Ck C W t (.iface ty x)) (hC:B<=C) (hk:∀ k,(Value.slice va l.length vc).ownBlock=some k->k < C) (hBW:B<=W.heap.size) (hl:l.length+1<=1000000) (hgB:g < B) (hgW:g < W.heap.size) :
  ∃ o p w',(Builtin.append_ #[49,49] T #[.slice va l.length vc,.slice (some (OK W.heap.size 0)) 1 1]).run prog (W.alloc (.cells #[.iface ty x] 86)) = .ok (.slice o (l++[t]).length p) w'/\Et B w' o p (l++[t])/\(∀ V,Bl g V W->V.heap.size<=B->Bl g V w')/\(∀ ts a c E i,Cz ts g a c E i W->Cz ts g a c E i w')/\(W.heap.size<=w'.heap.size/\∀ k,k < B->k < W.heap.size->w'.heap[k]? = W.heap[k]?):=by
 obtain⟨us,F,R⟩:=hK;obtain⟨S,I,L,M,N⟩:=info_parts Tryz.infoBranchP;have f:Below W.heap.size W (W.alloc (.cells #[.iface ty x] 86)):=OP _ _;have v:=K5 F f;have s:Qhb (W.alloc (.cells #[.iface ty x] 86)) (some (OK W.heap.size 0)) 1 [.iface ty x]:=fun _=>⟨_,rfl,fun j u hj=>by
  match j,hj with
  | 0,hj=>simp at hj;subst hj;exact Qw W #[.iface ty x] 86 0 _ rfl⟩
 obtain⟨v',w',D,y,m,A⟩:=Ng (P:=prog) (w:=W.alloc (.cells #[.iface ty x] 86)) B 49 T 86 S .nilIface 1 16 underlying49 I L M N rfl OD _ _ _ v (some (OK W.heap.size 0)) 1 1 [.iface ty x] rfl s (by intro u G;simp at G;subst G;rfl) OI OC OB;obtain⟨o,p,K⟩:=Zp y;have r:(l++[t]).length=l.length+1:=by simp
 rw[K]at y A D;have J:Et B w' o p (l++[t]):=by
  refine Et.grown (W:=W.alloc (.cells #[.iface ty x] 86)) (us:=us) (C:=C) ?_ ?_ hC hk (by rw[r];exact y) m (by rw[r];exact A)
  ·exact An.below (fun b q=>⟨q.1,Nat.lt_of_lt_of_le q.2.1 f.size,q.2.2⟩) (fun b q=>f.block b q.2.1) l us R
  ·exact Ba.below (fun b q=>⟨q.1,Nat.lt_of_lt_of_le q.2 f.size⟩) (fun b q=>f.block b q.2) t _ G
 have d:∀ k,k < B->k < W.heap.size->w'.heap[k]? = W.heap[k]?:=fun k hk1 hk2=>by
  exact DdQaEx106
 exact⟨o,p,w',by rw[r];exact D,J,fun V hF hV=>⟨(m.os.trans f.os).trans hF.os,(m.tape.trans f.tape).trans hF.tape,(m.output.trans f.output).trans hF.output,Nat.le_trans hF.size (Nat.le_trans f.size m.size),fun k hk1 hk2=>(d k OC (Nat.lt_of_lt_of_le hk1 hF.size)).trans (hF.keep k hk1 hk2)⟩,fun ts a c E i hP=>⟨(d g hgB hgW).trans hP.blk,hP.tks.keep fun k hk=>d k OC OC,hP.le,hP.len,hP.cap⟩,Nat.le_trans f.size m.size,d⟩
theorem Ql1 {ops:Array Oper} {rest:List Oper} {o:Oper} {A:Act} {Q:Exit->Act->World->Prop} (hgd:o.guard=none) (s' y:Operand)
  (ho:o.op = .call { callee:=.builtin .append,args := #[s',y],argTypes := #[49,49] }) {B C vc n:Nat} {va:Option Addr} {l:List Aa} {t:Aa} {ty:TypeId} {x:Value} (hK:Et B W va vc l) (hs:A.eval s' = .slice va n vc) (hn:l.length=n) (hy:A.eval y = .slice (some (OK W.heap.size 0)) 1 1) (hu:Ck C W t (.iface ty x)) (hC:B<=C) (hk:∀ k,(Value.slice va l.length vc).ownBlock=some k->k < C) (hBW:B<=W.heap.size) (hl:n+1<=1000000) (hgB:g < B) (hgW:g < W.heap.size)
  (h:∀ b d w',Et B w' b d (l++[t])->(∀ V,Bl g V W->V.heap.size<=B->Bl g V w')->(∀ ts a c E i,Cz ts g a c E i W->Cz ts g a c E i w')->(W.heap.size<=w'.heap.size/\∀ k,k < B->k < W.heap.size->w'.heap[k]? = W.heap[k]?)->wpList prog ops Q rest (A.put o.dst (.slice b (l++[t]).length d)) w') :
  wpList prog ops Q (o::rest) A (W.alloc (.cells #[.iface ty x] 86)):=by
 subst hn;obtain⟨b,d,w',q,f,j,m,p⟩:=Qas (g:=g) o.type hK hu hC hk hBW hl hgB hgW;refine wpList_plain hgd fun K hK2 => ?_
 unfold Oper.wp execOp;simp only[ho,resolve,invoke,builtin,Sem.run_bind,Sem.run_pure,Result.andThen_ok,List.map_toArray,List.map_cons,List.map_nil,hs,hy,q];exact hK2 _ _ (h b d w' f j m p)
theorem X3 {ops:Array Oper} {o:Oper} {A:Act} {K:Act->World->Prop} {Q:Exit->Act->World->Prop} {EE:Prop} (hg:o.guard=none) (s' y:Operand)
  (hop:o.op=Op.call { callee:=Callee.builtin Builtin.append,args := #[s',y],argTypes := #[49,49] }) {B C vc:Nat} {va:Option Addr} {l:List Aa} {t:Aa} {ty:TypeId} {x:Value} (hK:Et B W va vc l) (hu:Ck C W t (.iface ty x)) (hC:B<=C) (hk:∀ k,(Value.slice va l.length vc).ownBlock=some k->k < C) (hBW:B<=W.heap.size) (hl:l.length+1<=1000000) (hgB:g < B) (hgW:g < W.heap.size) (hs:A.eval s' = .slice va l.length vc) (hy:A.eval y = .slice (some (OK W.heap.size 0)) 1 1)
  (hK2:∀ b d w',Et B w' b d (l++[t])->(∀ V,Bl g V W->V.heap.size<=B->Bl g V w')->(∀ ts a c E i,Cz ts g a c E i W->Cz ts g a c E i w')->(W.heap.size<=w'.heap.size/\∀ k,k < B->k < W.heap.size->w'.heap[k]? = W.heap[k]?)->K (A.put o.dst (.slice b (l++[t]).length d)) w') :
  if Region.wanted o (yielded ops A.tmps)=true then Oper.wp prog o A (W.alloc (.cells #[.iface ty x] 86)) K Q else EE:=by
 have p:Region.wanted o (yielded ops A.tmps)=true:=by simp[Region.wanted,hg]
 rw[if_pos p];obtain⟨b,d,w',n,f,h,j,m⟩:=Qas (g:=g) o.type hK hu hC hk hBW hl hgB hgW;unfold Oper.wp execOp;simp only[hop,resolve,invoke,builtin,Sem.run_bind,Sem.run_pure,Result.andThen_ok,List.map_toArray,List.map_cons,List.map_nil,hs,hy,n];exact hK2 b d w' f h j m
def Qbo (ts:List (Ab × Nat)) (g:Nat) (a:Option Addr) (c E:Nat) (p:List Aa × Nat) (w:World) (e:Ending) (w':World):Prop := ∃ va vc,e = .returned (.slice va p.1.length vc)/\Et w.heap.size w' va vc p.1/\B2 ts g a c E p.2 w w'
theorem Qji {n:Nat} (M:∀ m,m<=n->Qhd ts g a c E m) (K:Nat) (hK3:K<=3) (r:List Aa × Nat) (d:Hn ts (n+1) K i=some (.ok r)) (hB:Eg g w) (hP:Cz ts g a c E i w) :
  Calls prog 207 #[.pointer (some (OK g 0)),.int .i64 (K:Int)] w (Qbo ts g a c E r w):=by
 have h:B2 ts g a c E i w w:=⟨hP,Bl.refl _ _⟩;have o:=hP.lt;have f:=Et.nil w.heap.size w;rw[Hn]at d;replace d:=K6 d;obtain⟨h1,d⟩:=d;replace d:=Ai d;obtain⟨q,R,d⟩:=d;replace d:=K6 d;obtain⟨h5,d⟩:=d;simp only[Option.some.injEq,Except.ok.injEq]at d;subst d;have O:Hid (Gy ts n K 0 [] (i+1)=some (.ok q)):=R;clear R;go_enter func207,ntmps207;go_wp2_with (first|(go_at_call 91;refine(Dz _ OG h.1).mono ?_;rintro e I ⟨rfl,b⟩;replace f:=f.fr b.2 o;replace h:=h.to b;clear b));go_loopw [5,10,6] (fun ov kv _ wr => ∃ (m k:Nat) (us:List Aa) (p:Nat) (F:Option Addr) (G:Nat),m<=n/\k<=K/\ov = .slice F us.length G/\kv = .int .i64 (k:Int)/\Et w.heap.size wr F G us/\B2 ts g a c E p w wr/\Gy ts m K k us p=some (.ok q)/\us.length=k) (fun _ kv _ _=>K+1 - (intOf kv).toNat);case atStart=>exact⟨n,0,[],_,_,_,Nat.le_refl _,by omega,rfl,rfl,Et.nil _ _,h,O.out,rfl⟩
 case round =>
  clear h f O;obtain⟨m,k,us,p,F,G,hm,aa,rfl,rfl,f,h,d,D⟩:=hrel;have H:Hid (us.length=k):=D;obtain⟨m,rfl⟩:∃ m',m=m'+1:=by
   cases m with
   | zero=>simp[Gy]at d
   | succ m=>exact⟨m,rfl⟩
  rw[Gy]at d;have ab:us.length+1<=1000000:=OC
  have M:=M m OC;clear D;by_cases hgo:k < K
  ·rw[if_pos hgo]at d;have B:(k:Int) < (K:Int):=OC;have ac:wrap64 ((k:Int)+1)=(k:Int)+1:=(by rw[wrap64];omega);replace d:=Ai d;obtain⟨s,t,d⟩:=d;replace d:=Ai d;obtain⟨T,Y,d⟩:=d;obtain⟨S,rfl⟩:∃ S,S=s.2:=⟨_,rfl⟩;have Z:(0 < k/\Bq ts 5 [44] p=true/\s.2=p+1)\/(¬ 0 < k/\s.2=p):=by
    by_cases u:0 < k
    ·rw[if_pos u]at t;unfold Kd at t;split at t
     ·rename_i P;simp at t;exact .inl ⟨u,P,by rw[<- t]⟩
     ·simp at t
    ·rw[if_neg u]at t;simp at t;exact .inr ⟨u,by rw[<- t]⟩
   clear t;rcases Z with⟨u,P,e⟩|⟨u,e⟩
   all_goals
    rw[e]at Y;first|have J:(0:Int) < (k:Int):=OC|have J:¬ (0:Int) < (k:Int):=OC
    go_wp2_with (first|(go_at_call 91;refine(Dz _ OG h.1).mono ?_;rintro e I ⟨rfl,b⟩;replace f:=f.fr b.2 o;replace h:=h.to b;clear b)|(go_at_call 157;refine(M _ _ _ OG (hB.fr h.2) h.1).mono ?_;rintro e I ⟨ty,y,rfl,Q,b⟩;have L:=h.2.size;have N:=(fun k (hk:(Value.slice F us.length G).ownBlock=some k)=>(f.blk hk).1);replace f:=f.fr b.2 o;replace h:=h.to b;clear b)|(at_builtin;refine Ql1 (g:=g) (l:=us) rfl _ _ rfl f rfl rfl rfl Q L N (by have:=h.2.size;omega) OC o (Nat.lt_of_lt_of_le o h.2.size) ?_;intro V X U x v z C;have A:B2 ts g a c E _ w U:=⟨z _ _ _ _ _ h.1,v _ h.2 ON⟩;replace h:=A;clear A v z C f Q));exact⟨⟨m,k+1,us++[T.1],T.2,V,X,by omega,by omega,by simp,by simp,x,h,d,by rw[List.length_append,H.out];rfl⟩,by simp[intOf];omega⟩
  ·rw[if_neg hgo,Option.some.injEq,Except.ok.injEq]at d;subst d;have B:¬ (k:Int) < (K:Int):=OC;go_wp2_with (first|(go_at_call 91;refine(Dz _ OG h.1).mono ?_;rintro e I ⟨rfl,b⟩;replace f:=f.fr b.2 o;replace h:=h.to b;clear b));go_ret;exact⟨_,_,rfl,f,h⟩
variable {ts:List (Ab × Nat)} {g:Nat} {a:Option Addr} {c E i j:Nat} {w W W2:World}
structure N6 (ts:List (Ab × Nat)) (g:Nat) (a:Option Addr) (c E:Nat) (w:World) (X:ByteArray) (p:Nat) (W:World) (va:Option Addr) (vc:Nat) (l:List Aa):Prop where
 T:B2 ts g a c E p w W
 res:W.heap[w.heap.size]? = some (.cells #[.string ⟨#[]⟩,.slice none 0 0] 183)
 cal:W.heap[w.heap.size+1]? = some (.cells #[.string X,.slice va l.length vc] 183)
 K:Et (w.heap.size+2) W va vc l
 gw:g < w.heap.size
variable {X:ByteArray} {p p2:Nat} {va:Option Addr} {vc:Nat} {l:List Aa}
theorem N6.to (h:N6 ts g a c E w X p W va vc l) (hT:B2 ts g a c E p2 W W2):N6 ts g a c E w X p2 W2 va vc l:=by
 have f:=h.gw;have b:=(Array.getElem?_eq_some_iff.1 h.res).1;have d:=(Array.getElem?_eq_some_iff.1 h.cal).1;exact⟨h.T.to hT,(hT.2.keep _ b OC).trans h.res,(hT.2.keep _ d OC).trans h.cal,h.K.fr hT.2 OC,f⟩
theorem N6.cells (h:N6 ts g a c E w X p W va vc l):W.cell? (OK w.heap.size 0)=some (.string ⟨#[]⟩)/\W.cell? (OK w.heap.size 1)=some (.slice none 0 0)/\W.cell? (OK (w.heap.size+1) 0)=some (.string X)/\W.cell? (OK (w.heap.size+1) 1)=some (.slice va l.length vc)/\(∀ k,W.frozen? (OK w.heap.size k)=false)/\∀ k,W.frozen? (OK (w.heap.size+1) k)=false:=by
 have b:=h.res;have d:=h.cal;refine⟨?_, ?_, ?_, ?_,fun k => ?_,fun k => ?_⟩
 ·rw[Lib.cell_of_heap b];rfl
 ·rw[Lib.cell_of_heap b];rfl
 ·rw[Lib.cell_of_heap d];rfl
 ·rw[Lib.cell_of_heap d];rfl
 ·simp[World.frozen?,b]
 ·simp[World.frozen?,d]
def K9 (g n:Nat) (W:World):Nat:=match W.cell? (OK g 1) with
 | some (.int _ k)=>n+1 - k.toNat
 | _=>0
theorem Cz.left (h:Cz ts g a c E p W):K9 g ts.length W=ts.length+1 - p:=by simp[K9,h.cells.2.1]
theorem N6.start (hP:Cz ts g a c E p w) (X:ByteArray):N6 ts g a c E w X p ((w.alloc (.cells #[.string ⟨#[]⟩,.slice none 0 0] 183)).alloc (.cells #[.string X,.slice none 0 0] 183)) none 0 []:=by
 have f:Below w.heap.size w ((w.alloc (.cells #[.string ⟨#[]⟩,.slice none 0 0] 183)).alloc (.cells #[.string X,.slice none 0 0] 183)):=(OP _ _).alloc OF _;have h:=heap_alloc_new w (.cells #[.string ⟨#[]⟩,.slice none 0 0] 183);have d:=heap_alloc_new (w.alloc (.cells #[.string ⟨#[]⟩,.slice none 0 0] 183)) (.cells #[.string X,.slice none 0 0] 183);rw[World.size_alloc]at d;have b:Below (w.alloc (.cells #[.string ⟨#[]⟩,.slice none 0 0] 183)).heap.size (w.alloc (.cells #[.string ⟨#[]⟩,.slice none 0 0] 183)) ((w.alloc (.cells #[.string ⟨#[]⟩,.slice none 0 0] 183)).alloc (.cells #[.string X,.slice none 0 0] 183)):=OP _ _;exact⟨⟨hP.below f,Bl.of_below f⟩,(b.block _ OF).trans h,d,Et.nil _ _,hP.lt⟩
theorem N6.store {a':Option Addr} {c':Nat} {l':List Aa} (h:N6 ts g a c E w X p W va vc l) (hK:Et (w.heap.size+2) W2 a' c' l') (hFg:∀ V,Bl g V W->V.heap.size<=w.heap.size+2->Bl g V W2) (hPg:∀ ts a c E i,Cz ts g a c E i W->Cz ts g a c E i W2) (hk:W.heap.size<=W2.heap.size/\∀ k,k < w.heap.size+2->k < W.heap.size->W2.heap[k]? = W.heap[k]?):N6 ts g a c E w X p (W2.setCell (OK (w.heap.size+1) 1) (.slice a' l'.length c')) a' c' l':=by
 have n:=h.gw;have f:=(Array.getElem?_eq_some_iff.1 h.res).1;have m:=(Array.getElem?_eq_some_iff.1 h.cal).1;have b:=hFg w h.T.2 OC;have d:=hPg _ _ _ _ _ h.T.1;refine⟨⟨⟨?_,d.tks.keep fun j hj=>Below.heap_setCell _ _ _ _ OJ,d.le,d.len,d.cap⟩,⟨b.os,b.tape,b.output,by simpa[World.setCell]using b.size,fun j hj hjg=>(Below.heap_setCell _ _ _ _ OJ).trans (b.keep j hj hjg)⟩⟩, ?_, ?_,hK.set OC _,n⟩
 ·rw[Below.heap_setCell _ _ _ _ OJ];exact d.blk
 ·rw[Below.heap_setCell _ _ _ _ OJ,hk.2 _ OC f];exact h.res
 ·have:=(hk.2 _ OC m).trans h.cal;simp[World.setCell,Array.getElem?_modify,this]
theorem Qhm {W:World} {n:Nat} {x0 x1 v0 v1:Value} (r0:W.cell? (OK n 0)=some x0) (r1:W.cell? (OK n 1)=some x1):((W.setCell (OK n 0) v0).setCell (OK n 1) v1).cell? (OK n 0)=some v0/\((W.setCell (OK n 0) v0).setCell (OK n 1) v1).cell? (OK n 1)=some v1:=by
 refine⟨?_, ?_⟩
 ·rw[World.cell?_setCell_other _ _ _ _ OF];exact World.cell?_setCell_same _ _ _ r0
 ·exact World.cell?_setCell_same _ _ _ (by rw[World.cell?_setCell_other _ _ _ _ OF];exact r1)
theorem N6.ret {v0 v1:Value} (h:N6 ts g a c E w X p W va vc l):Et w.heap.size ((W.setCell (OK w.heap.size 0) v0).setCell (OK w.heap.size 1) v1) va vc l/\B2 ts g a c E p w ((W.setCell (OK w.heap.size 0) v0).setCell (OK w.heap.size 1) v1):=by
 have i:=h.gw;have f:=h.T.1;have d:=h.T.2;have b:∀ k,k≠w.heap.size->((W.setCell (OK w.heap.size 0) v0).setCell (OK w.heap.size 1) v1).heap[k]? = W.heap[k]?:=fun k b=>(Below.heap_setCell _ _ _ _ b).trans (Below.heap_setCell _ _ _ _ b)
 refine⟨((h.K.set OC _).set OC _).mono OC,⟨(b _ OC).trans f.blk,f.tks.keep fun j hj=>b _ OC,f.le,f.len,f.cap⟩,⟨d.os,d.tape,d.output,by simpa[World.setCell]using d.size,fun j hj hjg=>(b _ OC).trans (d.keep j hj hjg)⟩⟩
theorem N6.drew (h:N6 ts g a c E w X p W va vc l):N6 ts g a c E w X p W.drew va vc l:=h.to ⟨h.T.1.below (Ja (OO _)),Bl.of_below (Ja (OO _))⟩
def Xx (ts:List (Ab × Nat)) (g:Nat) (a:Option Addr) (c E:Nat) (x:List UInt8) (p:List Aa × Nat) (w:World) (e:Ending) (w':World):Prop := ∃ va vc,e = .returned (.agg #[.string (Aj x),.slice va p.1.length vc])/\Et w.heap.size w' va vc p.1/\B2 ts g a c E p.2 w w'
theorem Qla {n:Nat} (hV:∀ m,m<=n->Qhd ts g a c E m) (x:List UInt8) (r:List Aa × Nat) (q:Jj ts (n+1) i=some (.ok r)) (hB:Eg g w) (hP:Cz ts g a c E i w) :
  Calls prog 183 #[.pointer (some (OK g 0)),.string (Aj x)] w (Xx ts g a c E x r w):=by
 have ad:=hP.lt;obtain⟨X,HX⟩:∃ X,Hid (Aj x=X):=⟨_,rfl⟩;unfold Xx;rw[HX.out];have d:=N6.start hP X;rw[Jj]at q;replace q:=K6 q;obtain⟨h1,q⟩:=q;by_cases h2:Bq ts 5 [41] (i+1)=true
 ·rw[if_pos h2,Option.some.injEq,Except.ok.injEq]at q;subst q;go_enter func183,ntmps183;go_wp2_with (first|(go_at_call 91;refine(Dz _ OG d.T.1).mono ?_;rintro e t ⟨rfl,b⟩;replace d:=d.to b;clear b;(try obtain⟨A,o,Q,B,F,G⟩:=d.cells))|(go_at_call 92;(first|refine(L5 _ OG d.T.1).mono ?_|refine(L4 _ OG d.T.1).mono ?_);rintro e t ⟨rfl,b⟩;replace d:=d.to b;clear b;(try obtain⟨A,o,Q,B,F,G⟩:=d.cells)));obtain⟨Y,Z⟩:=Qhm (v0:=.string X) (v1:=.slice none 0 0) A o;have H:=d.ret (v0:=.string X) (v1:=.slice none 0 0);refine bodyPost_ret (v:=.agg #[.string X,.slice none 0 0]) (by simp[results,results183,go_sem,Y,Z]) rfl ?_;exact⟨_,_,rfl,H.1,H.2⟩
 ·rw[if_neg h2]at q;have HR:Hid (Ji ts n [] (i+1)=some (.ok r)):=q;clear q;go_enter func183,ntmps183;go_wp2_with (first|(go_at_call 91;refine(Dz _ OG d.T.1).mono ?_;rintro e t ⟨rfl,b⟩;replace d:=d.to b;clear b)|(go_at_call 92;(first|refine(L5 _ OG d.T.1).mono ?_|refine(L4 _ OG d.T.1).mono ?_);rintro e t ⟨rfl,b⟩;replace d:=d.to b;clear b));go_loopw [13] (fun _ wr => ∃ (m:Nat) (us:List Aa) (p:Nat) (O:Option Addr) (P:Nat),m<=n/\N6 ts g a c E w X p wr O P us/\Ji ts m us p=some (.ok r)/\us.length<=p) (fun _ wr=>K9 g ts.length wr);case atStart=>exact⟨n,[],_,_,_,Nat.le_refl _,d,HR.out,by simp⟩
  case round =>
   clear d HR;obtain⟨m,us,p,O,P,hm,d,h,af⟩:=hrel;obtain⟨m,rfl⟩:∃ m',m=m'+1:=by
    cases m with
    | zero=>simp[Ji]at h
    | succ m=>exact⟨m,rfl⟩
   rw[Ji]at h;obtain⟨A,aa,ab,B,F,G⟩:=d.cells;have ac:=d.T.1.le;have T:=d.T.1.len;have U:us.length+1<=1000000:=OC;have z:w.heap.size+2<=wr.heap.size:=(by have:=(Array.getElem?_eq_some_iff.1 d.cal).1;omega);have u:w.heap.size+2<=wr.drew.heap.size:=z;have N:∀ k,(Value.slice O us.length P).ownBlock=some k->k < wr.drew.heap.size:=fun k hk=>(d.K.blk hk).1
   have M:g < wr.drew.heap.size:=Nat.lt_of_lt_of_le OC z;replace h:=Ai h;obtain⟨s,h4,h⟩:=h;have HE:Hid (Calls prog 157 #[.pointer (some (OK g 0))] wr.drew (Kw ts g a c E s wr.drew)):=hV m OC p _ s h4 (hB.fr d.drew.T.2) d.drew.T.1;have ae:=(O9 ts m).rank _ _ _ h4;go_wp2_with fail;go_region_law (first
    | (go_simp;go_at_call 157;refine HE.out.mono ?_;rintro e V4 ⟨ty,y,rfl,hR,b⟩;have f:=d.drew.to b;have o:=f.cells.2.2.2.1;have Q:(V4.alloc (.cells #[.iface ty y] 86)).cell? (OK (w.heap.size+1) 1)=some (.slice O us.length P):=(by rw[World.cell?_alloc_lt _ _ (OK (w.heap.size+1) 1) (World.block_lt_of_cell? _ _ o)];exact o);(try simp only))
    | (refine X3 (g:=g) rfl (.tmp 14) (.tmp 17) rfl f.K hR u N (Nat.le_trans u b.2.size) U OC (Nat.lt_of_lt_of_le M b.2.size) rfl rfl ?_;intro C D V J I K l;have u1:V.cell? (OK (w.heap.size+1) 1)=some (.slice O us.length P):=(by rw[World.cell?_of_block (l.2 (w.heap.size+1) OC (World.block_lt_of_cell? _ _ o))];exact o);have u2:V.frozen? (OK (w.heap.size+1) 1)=false:=(by rw[World.frozen?_of_block (l.2 (w.heap.size+1) OC (World.block_lt_of_cell? _ _ o))];exact f.cells.2.2.2.2.2 1)))
   all_goals
    have R:(us++[s.1]).length=us.length+1:=OF;replace f:=f.store J I K l;rw[R]at f;obtain⟨V5,L⟩:∃ V5,V.setCell (OK (w.heap.size+1) 1) (.slice C (us.length+1) D)=V5:=⟨_,rfl⟩;rw[L]at f |-
    have S:=d.T.1.left;clear d;have d:=f;clear L u1 u2 l K I J o Q f hR b A aa ab B F G N u M z HE;by_cases h6:Bq ts 5 [41] s.2=true
    ·rw[if_pos h6,Option.some.injEq,Except.ok.injEq]at h;subst h;go_wp2_with (first|(go_at_call 91;refine(Dz _ OG d.T.1).mono ?_;rintro e t ⟨rfl,b⟩;replace d:=d.to b;clear b;(try obtain⟨A,o,Q,B,F,G⟩:=d.cells);(try rw[R]at B))|(go_at_call 92;(first|refine(L5 _ OG d.T.1).mono ?_|refine(L4 _ OG d.T.1).mono ?_);rintro e t ⟨rfl,b⟩;replace d:=d.to b;clear b;(try obtain⟨A,o,Q,B,F,G⟩:=d.cells);(try rw[R]at B)));obtain⟨Y,Z⟩:=Qhm (v0:=.string X) (v1:=.slice C (us.length+1) D) A o;have H:=d.ret (v0:=.string X) (v1:=.slice C (us.length+1) D);refine bodyPost_ret (v:=.agg #[.string X,.slice C (us.length+1) D]) (by simp[results,results183,go_sem,Y,Z]) rfl ?_;exact⟨C,D,by simp,H.1,H.2⟩
    ·rw[if_neg h6]at h;replace h:=K6 h;obtain⟨h7,h⟩:=h;have HL:Hid (Ji ts m (us++[s.1]) (s.2+1)=some (.ok r)):=h;clear h;go_wp2_with (first|(go_at_call 91;refine(Dz _ OG d.T.1).mono ?_;rintro e t ⟨rfl,b⟩;replace d:=d.to b;clear b)|(go_at_call 92;(first|refine(L5 _ OG d.T.1).mono ?_|refine(L4 _ OG d.T.1).mono ?_);rintro e t ⟨rfl,b⟩;replace d:=d.to b;clear b));go_roundw;case rel=>exact⟨m,us++[s.1],s.2+1,C,D,by omega,d,HL.out,by simp;omega⟩
     case measure=>rw[S,d.T.1.left];have:=d.T.1.le;omega
variable {ts:List (Ab × Nat)} {g:Nat} {a:Option Addr} {c E i j:Nat} {w W W2:World}
theorem Jb {B:Nat} {t:Aa} {v:Value} (h:Ck B W t v):Hq B W [t] [v]:=by
 unfold Hq;rw[An];exact⟨v,[],rfl,h,G5 B W⟩
theorem P5 {B:Nat} {t t2:Aa} {v v2:Value} (h:Ck B W t v) (h2:Ck B W t2 v2):Hq B W [t,t2] [v,v2]:=by
 unfold Hq;rw[An];exact⟨v,[v2],rfl,h,Jb h2⟩
theorem Qng (B:Nat) (W:World) (t y:Int):Ck B W (Lk 1 0 t y []) (.iface 171 (.agg #[.int .i64 t,.int .i64 y])) :=
 Eh ⟨1,0,t,y,Aj [],0⟩ [] [] _ OF OF ⟨rfl,rfl⟩ (G5 _ _) OF
theorem Qlt (B:Nat) (W:World) (x:List UInt8):Ck B W (Lk 2 0 0 0 x) (.iface 173 (.agg #[.string (Aj x)])) :=
 Eh ⟨2,0,0,0,Aj x,0⟩ [] [] _ OF OF ⟨rfl,rfl⟩ (G5 _ _) OF
theorem Qc2 (B:Nat) (W:World) (n:Int):Ck B W (Lk 3 0 0 n []) (.iface 175 (.agg #[.bool (n == 1)])) :=
 Eh ⟨3,0,0,n,Aj [],0⟩ [] [] _ OF OF ⟨rfl,rfl⟩ (G5 _ _) OF
theorem Qlp (B:Nat) (W:World) (x:List UInt8):Ck B W (Lk 4 0 0 0 x) (.iface 177 (.agg #[.string (Aj x)])) :=
 Eh ⟨4,0,0,0,Aj x,0⟩ [] [] _ OF OF ⟨rfl,rfl⟩ (G5 _ _) OF
theorem Qo9 {B:Nat} {t:Aa} {v:Value} (o:Int) (h:Ck B W t v):Ck B W (Co 5 o 0 [] [t]) (.iface 179 (.agg #[.int .i64 o,v])) :=
 Eh ⟨5,o,0,0,Aj [],1⟩ [t] [v] _ OF OF ⟨v,rfl,rfl⟩ (Jb h) OF
theorem Qft {B:Nat} {t t2:Aa} {v v2:Value} (o:Int) (h:Ck B W t v) (h2:Ck B W t2 v2):Ck B W (Co 6 o 0 [] [t,t2]) (.iface 181 (.agg #[.int .i64 o,v,v2])) :=
 Eh ⟨6,o,0,0,Aj [],2⟩ [t,t2] [v,v2] _ OF OF ⟨v,v2,rfl,rfl⟩ (P5 h h2) OF
theorem Qlm {B:Nat} {t:Aa} {v:Value} (o:Int) (h:Ck B W t v):Ck B W (Co 9 0 o [] [t]) (.iface 190 (.agg #[.int .i64 o,v])) :=
 Eh ⟨9,0,o,0,Aj [],1⟩ [t] [v] _ OF OF ⟨v,rfl,rfl⟩ (Jb h) OF
def Qcx (ts:List (Ab × Nat)) (g:Nat) (a:Option Addr) (c E n:Nat):Prop := ∀ (i:Nat) (w:World) (r:Aa × Nat),Fx ts n i=some (.ok r)->Eg g w->Cz ts g a c E i w ->
 Calls prog 194 #[.pointer (some (OK g 0))] w (Kw ts g a c E r w)
theorem Zm (hB:Eg g w) (o:Nat) (h:o<=18):w.cell? (OK 4 (o * 2+1))=some (.int .i64 (P6 o:Int)):=by
 have b:=hB.b (o * 2+1);have a:o=0\/o=1\/o=2\/o=3\/o=4\/o=5\/o=6\/o=7\/o=8\/o=9\/o=10\/o=11\/o=12\/o=13\/o=14\/o=15\/o=16\/o=17\/o=18:=OC
 rcases a with rfl|rfl|rfl|rfl|rfl|rfl|rfl|rfl|rfl|rfl|rfl|rfl|rfl|rfl|rfl|rfl|rfl|rfl|rfl <;> exact b _ rfl
theorem Qnd (ts:List (Ab × Nat)) (i:Nat):Js ts i<=18:=by
 unfold Js;split
 ·have:=Qc0 G4 (B8 ts i);have e:G4.length=18:=rfl;omega
 ·omega
theorem Qne (h:Js ts i≠0):i < ts.length:=by
 by_cases hp:i < ts.length
 ·exact hp
 ·simp[Js,Rg hp]at h
theorem Qpa (o:Nat):P6 o<=5:=by unfold P6;(repeat' (first|omega|split))
theorem DdQaGx79 {P:Prop} (h:P:=by
 go_wp2_with (go_at_call 195;refine(Si (B.fr d.2) d.1).mono ?_;rintro e V ⟨rfl,b⟩;rw[H.out];replace j:=j.fr b.2 q;replace d:=d.to b;clear b;have v:=Zm (B.fr d.2) o z;rw[D.out]at v)
 go_ret
 exact⟨I,y,rfl,j,d⟩
 ):P:=h
theorem Qhj (n:Nat) (ih:∀ m,m<=n->Rf ts g a c E m) (ihu:Qcx ts g a c E n):Rf ts g a c E (n+1):=by
 intro l i w r af ag G B hP;have d:B2 ts g a c E i w w:=⟨hP,Bl.refl _ _⟩;have q:=hP.lt;have ab:(l:Int)<=6/\(1:Int)<=(l:Int):=OC
 rw[Ds]at G;replace G:=Ai G;obtain⟨x,h1,G⟩:=G;have HU:=ihu i w x h1 B hP;have HR:Hid (Iz ts n l 5 x.1 x.2=some (.ok r)):=G;clear G;go_enter func182,ntmps182;go_wp2_with (go_at_call 194;refine HU.mono ?_;rintro e V ⟨I,y,rfl,j,b⟩;replace d:=d.to b;clear b);go_loopw [5,6,7,8] (fun lv mv _ _ wr => ∃ (m M:Nat) (N:Int) (t:Aa) (p:Nat) (I:TypeId) (y:Value),m<=n/\M<=5/\lv = .iface I y/\mv = .int .i64 N/\Hid (N=(M:Int))/\Ck w.heap.size wr t (.iface I y)/\B2 ts g a c E p w wr/\Iz ts m l M t p=some (.ok r)) (fun _ _ _ _ wr=>K9 g ts.length wr);case atStart=>exact⟨n,5,5,x.1,x.2,I,y,Nat.le_refl _,by omega,rfl,rfl,rfl,j,d,HR.out⟩
 case round =>
  clear j d;obtain⟨m,M,N,t,p,I,y,hm,hM,rfl,rfl,L,j,d,f⟩:=hrel;obtain⟨m,rfl⟩:∃ m',m=m'+1:=by
   cases m with
   | zero=>simp[Iz]at f
   | succ m=>exact⟨m,rfl⟩
  rw[Iz]at f;obtain⟨o,H⟩:∃ o,Hid (Js ts p=o):=⟨_,rfl⟩;have z:o<=18:=by rw[<- H.out];exact Qnd ts p
  rw[H.out]at f;obtain⟨K,D⟩:∃ K,Hid (P6 o=K):=⟨_,rfl⟩;rw[D.out]at f;have aa:K<=5:=by rw[<- D.out];exact Qpa o
  have ai:(o:Int) < 19:=OC
  have aj:(0:Int)<=(o:Int):=OC
  by_cases hout:K < l\/M < K
  ·rw[if_pos hout,Option.some.injEq,Except.ok.injEq]at f;subst f;by_cases hk1:K < l
   ·have C:(K:Int) < (l:Int):=OC;exact DdQaGx79
   ·have C:¬ (K:Int) < (l:Int):=OC;have O:N < (K:Int):=(by rw[L.out];omega);exact DdQaGx79
  ·rw[if_neg hout]at f;obtain⟨Z,s⟩:∃ Z:Int,Hid ((K:Int)=Z):=⟨_,rfl⟩;have C:¬ Z < (l:Int):=(by rw[<- s.out];omega);have O:¬ N < Z:=(by rw[<- s.out,L.out];omega);have Q:o≠0:=by
    intro e;rw[e]at D;have:K=0:=D.out.symm;omega
   have X:p < ts.length:=Qne (by rw[H.out];exact Q);obtain⟨R,S⟩:=d.1.sum;have T:wrap64 (Z+1)=Z+1:=(by rw[<- s.out,wrap64];omega);have J:Hid (K9 g ts.length wr=ts.length+1 - p):=d.1.left;clear hout ab Q;replace f:=Ai f;obtain⟨A,h2,f⟩:=f;have HE:Hid (∀ W,Eg g W->Cz ts g a c E (p+1) W->Calls prog 182 #[.pointer (some (OK g 0)),.int .i64 (Z+1)] W (Kw ts g a c E A W)):=fun W hb X=>by
    have:=ih m OC (K+1) (p+1) W A OC OC h2 hb X;rw[<- s.out];exact this
   have ah:=(O9 ts m).rank _ _ _ h2;by_cases hK3:K=3
   ·rw[if_pos hK3]at f;have Y:Hid (Iz ts m l 2 (Co 6 (o:Int) 0 [] [t,A.1]) A.2=some (.ok r)):=f;have ac:(Z == 3)=true:=(by rw[<- s.out];simp;omega);have U:wrap64 (Z - 1)=2:=(by rw[<- s.out,wrap64];omega);clear f hK3;go_wp2_with (first
     | (go_at_call 195;refine(Si (B.fr d.2) d.1).mono ?_;rintro e V ⟨rfl,b⟩;rw[H.out];replace j:=j.fr b.2 q;replace d:=d.to b;clear b;have v:=Zm (B.fr d.2) o z;rw[D.out,s.out]at v;obtain⟨c0,c1,c2,f1⟩:=d.1.cells)
     | (go_at_call 182;refine(HE.out _ (B.fr (d.2.trans (Bl.set _ _ _))) (d.1.nx X)).mono ?_;rintro e V3 ⟨ad,y2,rfl,k,b⟩;replace j:=(j.fr (Bl.set (g:=g) _ 1 (.int .i64 ((p:Int)+1))) q).fr b.2 q;replace k:=k.mono (d.2.trans (Bl.set (g:=g) _ 1 (.int .i64 ((p:Int)+1)))).size;have u:B2 ts g a c E A.2 w V3:=⟨b.1,(d.2.trans (Bl.set _ _ _)).trans b.2⟩;replace d:=u;clear u b c0 c1 c2 f1))
    have F:=Qft (o:Int) j k;rw[U];clear U;refine⟨⟨m,2,2,_,A.2,_,_,Nat.le_of_lt hm,by omega,rfl,rfl,rfl,F,d,Y.out⟩, ?_⟩;rw[J.out,d.1.left];have h3:=d.1.le;clear R S T;omega
   ·rw[if_neg hK3]at f;have Y:Hid (Iz ts m l K (Co 6 (o:Int) 0 [] [t,A.1]) A.2=some (.ok r)):=f;have ac:(Z == 3)=false:=(by rw[<- s.out];simp;omega);have ae:¬ Z=3:=(by rw[<- s.out];omega);clear f hK3;go_wp2_with (first
     | (go_at_call 195;refine(Si (B.fr d.2) d.1).mono ?_;rintro e V ⟨rfl,b⟩;rw[H.out];replace j:=j.fr b.2 q;replace d:=d.to b;clear b;have v:=Zm (B.fr d.2) o z;rw[D.out,s.out]at v;obtain⟨c0,c1,c2,f1⟩:=d.1.cells)
     | (go_at_call 182;refine(HE.out _ (B.fr (d.2.trans (Bl.set _ _ _))) (d.1.nx X)).mono ?_;rintro e V3 ⟨ad,y2,rfl,k,b⟩;replace j:=(j.fr (Bl.set (g:=g) _ 1 (.int .i64 ((p:Int)+1))) q).fr b.2 q;replace k:=k.mono (d.2.trans (Bl.set (g:=g) _ 1 (.int .i64 ((p:Int)+1)))).size;have u:B2 ts g a c E A.2 w V3:=⟨b.1,(d.2.trans (Bl.set _ _ _)).trans b.2⟩;replace d:=u;clear u b c0 c1 c2 f1))
    have F:=Qft (o:Int) j k;refine⟨⟨m,K,Z,_,A.2,_,_,Nat.le_of_lt hm,aa,rfl,rfl,s.out.symm,F,d,Y.out⟩, ?_⟩;rw[J.out,d.1.left];have h3:=d.1.le;clear R S T;omega
end Go.Proofs.YtjlaedokfbcbpaaGreatDoor
