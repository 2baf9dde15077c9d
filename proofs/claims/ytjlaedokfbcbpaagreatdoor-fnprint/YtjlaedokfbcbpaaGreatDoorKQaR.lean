import Derived.Test.YtjlaedokfbcbpaaGreatDoorKQaP
set_option maxRecDepth 100000
set_option maxHeartbeats 4000000
namespace Go.Proofs.YtjlaedokfbcbpaaGreatDoor
open Go.RowKit Proofs.Tryz
mutual
def Fq : Aa->List Ae
 | .node d us=>Cx us++[Ay d us.length]
def Cx : List Aa->List Ae
 | []=>[]
 | t::r=>Fq t++Cx r
end
theorem Qna (g j:Nat):((OK g 0):Addr).add j=(OK g j):=by unfold Addr.add;split <;> simp_all
theorem Tryz.infoNodeP : (prog.info? 62).map (fun i=>(i.zero,i.size,i.bytes))=some (some (.agg #[.int .i64 0,.int .i64 0,.int .i64 0,.int .i64 0,.string ByteArray.empty,.int .i64 0]),6,56):=OE
abbrev Na (B:Nat) (w:World) (v:Value) (l:List Ae):Prop:=w.ownsRow B 62 6 v l.length (Ap l)
theorem Qjm (l m:List Ae):Ap (l++m)=Ap l++Ap m:=by simp[Ap]
theorem Zo (l:List Ae):(Ap l).length=l.length * 6:=by
 unfold Ap;induction l with
 | nil=>rfl
 | cons d l ih=>simp[List.flatMap_cons,ih,By];omega
theorem Qnf (l:List Ae):∀ u ∈ Ap l,u.oneCell'=true:=fun u hu=>by
 obtain⟨d,_,a⟩:=List.mem_flatMap.1 hu
 unfold By at a
 simp at a
 rcases a with rfl|rfl|rfl|rfl|rfl|rfl <;> rfl
theorem Qlk {w:World} {B e size n:Nat} {a:Option Addr} {c:Nat} {xs:List Value} (h:w.ownsRow B e size (.slice a n c) n xs):Qhb w a n xs:=fun h0=>by
 rcases h.2 with⟨b,i⟩|⟨g,d,f,b,_⟩
 ·injection b with e1 e2 e3;omega
 ·injection b with e1 e2 e3
  subst e1;subst e3
  refine⟨(OK g 0),rfl,fun j u hj => ?_⟩
  rw[Qna]
  exact Sj h rfl j u hj
theorem Qlj (w:World) (B:Nat) (hB:B<=w.heap.size) (l:List Ae) (hl:l.length<=1000000) (cs:Array Value) (h:cs.toList=Ap l):Na B (w.alloc (.cells cs 62)) (.slice (some (OK w.heap.size 0)) l.length l.length) l:=by
 have a:cs.size=l.length * 6:=by rw[<- Array.length_toList,h,Zo]
 refine⟨Zo l,.inr ⟨w.heap.size,l.length,cs,rfl,hB,heap_alloc_new w _,Nat.le_refl _,by unfold maxLen;omega,a, ?_⟩⟩;rw[<- h];exact List.take_of_length_le (by rw[Array.length_toList,a];exact ON)
theorem X0 (us vs:List Aa):Cx (us++vs)=Cx us++Cx vs:=by
 induction us with
 | nil=>simp[Cx]
 | cons t us ih=>simp[Cx,ih]
theorem Qhg (t:Aa):Cx [t]=Fq t:=by simp[Cx]
theorem Qlc (k o t:Int) (x:List UInt8) (us:List Aa):Fq (Co k o t x us)=Cx us++[Ay ⟨k,o,t,0,Aj x,(us.length:Int)⟩ us.length]:=by
 simp[Co,Fq]
def Mq (w w':World) (ob ob':Option Nat):Prop:=w.grownBy w' ob/\(ob'=ob\/∀ k,ob'=some k->w.heap.size<=k)
theorem Mq.refl (w:World) (ob:Option Nat):Mq w w ob ob:=⟨⟨rfl,rfl,rfl,Nat.le_refl _,fun _ _ _=>rfl⟩,.inl rfl⟩
theorem Mq.trans {a b c:World} {o p q:Option Nat} (h:Mq a b o p) (k:Mq b c p q):Mq a c o q:=by
 refine⟨⟨k.1.os.trans h.1.os,k.1.tape.trans h.1.tape,k.1.output.trans h.1.output,Nat.le_trans h.1.size k.1.size,fun x hx ho => ?_⟩, ?_⟩
 ·rw[k.1.block x (Nat.lt_of_lt_of_le hx h.1.size) ?_]
  ·exact h.1.block x hx ho
  ·rcases h.2 with e|e
   ·rw[e];exact ho
   ·intro d;have:=e x d.symm;omega
 ·rcases k.2 with e|e
  ·rw[e];exact h.2
  ·exact .inr fun x hx=>Nat.le_trans h.1.size (e x hx)
theorem Mq.below {a b c:World} {o p:Option Nat} (h:Below a.heap.size a b) (k:Mq b c o p):Mq a c o p:=by
 refine⟨⟨k.1.os.trans h.os,k.1.tape.trans h.tape,k.1.output.trans h.output,Nat.le_trans h.size k.1.size,fun x hx ho=>(k.1.block x (Nat.lt_of_lt_of_le hx h.size) ho).trans (h.block x hx)⟩, ?_⟩;rcases k.2 with e|e
 ·exact .inl e
 ·exact .inr fun x hx=>Nat.le_trans h.size (e x hx)
theorem Qnn {w:World} {ops:Array Oper} {rest:List Oper} {o:Oper} {A:Act} {Q:Exit->Act->World->Prop} (hgd:o.guard=none) (s x:Operand)
  (ho:o.op = .call { callee:=.builtin .append,args := #[s,x],argTypes := #[23,23] }) {B dc n:Nat} {da:Option Addr} {l:List Ae} (d:Ae) (hs:A.eval s = .slice da n dc) (hn:l.length=n) (hx:A.eval x = .slice (some (OK w.heap.size 0)) 1 1) (h1:Na B w (.slice da l.length dc) l) (hB:B<=w.heap.size) (hK:n+1<=1000000)
  (h:∀ a b w',Na B w' (.slice a (l++[d]).length b) (l++[d])->Mq w w' (Value.slice da l.length dc).ownBlock (Value.slice a (l++[d]).length b).ownBlock->wpList prog ops Q rest (A.put o.dst (.slice a (l++[d]).length b)) w') :
  wpList prog ops Q (o::rest) A (w.alloc (.cells #[.int .i64 d.kind,.int .i64 d.op,.int .i64 d.type,.int .i64 d.n,.string d.text,.int .i64 d.kids] 62)):=by
 subst hn;have q:Below w.heap.size w (w.alloc (.cells #[.int .i64 d.kind,.int .i64 d.op,.int .i64 d.type,.int .i64 d.n,.string d.text,.int .i64 d.kids] 62)):=OP _ _;have t:=Qlj w B hB [d] OF #[.int .i64 d.kind,.int .i64 d.op,.int .i64 d.type,.int .i64 d.n,.string d.text,.int .i64 d.kids] rfl;obtain⟨y,i,j,m,p⟩:=info_parts Tryz.infoNodeP;obtain⟨v',w',r,f,u,g⟩:=Ng (P:=prog) (w:=w.alloc (.cells #[.int .i64 d.kind,.int .i64 d.op,.int .i64 d.type,.int .i64 d.n,.string d.text,.int .i64 d.kids] 62)) B 23 o.type 62 y (.agg #[.int .i64 0,.int .i64 0,.int .i64 0,.int .i64 0,.string ByteArray.empty,.int .i64 0]) 6 56 underlying23 i j m p rfl OD _ _ _ (K5 h1 q) (some (OK w.heap.size 0)) 1 1 (Ap [d]) (Zo [d]) (Qlk t) (Qnf [d]) OI OC OB;obtain⟨a,b,v⟩:=Zp f;have c:(l++[d]).length=l.length+1:=by simp
 rw[v]at f g r;refine wpList_plain hgd fun K hK2 => ?_
 unfold Oper.wp execOp;simp only[ho,resolve,invoke,builtin,Sem.run_bind,Sem.run_pure,Result.andThen_ok,List.map_toArray,List.map_cons,List.map_nil,hs,hx,r];rw[<- c]at f g |-
 refine hK2 _ _ (h a b w' ?_ (Mq.below q ⟨u, ?_⟩))
 ·unfold Na;rw[Qjm];exact f
 ·rcases g with e|e
  ·exact .inl e
  ·exact .inr fun k hk=>by rw[e]at hk;injection hk with hk;omega
def Zi (B:Nat) (w:World) (va:Option Addr) (vc:Nat) (l m:List Ae) (e:Ending) (w':World):Prop := ∃ va' vc',e = .returned (.slice va' (l++m).length vc')/\Na B w' (.slice va' (l++m).length vc') (l++m)/\Mq w w' (Value.slice va l.length vc).ownBlock (Value.slice va' (l++m).length vc').ownBlock
def Ux (n:Nat):Prop := ∀ (t:Aa) (v:Value) (w:World) (P:Nat->Prop) (B:Nat) (va:Option Addr) (vc:Nat) (l:List Ae),t.high < n->(∀ g,P g->g < B)->B<=w.heap.size->Ba P w t v->Na B w (.slice va l.length vc) l->l.length+(Fq t).length<=1000000 ->
 Calls prog 24 #[.slice va l.length vc,v] w (Zi B w va vc l (Fq t))
theorem Qap (ts:List Aa) (i:Nat) (h:i < ts.length):Cx (ts.take (i+1))=Cx (ts.take i)++Fq ts[i]:=by
 rw[<- List.take_append_getElem h,X0,Qhg]
theorem Qjj (ts:List Aa) (i:Nat):(Cx (ts.take i)).length<=(Cx ts).length:=by
 have h:=X0 (ts.take i) (ts.drop i);rw[List.take_append_drop]at h;rw[h,List.length_append];omega
theorem Qez (n:Nat) (ih:Ux n) (T:TypeId) (f:FuncId) (hm:∀ (v:Value) (w:World),(method 401 T v "loop.example/kilnmill/impl.parts").run prog w = .ok (f,v) w) (hcf:∀ (x:Array Value) (w:World),(callFunc f x).run prog w = .ok (.enter f x) w) (d:Ae) (P:Nat->Prop) (ts:List Aa) (us:List Value) (X:Value) (w:World) (B:Nat) (va:Option Addr) (vc:Nat) (l:List Ae) (hP:∀ g,P g->g < B) (hB:B<=w.heap.size) (hl2:us.length<=100000) (hpt:Calls prog f #[X] w fun e w'=>Cl P w d us e w') (hR:An P w ts us) (hh:Aa.highs ts<=n) (a:Na B w (.slice va l.length vc) l) (hll:l.length+(Fq (.node d ts)).length<=1000000) :
  Calls prog 24 #[.slice va l.length vc,.iface T X] w (Zi B w va vc l (Fq (.node d ts))):=by
 have K:=An.len ts us hR
 obtain⟨m,HM⟩:∃ m,Hid (us.length=m):=⟨_,(rfl:us.length=_)⟩
 have ak:m<=100000:=by rw[<- HM.out];exact hl2
 have al:ts.length=m:=by rw[<- K];exact HM.out
 have R:=An.at ts us hR
 obtain⟨D,HD⟩:∃ D,Hid (Ay d us.length=D):=⟨_,rfl⟩
 have ab:Hid (Fq (.node d ts)=Cx ts++[D]):=by rw[Hid,Fq,<- K,HD.out]
 rw[ab.out]at hll |-
 have Z:∀ k,(Value.slice va l.length vc).ownBlock=some k->B<=k/\k < w.heap.size:=fun k hk=>(Qar a hk).1
 obtain⟨L,I⟩:∃ L,Hid (l.length=L):=⟨_,rfl⟩
 have aj:L+(Cx ts).length+1<=1000000:=by rw[<- I.out];simp at hll;omega
 clear hl2 K hR hll
 rw[I.out]
 go_enter func24,ntmps24
 go_wp2_with (refine hpt.mono ?_;rintro e H ⟨S,rfl,hb,hS⟩;rw[HM.out]at hS;rw[HD.out];rcases D with⟨c',o',t',y',x',k'⟩;simp only[Af];obtain⟨sa,sc,rfl,U⟩:=hS)
 have hz:=hb.size
 obtain⟨y,G⟩:∃ y,H.alloc (.cells #[.int .i64 c',.int .i64 o',.int .i64 t',.int .i64 y',.string x',.int .i64 k'] 62)=y:=⟨_,rfl⟩
 have J:Below H.heap.size H y:=by rw[<- G];exact OP _ _
 have Y:y.heap[H.heap.size]? = some (.cells #[.int .i64 c',.int .i64 o',.int .i64 t',.int .i64 y',.string x',.int .i64 k'] 62):=by rw[<- G];exact heap_alloc_new _ _
 rw[G]
 clear G
 have aa:H.heap.size < y.heap.size:=(Array.getElem?_eq_some_iff.1 Y).1
 have z:Below w.heap.size w y:=hb.trans (J.mono hz)
 have C:Na B y (.slice va L vc) l:=by rw[<- I.out];exact K5 a z
 rw[I.out]at Z
 have HP:Hid (∀ (W:World) (ob:Option Nat),Mq y W (Value.slice va L vc).ownBlock ob->∀ k,(k < B\/(w.heap.size<=k/\k<=H.heap.size))->W.heap[k]? = y.heap[k]?):=fun W ob hG k hk=>hG.1.block k OC (fun e=>by have:=Z k e.symm;omega)
 have HC:Hid (∀ (W:World) (ob:Option Nat),Mq y W (Value.slice va L vc).ownBlock ob->∀ (j:Nat) u,us[j]? = some u->∃ g,sa=some (OK g 0)/\W.cell? (OK g j)=some u):=fun W ob hG j u hj=>by
  obtain⟨g,ha,A,hq⟩:=U j u hj
  have af:g < B\/(w.heap.size<=g/\g<=H.heap.size):=by
   rcases A with A|A
   ·exact .inl (hP g A)
   ·exact .inr ⟨A.1,Nat.le_of_lt A.2⟩
  have ag:g < H.heap.size:=by
   rcases A with A|A
   ·have:=hP g A;omega
   ·exact A.2
  refine⟨g,ha, ?_⟩
  rw[World.cell?_of_block (HP.out W ob hG g af),World.cell?_of_block (J.block g ag)]
  exact hq
 have O:Hid (∀ (W:World) (ob:Option Nat),Mq y W (Value.slice va L vc).ownBlock ob->∀ (i:Nat) (h:i < ts.length),∃ u,us[i]? = some u/\Ba P W ts[i] u):=fun W ob hG i h=>by
  obtain⟨u,hu,hr⟩:=R i h
  exact⟨u,hu,Ba.below (fun g h=>h) (fun g h=>by have:=hP g h;rw[HP.out W ob hG g (.inl this)];exact z.block g OC) _ _ hr⟩
 clear U hpt hm hcf R a
 go_loopw [0,16,8] (fun lv iv _ wr => ∃ (i N:Nat) (o:Option Addr) (q:Nat),i<=m/\iv = .int .i64 (i:Int)/\lv = .slice o N q/\Hid ((l++Cx (ts.take i)).length=N)/\Na B wr (.slice o N q) (l++Cx (ts.take i))/\Mq y wr (Value.slice va L vc).ownBlock (Value.slice o N q).ownBlock) (fun _ iv _ _=>m - (intOf iv).toNat)
 case atStart=>exact⟨0,L,va,vc,by omega,rfl,rfl,by rw[Hid,<- I.out];simp[Cx],by simpa[Cx]using C,Mq.refl _ _⟩
 case round =>
  clear C
  obtain⟨i,N,o,q,hi,rfl,rfl,E,a,t⟩:=hrel
  have Q:B<=wr.heap.size:=Nat.le_trans (Nat.le_trans hB hz) (Nat.le_trans (Nat.le_of_lt aa) t.1.size)
  by_cases hlt:i < m
  ·have F:i < ts.length:=OC
   obtain⟨u,hu,hr⟩:=O.out wr _ t i F
   obtain⟨g,rfl,hc⟩:=HC.out wr _ t i u hu
   have ai:=I8 ts i F
   have V:=Qjj ts (i+1)
   rw[Qap ts i F,List.length_append]at V
   have ae:N=L+(Cx (ts.take i)).length:=by rw[<- E.out,List.length_append,I.out]
   have HI:Hid (Calls prog 24 #[.slice o N q,u] wr fun e w' => ∃ (p:Option Addr) (r M:Nat),e = .returned (.slice p M r)/\Hid ((l++Cx (ts.take (i+1))).length=M)/\Na B w' (.slice p M r) (l++Cx (ts.take (i+1)))/\Mq wr w' (Value.slice o N q).ownBlock (Value.slice p M r).ownBlock):=by
    have h2:=ih ts[i] u wr P B o q (l++Cx (ts.take i)) OC hP Q hr (by rw[E.out];exact a) (by rw[E.out];omega)
    rw[E.out]at h2
    refine h2.mono ?_
    rintro e w' ⟨p,r,rfl,h3,h4⟩
    rw[E.out]at h4
    rw[Qap ts i F,<- List.append_assoc]
    exact⟨p,r,_,rfl,rfl,h3,h4⟩
   clear hr hu ai V ae
   go_wp2_with (go_at_call 24;refine HI.out.mono ?_;rintro e w3 ⟨p,r,M,rfl,ac,c,s⟩)
   go_roundw
   case rel=>exact⟨i+1,M,p,r,by omega,by go_num,rfl,ac,c,t.trans s⟩
   case measure=>simp[intOf];omega
  ·have ah:i=m:=OC
   subst ah
   have hT:ts.take i=ts:=List.take_of_length_le OC
   rw[hT]at a E
   have ad:N+1<=1000000:=by rw[<- E.out,List.length_append,I.out];omega
   have b:=(HP.out wr _ t H.heap.size (.inr ⟨hz,Nat.le_refl _⟩)).trans Y
   have q0:=Lib.cell_of_heap b (j:=0)
   have q1:=Lib.cell_of_heap b (j:=1)
   have q2:=Lib.cell_of_heap b (j:=2)
   have q3:=Lib.cell_of_heap b (j:=3)
   have q4:=Lib.cell_of_heap b (j:=4)
   have q5:=Lib.cell_of_heap b (j:=5)
   simp at q0 q1 q2 q3 q4 q5
   clear O HC HP hT
   go_wp2_with (refine Qnn rfl (.tmp 24) (.tmp 26) rfl ⟨c',o',t',y',x',k'⟩ rfl E.out rfl (by rw[E.out];exact a) Q ad ?_;intro a3 c3 w3 c s;rw[E.out]at s)
   go_ret
   unfold Zi
   rw[<- List.append_assoc]
   refine⟨a3,c3,by simp,c, ?_⟩
   rw[I.out]
   exact Mq.below z (t.trans s)
theorem Qhi (n:Nat) (ih:Ux n):Ux (n+1):=by
 intro t v w P B D E l C o m p a j;obtain⟨d,ks⟩:=t;rw[Ba]at p;obtain⟨us,⟨q,r,X,rfl,s⟩,y,z,i,u⟩:=p;have x:Aa.highs ks<=n:=by rw[Aa.high]at C;omega
 have b:∀ g,P g->g < w.heap.size:=fun g h=>Nat.lt_of_lt_of_le (o g h) m
 obtain⟨f,A,c,k⟩:=Zg d P us _ X w b y z q r s;exact Qez n ih _ f A c d P ks us X w B D E l o m i k u x a j
theorem Qc1 : ∀ n,Ux n
 | 0=>fun t v w P B va vc l h=>OC
 | n+1=>Qhi n (Qc1 n)
theorem Qey (t:Aa) (v:Value) (w:World) (B:Nat) (hB:B<=w.heap.size) (hr:Ba (fun b=>b < B) w t v) (hll:(Fq t).length<=1000000) :
  Calls prog 24 #[.slice none 0 0,v] w fun e w' => ∃ c d,e = .returned (.slice c (Fq t).length d)/\Na B w' (.slice c (Fq t).length d) (Fq t)/\Below w.heap.size w w':=by
 refine(Qc1 (t.high+1) t v w _ B none 0 [] (Nat.lt_succ_self _) (fun g h=>h) hB hr ⟨rfl,.inl ⟨rfl,rfl⟩⟩ (by simpa using hll)).mono ?_;rintro e w' ⟨c,d,f,j,a⟩;exact⟨c,d,f,j,⟨a.1.os,a.1.tape,a.1.output,a.1.size,fun i hi=>a.1.block i hi (by simp[Value.ownBlock])⟩⟩
theorem Qi4 (kd ko:Int) (ks:List Int) (h:Ac kd ko ks=true) (h23:23<=kd):ks.length<=60:=by
 by_cases h1:kd=23
 ·subst h1;by_cases h9:9 < ks.length
  ·have:Ac 23 ko ks=false:=(by simp[Ac,Tw ks (.inr h9)]);rw[this]at h;cases h
  ·omega
 ·by_cases h2:kd=24
  ·subst h2;simp[Ac]at h;omega
  ·have a:∀ m:Int,1<=m->m<=24->kd≠m:=fun m h3 h4=>OC
   have:Ac kd ko ks=false:=(by simp[Ac,a]);rw[this]at h;cases h
def Gh (B:Nat) (w:World) (vt:Value):Nat->Prop:=fun g=>B<=g/\g < w.heap.size/\vt.ownBlock≠some g
theorem Qcm {wr w4 w6:World} {vt v6 v:Value} {P4:Nat->Prop} {d:Ae} {st:List Aa} {vs:List Value} {p B:Nat}
  (hR:An (Gh B wr vt) wr st vs) (hK:Aq vs (st.map (fun t=>t.nd.kind)))
  (hkeep:∀ g,Gh B wr vt g->w6.heap[g]? = wr.heap[g]?) (hfree:∀ g,Gh B wr vt g->Gh B w6 v6 g)
  (hsh:H7 P4 w4 d (vs.drop p) v) (hkeep4:∀ g,P4 g->w6.heap[g]? = w4.heap[g]?) (hfree4:∀ g,P4 g->Gh B w6 v6 g)
  (h60:23<=d.kind->(vs.drop p).length<=100000) (hl:(vs.drop p).length<=100000) :
  An (Gh B w6 v6) w6 (st.take p++[.node d (st.drop p)]) (vs.take p++[v])/\Aq (vs.take p++[v]) ((st.take p++[Aa.node d (st.drop p)]).map (fun t=>t.nd.kind)):=by
 obtain⟨c,f⟩:=An.cut p st vs hR;have a:Aq (vs.drop p) ((st.drop p).map (fun t=>t.nd.kind)):=by rw[List.map_drop];exact hK.drop p
 have b:Aq (vs.take p) ((st.take p).map (fun t=>t.nd.kind)):=by rw[List.map_take];exact hK.take p
 obtain⟨j,k,X,i,h⟩:=R3 a hsh;constructor
 ·refine An.app _ _ _ _ (An.below hfree hkeep _ _ c) ?_;rw[An];refine⟨v,[],rfl, ?_,by rw[An]⟩;rw[Ba];exact⟨vs.drop p,hsh.below hfree4 hkeep4,a,h60,hl,An.below hfree hkeep _ _ f⟩
 ·rw[List.map_append];subst i;exact b.snoc j k h
end Go.Proofs.YtjlaedokfbcbpaaGreatDoor
namespace Go.Proofs.YtjlaedokfbcbpaaGreatDoor
open Proofs.Tryz
open Go.RowKit Go.Maps Go.WideMaps
theorem usesRight_is (c:Bool) (d:Ae) (hc:Hid (Au d=c)) (b:Nat) (w:World) (hs:d.text.size<=1048576) (hM:Ip w b) (hG:E8 w) :
  Calls prog 31 #[Af d,.map (some b)] w fun e w'=>e = .returned (.bool c)/\Below w.heap.size w w':=by
 rw[<- hc.out];exact usesRight_any d b w hs hM hG
theorem E8.below {w w':World} (h:E8 w) (hb:Below w.heap.size w w'):E8 w' :=
 ⟨fun t h1 h2=>by rw[hb.cell (p:=(OK 1 t)) h.2];exact h.1 t h1 h2,Nat.lt_of_lt_of_le h.2 hb.size⟩
theorem Ed.below {w w':World} (h:Ed w) (hb:Below w.heap.size w w'):Ed w' :=
 ⟨fun t h1 h2=>by rw[hb.cell (p:=(OK 2 (t * 2+1))) h.2];exact h.1 t h1 h2,Nat.lt_of_lt_of_le h.2 hb.size⟩
theorem Tryz.ifNeNil (t:TypeId) (y:Value) (w:World):(binOp .eql 86 (.iface t y) .nilIface).run prog w = .ok (.bool false) w:=OE
theorem Tryz.ifEqNil (w:World):(binOp .eql 86 .nilIface .nilIface).run prog w = .ok (.bool true) w:=OE
theorem Qj {B:Nat} {w w':World} (h:Below B w.drew w'):Below B w w':=⟨h.os,h.tape,h.output,h.size,h.block⟩
theorem R5 {w:World} {B e size n:Nat} {v:Value} {xs:List Value} (h:w.ownsRow B e size v n xs):Qb6 v n:=by
 intro a c d;rcases h.2 with⟨b,k⟩|⟨g,f,i,b,_,_,j,_⟩
 ·rw[d]at b;cases b;omega
 ·rw[d]at b;cases b;exact j
theorem Qck {w:World} {B e n c:Nat} {a:Option Addr} {xs:List Value} (h:w.ownsRow B e 1 (.slice a n c) n xs) (m:Nat) (hm:m<=n):w.ownsRow B e 1 (.slice a m c) m (xs.take m):=by
 rcases h.2 with⟨f,k⟩|⟨g,b,d,j,_⟩
 ·cases f
  have i:m=0:=OC
  subst i;exact⟨by simp,.inl ⟨rfl,rfl⟩⟩
 ·cases j;exact Vg h m hm
theorem clone_u (at':Option Addr) (p m ct B:Nat) (sa:Option Addr) (vs:List Value) (W:World) (hsa:Hid ((if ct=p then at' else at'.map (fun a=>a.add p))=sa)) (hown:W.ownsRow B 86 1 (.slice at' (p+m) ct) (p+m) vs) (hone:∀ u ∈ vs.drop p,u.oneCell'=true) (hm:m<=100000) :
  Calls prog 33 #[.slice sa m (ct - p)] W fun e w' => ∃ i k,e = .returned (.slice i m k)/\Hid (Bk (fun g=>W.heap.size<=g/\g < w'.heap.size) w' (.slice i m k) m (vs.drop p))/\Qb6 (.slice i m k) m/\Below W.heap.size W w':=by
 have D:vs.length=p+m:=by have:=hown.1;omega
 have l:(vs.drop p).length=m:=by rw[List.length_drop];omega
 rcases hown.2 with⟨t,E⟩|⟨g,y,z,x,A,r,v,_⟩
 ·simp only[Value.slice.injEq]at t;obtain⟨rfl,_,rfl⟩:=t;have s:p=0:=OC
  have n:m=0:=OC
  subst s n;have f:sa=none:=by rw[<- hsa.out];simp
  subst f;refine(CloneB_nil W).mono ?_;rintro e w' ⟨rfl,rfl⟩;have d:vs.drop 0=[]:=List.length_eq_zero_iff.1 l;exact⟨none,0,rfl,by rw[d];exact H0 _ _,fun a c h=>by cases h;exact ON,OO _⟩
 ·simp only[Value.slice.injEq]at x;obtain⟨rfl,_,rfl⟩:=x;have o:g < W.heap.size:=(Array.getElem?_eq_some_iff.1 r).1;by_cases hcp:ct=p
  ·have n:m=0:=OC;subst n;have f:sa=some (OK g 0):=(by rw[<- hsa.out,if_pos hcp]);subst f;have d:vs.drop p=[]:=List.length_eq_zero_iff.1 l;rw[d];refine(CloneB_any g 0 0 (ct - p) [] W rfl OC OF (fun j u hj=>by simp at hj) o).mono ?_;rintro e w' ⟨S,rfl,b,q⟩;obtain⟨i,k,rfl⟩:=G1 b;exact⟨i,k,rfl,Ma b,R5 b,q⟩
  ·have f:sa=some (OK g p):=by
    rw[<- hsa.out,if_neg hcp];simp only[Option.map_some,Addr.add];split
    ·simp_all
    ·simp
   subst f;refine(CloneB_any g p m (ct - p) (vs.drop p) W l hm hone (fun j u hj => ?_) o).mono ?_
   ·have C:=(List.getElem?_eq_some_iff.1 hj).1;rw[hown.cellAt (p+j) OC];rw[List.getElem?_drop]at hj;exact hj
   ·rintro e w' ⟨S,rfl,b,q⟩;obtain⟨i,k,rfl⟩:=G1 b;exact⟨i,k,rfl,Ma b,R5 b,q⟩
theorem Qba {wr w2 w3 w4 w5 w6:World} {B p m ct:Nat} {at':Option Addr} {v6 v:Value} {d:Ae} {st:List Aa} {vs:List Value} {o:Obj}
  (hown:wr.ownsRow B 86 1 (.slice at' (p+m) ct) (p+m) vs) (hR:An (Gh B wr (.slice at' (p+m) ct)) wr st vs) (hK:Aq vs (st.map (fun t=>t.nd.kind)))
  (hB:B<=wr.heap.size) (hbr5:Below wr.heap.size wr w5) (hb45:Below w4.heap.size w4 w5) (h2:wr.heap.size<=w2.heap.size) (h23:w2.heap.size<=w3.heap.size)
  (hsh:H7 (fun g=>w2.heap.size<=g/\g < w3.heap.size\/w3.heap.size<=g/\g < w4.heap.size) w4 d (vs.drop p) v) (h34:w3.heap.size<=w4.heap.size)
  (g6:(w5.alloc o).grownBy w6 (Value.slice at' p ct).ownBlock) (at6:v6.ownBlock=(Value.slice at' p ct).ownBlock\/v6.ownBlock=some (w5.alloc o).heap.size)
  (h60:23<=d.kind->(vs.drop p).length<=100000) (hl:(vs.drop p).length<=100000) :
  An (Gh B w6 v6) w6 (st.take p++[.node d (st.drop p)]) (vs.take p++[v])/\Aq (vs.take p++[v]) ((st.take p++[Aa.node d (st.drop p)]).map (fun t=>t.nd.kind)):=by
 have r:(Value.slice at' p ct).ownBlock=(Value.slice at' (p+m) ct).ownBlock:=by cases at' <;> rfl
 rw[r]at g6 at6;have j:∀ g,(Value.slice at' (p+m) ct).ownBlock=some g->g < wr.heap.size:=fun g h=>(hown.lt g h).2
 have s:=hbr5.size;have k:=hb45.size;have u:=g6.size;rw[World.size_alloc]at u at6;have q:Below wr.heap.size wr (w5.alloc o):=hbr5.alloc s o;have i:Below w4.heap.size w4 (w5.alloc o):=hb45.alloc k o;have a:∀ g,B<=g->g < w5.heap.size->(Value.slice at' (p+m) ct).ownBlock≠some g->Gh B w6 v6 g:=fun g l f c=>by
  refine⟨l,by omega,fun h4 => ?_⟩;rcases at6 with n|n
  ·exact c (n.symm.trans h4)
  ·rw[h4]at n;cases n;omega
 have b:∀ g,g < w5.heap.size->(Value.slice at' (p+m) ct).ownBlock≠some g->w6.heap[g]? = (w5.alloc o).heap[g]?:=fun g f c=>g6.block g (by rw[World.size_alloc];omega) (fun h4=>c (by first|exact h4|exact h4.symm))
 refine Qcm hR hK ?_ ?_ hsh ?_ ?_ h60 hl
 ·rintro g ⟨l,f,c⟩;rw[b g OC c];exact q.block g f
 ·rintro g ⟨l,f,c⟩;exact a g l OC c
 ·intro g f;have c:(Value.slice at' (p+m) ct).ownBlock≠some g:=fun h4=>by have:=j g h4;omega
  rw[b g OC c];exact i.block g OC
 ·intro g f;exact a g OC OC (fun h4=>by have:=j g h4;omega)
theorem Xt (d:Ae) (st:List Aa) (m p:Nat) (hd:d.kids=(m:Int)) (hL:st.length=p+m):Do d st=(Au d && Ac d.kind d.op ((st.map (fun t=>t.nd.kind)).drop p) && H4 d (Ay d m)):=by
 unfold Do;have a:d.kids.toNat=m:=OC
 have b:st.length - m=p:=OC
 have c:(0:Int)<=d.kids:=OC
 have f:d.kids<=st.length:=OC
 rw[a,b,List.map_drop];simp only[c,f,decide_true,Bool.true_and]
theorem Qi7 {d:Ae} {st:List Aa} {m p:Nat} {r:List Ae} {G:Option (List Aa)} (hd:d.kids=(m:Int)) (hL:st.length=p+m)
  (hu:(if Do d st=true then Bu r (st.take (st.length - d.kids.toNat)++[.node d (st.drop (st.length - d.kids.toNat))]) else none)=G)
  (h1:Au d=true) (h2:Ac d.kind d.op ((st.map (fun t=>t.nd.kind)).drop p)=true) (h3:H4 d (Ay d m)=true):Bu r (st.take p++[.node d (st.drop p)])=G:=by
 have a:st.length - d.kids.toNat=p:=OC
 rw[Xt d st m p hd hL,h1,h2,h3,a]at hu;simpa using hu
theorem Qcd {d:Ae} {st:List Aa} {m p:Nat} {r:List Ae} {G:Option (List Aa)} (hd:d.kids=(m:Int)) (hL:st.length=p+m)
  (hu:(if Do d st=true then Bu r (st.take (st.length - d.kids.toNat)++[.node d (st.drop (st.length - d.kids.toNat))]) else none)=G)
  (h:(Au d && Ac d.kind d.op ((st.map (fun t=>t.nd.kind)).drop p) && H4 d (Ay d m))=false):G=none:=by
 rw[Xt d st m p hd hL,h]at hu;simpa using hu.symm
theorem Qd9 (l:List Aa) (i:Nat) (h:∀ t ∈ l,t.high < i):Aa.highs l<=i:=by
 induction l with
 | nil=>simp[Aa.highs]
 | cons t r ih =>
  simp only[Aa.highs];have a:=h t OF;have b:=ih (fun u hu=>h u (by simp[hu]));omega
theorem Qcc (st:List Aa) (d:Ae) (p i:Nat) (h:∀ t ∈ st,t.high < i):∀ t ∈ st.take p++[.node d (st.drop p)],t.high < i+1:=by
 intro t a;rcases List.mem_append.1 a with a|a
 ·have:=h t (List.mem_of_mem_take a);omega
 ·rw[List.mem_singleton]at a;subst a;rw[Aa.high];have:=Qd9 (st.drop p) i (fun u hu=>h u (List.mem_of_mem_drop hu));omega
theorem Qcl {P:Nat->Prop} {w:World} {t:Aa} {T:TypeId} {X:Value} (h24:t.nd.kind=24) (h:Ba P w t (.iface T X)):∃ a n c,X = .agg #[.slice a n c]:=by
 obtain⟨d,ks⟩:=t;rw[Ba]at h;obtain⟨us,⟨_,_,x,j,f⟩,_⟩:=h;cases j
 unfold Az at f;have b:d.kind=24:=h24;simp (decide:=true) only[b,if_false]at f;obtain⟨l,k,_,⟨a,c,g,_⟩,i⟩:=f;exact⟨a,_,c,by rw[i,g]⟩
theorem Qd8 (w:World) (B g:Nat) (v:Value) (h:B≠g):(w.setCell (OK B 0) v).heap[g]? = w.heap[g]?:=by
 unfold World.setCell;simp[Array.getElem?_modify,h]
theorem Qg5 (k:Int) (h1:1<=k) (h2:k<=24) (h:A9 k=40):k=24:=by
 rcases N4 k h1 h2 with rfl|rfl|rfl|rfl|rfl|rfl|rfl|rfl|rfl|rfl|rfl|rfl|rfl|rfl|rfl|rfl|rfl|rfl|rfl|rfl|rfl|rfl|rfl|rfl
 all_goals first|rfl|(exfalso;revert h;decide)
end Go.Proofs.YtjlaedokfbcbpaaGreatDoor
namespace Go.Proofs.YtjlaedokfbcbpaaGreatDoor
open Proofs.Tryz
open Go.RowKit Go.Maps Go.WideMaps
def Ka (W:World) (B:Nat):Prop:=W.cell? (OK B 0)=some (.slice none 0 0)/\W.frozen? (OK B 0)=false/\B < W.heap.size
theorem Ka.below {W W':World} {B:Nat} (h:Ka W B) (hb:Below W.heap.size W W'):Ka W' B :=
 ⟨by rw[hb.cell (p:=(OK B 0)) h.2.2];exact h.1,by rw[hb.frozen (p:=(OK B 0)) h.2.2];exact h.2.1,Nat.lt_of_lt_of_le h.2.2 hb.size⟩
theorem Ka.alloc {W:World} {B:Nat} (h:Ka W B) (o:Obj):Ka (W.alloc o) B:=h.below (OP W o)
def Nl (w:World) (ns:List Ae) (e:Ending) (w':World):Prop :=
 (∃ ax nx cx,e = .returned (.tuple #[.agg #[.slice ax nx cx],.bool (Bj ns)])/\(Bj ns=true->∃ (t:Aa) (P:Nat->Prop),Bu ns []=some [t]/\(∀ g,P g->g < w'.heap.size)/\Ba P w' t (.iface 40 (.agg #[.slice ax nx cx]))))/\Below w.heap.size w w'
theorem Ix {w w':World} {ns:List Ae} (h:Hid (Bj ns=false)) (hb:Below w.heap.size w w'):Nl w ns (.returned (.tuple #[.agg #[.slice none 0 0],.bool false])) w' :=
 ⟨⟨none,0,0,by rw[h.out],fun h2=>by rw[h.out]at h2;cases h2⟩,hb⟩
def Qjb : Option (List Aa)->Bool
 | some [t]=>(t.nd.kind == 24) && decide (t.high<=60)
 | _=>false
theorem Qcn (ns:List Ae) (h:ns.length<=12001):Bj ns=Qjb (Bu ns []):=by
 unfold Bj;simp only[h,decide_true,Bool.true_and];cases Bu ns [] with
 | none=>rfl
 | some l=>rcases l with _|⟨t,_|⟨u,r⟩⟩ <;> rfl
theorem DdTreeZJx73 {P:Prop} (h:P:=by
 clear A hR hK f ai ah aj
 go_wp2
 exact bodyPost_ret (v:=.tuple #[.agg #[.slice none 0 0],.bool false]) (by simp[results,results13,go_sem,qa]) rfl (Ix M ((l.alloc l.size _).setCell (p:=(OK (w.heap.size+1) 0)) OJ _))
 ):P:=h
theorem rootOf_short (ns:List Ae) (v:Value) (w:World) (hN:Bz w v ns) (hl:ns.length<=12001) (hs:∀ d ∈ ns,d.text.size<=1048576) (hG:E8 w) (hW:Ed w) :
  Calls prog 13 #[.agg #[v]] w fun e w'=>Nl w ns e w':=by
 obtain⟨i0,bk,br,bs,bt⟩:=info_parts Tryz.infoBranch;obtain⟨a,bg,rfl,hc⟩:=hN;have HR:Hid (Bj ns=Qjb (Bu ns [])):=Qcn ns hl;obtain⟨n,HN⟩:∃ n,Hid (ns.length=n):=⟨_,(rfl:ns.length=_)⟩;rw[HN.out]at hl;simp only[HN.out];have a0:∀ i (hi:i < n),∃ g,a=some (OK g 0)/\g < w.heap.size/\∀ j,j < 6->w.cell? (OK g (i * 6+j))=(By (ns[i]'(by rw[HN.out];exact hi)))[j]?:=fun i hi=>hc i (by rw[HN.out];exact hi)
 clear hc;have HC:Hid (∀ i (hi:i < n),∃ g,a=some (OK g 0)/\g < w.heap.size/\∀ j,j < 6->w.cell? (OK g (i * 6+j))=(By (ns[i]'(by rw[HN.out];exact hi)))[j]?):=a0;clear a0;have b6:(n:Int)<=12001:=OC
 go_enter func13,ntmps13;go_wp2_with (go_at_call 30;(refine(takenWords_any _).mono ?_;rintro e C ⟨rfl,hM,hb⟩;simp only[World.size_alloc]at hM hb;have r0:C.cell? (OK w.heap.size 0)=some (.slice a n bg):=(by rw[hb.cell (p:=(OK w.heap.size 0)) OJ];simp[go_sem]);have r1:C.cell? (OK (w.heap.size+1) 0)=some (.slice none 0 0):=(by rw[hb.cell (p:=(OK (w.heap.size+1) 0)) OJ];simp[go_sem]);have s1:C.frozen? (OK (w.heap.size+1) 0)=false:=(by rw[hb.frozen (p:=(OK (w.heap.size+1) 0)) OJ];simp[go_sem]);have a8:=hb.size;simp only[World.size_alloc]at a8));have bh:Ip C (w.heap.size+1+1):=hM;have am:Below w.heap.size w C:=((OP w _).alloc OF _).trans (hb.mono OC);go_loopw [5,21] (fun vt tv wr => ∃ (i:Nat) (o:List Aa) (B:List Value),i<=n/\tv = .int .i64 (i:Int)/\o.length<=i/\wr.ownsRow C.heap.size 86 1 vt o.length B/\An (Gh C.heap.size wr vt) wr o B/\Aq B (o.map (fun t=>t.nd.kind))/\Below C.heap.size C wr/\Bu (ns.drop i) o=Bu ns []/\∀ t ∈ o,t.high < i) (fun _ tv _=>n - (intOf tv).toNat);case atStart =>
  refine⟨0,[],[],by omega,rfl,by simp,⟨rfl,.inl ⟨rfl,rfl⟩⟩,by rw[An],⟨rfl,fun i hi=>by simp at hi⟩,OO _,rfl,by simp⟩
 case round =>
  obtain⟨i,o,B,hi,rfl,a6,f,hR,hK,I,A,a2⟩:=hrel;have az:Hid (∀ t ∈ o,t.high < i):=a2;clear a2;have q:Ka wr (w.heap.size+1):=Ka.below ⟨r1,s1,by omega⟩ I;have l:Below w.heap.size w wr:=am.trans (I.mono am.size);by_cases hlt:i < n
  ·obtain⟨g,rfl,hg,ad⟩:=HC.out i hlt;have a3:i < ns.length:=(by rw[HN.out];exact hlt);rw[List.drop_eq_getElem_cons a3,Bu]at A;have aw:=hs ns[i] (List.getElem_mem a3);have hq:∀ m,m < 6->wr.cell? (OK g (i * 6+m))=(By ns[i])[m]?:=fun m hm=>by rw[l.cell (p:=(OK g (i * 6+m))) hg,ad m hm]
   generalize ns[i]=d at *;have e0:=hq 0 OC;have e1:=hq 1 OC;have e2:=hq 2 OC;have e3:=hq 3 OC;have e4:=hq 4 OC;have e5:=hq 5 OC;simp only[By,Nat.add_zero,List.getElem?_cons_zero,List.getElem?_cons_succ]at e0 e1 e2 e3 e4 e5;clear hq ad HC;obtain⟨L,U⟩:∃ L,Hid (o.length=L):=⟨_,(rfl:o.length=_)⟩;rw[U.out]at f a6;obtain⟨E,W,rfl⟩:=G1 f;have ai:Ip (wr.alloc (.cells #[.int .i64 d.kind,.int .i64 d.op,.int .i64 d.type,.int .i64 d.n,.string d.text,.int .i64 d.kids] 62)) (w.heap.size+1+1):=(Qbc bh I).alloc _;have ah:E8 (wr.alloc (.cells #[.int .i64 d.kind,.int .i64 d.op,.int .i64 d.type,.int .i64 d.n,.string d.text,.int .i64 d.kids] 62)):=(hG.below l).below (OP wr _);have aj:Ed (wr.alloc (.cells #[.int .i64 d.kind,.int .i64 d.op,.int .i64 d.type,.int .i64 d.n,.string d.text,.int .i64 d.kids] 62)):=(hW.below l).below (OP wr _);obtain⟨qa,ta,_⟩:=q.alloc (.cells #[.int .i64 d.kind,.int .i64 d.op,.int .i64 d.type,.int .i64 d.n,.string d.text,.int .i64 d.kids] 62);by_cases hk0:d.kids < 0
   ·have M:Hid (Bj ns=false):=by
     have:Do d o=false:=(by simp[Do];omega);rw[this]at A;rw[Hid,HR.out,<- A];rfl
    exact DdTreeZJx73
   ·by_cases hk1:(L:Int) < d.kids
    ·have M:Hid (Bj ns=false):=by
      have:Do d o=false:=by
       have h1:=U.out;simp[Do];omega
      rw[this]at A;rw[Hid,HR.out,<- A];rfl
     exact DdTreeZJx73
    ·obtain⟨c,D⟩:∃ c,Hid (Au d=c):=⟨_,(rfl:Au d=_)⟩;cases c with
     | false =>
      have M:Hid (Bj ns=false):=by
       have:Do d o=false:=(by simp[Do,D.out]);rw[this]at A;rw[Hid,HR.out,<- A];rfl
      clear A hR hK f aj;go_wp2_with (go_at_call 31;(refine(usesRight_is false _ D (w.heap.size+1+1) _ aw ai ah).mono ?_;rintro e K ⟨rfl,b⟩;obtain⟨qb,tb,_⟩:=(q.alloc _).below b;rw[World.size_alloc]at b));exact bodyPost_ret (v:=.tuple #[.agg #[.slice none 0 0],.bool false]) (by simp[results,results13,go_sem,qb]) rfl (Ix M (((l.alloc l.size _).trans (b.mono (by have:=l.size;omega))).setCell (p:=(OK (w.heap.size+1) 0)) OJ _))
     | true =>
      obtain⟨H,Q,kt,ky,kx,kk⟩:=d;simp only at *;obtain⟨m,rfl⟩:∃ m:Nat,kk=(m:Int):=⟨kk.toNat,by omega⟩;have bx:¬ (m:Int) < 0:=OC;obtain⟨p,hp⟩:∃ p,L=p+m:=⟨L - m,by omega⟩;subst hp;have S:=hK.drop p;have O:=S.one;have b9:B.length=p+m:=(by have:=f.1;omega);have a1:(B.drop p).length=m:=(by rw[List.length_drop];omega);have ho:H=8->1<=Q/\Q<=12:=by
       intro h8;have:=D.out;simp[Au,h8]at this;exact this
      have ao:Hid (((o.map (fun t=>t.nd.kind)).drop p).length=m):=(by rw[Hid,List.length_drop,List.length_map,U.out];omega);obtain⟨sa,aq⟩:∃ sa,Hid ((if W=p then E else E.map (fun a=>a.add p))=sa):=⟨_,(rfl:(if W=p then E else E.map (fun a=>a.add p))=_)⟩;have a5:=aq.out;have b8:p+m - p=m:=OC;have b7:=Tryz.ifNeNil;have bw:=R5 f _ _ rfl;cases hF:Ac H Q ((o.map (fun t=>t.nd.kind)).drop p) with
      | false =>
       have M:Hid (Bj ns=false):=(by rw[Hid,HR.out,Qcd (p:=p) (m:=m) rfl U.out A (by rw[D.out,hF];rfl)];rfl);have b4:=Tryz.ifEqNil;clear A;go_wp2_with (first
        | (go_at_call 31;(refine(usesRight_is true _ D (w.heap.size+1+1) _ aw ai ah).mono ?_;rintro e K ⟨rfl,b⟩;obtain⟨qb,tb,nb⟩:=(q.alloc _).below b;rw[World.size_alloc]at b;obtain⟨q0,q1,q2,q3,q4,q5⟩:=Hv b;have y:=b.size;rw[World.size_alloc]at y)))
       have G:Below wr.heap.size wr K:=(OP wr _).trans (b.mono OC);have R:=Fc f G;have av:Ed K:=aj.below (by rw[World.size_alloc];exact b);have J:Hid (∀ u ∈ B.drop p,u.oneCell'=true):=O;clear O;go_region_with (first
        | (go_at_call 33;go_loud (refine(clone_u E p m W _ sa B K.drew aq R J.out OC).mono ?_;rintro e w3 ⟨aS,cS,rfl,af,V,ac⟩;have z:=Qj ac;have a9:=z.size;obtain⟨s0,s1,s2,s3,s4,s5⟩:=Hv (b.trans (z.mono y))))
        | (go_at_call 32;(refine(grown_any H Q kt ky kx (m:Int) ho (fun g=>K.heap.size<=g/\g < w3.heap.size) (B.drop p) ((o.map (fun t=>t.nd.kind)).drop p) _ m ao w3 (av.below z) (fun g h=>h.2) af.out V S OC).mono ?_;rintro e w4 ⟨ab,hg⟩;rw[hF]at hg;obtain⟨_,rfl⟩:=hg.resolve_left OF)))
       all_goals
        have N:Below (wr.heap.size+1) (wr.alloc (.cells #[.int .i64 H,.int .i64 Q,.int .i64 kt,.int .i64 ky,.string kx,.int .i64 (m:Int)] 62)) w4:=(b.trans (z.mono y)).trans (ab.mono OC);have s:Below wr.heap.size wr w4:=(OP wr _).trans (N.mono OC);obtain⟨qe,te,_⟩:=q.below s;clear hg q0 q1 q2 q3 q4 q5 s0 s1 s2 s3 s4 s5 qa ta qb tb a5 af;go_wp2;exact bodyPost_ret (v:=.tuple #[.agg #[.slice none 0 0],.bool false]) (by simp[results,results13,go_sem,qe]) rfl (Ix M ((l.trans (s.mono l.size)).setCell (p:=(OK (w.heap.size+1) 0)) OJ _))
      | true =>
       go_wp2_with (first
        | (go_at_call 31;(refine(usesRight_is true _ D (w.heap.size+1+1) _ aw ai ah).mono ?_;rintro e K ⟨rfl,b⟩;obtain⟨qb,tb,nb⟩:=(q.alloc _).below b;rw[World.size_alloc]at b;obtain⟨q0,q1,q2,q3,q4,q5⟩:=Hv b;have y:=b.size;rw[World.size_alloc]at y)))
       have G:Below wr.heap.size wr K:=(OP wr _).trans (b.mono OC);have R:=Fc f G;have av:Ed K:=aj.below (by rw[World.size_alloc];exact b);have J:Hid (∀ u ∈ B.drop p,u.oneCell'=true):=O;clear O;go_region_with (first
        | (go_at_call 33;go_loud (refine(clone_u E p m W _ sa B K.drew aq R J.out OC).mono ?_;rintro e w3 ⟨aS,cS,rfl,af,V,ac⟩;have z:=Qj ac;have a9:=z.size;obtain⟨s0,s1,s2,s3,s4,s5⟩:=Hv (b.trans (z.mono y))))
        | (go_at_call 32;(refine(grown_any H Q kt ky kx (m:Int) ho (fun g=>K.heap.size<=g/\g < w3.heap.size) (B.drop p) ((o.map (fun t=>t.nd.kind)).drop p) _ m ao w3 (av.below z) (fun g h=>h.2) af.out V S OC).mono ?_;rintro e w4 ⟨ab,hg⟩;rw[hF]at hg;obtain⟨_,v,rfl,ay⟩:=hg.resolve_right OF)))
       all_goals
        obtain⟨k1,k2,X,bp,ak⟩:=R3 S ay;subst bp;have N:Below (wr.heap.size+1) (wr.alloc (.cells #[.int .i64 H,.int .i64 Q,.int .i64 kt,.int .i64 ky,.string kx,.int .i64 (m:Int)] 62)) w4:=(b.trans (z.mono y)).trans (ab.mono OC);obtain⟨x0,x1,x2,x3,x4,x5⟩:=Hv N;have s:Below wr.heap.size wr w4:=(OP wr _).trans (N.mono OC);have au:=q.below s;have bu:=ab.size;obtain⟨bb,ag⟩:∃ bb,Hid (H4 ⟨H,Q,kt,ky,kx,(m:Int)⟩ (Ay ⟨H,Q,kt,ky,kx,(m:Int)⟩ m)=bb):=⟨_,(rfl:H4 _ _=_)⟩;have Y:23<=H->(B.drop p).length<=100000:=fun h23=>by have:=Qi4 H Q _ hF h23;have h3:=ao.out;omega
        have ar:Hid (H7 (fun g=>K.heap.size<=g/\g < w3.heap.size\/w3.heap.size<=g/\g < w4.heap.size) w4 ⟨H,Q,kt,ky,kx,(m:Int)⟩ (B.drop p) (.iface (A9 H) X)):=ay;clear ay hg q0 q1 q2 q3 q4 q5 s0 s1 s2 s3 s4 s5 qa ta qb tb a5 af;have ba:=I.size;have bd:w4.ownsRow C.heap.size 86 1 (.slice E (p+m) W) (p+m) B:=Fc (Fc R z) ab;cases bb with
        | false =>
         have M:Hid (Bj ns=false):=(by rw[Hid,HR.out,Qcd (p:=p) (m:=m) rfl U.out A (by rw[D.out,hF,ag.out];rfl)];rfl);clear A;go_wp2_with (go_at_call 34;(refine(usesAll_is false _ _ (B.drop p) _ m a1 ag _ w4 (fun g h=>OC) S Y ar.out).mono ?_;rintro e w5 ⟨rfl,F⟩;obtain⟨qe,te,_⟩:=au.below F));exact bodyPost_ret (v:=.tuple #[.agg #[.slice none 0 0],.bool false]) (by simp[results,results13,go_sem,qe]) rfl (Ix M (((l.trans (s.mono l.size)).trans (F.mono (by have:=l.size;omega))).setCell (p:=(OK (w.heap.size+1) 0)) OJ _))
        | true =>
         go_wp2_with (first
          | (go_at_call 34;(refine(usesAll_is true _ _ (B.drop p) _ m a1 ag _ w4 (fun g h=>OC) S Y ar.out).mono ?_;rintro e w5 ⟨rfl,F⟩;have ca:=F.size;have bc:=Qck (Fc bd F) p OC))
          | (at_builtin;go_loud (refine wpList_append_own_at _ rfl _ _ 49 rfl C.heap.size 86 i0 .nilIface 1 16 underlying49 bk br bs bt rfl OD _ p (B.take p) rfl (bc.alloc _) (OK w5.heap.size 0) 1 1 [.iface (A9 H) X] rfl rfl (cell_one_new _ _ _) (fun u A=>by rw[List.mem_singleton]at A;subst A;rfl) OI OC OH ?_;intro v6 w6 be g6 _ bf)))
         have HU:Hid (Bu (ns.drop (i+1)) (o.take p++[.node ⟨H,Q,kt,ky,kx,(m:Int)⟩ (o.drop p)])=Bu ns []):=Qi7 rfl U.out A D.out hF ag.out;have ae:=Qba f hR hK ba (s.trans (F.mono OC)) F OC a9 ar.out bu g6 bf Y OC;have bj:Below C.heap.size C w6:=Below.grown (((I.trans (s.mono ba)).trans (F.mono OC)).alloc OC _) g6 (by rw[World.size_alloc];omega) (fun k hk=>(bc.lt k hk).1);have an:(o.take p++[Aa.node ⟨H,Q,kt,ky,kx,(m:Int)⟩ (o.drop p)]).length=p+1:=(by have:=U.out;simp;omega);have HH:=Qcc o ⟨H,Q,kt,ky,kx,(m:Int)⟩ p i az.out;go_roundw;case rel=>exact⟨i+1,_,_,by omega,by go_num,by rw[an];omega,by rw[an];exact be,ae.1,ae.2,bj,HU.out,HH⟩
         case measure=>simp[intOf];omega
  ·have bl:i=n:=OC;subst bl;have HG:Hid (Bu ns []=some o):=(by rw[List.drop_of_length_le (by rw[HN.out];omega),Bu]at A;exact A.symm);clear A HC;obtain⟨qa,ta,_⟩:=q;obtain⟨E,W,rfl⟩:=G1 f;obtain⟨L,U⟩:∃ L,Hid (o.length=L):=⟨_,(rfl:o.length=_)⟩;rw[U.out]at f a6;simp only[U.out];by_cases hL1:L=1
   ·subst hL1;obtain⟨t,bm⟩:∃ t,o=[t]:=by
     have h1:=U.out;match o,h1 with
     | [t],_=>exact⟨t,rfl⟩
    subst bm;obtain⟨u,bq⟩:∃ u,B=[u]:=by
     have h1:=f.1;match B,h1 with
     | [u],_=>exact⟨u,rfl⟩
    subst bq;obtain⟨k1,k2,X,hX,ak⟩:=hK.2 0 OF;simp only[List.map_cons,List.map_nil,List.getElem_cons_zero,List.getElem?_cons_zero,Option.some.injEq]at k1 k2 hX ak;subst hX;obtain⟨tb,b2,bo,bz,b0⟩:=Oy f OC;cases bo
    have cu:wr.cell? (OK tb 0)=some (.iface (A9 t.nd.kind) X):=(by rw[f.cellAt 0 OC];rfl);have ap:Hid (Bj ns=((t.nd.kind == 24) && decide (t.high<=60))):=(by rw[Hid,HR.out,HG.out];rfl);have aa:Ba (Gh C.heap.size wr (.slice (some (OK tb 0)) 1 W)) wr t (.iface (A9 t.nd.kind) X):=by
     rw[An]at hR;obtain⟨u,cb,h1,h2,_⟩:=hR;cases h1;exact h2
    have b5:t.high < 12001:=(by have:=az.out t OF;omega);by_cases h24:t.nd.kind=24
    ·have ht:A9 t.nd.kind=40:=(by rw[h24];rfl);rw[ht]at cu aa;obtain⟨ax,nx,cx,bi⟩:=Qcl h24 aa;subst bi;have bn:∀ (x:Value) (w:World),(Instr.typeAssert (.iface 40 x) 86 40 true).run prog w = .ok (.tuple #[x,.bool true]) w:=fun x w=>by rw[Tryz.ta_programNode,if_pos rfl]
     clear hR f hK ak;have Z:Ka (wr.alloc (.cells #[.slice ax nx cx] 40)) (w.heap.size+1):=Ka.alloc ⟨qa,ta,by have:=l.size;omega⟩ _;have al:Ba (Gh C.heap.size wr (.slice (some (OK tb 0)) 1 W)) (wr.alloc (.cells #[.slice ax nx cx] 40)) t (.iface 40 (.agg #[.slice ax nx cx])):=Ba.below (fun g h=>h) (fun g h=>((Below.refl wr.heap.size wr).alloc ON _).block g h.2.1) _ _ aa;by_cases Y:t.high<=60
     ·have HT:Hid (Bj ns=true):=(by rw[Hid,ap.out];simp[h24,Y]);go_wp2_with (go_at_call 35;(refine(levels_any t _ _ (Gh C.heap.size wr (.slice (some (OK tb 0)) 1 W)) OC (fun g h=>by have:=h.2.1;rw[World.size_alloc];omega) al).mono ?_;rintro e K ⟨rfl,b⟩;obtain⟨qe,te,_⟩:=Z.below b;rw[World.size_alloc]at b;have cr:K.cell? (OK wr.heap.size 0)=some (.slice ax nx cx):=(by rw[b.cell (p:=(OK wr.heap.size 0)) OF];simp[go_sem])));have b1:=I.size;have bv:=b.size;rw[World.size_alloc]at bv;have G:Below w.heap.size w K:=(l.alloc l.size _).trans (b.mono (by have:=l.size;omega));refine bodyPost_ret (v:=.tuple #[.agg #[.slice ax nx cx],.bool true]) (by simp[results,results13,go_sem,qe]) rfl ⟨⟨ax,nx,cx,by rw[HT.out],fun _=>⟨t,Gh C.heap.size wr (.slice (some (OK tb 0)) 1 W),HG.out, ?_, ?_⟩⟩,G.setCell (p:=(OK (w.heap.size+1) 0)) OJ _⟩
      ·intro g h;have:=h.2.1;rw[World.size_setCell];omega
      ·refine Ba.below (fun g h=>h) (fun g h => ?_) _ _ aa;have h1:=h.1;have h2:=h.2.1;rw[Qd8 _ _ _ _ OC,b.block g OC];exact((Below.refl wr.heap.size wr).alloc ON _).block g h2
     ·have M:Hid (Bj ns=false):=(by rw[Hid,ap.out];simp;omega);go_wp2_with (go_at_call 35;(refine(levels_any t _ _ (Gh C.heap.size wr (.slice (some (OK tb 0)) 1 W)) OC (fun g h=>by have:=h.2.1;rw[World.size_alloc];omega) al).mono ?_;rintro e K ⟨rfl,b⟩;obtain⟨qe,te,_⟩:=Z.below b;rw[World.size_alloc]at b));exact bodyPost_ret (v:=.tuple #[.agg #[.slice none 0 0],.bool false]) (by simp[results,results13,go_sem,qe]) rfl (Ix M (((l.alloc l.size _).trans (b.mono (by have:=l.size;omega))).setCell (p:=(OK (w.heap.size+1) 0)) OJ _))
    ·have M:Hid (Bj ns=false):=(by rw[Hid,ap.out];simp[h24]);have a7:¬ A9 t.nd.kind=40:=fun h=>h24 (Qg5 _ k1 k2 h)
     obtain⟨T,hT⟩:∃ T,T=A9 t.nd.kind:=⟨_,rfl⟩;rw[<- hT]at cu a7;have bn:∀ (x:Value) (w:World),(Instr.typeAssert (.iface T x) 86 40 true).run prog w = .ok (.tuple #[.agg #[.slice none 0 0],.bool false]) w:=fun x w=>by rw[Tryz.ta_programNode,if_neg a7]
     obtain⟨qe,te,_⟩:Ka (wr.alloc (.cells #[.slice none 0 0] 40)) (w.heap.size+1):=Ka.alloc ⟨qa,ta,by have:=l.size;omega⟩ _;clear hR f hK ak aa hT;go_wp2;have a4:w.heap.size+1 < wr.heap.size:=(by have:=I.size;omega);have qf:((wr.setCell (OK (w.heap.size+1) 0) (.slice none 0 0)).alloc (.cells #[.slice none 0 0] 40)).cell? (OK (w.heap.size+1) 0)=some (.slice none 0 0):=by
      rw[World.cell?_alloc_past _ _ _ (by rw[World.size_setCell];exact a4)];simp[go_sem,qa]
     exact bodyPost_ret (v:=.tuple #[.agg #[.slice none 0 0],.bool false]) (by simp[results,results13,go_sem,qf]) rfl (Ix M ((l.setCell (p:=(OK (w.heap.size+1) 0)) OJ _).alloc (by rw[World.size_setCell];exact l.size) _))
   ·have M:Hid (Bj ns=false):=by
     rw[Hid,HR.out,HG.out];rcases o with _|⟨t,_|⟨u,r⟩⟩
     ·rfl
     ·have:=U.out;simp at this;omega
     ·rfl
    have b3:((L:Int) != 1)=true:=OH;go_wp2;exact bodyPost_ret (v:=.tuple #[.agg #[.slice none 0 0],.bool false]) (by simp[results,results13,go_sem,qa]) rfl (Ix M (l.setCell (p:=(OK (w.heap.size+1) 0)) OJ _))
end Go.Proofs.YtjlaedokfbcbpaaGreatDoor
