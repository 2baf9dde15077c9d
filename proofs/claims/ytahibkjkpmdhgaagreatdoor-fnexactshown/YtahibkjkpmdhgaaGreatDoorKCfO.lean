import Derived.Test.YtahibkjkpmdhgaaGreatDoorKTk
import Derived.Test.YtahibkjkpmdhgaaGreatDoorKCdT
import Derived.Test.YtahibkjkpmdhgaaGreatDoorCfS
set_option maxRecDepth 100000
set_option maxHeartbeats 2000000
namespace Go.Proofs.YtahibkjkpmdhgaaGreatDoor
open Go.RowKit
theorem Td {P:Program} {w:World} {ops:Array Oper} {rest:List Oper} {o:Oper} {a:Act} {Q:Exit->Act->World->Prop} (hgd:o.guard=none) (s x:Operand) (t:TypeId)
  (ho:o.op = .call { callee:=.builtin .append,args := #[s,x],argTypes := #[t,t] }) (base:Nat) (e:TypeId) (i:TypeInfo) (z:Value) (ht:P.underlying t=some (.slice e)) (hi:P.info? e=some i) (hz:i.zero=some z) (hsize:i.size=1) (hby:i.bytes=8) (hzs:z.cells.size=1)
  (v:Value) (n:Nat) (xs:List Int) (hs:a.eval s=v) (hown:w.ownsRow base e 1 v n (Ar xs)) (C:Nat) (src:Value) (hx:a.eval x=src) (y:Int) (hsrc:Ac C w src [y]) (hsmall:n+1<=1048576) (hbase:base<=w.heap.size)
  (h:∀ d w',w'.ownsRow base e 1 d (n+1) (Ar (xs++[y]))->w.grownBy w' v.ownBlock->(d.ownBlock=v.ownBlock\/d.ownBlock=some w.heap.size)->wpList P ops Q rest (a.put o.dst d) w') :
  wpList P ops Q (o::rest) a w:=by
 refine wpList_plain hgd fun K hK => ?_
 obtain⟨B,c,rfl,q⟩:=hsrc;obtain⟨g,k,rfl,_,b⟩:=q 0 OB;obtain⟨d,w',A,l,m,_,p⟩:=run_append_own_at (P:=P) (w:=w) base t o.type e i z 1 8 ht hi hz hsize hby hzs Ov v n (Ar xs) hown (OI g k) [y].length c (Ar [y]) (by simp[Ar]) (fun j u hu=>by
   have r:j=0:=by have:=List.getElem?_eq_some_iff.1 hu;obtain⟨h,_⟩:=this;simpa[Ar]using h
   subst r
   have f:u = .int .i64 y:=by simpa[Ar]using hu.symm
   rw[f];simpa[Addr.add]using b) Lf (by unfold maxLen;simp only[List.length_cons,List.length_nil];omega) (by simp only[List.length_cons,List.length_nil];omega) hbase
 rw[<- Le]at l;unfold Oper.wp execOp;simp only[ho,resolve,invoke,builtin,Sem.run_bind,Sem.run_pure,Result.andThen_ok,List.map_toArray,List.map_cons,List.map_nil,hs,hx,A];exact hK _ _ (h d w' l m p)
def Hf (B:Nat) (l':List Int) (row:Option Nat) (w:World) (e:Ending) (w':World):Prop := ∃ a' cap',e = .returned (.slice a' l'.length cap')/\w'.ownsRow B 3 1 (.slice a' l'.length cap') l'.length (Ar l')/\w.grownBy w' row/\((Value.slice a' l'.length cap').ownBlock=row\/(Value.slice a' l'.length cap').ownBlock=some w.heap.size)
theorem W7 (B:Nat) (l:List Int) (n:Nat) (hn:l.length=n) (x:Int) (a:Option Addr) (cap vb:Nat) (w:World) (hl:n<=1000000) (hB:B<=w.heap.size) (hown:w.ownsRow B 3 1 (.slice a n cap) n (Ar l)) (hsrc:Ac w.heap.size w (.slice (some (OI vb 0)) 1 1) [x]) :
  Calls Tryz.prog 156 #[.slice a n cap,.int .i64 (n:Int),.slice (some (OI vb 0)) 1 1] w (Hf B (l++[x]) (Value.slice a n cap).ownBlock w):=by
 have z:n<=cap:=by
  rcases hown.2 with⟨h,E⟩|⟨g,D,y,h,_,_,F,_⟩
  ·omega
  ·injection h with _ _ e;omega
 have u:Hid (w.ownsRow B 3 1 (.slice a n cap) n (Ar l)):=hown;have i:Hid (Ac w.heap.size w (.slice (some (OI vb 0)) 1 1) [x]):=hsrc;have c:Hid ((l++[x]).length=n+1):=by rw[Hid,List.length_append,hn];rfl
 clear hown hsrc hn;obtain⟨C,k,o,q,r⟩:=Jy;have s:(n:Int)<=(cap:Int):=Ou
 obtain⟨t,A⟩:∃ t,(if cap=n then a else a.map (fun p=>p.add n))=t:=⟨_,rfl⟩;go_enter Tryz.func156,Tryz.ntmps156;go_wp2_with (first|(at_builtin;refine Td rfl _ _ 124 rfl B 3 C (.int .i64 0) Tryz.underlying124 k o q r rfl (.slice a n cap) n l rfl u.out w.heap.size (.slice (some (OI vb 0)) 1 1) rfl x i.out Ou hB ?_;intro G H b j f;obtain⟨v,d,m⟩:=Cp b;subst m));go_ret;refine⟨v,d, ?_, ?_,j, ?_⟩
 ·rw[c.out];rfl
 ·rw[c.out];exact b
 ·rw[c.out];exact f
theorem I1 (g:Nat):∀ (vs:List Value) (o:Nat) (w:World) (cur:Array Value) (e:TypeId) (fr:Nat × Nat),w.heap[g]? = some (.cells cur e fr)->∃ a,(w.setCells g o vs).heap[g]? = some (.cells a e fr)/\a.size=cur.size/\∀ j,a[j]? = if o<=j/\j < o+vs.length/\j < cur.size then vs[j - o]? else cur[j]?
 | [],o,w,cur,e,fr,h=>⟨cur,h,rfl,fun j=>by rw[if_neg];simp;omega⟩
 | v::r,o,w,cur,e,fr,h=>by
  have b:(w.setCell (OI g o) v).heap[g]? = some (.cells (cur.setIfInBounds o v) e fr):=by
   simp[World.setCell,Array.getElem?_modify,h]
  obtain⟨a,c,d,f⟩:=I1 g r (o+1) _ _ e fr b;refine⟨a,c,by rw[d];simp,fun j => ?_⟩;rw[f j];simp only[Array.size_setIfInBounds,List.length_cons];by_cases hj:o+1<=j/\j < o+1+r.length/\j < cur.size
  ·rw[if_pos hj,if_pos Ou,show j - o=(j - (o+1))+1 by omega,List.getElem?_cons_succ]
  ·rw[if_neg hj,Array.getElem?_setIfInBounds];by_cases e1:o=j
   ·subst e1;rw[if_pos rfl];by_cases hs:o < cur.size
    ·rw[if_pos hs,if_pos Ou];simp
    ·rw[if_neg hs,if_neg Ou,Array.getElem?_eq_none Ou]
   ·rw[if_neg e1,if_neg Ou]
theorem I3 (g:Nat):∀ (vs:List Value) (o:Nat) (w:World),w.grownBy (w.setCells g o vs) (some g)
 | [],_,_=>⟨rfl,rfl,rfl,Nat.le_refl _,fun _ _ _=>rfl⟩
 | v::r,o,w=>by
  have h:=I3 g r (o+1) (w.setCell (OI g o) v)
  have hs:(w.setCell (OI g o) v).heap.size=w.heap.size:=World.size_setCell ..
  refine⟨h.os,h.tape,h.output,by rw[<- hs];exact h.size,fun k hk hne=>(h.block k (by rw[hs];exact hk) hne).trans ?_⟩
  have a:¬ g=k:=fun e=>hne (by rw[e])
  simp[World.setCell,Array.getElem?_modify,a]
theorem Is (l:List Int) (j:Nat):(Ar l)[j]? = (l[j]?).map (fun z=>Value.int .i64 z):=by
 simp[Ar]
theorem Ns (l:List Int) (x:Int) (i:Nat) (hi:i<=l.length) (j:Nat):(l.take i++[x]++l.drop i)[j]? = if j < i then l[j]? else if j=i then some x else l[j - 1]?:=by
 by_cases h1:j < i
 ·rw[if_pos h1,List.append_assoc,List.getElem?_append_left (by rw[List.length_take];omega),List.getElem?_take,if_pos h1]
 ·rw[if_neg h1,List.append_assoc,List.getElem?_append_right (by rw[List.length_take];omega),List.length_take,Nat.min_eq_left hi];by_cases h2:j=i
  ·subst h2;rw[if_pos rfl,Nat.sub_self];rfl
  ·rw[if_neg h2,show j - i=(j - i - 1)+1 by omega];show (l.drop i)[j - i - 1]? = _
   rw[List.getElem?_drop];congr 1;omega
theorem Tb (B:Nat) (l:List Int) (n i:Nat) (hn:l.length=n) (hi:i < n) (x:Int) (a:Option Addr) (cap vb:Nat) (w:World) (hl:n<=1000000) (hroom:n+1<=cap) (hown:w.ownsRow B 3 1 (.slice a n cap) n (Ar l)) (hv:w.heap[vb]? = some (.cells #[.int .i64 x] 3 (0,0))) (hne:(Value.slice a n cap).ownBlock≠some vb) :
  Calls Tryz.prog 156 #[.slice a n cap,.int .i64 (i:Int),.slice (some (OI vb 0)) 1 1] w (Hf B (l.take i++[x]++l.drop i) (Value.slice a n cap).ownBlock w):=by
 obtain⟨P,I⟩:=hown;rcases I with⟨h,O⟩|⟨g,E,d,h,z,y,H,t,m,u⟩
 ·omega
 ·injection h with e1 e2 e3;subst e1 e3;have D:vb≠g:=fun e=>hne (by rw[e];rfl)
  rw[Nat.mul_one]at m u;have b:∀ j,j < cap->w.cell? (OI g (0+j))=d[j]?:=fun j _=>by rw[Nat.zero_add];exact Lib.cell_of_heap y j
  have p:∀ j,j < n->d[j]? = (Ar l)[j]?:=fun j hj=>by
   rw[<- u,List.getElem?_take,if_pos hj,Array.getElem?_toList]
  have s:∀ j,j < cap->(d[j]?).isSome=true:=fun j hj=>by rw[Array.getElem?_eq_getElem Ou];rfl
  have q:(l.take i++[x]++l.drop i).length=n+1:=by simp;omega
  have r:=Any2.slices_Insert_int_shift Tryz.laysIns g 0 n cap i vb 0 1 1 (Ar l) [.int .i64 x] w hi Ou hroom (by have:=t;unfold maxLen at this;omega) D (by simp[Ar,hn]) rfl
   (fun j v hj=>by
    have f:j < n:=by
     have:=(List.getElem?_eq_some_iff.1 hj).1
     simpa[Ar,hn]using this
    rw[b j Ou,p j f];exact hj)
   (fun j hj=>by rw[b j Ou];exact s j Ou)
   (fun j hj=>by simp[World.frozen?,y])
   (fun j v hj=>by
    have C:j=0:=by have:=(List.getElem?_eq_some_iff.1 hj).1;simpa using this
    subst C
    rw[Lib.cell_of_heap hv];simpa using hj)
   Lf (fun v hv=>by simp at hv;rw[hv];rfl)
   3 3 1 cap (by simp[World.shape?,hv]) (by simp[World.shape?,y,m]) Ou (by simp[World.frozen?,hv]) (by simp[World.frozen?,hv])
  refine r.mono ?_;rintro e w' ⟨rfl,rfl⟩;obtain⟨G,J,F,K⟩:=I1 g ((Ar l).drop i) (0+(i+1)) w.drew d 3 (0,0) y;obtain⟨E,L,M,N⟩:=I1 g [.int .i64 x] (0+i) _ G 3 (0,0) J;refine⟨some (OI g 0),cap,by rw[q], ?_, ?_,.inl rfl⟩
  ·rw[q];refine⟨by simp[Ar];omega,.inr ⟨g,cap,E,rfl,z,L,hroom,t,by rw[M,F,m,Nat.mul_one], ?_⟩⟩;rw[Nat.mul_one];apply List.ext_getElem?;intro j;rw[List.getElem?_take,Is,Ns l x i Ou,Array.getElem?_toList,N j,K j];simp only[List.length_singleton,List.length_drop,Nat.zero_add,F,m];have A:(Ar l).length=n:=(by simp[Ar,hn]);by_cases f:j < n+1
   ·rw[if_pos f];by_cases c:j < i
    ·rw[if_neg Ou,if_neg Ou,if_pos c,p j Ou,Is]
    ·by_cases o:j=i
     ·subst o;rw[if_pos Ou,if_neg c,if_pos rfl,Nat.sub_self];rfl
     ·rw[if_neg Ou,if_pos (by rw[A];omega),if_neg c,if_neg o,List.getElem?_drop,Is];congr 2;omega
   ·rw[if_neg f,if_neg Ou,if_neg Ou,List.getElem?_eq_none Ou];rfl
  ·have c:=I3 g ((Ar l).drop i) (0+(i+1)) w.drew;have o:=I3 g [.int .i64 x] (0+i) (w.drew.setCells g (0+(i+1)) ((Ar l).drop i));exact⟨o.os.trans c.os,o.tape.trans c.tape,o.output.trans c.output,Nat.le_trans c.size o.size,fun k hk hne2=>(o.block k (Nat.lt_of_lt_of_le hk c.size) hne2).trans (c.block k hk hne2)⟩
theorem Uo (B:Nat) (l:List Int) (n i:Nat) (hn:l.length=n) (hi:i < n) (x:Int) (a:Option Addr) (cap vb:Nat) (w:World) (hl:n<=1000000) (hB:B<=w.heap.size) (hroom:cap < n+1) (hown:w.ownsRow B 3 1 (.slice a n cap) n (Ar l)) (hv:w.heap[vb]? = some (.cells #[.int .i64 x] 3 (0,0))) :
  Calls Tryz.prog 156 #[.slice a n cap,.int .i64 (i:Int),.slice (some (OI vb 0)) 1 1] w (Hf B (l.take i++[x]++l.drop i) (Value.slice a n cap).ownBlock w):=by
 obtain⟨X,Q⟩:=hown;rcases Q with⟨h,W⟩|⟨g,J,C,h,M,O,G,P,H,A⟩
 ·omega
 ·injection h with e1 e2 e3;subst e1 e3;rw[Nat.mul_one]at H A;have u:∀ j,j < n->C[j]? = (Ar l)[j]?:=fun j hj=>by
   rw[<- A,List.getElem?_take,if_pos hj,Array.getElem?_toList]
  have q:(l.take i++[x]++l.drop i).length=n+1:=by simp;omega
  have d:(Ar l).length=n:=by simp[Ar,hn]
  have s:=Any2.slices_Insert_int_grow Tryz.laysIns g 0 n cap i vb 0 1 1 (Ar l) [.int .i64 x] w hi Ou G hroom Ou d rfl
   (fun j v hj=>by
    have f:j < n:=by
     have:=(List.getElem?_eq_some_iff.1 hj).1
     omega
    rw[Nat.zero_add,Lib.cell_of_heap O,u j f];exact hj)
   (fun j v hj=>by
    have E:j=0:=by have:=(List.getElem?_eq_some_iff.1 hj).1;simpa using this
    subst E
    rw[Lib.cell_of_heap hv];simpa using hj)
   Lf (fun v hv=>by simp at hv;rw[hv];rfl)
  refine s.mono ?_;rintro e w' ⟨rfl,rfl⟩;obtain⟨m,t⟩:∃ m,grownCap w (n+1) cap 3=m:=⟨_,rfl⟩;have D:n+1<=m:=by rw[<- t];exact grownCap_ge _ _ _ _
  have F:m<=maxLen:=by rw[<- t];exact grownCap_le_maxLen _ _ _ _ OF
  change Hf B _ _ w (.returned (.slice (some (OK w 0)) (n+1) (grownCap w (n+1) cap 3))) ((((w.alloc (.cells (((Ar l).take i).toArray++Builtin.zeroCells (Value.int .i64 0).cells (n+1 - i)++Builtin.zeroCells (Value.int .i64 0).cells (grownCap w (n+1) cap 3 - (n+1))) 3)).drew.setCells w.heap.size i [.int .i64 x]).drew).setCells w.heap.size (i+1) ((Ar l).drop i));rw[t];obtain⟨b,r⟩:∃ b,((Ar l).take i).toArray++Builtin.zeroCells (Value.int .i64 0).cells (n+1 - i)++Builtin.zeroCells (Value.int .i64 0).cells (m - (n+1))=b:=⟨_,rfl⟩;have I:(Value.int .i64 0).cells.size=1:=rfl;have z:b.size=m:=by
   rw[<- r,Array.size_append,Array.size_append,size_zeroCells,size_zeroCells,I];simp[d];omega
  have y:∀ j,j < i->b[j]? = (Ar l)[j]?:=fun j hj=>by
   rw[<- r,Array.append_assoc,Array.getElem?_append_left (by simp[d];omega)];simp[hj]
  rw[r];have N:(w.alloc (.cells b 3)).drew.heap[w.heap.size]? = some (.cells b 3 (0,0)):=Ae w _;obtain⟨L,R,K,S⟩:=I1 w.heap.size [.int .i64 x] i (w.alloc (.cells b 3)).drew b 3 (0,0) N;obtain⟨J,T,U,V⟩:=I1 w.heap.size ((Ar l).drop i) (i+1) (((w.alloc (.cells b 3)).drew.setCells w.heap.size i [.int .i64 x]).drew) L 3 (0,0) R;refine⟨some (OK w 0),m,by rw[q], ?_, ?_,.inr rfl⟩
  ·rw[q];refine⟨by simp[Ar];omega,.inr ⟨w.heap.size,m,J,rfl,hB,T,D,F,by rw[U,K,z,Nat.mul_one], ?_⟩⟩;rw[Nat.mul_one];apply List.ext_getElem?;intro j;rw[List.getElem?_take,Is,Ns l x i Ou,Array.getElem?_toList,V j,S j];simp only[List.length_singleton,List.length_drop,K,z];by_cases f:j < n+1
   ·rw[if_pos f];by_cases c:j < i
    ·rw[if_neg Ou,if_neg Ou,if_pos c,y j c,Is]
    ·by_cases o:j=i
     ·subst o;rw[if_neg Ou,if_pos Ou,if_neg c,if_pos rfl,Nat.sub_self];rfl
     ·rw[if_pos (by rw[d];omega),if_neg c,if_neg o,List.getElem?_drop,Is];congr 2;omega
   ·rw[if_neg f,if_neg Ou,if_neg Ou,List.getElem?_eq_none Ou];rfl
  ·have c:=I3 w.heap.size [.int .i64 x] i (w.alloc (.cells b 3)).drew;have o:=I3 w.heap.size ((Ar l).drop i) (i+1) (((w.alloc (.cells b 3)).drew.setCells w.heap.size i [.int .i64 x]).drew);have hs:w.heap.size<=(w.alloc (.cells b 3)).drew.heap.size:=by show _<=(w.alloc (.cells b 3)).heap.size;rw[World.size_alloc];omega
   exact⟨o.os.trans c.os,o.tape.trans c.tape,o.output.trans c.output,Nat.le_trans hs (Nat.le_trans c.size o.size),fun k hk _=>by
    have p:some k≠some w.heap.size:=fun e=>by injection e with e;omega
    exact((o.block k (Nat.lt_of_lt_of_le (Nat.lt_of_lt_of_le hk hs) c.size) p).trans (c.block k (Nat.lt_of_lt_of_le hk hs) p)).trans ((Ao w _).block k hk)⟩
theorem W6 (B:Nat) (l:List Int) (n i:Nat) (hn:l.length=n) (hi:i<=n) (x:Int) (a:Option Addr) (cap vb:Nat) (w:World) (hl:n<=1000000) (hB:B<=w.heap.size) (hown:w.ownsRow B 3 1 (.slice a n cap) n (Ar l)) (hv:w.heap[vb]? = some (.cells #[.int .i64 x] 3 (0,0))) (hne:(Value.slice a n cap).ownBlock≠some vb) :
  Calls Tryz.prog 156 #[.slice a n cap,.int .i64 (i:Int),.slice (some (OI vb 0)) 1 1] w (Hf B (l.take i++[x]++l.drop i) (Value.slice a n cap).ownBlock w):=by
 by_cases hin:i=n
 ·subst hin;have e:l.take i++[x]++l.drop i=l++[x]:=by rw[<- hn,List.take_length,List.drop_length];simp
  rw[e];refine W7 B l i hn x a cap vb w hl hB hown ⟨_,_,rfl,fun j hj=>⟨vb,0,rfl,(Array.getElem?_eq_some_iff.1 hv).1, ?_⟩⟩;have b:j=0:=by simpa using hj
  subst b;rw[Lib.cell_of_heap hv];rfl
 ·by_cases hroom:n+1<=cap
  ·exact Tb B l n i hn Ou x a cap vb w hl hroom hown hv hne
  ·exact Uo B l n i hn Ou x a cap vb w hl hB Ou hown hv
end Go.Proofs.YtahibkjkpmdhgaaGreatDoor
