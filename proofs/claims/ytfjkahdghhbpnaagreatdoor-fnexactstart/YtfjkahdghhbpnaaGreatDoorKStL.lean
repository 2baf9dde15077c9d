import Derived.Test.YtfjkahdghhbpnaaGreatDoorKStK
import Derived.Test.YtfjkahdghhbpnaaGreatDoorKWcB
set_option maxRecDepth 100000
set_option maxHeartbeats 4000000
namespace Go.Proofs.YtfjkahdghhbpnaaGreatDoor
open Go.RowKit
def Ft (c:List Ae):Nat:=(Eh c E0).toNat
def Gd (c:List Ae):Nat:=(c.getD (Ft c) B1).slots.toNat
theorem Ik {c:List Ae} {r:Int × Int × Int} (h:Bt c r) (hr:r.1=0):∃ (z:Ft c < c.length),Eh c E0=(Ft c:Int)/\c[Ft c].slots=(Gd c:Int)/\Gd c<=200/\∀ j (b:j < c.length),Bb c[j]=true->j=Ft c:=by
 have y:=h.sound hr
 have d:(B6 c).1=0:=by
  by_cases d:(B6 c).1=0
  ·exact d
  ·unfold Bt at h
   rw[if_pos d]at h
   rw[h]at hr
   exact absurd hr d
 have q:c.any Bb=true:=by
  unfold B6 at d
  split at d
  ·simp at d
  ·split at d
   ·simp at d
   ·split at d
    ·simp at d
    ·split at d
     ·assumption
     ·simp at d
 have m:∀ i j (hi:i < c.length) (b:j < c.length),i < j->(c[i].name.toList == c[j].name.toList)=false:=fun i j hi b hij=>by
  have n:=y.fns j b
  unfold Bw at n
  simp only[Bool.and_eq_true]at n
  have x:=n.2
  rw[Bool.not_eq_true',List.any_eq_false]at x
  have:=x c[i] (by rw[List.mem_take_iff_getElem];exact⟨i,by omega,rfl⟩)
  simpa using this
 obtain⟨f,z,o⟩:=List.any_eq_true.1 q
 obtain⟨j,b,rfl⟩:=List.getElem_of_mem z
 have a:∀ j (b:j < c.length),Bb c[j]=true->(c[j].name.toList == E0.toList)=true:=fun j b o=>by
  unfold Bb at o
  simp only[Bool.and_eq_true]at o
  rw[Mw];exact o.1.1
 have p:∀ i (hi:i < c.length),Bb c[i]=true->i=j:=fun i hi hmi=>by
  have A:=a i hi hmi
  have s:=a j b o
  have u:c[i].name.toList=c[j].name.toList:=by rw[eq_of_beq A,eq_of_beq s]
  rcases Nat.lt_trichotomy i j with l|l|l
  ·have:=m i j hi b l;rw[u]at this;simp at this
  ·exact l
  ·have:=m j i b hi l;rw[u]at this;simp at this
 have k:Eh c E0=(j:Int):=by
  have:=N8 E0 c 0 j b (fun i hi hij=>by
   have l:=m i j hi b hij
   have s:=a j b o
   rw[<- eq_of_beq s];exact l) (a j b o)
  rw[Nat.zero_add]at this
  exact this
 have g:Ft c=j:=by unfold Ft;rw[k];rfl
 have B:0<=c[j].slots/\c[j].slots<=200:=by
  have n:=y.fns j b
  unfold Bw at n
  simp only[Bool.and_eq_true]at n
  have v:=n.1.1.1.2
  unfold A4 at v
  rw[Bool.and_eq_true,decide_eq_true_eq,decide_eq_true_eq]at v
  omega
 have t:(Gd c:Int)=c[j].slots:=by
  unfold Gd
  rw[g,List.getD_eq_getElem?_getD,List.getElem?_eq_getElem b]
  simp only[Option.getD_some]
  omega
 refine⟨by omega,by rw[k,g], ?_,by omega,fun i hi hmi=>by rw[g];exact p i hi hmi⟩
 simp only[g]
 exact t.symm
def P9 (w:World) (ao:Option Addr) (m:Nat) (news:List Value):Prop:=0 < m->∃ ad,ao=some ad/\∀ j u,news[j]? = some u->w.cell? (ad.add j)=some u
theorem Pt {P:Program} {w:World} (base:Nat) (t ty e:TypeId) (i:TypeInfo) (z:Value) (size bytes:Nat) (ht:P.underlying t=some (.slice e)) (hi:P.info? e=some i) (hz:i.zero=some z) (hsize:i.size=size) (hby:i.bytes=bytes) (hzs:z.cells.size=size) (hs0:0 < size)
  (v:Value) (n:Nat) (xs:List Value) (hown:w.ownsRow base e size v n xs) (ao:Option Addr) (m c:Nat) (news:List Value) (hlen:news.length=m * size) (hsrc:P9 w ao m news) (h1c:∀ u ∈ news,u.oneCell'=true) (b1:n+m<=maxLen) (b2:(n+m) * bytes<=140737488355328) (hbase:base<=w.heap.size) :
  ∃ a w',(Builtin.append_ #[t,t] ty #[v,.slice ao m c]).run P w = .ok a w'/\w'.ownsRow base e size a (n+m) (xs++news)/\w.grownBy w' v.ownBlock:=by
 by_cases h0:m=0
 ·subst h0
  have j:news=[]:=List.eq_nil_of_length_eq_zero (by omega)
  subst j
  refine⟨v,w,Ho base t ty e i size ht hi v n _ hown ao c, ?_,⟨rfl,rfl,rfl,Nat.le_refl _,fun _ _ _=>rfl⟩⟩
  simpa using hown
 ·obtain⟨b,rfl,h⟩:=hsrc (by omega)
  obtain⟨a,w',d,f,g,_⟩:=run_append_own_at (P:=P) (w:=w) base t ty e i z size bytes ht hi hz hsize hby hzs hs0 v n xs hown b m c news hlen h h1c b1 b2 hbase
  exact⟨a,w',d,f,g⟩
theorem Le {P:Program} {w:World} {ops:Array Oper} {rest:List Oper} {o:Oper} {a:Act} {Q:Exit->Act->World->Prop} (hgd:o.guard=none) (s x:Operand) (t:TypeId)
  (ho:o.op = .call { callee:=.builtin .append,args := #[s,x],argTypes := #[t,t] }) (base:Nat) (e:TypeId) (i:TypeInfo) (z:Value) (size bytes:Nat) (ht:P.underlying t=some (.slice e)) (hi:P.info? e=some i) (hz:i.zero=some z) (hsize:i.size=size) (hby:i.bytes=bytes) (hzs:z.cells.size=size) (hs0:0 < size)
  (v:Value) (n:Nat) (xs:List Value) (hs:a.eval s=v) (hown:w.ownsRow base e size v n xs) (ao:Option Addr) (m c:Nat) (hx:a.eval x = .slice ao m c) (news:List Value) (hlen:news.length=m * size) (hsrc:P9 w ao m news) (h1c:∀ u ∈ news,u.oneCell'=true) (b1:n+m<=maxLen) (b2:(n+m) * bytes<=140737488355328) (hbase:base<=w.heap.size)
  (h:∀ b w',w'.ownsRow base e size b (n+m) (xs++news)->w.grownBy w' v.ownBlock->wpList P ops Q rest (a.put o.dst b) w') :
  wpList P ops Q (o::rest) a w:=by
 refine wpList_plain hgd fun K hK => ?_
 obtain⟨b,w',g,d,f⟩:=Pt (P:=P) (w:=w) base t o.type e i z size bytes ht hi hz hsize hby hzs hs0 v n xs hown ao m c news hlen hsrc h1c b1 b2 hbase
 unfold Oper.wp execOp
 simp only[ho,resolve,invoke,builtin,Sem.run_bind,Sem.run_pure,Result.andThen_ok,List.map_toArray,List.map_cons,List.map_nil,hs,hx,g]
 exact hK _ _ (h b w' d f)
theorem Qbx {B:Nat} {w:World} {ia:Option Addr} {ic:Nat} {l:List Ax} (h:Ba B w (.slice ia l.length ic) l):P9 w ia l.length (Bm l):=fun h0=>by
 obtain⟨a,o,e,f⟩:=h
 injection e with e1 c e3
 subst e1
 obtain⟨g,rfl,-,-⟩:=f 0 h0
 refine⟨⟨g,0,none⟩,rfl,fun j u hj => ?_⟩
 have n:j < l.length * 4:=by have:=(List.getElem?_eq_some_iff.1 hj).1;rw[Jg]at this;exact this
 have i:j / 4 < l.length:=by omega
 obtain⟨p,c,-,m⟩:=f (j / 4) i
 injection c with c;injection c with e3
 subst e3
 have b:=m (j % 4) (by omega)
 rw[show j / 4 * 4+j % 4=j by omega]at b
 have d:=G2 Cz 4 (fun _=>rfl) l (j / 4) i (j % 4) (by omega)
 rw[show j / 4 * 4+j % 4=j by omega]at d
 have k:(Bm l)[j]? = (Cz l[j / 4])[j % 4]?:=d
 rw[k]at hj
 have:w.cell? ⟨g,j,none⟩=some u:=b.trans hj
 by_cases hj0:j=0
 ·subst hj0;simpa[Addr.add]using this
 ·simpa[Addr.add,hj0]using this
theorem Yg (l:List Ax):∀ u ∈ Bm l,u.oneCell'=true:=fun u hu=>by
 obtain⟨x,_,a⟩:=List.mem_flatMap.1 hu
 simp[Cz]at a
 rcases a with rfl|rfl|rfl|rfl <;> rfl
theorem Fx.mono {A B:Nat} {w:World} {cv v av ov fv slv stv iv sv:Value} {E:List B0} {arg:ByteArray} {outs:List ByteArray} {fn ns:Nat} (h:Fx B w cv v av ov fv slv stv iv sv E arg outs fn ns) (hA:A<=B):Fx A w cv v av ov fv slv stv iv sv E arg outs fn ns :=
 ⟨Bc h.cod hA,h.own.mono hA,Bc h.args hA,Bc h.outs hA,h.ne,Bc h.frm hA,Bc h.slo hA,Bc h.stk hA,Bc h.fil hA,Bc h.sai hA⟩
def I0 : Value:=.agg #[.slice none 0 0,.slice none 0 0,.slice none 0 0,.slice none 0 0,.int .i64 0,.int .i64 0,.int .i64 0,.string ⟨#[]⟩,.string ⟨#[]⟩,.bool false,.int .i64 0,.string ⟨#[]⟩,.slice none 0 0,.slice none 0 0]
def Qa (c:List Ae) (arg:ByteArray) (outs:List ByteArray) (w:World) (e:Ending) (w':World):Prop :=
 ∃ r,Bt c r/\Below w.heap.size w w'/\((¬ (r.1=0/\E9 arg outs=true)/\e = .returned I0)\/(r.1=0/\E9 arg outs=true/\∃ cv v av ov fv slv stv iv sv E,e = .returned (Kk cv av ov fv iv sv)/\D0 E=c/\Fx w.heap.size w' cv v av ov fv slv stv iv sv E arg outs (Ft c) (Gd c)))
theorem Qf (c:List Ae) (ca:Option Addr) (cc:Nat) (arg:ByteArray) (outs:List ByteArray) (oa:Option Addr) (oc:Nat) (hcl:c.length<=1048576) (hcap:c.length<=cc) (hpl:∀ k (hk:k < c.length),c[k].params.length<=1048576/\c[k].ins.length<=1048576/\c[k].name.size<=1048576) (hN:∀ k (hk:k < c.length) i (hi:i < c[k].ins.length),-9223372036854775808<=c[k].ins[i].n/\c[k].ins[i].n<=9223372036854775807) (hS:∀ f ∈ c,Iz f) (harg:arg.size<=1048576) (hol:outs.length<=1048576) (hox:∀ d ∈ outs,d.size<=1048576)
  (w:World) (hC:Ak w.heap.size w (.slice ca c.length cc) c) (ho:Cx w (.slice oa outs.length oc) outs) (hT:∀ U,Below w.heap.size w U->Cg U) (hW:∀ U,Below w.heap.size w U->Dj U) :
  Calls Tryz.prog 9 #[.agg #[.slice ca c.length cc],.agg #[.string arg,.slice oa outs.length oc]] w (Qa c arg outs w):=by
 have a2:Hid (∀ U:World,w.heap.size<=U.heap.size->Below w.heap.size w U->Calls Tryz.prog 26 #[.agg #[.slice ca c.length cc]] U (Jd c U)):=fun U h1 h2=>P2 c ca cc hcl hcap hpl hN U ((hC.below h2).mono h1) (hT U h2) (hW U h2)
 have a6:Hid (∀ U:World,Below w.heap.size w U->Calls Tryz.prog 27 #[.agg #[.string arg,.slice oa outs.length oc]] U fun e w'=>e = .returned (.bool (E9 arg outs))/\Below U.heap.size U w'):=fun U h2=>Qah arg outs (.slice oa outs.length oc) U harg hol hox (ho.below h2)
 have az:Hid (∀ (r:Int × Int × Int) (g:Nat) (U:World) (o:Value),Bt c r->r.1=0->w.heap.size<=g->Below w.heap.size w U->U.heap[g]? = some (.cells #[o,.int .i64 0,.int .i64 0,.slice none 0 0,.slice none 0 0,.slice none 0 0,.slice none 0 0,.slice none 0 0,.int .i64 0,.string ⟨#[]⟩,.string ⟨#[]⟩,.pointer none] 77)->Calls Tryz.prog 28 #[.pointer (some ⟨g,0,none⟩),.agg #[.slice ca c.length cc],.string arg] U (T7 g o (.int .i64 0) (.slice none 0 0) (.slice none 0 0) (.int .i64 0) (.string ⟨#[]⟩) (.string ⟨#[]⟩) (.slice ca c.length cc) arg (Ft c) (Gd c) U)):=fun r g U o ha hr hg hU hm=>by
  obtain⟨hf,h1,h2,h3,-⟩:=Ik ha hr
  exact Ya w.heap.size g c ca cc arg (Ft c) (Gd c) o _ _ _ _ _ _ U hcl (by omega) hf h1 h2 hm hg (hC.below hU)
 have ak:Hid (∀ (r:Int × Int × Int) (g gc xc ga xa t fc gf sg:Nat) (U:World),Bt c r->r.1=0->Below w.heap.size w U->w.heap.size<=U.heap.size->U.heap[g]? = some (.cells #[.slice oa outs.length oc,.int .i64 1,.int .i64 0,.slice none 0 0,.slice none 0 0,.slice (some ⟨gc,0,none⟩) 1 xc,.slice (some ⟨ga,0,none⟩) 1 xa,.slice (some ⟨t,0,none⟩) 1 fc,.int .i64 0,.string ⟨#[]⟩,.string ⟨#[]⟩,.pointer none] 77)->U.cell? ⟨gc,0,none⟩=some (.slice ca c.length cc)->U.cell? ⟨ga,0,none⟩=some (.string arg)->U.cell? ⟨t,0,none⟩=some (.pointer (some ⟨gf,0,none⟩))->U.heap[gf]? = some (.cells #[.int .i64 0,.int .i64 (Ft c:Int),.int .i64 0,.slice (some ⟨sg,0,none⟩) (Gd c) (Gd c),.slice none 0 0] 152)->sg < U.heap.size->(∀ i (hi:i < (B3 (Gd c)).length) j,j < 3->U.cell? ⟨sg,i * 3+j,none⟩=(Fq (B3 (Gd c))[i])[j]?)->Calls Tryz.prog 29 #[.pointer (some ⟨g,0,none⟩)] U fun e w' => ∃ cv v av ov fv I J iv sv E,e = .returned (Kk cv av ov fv iv sv)/\D0 E=c/\Fx U.heap.size w' cv v av ov fv I J iv sv E arg outs (Ft c) (Gd c)/\Below U.heap.size U w'):=fun r g gc xc ga xa t fc gf sg U ha hr hU hz h1 h2 h3 h4 h5 h6 h7 =>
  Vu g gc xc ga xa t fc gf sg oc oa c ca cc arg outs (Ft c) (Gd c) U h1 hcl hS h2 ((hC.below hU).mono hz) h3 harg (ho.below hU) hol hox h4 h5 h6 (by obtain⟨-,-,-,q,-⟩:=Ik ha hr;omega) h7
 clear hC ho hT hW hpl hN hS hox
 obtain⟨n,bh⟩:∃ n,Hid (c.length=n):=⟨_,(rfl:c.length=_)⟩
 obtain⟨no,bi⟩:∃ n,Hid (outs.length=n):=⟨_,(rfl:outs.length=_)⟩
 rw[bh.out]at a2 az ak |-
 rw[bi.out]at a6 ak |-
 obtain⟨V1,am⟩:∃ V,w.alloc (.cells #[.slice ca n cc] 38)=V:=⟨_,rfl⟩
 obtain⟨V2,ae⟩:∃ V,V1.alloc (.cells #[.string arg,.slice oa no oc] 40)=V:=⟨_,rfl⟩
 obtain⟨V3,K⟩:∃ V,V2.alloc (.cells #[.slice none 0 0,.slice none 0 0,.slice none 0 0,.slice none 0 0,.int .i64 0,.int .i64 0,.int .i64 0,.string ⟨#[]⟩,.string ⟨#[]⟩,.bool false,.int .i64 0,.string ⟨#[]⟩,.slice none 0 0,.slice none 0 0] 34)=V:=⟨_,rfl⟩
 have a8:V1.heap.size=w.heap.size+1:=by rw[<- am];simp
 have a9:V2.heap.size=w.heap.size+1+1:=by rw[<- ae,World.size_alloc,a8]
 have bw:V3.heap.size=w.heap.size+1+1+1:=by rw[<- K,World.size_alloc,a9]
 have a0:Hid (Below w.heap.size w V3):=by rw[Hid,<- K,<- ae,<- am];exact((Di w _).alloc (by simp) _).alloc (by simp;omega) _
 have a5:Hid (V3.heap[w.heap.size]? = some (.cells #[.slice ca n cc] 38)):=by rw[Hid,<- K];exact Am _ (by rw[<- ae];exact Am _ (by rw[<- am];exact(MapKept.heap_alloc w _).1))
 have bm:Hid (V3.heap[w.heap.size+1]? = some (.cells #[.string arg,.slice oa no oc] 40)):=by rw[Hid,<- K];exact Am _ (by rw[<- ae,<- a8];exact(MapKept.heap_alloc V1 _).1)
 have bn:Hid (V3.heap[w.heap.size+1+1]? = some (.cells #[.slice none 0 0,.slice none 0 0,.slice none 0 0,.slice none 0 0,.int .i64 0,.int .i64 0,.int .i64 0,.string ⟨#[]⟩,.string ⟨#[]⟩,.bool false,.int .i64 0,.string ⟨#[]⟩,.slice none 0 0,.slice none 0 0] 34)):=by rw[Hid,<- K,<- a9];exact(MapKept.heap_alloc V2 _).1
 have k0:=(De a5.out).1
 go_enter Tryz.func9,Tryz.ntmps9
 go_wp2_with fail
 refine(a2.out V3 (by omega) a0.out).mono ?_
 rintro e w1 ⟨⟨⟨r0,r1,r2⟩,rfl,ah⟩,F⟩
 have HA:Hid (Bt c (r0,r1,r2)):=ah
 have bz:=F.size
 have aj:Hid (Below w.heap.size w w1):=a0.out.trans (F.mono (by omega))
 have a1:Hid (w1.heap[w.heap.size]? = some (.cells #[.slice ca n cc] 38)):=(F.block w.heap.size (by omega)).trans a5.out
 have ad:Hid (w1.heap[w.heap.size+1]? = some (.cells #[.string arg,.slice oa no oc] 40)):=(F.block (w.heap.size+1) (by omega)).trans bm.out
 have l:Hid (w1.heap[w.heap.size+1+1]? = some (.cells #[.slice none 0 0,.slice none 0 0,.slice none 0 0,.slice none 0 0,.int .i64 0,.int .i64 0,.int .i64 0,.string ⟨#[]⟩,.string ⟨#[]⟩,.bool false,.int .i64 0,.string ⟨#[]⟩,.slice none 0 0,.slice none 0 0] 34)):=(F.block (w.heap.size+1+1) (by omega)).trans bn.out
 clear ah F k0
 unfold Kd
 simp only
 by_cases hr:r0=0
 ·subst hr
  have j0:=(Aa ad.out 0 _ rfl).1
  have j1:=(Aa ad.out 1 _ rfl).1
  go_wp2_with fail
  refine(a6.out w1 aj.out).mono ?_
  rintro e u ⟨rfl,G⟩
  have b0:=G.size
  have aw:Hid (Below w.heap.size w u):=aj.out.trans (G.mono (by omega))
  have bd:Hid (u.heap[w.heap.size]? = some (.cells #[.slice ca n cc] 38)):=(G.block w.heap.size (by omega)).trans a1.out
  have a3:Hid (u.heap[w.heap.size+1]? = some (.cells #[.string arg,.slice oa no oc] 40)):=(G.block (w.heap.size+1) (by omega)).trans ad.out
  have m:Hid (u.heap[w.heap.size+1+1]? = some (.cells #[.slice none 0 0,.slice none 0 0,.slice none 0 0,.slice none 0 0,.int .i64 0,.int .i64 0,.int .i64 0,.string ⟨#[]⟩,.string ⟨#[]⟩,.bool false,.int .i64 0,.string ⟨#[]⟩,.slice none 0 0,.slice none 0 0] 34)):=(G.block (w.heap.size+1+1) (by omega)).trans l.out
  clear G j0 j1 a1 ad l
  obtain⟨b,al⟩:∃ b,Hid (E9 arg outs=b):=⟨_,(rfl:E9 arg outs=_)⟩
  rw[al.out]
  cases b with
  | false =>
   have m0:=Aa m.out 0 _ rfl
   have m1:=Aa m.out 1 _ rfl
   have m2:=Aa m.out 2 _ rfl
   have m3:=Aa m.out 3 _ rfl
   have m4:=Aa m.out 4 _ rfl
   have m5:=Aa m.out 5 _ rfl
   have m6:=Aa m.out 6 _ rfl
   have m7:=Aa m.out 7 _ rfl
   have m8:=Aa m.out 8 _ rfl
   have m9:=Aa m.out 9 _ rfl
   have aa:=Aa m.out 10 _ rfl
   have D:=Aa m.out 11 _ rfl
   have ab:=Aa m.out 12 _ rfl
   have ac:=Aa m.out 13 _ rfl
   go_wp2_with fail
   obtain⟨Y,hY,M,aq,a⟩:=El m.out aw.out (by omega) (.slice none 0 0) (.slice none 0 0) (.slice none 0 0) (.slice none 0 0) (.int .i64 0) (.int .i64 0) (.int .i64 0) (.string ⟨#[]⟩) (.string ⟨#[]⟩) (.bool false) (.int .i64 0) (.string ⟨#[]⟩) (.slice none 0 0) (.slice none 0 0)
   try rw[hY]
   clear m0 m1 m2 m3 m4 m5 m6 m7 m8 m9 aa D ab ac hY
   have N:=Aa a 0 _ rfl
   have O:=Aa a 1 _ rfl
   have P:=Aa a 2 _ rfl
   have Q:=Aa a 3 _ rfl
   have R:=Aa a 4 _ rfl
   have S:=Aa a 5 _ rfl
   have T:=Aa a 6 _ rfl
   have W:=Aa a 7 _ rfl
   have X:=Aa a 8 _ rfl
   have Z:=Aa a 9 _ rfl
   have x:=Aa a 10 _ rfl
   have y:=Aa a 11 _ rfl
   have z:=Aa a 12 _ rfl
   have A:=Aa a 13 _ rfl
   exact bodyPost_ret (v:=I0) (by simp[results,Tryz.results9,go_sem,I0,N.1,O.1,P.1,Q.1,R.1,S.1,T.1,W.1,X.1,Z.1,x.1,y.1,z.1,A.1]) rfl ⟨(0,r1,r2),HA.out,M,.inl ⟨fun h=>by rw[al.out]at h;exact absurd h.2 (by simp),rfl⟩⟩
  | true =>
   obtain⟨w3,au⟩:∃ V,u.alloc (.cells #[.slice oa no oc,.int .i64 0,.int .i64 0,.slice none 0 0,.slice none 0 0,.slice none 0 0,.slice none 0 0,.slice none 0 0,.int .i64 0,.string ⟨#[]⟩,.string ⟨#[]⟩,.pointer none] 77)=V:=⟨_,rfl⟩
   have bx:w3.heap.size=u.heap.size+1:=by rw[<- au];simp
   have L:Below u.heap.size u w3:=by rw[<- au];exact Di u _
   have bg:Hid (w3.heap[u.heap.size]? = some (.cells #[.slice oa no oc,.int .i64 0,.int .i64 0,.slice none 0 0,.slice none 0 0,.slice none 0 0,.slice none 0 0,.slice none 0 0,.int .i64 0,.string ⟨#[]⟩,.string ⟨#[]⟩,.pointer none] 77)):=by rw[Hid,<- au];exact(MapKept.heap_alloc u _).1
   have ax:Hid (Below w.heap.size w w3):=aw.out.trans (L.mono (by omega))
   have bj:Hid (w3.heap[w.heap.size+1+1]? = some (.cells #[.slice none 0 0,.slice none 0 0,.slice none 0 0,.slice none 0 0,.int .i64 0,.int .i64 0,.int .i64 0,.string ⟨#[]⟩,.string ⟨#[]⟩,.bool false,.int .i64 0,.string ⟨#[]⟩,.slice none 0 0,.slice none 0 0] 34)):=(L.block (w.heap.size+1+1) (by omega)).trans m.out
   have j1:=(Aa a3.out 1 _ rfl).1
   have j0:=(Aa ((L.block (w.heap.size+1) (by omega)).trans a3.out) 0 _ rfl).1
   have k0:=(De ((L.block w.heap.size (by omega)).trans bd.out)).1
   clear L
   go_wp2_with fail
   refine(az.out (0,r1,r2) u.heap.size w3 (.slice oa no oc) HA.out rfl (by omega) ax.out bg.out).mono ?_
   rintro e w4 ⟨gc,xc,ga,xa,fa,fc,gf,sg,rfl,ar,ap,an,ag,ao,ai,ba,s⟩
   obtain⟨t,e1,e2⟩:=Ck ag (by omega)
   subst e1
   have bf:Hid (w4.cell? ⟨t,0,none⟩=some (.pointer (some ⟨gf,0,none⟩))):=Bp ag e2 0 _ rfl
   have bq:=(A3 ag e2).1
   have bb:Hid (Below w.heap.size w w4):=ax.out.trans ⟨s.os,s.tape,s.output,s.size,fun k hk=>s.keep k (by omega) (by show k≠u.heap.size;omega)⟩
   have b1:=s.size
   have bk:Hid (w4.heap[w.heap.size+1+1]? = some (.cells #[.slice none 0 0,.slice none 0 0,.slice none 0 0,.slice none 0 0,.int .i64 0,.int .i64 0,.int .i64 0,.string ⟨#[]⟩,.string ⟨#[]⟩,.bool false,.int .i64 0,.string ⟨#[]⟩,.slice none 0 0,.slice none 0 0] 34)):=(s.keep (w.heap.size+1+1) (by omega) (by show w.heap.size+1+1≠u.heap.size;omega)).trans bj.out
   have D:=Aa ar 11 _ rfl
   obtain⟨w5,H⟩:∃ V,w4.setCell ⟨u.heap.size,11,none⟩ (.pointer none)=V:=⟨_,rfl⟩
   have a4:Hid (w5.heap[u.heap.size]? = some (.cells #[.slice oa no oc,.int .i64 1,.int .i64 0,.slice none 0 0,.slice none 0 0,.slice (some ⟨gc,0,none⟩) 1 xc,.slice (some ⟨ga,0,none⟩) 1 xa,.slice (some ⟨t,0,none⟩) 1 fc,.int .i64 0,.string ⟨#[]⟩,.string ⟨#[]⟩,.pointer none] 77)):=by rw[Hid,<- H,A6 ar];rfl
   have b2:w5.heap.size=w4.heap.size:=by rw[<- H];simp[World.setCell]
   have B:∀ k,k < w4.heap.size->w5.heap[k]? = w4.heap[k]?:=fun k hk=>by
    by_cases e:k=u.heap.size
    ·subst e;rw[a4.out,ar]
    ·rw[<- H];exact A7 e
   have ay:Hid (Below w.heap.size w w5):=bb.out.trans ⟨by rw[<- H];rfl,by rw[<- H];rfl,by rw[<- H];rfl,by omega,fun k hk=>B k (by omega)⟩
   have bl:Hid (w5.heap[w.heap.size+1+1]? = some (.cells #[.slice none 0 0,.slice none 0 0,.slice none 0 0,.slice none 0 0,.int .i64 0,.int .i64 0,.int .i64 0,.string ⟨#[]⟩,.string ⟨#[]⟩,.bool false,.int .i64 0,.string ⟨#[]⟩,.slice none 0 0,.slice none 0 0] 34)):=(B _ (by omega)).trans bk.out
   have be:Hid (Calls Tryz.prog 29 #[.pointer (some ⟨u.heap.size,0,none⟩)] w5 fun e w' => ∃ cv v av ov fv I J iv sv E,e = .returned (Kk cv av ov fv iv sv)/\D0 E=c/\Fx w5.heap.size w' cv v av ov fv I J iv sv E arg outs (Ft c) (Gd c)/\Below w5.heap.size w5 w') :=
    ak.out (0,r1,r2) u.heap.size gc xc ga xa t fc gf sg w5 HA.out rfl ay.out (by omega) a4.out ((Gi (B gc (Bv ap)) 0).trans ap) ((Gi (B ga (Bv an)) 0).trans an) ((Gi (B t bq.2) 0).trans bf.out) ((B gf (Array.getElem?_eq_some_iff.1 ao).1).trans ao) (by omega) (fun i hi j hj=>(Gi (B sg ai) _).trans (ba i hi j hj))
   clear ap an ag ao ai ba s B j0 j1 k0
   go_wp2_with fail
   refine be.out.mono ?_
   rintro e w6 ⟨cv,v,av,ov,fv,I,J,iv,sv,E,rfl,hE,a7,af⟩
   have b3:=af.size
   have bc:Hid (Below w.heap.size w w6):=ay.out.trans (af.mono (by omega))
   have p:Hid (w6.heap[w.heap.size+1+1]? = some (.cells #[.slice none 0 0,.slice none 0 0,.slice none 0 0,.slice none 0 0,.int .i64 0,.int .i64 0,.int .i64 0,.string ⟨#[]⟩,.string ⟨#[]⟩,.bool false,.int .i64 0,.string ⟨#[]⟩,.slice none 0 0,.slice none 0 0] 34)):=(af.block (w.heap.size+1+1) (by omega)).trans bl.out
   have C:Hid (Fx w5.heap.size w6 cv v av ov fv I J iv sv E arg outs (Ft c) (Gd c)):=a7
   have HE:Hid (D0 E=c):=hE
   clear hE a7 af D
   obtain⟨x1,y1,bp⟩:=Aq C.out.cod
   obtain⟨x2,y2,bo⟩:=Aq C.out.args
   obtain⟨x3,y3,bt⟩:=Aq C.out.outs
   obtain⟨x4,y4,br⟩:=Aq C.out.frm
   obtain⟨x5,y5,bs⟩:=Aq C.out.fil
   obtain⟨x6,y6,bu⟩:=Aq C.out.sai
   subst bp bo bt br bs bu
   unfold Kk
   have m0:=Aa p.out 0 _ rfl
   have m1:=Aa p.out 1 _ rfl
   have m2:=Aa p.out 2 _ rfl
   have m3:=Aa p.out 3 _ rfl
   have m4:=Aa p.out 4 _ rfl
   have m5:=Aa p.out 5 _ rfl
   have m6:=Aa p.out 6 _ rfl
   have m7:=Aa p.out 7 _ rfl
   have m8:=Aa p.out 8 _ rfl
   have m9:=Aa p.out 9 _ rfl
   have aa:=Aa p.out 10 _ rfl
   have D:=Aa p.out 11 _ rfl
   have ab:=Aa p.out 12 _ rfl
   have ac:=Aa p.out 13 _ rfl
   go_wp2_with fail
   obtain⟨Y,hY,M,aq,a⟩:=El p.out bc.out (by omega) (.slice x1 1 y1) (.slice x2 1 y2) (.slice x3 outs.length y3) (.slice x4 1 y4) (.int .i64 1) (.int .i64 0) (.int .i64 0) (.string ⟨#[]⟩) (.string ⟨#[]⟩) (.bool false) (.int .i64 0) (.string ⟨#[]⟩) (.slice x5 0 y5) (.slice x6 0 y6)
   try rw[hY]
   clear m0 m1 m2 m3 m4 m5 m6 m7 m8 m9 aa D ab ac hY
   have N:=Aa a 0 _ rfl
   have O:=Aa a 1 _ rfl
   have P:=Aa a 2 _ rfl
   have Q:=Aa a 3 _ rfl
   have R:=Aa a 4 _ rfl
   have S:=Aa a 5 _ rfl
   have T:=Aa a 6 _ rfl
   have W:=Aa a 7 _ rfl
   have X:=Aa a 8 _ rfl
   have Z:=Aa a 9 _ rfl
   have x:=Aa a 10 _ rfl
   have y:=Aa a 11 _ rfl
   have z:=Aa a 12 _ rfl
   have A:=Aa a 13 _ rfl
   exact bodyPost_ret (v:=Kk (.slice x1 1 y1) (.slice x2 1 y2) (.slice x3 outs.length y3) (.slice x4 1 y4) (.slice x5 0 y5) (.slice x6 0 y6)) (by simp[results,Tryz.results9,go_sem,Kk,N.1,O.1,P.1,Q.1,R.1,S.1,T.1,W.1,X.1,Z.1,x.1,y.1,z.1,A.1]) rfl ⟨(0,r1,r2),HA.out,M,.inr ⟨rfl,al.out,_,v,_,_,_,I,J,_,_,E,rfl,HE.out,(C.out.keep (fun k h1 h2=>aq k (by omega))).mono (by omega)⟩⟩
 ·have bv:(r0 != 0)=true:=by simp[hr]
  have m0:=Aa l.out 0 _ rfl
  have m1:=Aa l.out 1 _ rfl
  have m2:=Aa l.out 2 _ rfl
  have m3:=Aa l.out 3 _ rfl
  have m4:=Aa l.out 4 _ rfl
  have m5:=Aa l.out 5 _ rfl
  have m6:=Aa l.out 6 _ rfl
  have m7:=Aa l.out 7 _ rfl
  have m8:=Aa l.out 8 _ rfl
  have m9:=Aa l.out 9 _ rfl
  have aa:=Aa l.out 10 _ rfl
  have D:=Aa l.out 11 _ rfl
  have ab:=Aa l.out 12 _ rfl
  have ac:=Aa l.out 13 _ rfl
  go_wp2_with fail
  obtain⟨Y,hY,M,aq,a⟩:=El l.out aj.out (by omega) (.slice none 0 0) (.slice none 0 0) (.slice none 0 0) (.slice none 0 0) (.int .i64 0) (.int .i64 0) (.int .i64 0) (.string ⟨#[]⟩) (.string ⟨#[]⟩) (.bool false) (.int .i64 0) (.string ⟨#[]⟩) (.slice none 0 0) (.slice none 0 0)
  try rw[hY]
  clear m0 m1 m2 m3 m4 m5 m6 m7 m8 m9 aa D ab ac hY
  have N:=Aa a 0 _ rfl
  have O:=Aa a 1 _ rfl
  have P:=Aa a 2 _ rfl
  have Q:=Aa a 3 _ rfl
  have R:=Aa a 4 _ rfl
  have S:=Aa a 5 _ rfl
  have T:=Aa a 6 _ rfl
  have W:=Aa a 7 _ rfl
  have X:=Aa a 8 _ rfl
  have Z:=Aa a 9 _ rfl
  have x:=Aa a 10 _ rfl
  have y:=Aa a 11 _ rfl
  have z:=Aa a 12 _ rfl
  have A:=Aa a 13 _ rfl
  exact bodyPost_ret (v:=I0) (by simp[results,Tryz.results9,go_sem,I0,N.1,O.1,P.1,Q.1,R.1,S.1,T.1,W.1,X.1,Z.1,x.1,y.1,z.1,A.1]) rfl ⟨(r0,r1,r2),HA.out,M,.inl ⟨fun h=>hr h.1,rfl⟩⟩
end Go.Proofs.YtfjkahdghhbpnaaGreatDoor
