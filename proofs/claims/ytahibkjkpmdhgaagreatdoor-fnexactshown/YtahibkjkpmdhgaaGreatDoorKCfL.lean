import Derived.Test.YtahibkjkpmdhgaaGreatDoorKCfK
import Derived.Test.YtahibkjkpmdhgaaGreatDoorKCeI
set_option maxRecDepth 100000
set_option maxHeartbeats 4000000
namespace Go.Proofs.YtahibkjkpmdhgaaGreatDoor
open Go.RowKit
theorem Qav (c:List Af) (f:Af) (i:Az) (hpl:∀ g ∈ c,g.params.length<=8):(Ax c f i).length<=8:=by
 have b:(Bj i.a).length<=3:=by
  unfold Bj;repeat' (first|split)
  all_goals simp
 have a:(c.getD i.a.toNat A6).params.length<=8:=by
  by_cases hj:i.a.toNat < c.length
  ·rw[List.getD_eq_getElem?_getD,List.getElem?_eq_getElem hj];exact hpl _ (List.getElem_mem hj)
  ·rw[List.getD_eq_getElem?_getD,List.getElem?_eq_none Ou];simp[A6]
 unfold Ax;repeat' (first|split)
 all_goals first|exact a|(simp;done)|(rw[List.length_map];omega)
structure Kl (c:List Af) (f:Af):Prop where
 cl:c.length<=60
 il:f.ins.length<=50000
 pl:∀ g ∈ c,g.params.length<=8
 fns:Pi c
 res:0<=f.result/\f.result<=10
 slots:0<=f.slots/\f.slots<=200
 ok:∀ (u:Nat) (hu:u < f.ins.length),Aq c f f.ins[u]=true
theorem Sf (c:List Af) (f:Af) (hR:Kl c f) (at':Nat) (hat:at' < f.ins.length) (X:List Am) (hX:X.length=f.ins.length) (sh:Am) (hsh:X[at']'Ou=sh) (hn:sh ≠ .none) (hfine:Dn sh) (hlen:Dv f.slots.toNat sh) (ca ia:Option Addr) (cc ic:Nat) (pv wv:Value) (lc gl:Nat) (g:Nat) (w:World) (hIn:Hg c f at' ca ia cc ic lc gl g X pv wv w) :
  Calls Tryz.prog 128 #[.pointer (some (OI g 0)),.int .i64 (at':Int)] w fun e w'=>e = .returned (H6 (Cq c f at' sh))/\Below w.heap.size w w':=by
 have b:=Qav c f f.ins[at'] hR.pl;have a:=hR.ok at' hat;cases sh with
 | none=>exact(hn rfl).elim
 | clash =>
  exact Sg c f f.ins[at'] at' hat rfl hR.il hR.cl hR.pl a X hX 2 ⟨#[]⟩ ⟨#[]⟩ (by rw[hsh];rfl) (by rw[hsh];rfl) (by rw[hsh];rfl) (.inl rfl) Ov b ca ia cc ic pv wv lc gl g w hIn
 | known s k =>
  obtain⟨hs,n,m⟩:=hfine;have h:s.length=f.slots.toNat:=hlen;have l:s.length<=200:=by have:=hR.slots;omega
  have d:=Si (s:=s) (k:=k) hR.fns hR.res a h n;have i:Cq c f at' (.known s k)=Hd c f f.ins[at'] at' s k:=by
   rw[Us hat d];show Bi c f (f.ins.getD at' C3) at' s k=_
   rw[List.getD_eq_getElem?_getD,List.getElem?_eq_getElem hat];rfl
  rw[i];by_cases hlt:k.length < (Ax c f f.ins[at']).length
  ·have j:Hd c f f.ins[at'] at' s k = .clash:=(by unfold Hd;rw[if_pos hlt]);rw[j];exact Sg c f f.ins[at'] at' hat rfl hR.il hR.cl hR.pl a X hX 1 (Bt s) (Bt k) (by rw[hsh];rfl) (by rw[hsh];rfl) (by rw[hsh];rfl) (.inr ⟨by decide,by rw[Ck];exact hlt⟩) (by rw[Ck];exact m) b ca ia cc ic pv wv lc gl g w hIn
  ·exact Qbr c f f.ins[at'] at' hat rfl hR.il hR.cl hR.pl a X hX 1 (Bt s) (Bt k) (by rw[hsh];rfl) (by rw[hsh];rfl) (by rw[hsh];rfl) rfl s k _ rfl rfl hs h l n (k.length - (Ax c f f.ins[at']).length) d hR.fns rfl (by rw[Ck];omega) (by rw[Ck];exact m) b ca ia cc ic pv wv lc gl g w hIn
def Hk (x y:Int):Int:=if x < y then -1 else if y < x then 1 else 0
theorem Pp (x:Int) (w:World) :
  Calls Tryz.prog 182 #[.int .i64 x] w fun e w'=>e = .returned (.bool false)/\w=w':=by
 have h:(x != x)=false:=by simp
 go_enter Tryz.func182,Tryz.ntmps182;go_wp2;go_ret;exact⟨rfl,rfl⟩
theorem Uc (x y r:Int) (HR:Hid (Hk x y=r)) (w:World) :
  Calls Tryz.prog 173 #[.int .i64 x,.int .i64 y] w fun e w'=>e = .returned (.int .i64 r)/\w=w':=by
 by_cases h1:x < y
 ·have a:Hid (-1=r):=by rw[Hid,<- HR.out,Hk,if_pos h1]
  go_enter Tryz.func173,Tryz.ntmps173;go_wp2_with (go_at_call 182;refine(Pp _ _).mono ?_;rintro e w' ⟨rfl,rfl⟩);go_ret;exact⟨Lg a.out,rfl⟩
 ·by_cases h2:y < x
  ·have a:Hid (1=r):=(by rw[Hid,<- HR.out,Hk,if_neg h1,if_pos h2]);go_enter Tryz.func173,Tryz.ntmps173;go_wp2_with (go_at_call 182;refine(Pp _ _).mono ?_;rintro e w' ⟨rfl,rfl⟩);go_ret;exact⟨Lg a.out,rfl⟩
  ·have a:Hid (0=r):=(by rw[Hid,<- HR.out,Hk,if_neg h1,if_neg h2]);go_enter Tryz.func173,Tryz.ntmps173;go_wp2_with (go_at_call 182;refine(Pp _ _).mono ?_;rintro e w' ⟨rfl,rfl⟩);go_ret;exact⟨Lg a.out,rfl⟩
theorem Ld (a b r:Int) (HR:Hid (Hk b a=r)) (w:World) :
  Calls Tryz.prog 155 #[.int .i64 a,.int .i64 b] w fun e w'=>e = .returned (.int .i64 r)/\w=w':=by
 go_enter Tryz.func155,Tryz.ntmps155;go_wp2_with (go_at_call 173;refine(Uc _ _ _ HR _).mono ?_;rintro e w' ⟨rfl,rfl⟩);go_ret;exact⟨rfl,rfl⟩
def Fa : List Int->Prop:=fun l => ∀ i j (h1:i < l.length) (h2:j < l.length),i < j->l[j] < l[i]
def Jx (l:List Int) (v:Int) (i:Nat) (b:Bool):Prop:=i<=l.length/\(∀ j (h:j < l.length),j < i->v < l[j])/\(∀ j (h:j < l.length),i<=j->l[j]<=v)/\b=decide (v ∈ l)
def Ot (l:List Int) (v:Int) (w:World) (e:Ending) (w':World):Prop:=(∃ (i:Nat) (b:Bool),e = .returned (.tuple #[.int .i64 (i:Int),.bool b])/\Jx l v i b)/\w=w'
theorem Zq (l:List Int) (v:Int) (hd:Fa l) (i:Nat) (hi:i < l.length) (h1:∀ j (h:j < l.length),j < i->v < l[j]) (h2:∀ j (h:j < l.length),i<=j->l[j]<=v):decide (v ∈ l)=decide (l[i]=v):=by
 by_cases e:l[i]=v
 ·have:v ∈ l:=by rw[<- e];exact List.getElem_mem hi
  simp[e,this]
 ·have:¬ v ∈ l:=fun hm=>by
   obtain⟨j,c,d⟩:=List.getElem_of_mem hm;rcases Nat.lt_trichotomy j i with h|h|h
   ·have:=h1 j c h;omega
   ·subst h;exact e d
   ·have a:=hd i j hi c h;have b:=h2 i hi (Nat.le_refl _);omega
  simp[e,this]
theorem Xh (l:List Int) (v:Int) (h1:∀ j (h:j < l.length),j < l.length->v < l[j]):decide (v ∈ l)=false:=by
 have:¬ v ∈ l:=fun hm=>by
  obtain⟨j,a,b⟩:=List.getElem_of_mem hm;have:=h1 j a a;omega
 simp[this]
theorem Xg (l:List Int) (v:Int) (hd:Fa l) (a:Option Addr) (cap:Nat) (hl:l.length<=1048576) (B:Nat) (w:World) (hL:Ac B w (.slice a l.length cap) l) :
  Calls Tryz.prog 154 #[.slice a l.length cap,.int .i64 v,.func (Fn.func 155) #[] #[]] w (Ot l v w):=by
 have I:Hid (Ac B w (.slice a l.length cap) l):=hL;have H:Hid (Fa l):=hd;clear hL hd;obtain⟨n,p⟩:∃ n,Hid (l.length=n):=⟨_,(rfl:l.length=_)⟩;have Z:n<=1048576:=by rw[<- p.out];exact hl
 rw[p.out]at I |-
 clear hl;go_enter Tryz.func154,Tryz.ntmps154;go_wp2_with fail;go_loopw [9,10] (fun s t wr => ∃ i j:Nat,s = .int .i64 (i:Int)/\t = .int .i64 (j:Int)/\i<=j/\j<=n/\w=wr/\Hid (∀ q (h:q < l.length),q < i->v < l[q])/\Hid (∀ q (h:q < l.length),j<=q->l[q]<=v)) (fun s t _=>(intOf t).toNat - (intOf s).toNat);case atStart=>exact⟨0,n,rfl,rfl,by omega,by omega,rfl,fun q h h'=>Ou,fun q h h'=>by have:=p.out;omega⟩
 case round =>
  obtain⟨i,j,rfl,rfl,T,O,rfl,y,z⟩:=hrel;by_cases hlt:i < j
  ·have E:(i:Int) < (j:Int):=Ou;obtain⟨m,k⟩:∃ m,Hid ((i+j) / 2=m):=⟨_,(rfl:(i+j) / 2=_)⟩;have P:m < l.length:=(by have:=k.out;have:=p.out;omega);have V:m < n:=(by have:=k.out;omega);have U:((i:Int)+(j:Int)) / 2=(m:Int):=(by have:=k.out;omega);have Q:(m:Int) < (n:Int):=Ou;obtain⟨g,o,rfl,J⟩:∃ g o,a=some (OI g o)/\w.cell? (OI g (o+m))=some (.int .i64 l[m]):=by
    obtain⟨R,S,e,N⟩:=I.out;injection e with e1;subst e1;obtain⟨g,o,L,_,M⟩:=N m P;exact⟨g,o,L,M⟩
   obtain⟨x,c⟩:∃ x,Hid (l[m]=x):=⟨_,(rfl:l[m]=_)⟩;rw[c.out]at J;by_cases hv:v < x
   ·have f:Hid (Hk v x = -1):=(by rw[Hid,Hk,if_pos hv]);have F:Hid (∀ q (h:q < l.length),q < m+1->v < l[q]):=fun q h h'=>by
     by_cases e:q=m
     ·subst e;rw[c.out];exact hv
     ·have:=H.out q m h P Ou;rw[c.out]at this;omega
    go_wp2_with (go_at_call 155;refine(Ld _ _ _ f _).mono ?_;rintro e w' ⟨rfl,rfl⟩);exact⟨⟨m+1,j,congrArg (Value.int IntKind.i64) Ou,rfl,by have:=k.out;omega,O,trivial,F,z⟩,by have:=k.out;simp only[intOf];omega⟩
   ·have G:Hid (∀ q (h:q < l.length),m<=q->l[q]<=v):=fun q h h'=>by
     by_cases e:q=m
     ·subst e;rw[c.out];omega
     ·have:=H.out m q P h Ou;rw[c.out]at this;omega
    obtain⟨r,f,W⟩:∃ r,Hid (Hk v x=r)/\¬ r < 0:=by
     refine⟨_,(rfl:Hk v x=_), ?_⟩;unfold Hk;rw[if_neg hv];split <;> omega
    go_wp2_with (go_at_call 155;refine(Ld _ _ _ f _).mono ?_;rintro e w' ⟨rfl,rfl⟩);exact⟨⟨i,m,rfl,rfl,by have:=k.out;omega,by omega,trivial,y,G⟩,by have:=k.out;simp only[intOf];omega⟩
  ·have E:¬ (i:Int) < (j:Int):=Ou;have K:i=j:=Ou;subst K;by_cases hin:i < n
   ·have d:i < l.length:=(by have:=p.out;omega);have D:(i:Int) < (n:Int):=Ou;obtain⟨g,o,rfl,J⟩:∃ g o,a=some (OI g o)/\w.cell? (OI g (o+i))=some (.int .i64 l[i]):=by
     obtain⟨R,S,e,N⟩:=I.out;injection e with e1;subst e1;obtain⟨g,o,L,_,M⟩:=N i d;exact⟨g,o,L,M⟩
    obtain⟨x,c⟩:∃ x,Hid (l[i]=x):=⟨_,(rfl:l[i]=_)⟩;rw[c.out]at J;have u:=Zq l v H.out i d y.out z.out;have C:Hid (decide (v ∈ l)=decide (x=v)):=(by rw[Hid,u,c.out]);have b:Hid (i<=l.length):=Nat.le_of_lt d;have Y:x<=v:=(by rw[<- c.out];exact z.out i d (Nat.le_refl _));obtain⟨r,f⟩:∃ r,Hid (Hk v x=r):=⟨_,(rfl:Hk v x=_)⟩;by_cases hr:r=0
    ·have A:Hid (true=decide (v ∈ l)):=by
      have e:x=v:=by have h:=f.out;rw[hr]at h;unfold Hk at h;split at h <;> (first|omega|(split at h <;> omega))
      rw[Hid,C.out];simp[e]
     subst hr;clear u;go_wp2_with (go_at_call 155;refine(Ld _ _ _ f _).mono ?_;rintro e w' ⟨rfl,rfl⟩);go_ret2;exact⟨⟨i,true,rfl,b.out,y.out,z.out,A.out⟩,rfl⟩
    ·have A:Hid (false=decide (v ∈ l)):=by
      have e:¬ x=v:=fun e=>hr (by rw[<- f.out,e];simp[Hk])
      rw[Hid,C.out];simp[e]
     have X:(r == 0)=false:=(by simp[hr]);clear u hr;go_wp2_with (go_at_call 155;refine(Ld _ _ _ f _).mono ?_;rintro e w' ⟨rfl,rfl⟩);go_ret2;exact⟨⟨i,false,by first|rfl|simp,b.out,y.out,z.out,A.out⟩,rfl⟩
   ·have D:¬ (i:Int) < (n:Int):=Ou;have b:Hid (i<=l.length):=(by have:=p.out;rw[Hid];omega);have A:Hid (false=decide (v ∈ l)):=(Xh l v (fun q h _=>y.out q h (by have:=p.out;omega))).symm;go_wp2_with fail;go_ret2;exact⟨⟨i,false,by first|rfl|simp,b.out,y.out,z.out,A.out⟩,rfl⟩
def I2 (r:Int × Int × Int):Value:=.agg #[.int .i64 r.1,.int .i64 r.2.1,.int .i64 r.2.2]
def Rq (r:Int × Int × Int) (w:World) (e:Ending) (w':World):Prop:=e = .returned (I2 r)/\Below w.heap.size w w'
theorem O0 {c:List Af} (h:∀ j (hj:j < c.length),Bz c j c[j]=true):T4 c:=fun i j hi hj hij=>by
 have a:=h j hj
 unfold Bz at a
 simp only[Bool.and_eq_true]at a
 have b:=a.2
 rw[Bool.not_eq_true',List.any_eq_false]at b
 have d:=b c[i] (by rw[List.mem_take_iff_getElem];exact⟨i,by omega,rfl⟩)
 simpa using d
theorem Qaw (B:Nat) (c:List Af) (a:Option Addr) (cap:Nat) (hcl:c.length<=1048576) (hcap:c.length<=cap) (hpl:∀ k (hk:k < c.length),c[k].params.length<=1048576/\c[k].ins.length<=1048576/\c[k].name.size<=1048576) (hN:∀ k (hk:k < c.length) i (hi:i < c[k].ins.length),-9223372036854775808<=c[k].ins[i].n/\c[k].ins[i].n<=9223372036854775807) (w:World) (hB:B<=w.heap.size) (hC:Al B w (.slice a c.length cap) c) :
  Calls Tryz.prog 95 #[.agg #[.slice a c.length cap]] w (Rq (B8 c) w):=by
 have HC:Hid (∀ w',Below B w w'->Al B w' (.slice a c.length cap) c):=fun w' h=>hC.below h
 clear hC;have bg:Hid (∀ k (hk:k < c.length) i (hi:i < c[k].ins.length),-9223372036854775808<=c[k].ins[i].n/\c[k].ins[i].n<=9223372036854775807):=hN;clear hN;obtain⟨Y1,av⟩:∃ Y,w.alloc (.cells #[.slice a c.length cap] 59)=Y:=⟨_,rfl⟩;have bm:Below w.heap.size w Y1:=by rw[<- av];exact Ao w _
 have bn:Y1.heap.size=w.heap.size+1:=by rw[<- av];exact World.size_alloc _ _
 have ae:Y1.heap[w.heap.size]? = some (.cells #[.slice a c.length cap] 59):=by rw[<- av];exact Ae w _
 obtain⟨C,T⟩:∃ Y,Y1.alloc (.cells #[.int .i64 0,.int .i64 0,.int .i64 0] 142)=Y:=⟨_,rfl⟩;have X:Below w.heap.size w C:=by rw[<- T];exact Ab bm _
 have bo:C.heap.size=w.heap.size+2:=by rw[<- T,World.size_alloc];omega
 have af:C.heap[w.heap.size]? = some (.cells #[.slice a c.length cap] 59):=by rw[<- T];exact Ak _ ae
 have ag:C.heap[w.heap.size+1]? = some (.cells #[.int .i64 0,.int .i64 0,.int .i64 0] 142):=by rw[<- T,<- bn];exact Ae _ _
 have o:Hid (∀ W,Below C.heap.size C W->W.cell? (OK w 0)=some (.slice a c.length cap)/\(W.cell? (OJ w 1 0)=some (.int .i64 0)/\W.cell? (OJ w 1 1)=some (.int .i64 0)/\W.cell? (OJ w 1 2)=some (.int .i64 0))/\(W.frozen? (OJ w 1 0)=false/\W.frozen? (OJ w 1 1)=false/\W.frozen? (OJ w 1 2)=false)/\Below w.heap.size w W/\C.heap.size<=W.heap.size):=fun W hW=>by
  have r0:=(hW.block _ Ou).trans af;have r1:=(hW.block _ Ou).trans ag;exact⟨by rw[Lib.cell_of_heap r0];rfl,⟨by rw[Lib.cell_of_heap r1];rfl,by rw[Lib.cell_of_heap r1];rfl,by rw[Lib.cell_of_heap r1];rfl⟩,⟨by simp[World.frozen?,r1],by simp[World.frozen?,r1],by simp[World.frozen?,r1]⟩,X.trans (hW.mono X.size),hW.size⟩
 obtain⟨m0,⟨m1,m2,m3⟩,⟨bu,bv,bw⟩,-,-⟩:=o.out C (Below.refl _ _);clear ae af ag;obtain⟨r,HR⟩:∃ r,Hid (B8 c=r):=⟨_,(rfl:B8 c=_)⟩;rw[HR.out];by_cases h0:c.length=0
 ·have G:Hid (I2 r = .agg #[.int .i64 1,.int .i64 0,.int .i64 0]):=by
   rw[Hid,<- HR.out,B8,if_pos (.inl h0)];rfl
  have bk:((c.length:Int) == 0)=true:=by simp[h0]
  clear h0 HR;go_enter Tryz.func95,Tryz.ntmps95;go_wp2_with fail;exact bodyPost_ret (v:=.agg #[.int .i64 1,.int .i64 0,.int .i64 0]) (by simp[results,Tryz.results95,go_sem,m1,m2,m3]) rfl ⟨by rw[G.out],Ad (Ad (Ad X 1 0 _) 1 1 _) 1 2 _⟩
 ·have bk:((c.length:Int) == 0)=false:=by rw[beq_eq_false_iff_ne];omega
  by_cases h6:60 < c.length
  ·have G:Hid (I2 r = .agg #[.int .i64 1,.int .i64 0,.int .i64 0]):=by
    rw[Hid,<- HR.out,B8,if_pos (.inr h6)];rfl
   have bl:(60:Int) < (c.length:Int):=Ou;clear h0 h6 HR;go_enter Tryz.func95,Tryz.ntmps95;go_wp2_with fail;exact bodyPost_ret (v:=.agg #[.int .i64 1,.int .i64 0,.int .i64 0]) (by simp[results,Tryz.results95,go_sem,m1,m2,m3]) rfl ⟨by rw[G.out],Ad (Ad (Ad X 1 0 _) 1 1 _) 1 2 _⟩
  ·have bl:¬ (60:Int) < (c.length:Int):=Ou;have ao:Hid (r=match Gz c c 0 with
    | some k=>(2,(k:Int),0)
    | none=>match Du c c 0 with
     | some p=>(3,(p.1:Int),(p.2:Int))
     | none=>if c.any A8=true then (0,0,0) else (4,0,0)):=by
    rw[Hid,<- HR.out,B8,if_neg Ou];rfl
   clear HR;have bh:Hid (Calls Tryz.prog 123 #[] C fun e w'=>e = .returned (.map (some (w.heap.size+2)))/\G8 w' (w.heap.size+2)/\Below C.heap.size C w'):=by
    have h:=takenWords_any C;unfold OH at h;rw[bo]at h |-
    exact h
   obtain⟨g,rfl⟩:∃ g,a=some (OI g 0):=by
    obtain⟨g,_,_,_,_,_,hv,_⟩:=(HC.out w (Below.refl _ _)).fn 0 Ou;injection hv with e1;exact⟨g,e1⟩
   go_enter Tryz.func95,Tryz.ntmps95;go_wp2_with (first|(go_at_call 123;refine bh.out.mono ?_;rintro e s ⟨rfl,hM,D⟩;obtain⟨k0,⟨k1,k2,k3⟩,⟨aa,ab,ac⟩,l,az⟩:=o.out s D));have HM:Hid (∀ W,Below s.heap.size s W->G8 W (w.heap.size+2)):=fun W hW=>M7 hM hW
   have y:Hid (∀ W,Below s.heap.size s W->Below C.heap.size C W):=fun W hW=>D.trans (hW.mono D.size)
   have am:Hid (∀ k (hk:k < c.length),c[k].params.length<=1048576/\c[k].ins.length<=1048576/\c[k].name.size<=1048576):=hpl;clear hM D hpl k0 k1 k2 k3 aa ab ac l;go_loopw [24] (fun t wr => ∃ i:Nat,i<=c.length/\t = .int .i64 (i:Int)/\Below s.heap.size s wr/\Hid (∀ j (hj:j < c.length),j < i->Bz c j c[j]=true)) (fun t _=>c.length - (intOf t).toNat);case atStart=>exact⟨0,by omega,rfl,Below.refl _ _,fun j hj h=>Ou⟩
   case round =>
    obtain⟨i,hi,rfl,u,N⟩:=hrel;obtain⟨k0,⟨k1,k2,k3⟩,⟨aa,ab,ac⟩,l,az⟩:=o.out wr (y.out wr u);by_cases hlt:i < c.length
    ·have a8:(i:Int) < (c.length:Int):=Ou;have m:Hid (Calls Tryz.prog 124 #[.agg #[.slice (some (OI g 0)) c.length cap],.int .i64 (i:Int),.map (some (w.heap.size+2))] wr fun e w'=>e = .returned (.bool (Bz c i c[i]))/\Below wr.heap.size wr w'):=Uw c i hlt c[i] rfl _ cap _ hcl hcap (am.out i hlt).2.2 (am.out i hlt).1 (am.out i hlt).2.1 B wr (Nat.le_trans hB l.size) (HC.out wr (l.mono hB)) (HM.out wr u);cases hF:Bz c i c[i] with
     | true =>
      have bi:Hid (∀ j (hj:j < c.length),j < i+1->Bz c j c[j]=true):=fun j hj h=>by
       by_cases e:j=i
       ·subst e;exact hF
       ·exact N.out j hj Ou
      rw[hF]at m;clear hF;go_wp2_with (first|(go_at_call 124;refine m.out.mono ?_;rintro e w3 ⟨rfl,aw⟩));go_roundw;case rel=>exact⟨i+1,by omega,by go_num,u.trans (aw.mono u.size),bi⟩
      case measure=>simp[intOf];omega
     | false =>
      have G:Hid (I2 r = .agg #[.int .i64 2,.int .i64 (i:Int),.int .i64 0]):=by
       rw[Hid,ao.out,Lu c c 0 i hlt (fun j hj h=>by rw[Nat.zero_add];exact N.out j hj h) (by rw[Nat.zero_add];exact hF),Nat.zero_add];rfl
      rw[hF]at m;clear hF;go_wp2_with (first|(go_at_call 124;refine m.out.mono ?_;rintro e w3 ⟨rfl,aw⟩;obtain⟨j0,⟨j1,j2,j3⟩,⟨a0,a1,a2⟩,A,ay⟩:=o.out w3 (y.out w3 (u.trans (aw.mono u.size)))));exact bodyPost_ret (v:=.agg #[.int .i64 2,.int .i64 (i:Int),.int .i64 0]) (by simp[results,Tryz.results95,go_sem,j1,j2,j3]) rfl ⟨by rw[G.out],Ad (Ad (Ad A 1 0 _) 1 1 _) 1 2 _⟩
    ·have a8:¬ (i:Int) < (c.length:Int):=Ou;have F:Hid (∀ j (hj:j < c.length),Bz c j c[j]=true):=fun j hj=>N.out j hj Ou
     have a4:Hid (r=match Du c c 0 with
      | some p=>(3,(p.1:Int),(p.2:Int))
      | none=>if c.any A8=true then (0,0,0) else (4,0,0)):=by
      rw[Hid,ao.out,Lt c c 0 (fun j hj=>by rw[Nat.zero_add];exact F.out j hj)]
     clear N ao HM;go_wp2_with fail;have bc:Hid (Below s.heap.size s wr):=u;clear u k0 k1 k2 k3 aa ab ac l az;generalize wr=V at *;go_loopw [38] (fun t wr => ∃ k:Nat,k<=c.length/\t = .int .i64 (k:Int)/\Below s.heap.size s wr/\Hid (∀ j (hj:j < c.length),j < k->Dk c c[j] c[j].ins 0=none)) (fun t _=>c.length - (intOf t).toNat);case atStart=>exact⟨0,by omega,rfl,bc.out,fun j hj h=>Ou⟩
     case round =>
      obtain⟨k,hk,rfl,u,N⟩:=hrel;obtain⟨k0,⟨k1,k2,k3⟩,⟨aa,ab,ac⟩,l,az⟩:=o.out wr (y.out wr u);by_cases hlt:k < c.length
      ·have a9:(k:Int) < (c.length:Int):=Ou;obtain⟨f,H⟩:∃ f,Hid (c[k]'hlt=f):=⟨_,(rfl:c[k]'hlt=_)⟩;obtain⟨g',bp,pa,pc,ia,ic,hv,hg,c0,c1,c2,c3,c4,hP,hI⟩:=(HC.out wr (l.mono hB)).fn k hlt;obtain rfl:g=g':=by injection hv with e1;injection e1 with e1;injection e1
       rw[H.out]at c0 c1 c2 c3 c4 hI;have HI:Hid (Ba B wr (.slice ia f.ins.length ic) f.ins):=hI;have aj:Hid (0<=f.slots/\f.slots<=200/\f.ins.length<=50000):=by
        have Z:=F5 (F.out k hlt);rw[H.out]at Z;exact⟨Z.1,Z.2.1,Z.2.2.1⟩
       have be:Hid (∀ i (hi:i < f.ins.length),-9223372036854775808<=f.ins[i].n/\f.ins[i].n<=9223372036854775807):=by
        rw[Hid,<- H.out];exact bg.out k hlt
       have br:f.ins.length<=50000:=aj.out.2.2;obtain⟨U,hU⟩:∃ U,wr.alloc (.cells #[.string f.name,.slice pa f.params.length pc,.int .i64 f.result,.int .i64 f.slots,.slice ia f.ins.length ic] 130)=U:=⟨_,rfl⟩;have a5:Hid (U.heap[wr.heap.size]? = some (.cells #[.string f.name,.slice pa f.params.length pc,.int .i64 f.result,.int .i64 f.slots,.slice ia f.ins.length ic] 130)):=(by rw[Hid,<- hU];exact Ae _ _);have bj:Hid (Below wr.heap.size wr U):=(by rw[Hid,<- hU];exact Ao _ _);have a7:Hid (U.heap.size=wr.heap.size+1):=(by rw[Hid,<- hU];exact World.size_alloc _ _);have M:Hid (Below s.heap.size s wr):=u;have bb:Hid (Below w.heap.size w wr):=l;have bt:U.cell? (OK wr 4)=some (.slice ia f.ins.length ic):=(by rw[Lib.cell_of_heap a5.out];rfl);clear hI hP hv u l;go_wp2_with fail;generalize wr=O at *;go_loopw [46] (fun t wr => ∃ q:Nat,q<=f.ins.length/\t = .int .i64 (q:Int)/\Below U.heap.size U wr/\Hid (∀ j (hj:j < f.ins.length),j < q->Aq c f f.ins[j]=true)) (fun t _=>f.ins.length - (intOf t).toNat);case atStart=>exact⟨0,by omega,rfl,Below.refl _ _,fun j hj h=>Ou⟩
       case round =>
        obtain⟨q,hq,rfl,J,ar⟩:=hrel;have P:Hid (Below O.heap.size O wr):=bj.out.trans (J.mono (by rw[a7.out];omega));by_cases hltq:q < f.ins.length
        ·have ax:(q:Int) < (f.ins.length:Int):=Ou;obtain⟨gi,rfl,bs,i0,i1,i2,i3⟩:=Ba.cells (HI.out.below (P.out.mono (Nat.le_trans hB bb.out.size))) q hltq;obtain⟨x,au⟩:∃ x,Hid (f.ins[q]=x):=⟨_,(rfl:f.ins[q]=_)⟩;rw[au.out]at i0 i1 i2 i3;have al:=be.out q hltq;rw[au.out]at al;obtain⟨op,R,n,d⟩:=x;simp only at i0 i1 i2 i3 al;have aq:Hid (∀ W,Calls Tryz.prog 125 #[.agg #[.slice (some (OI g 0)) c.length cap],.agg #[.string f.name,.slice pa f.params.length pc,.int .i64 f.result,.int .i64 f.slots,.slice (some (OI gi 0)) f.ins.length ic],.agg #[.int .i64 op,.int .i64 R,.int .i64 n,.string d]] W fun e w'=>e = .returned (.bool (Aq c f ⟨op,R,n,d⟩))/\Below W.heap.size W w'):=fun W=>Zo c f op R n d al _ _ cap ic _ hcl Ou (by have:=aj.out;omega) (by have:=aj.out;omega) W
         have ak:Hid (Aq c f f.ins[q]=Aq c f ⟨op,R,n,d⟩):=(by rw[Hid,au.out]);obtain⟨b,ah⟩:∃ b,Hid (Aq c f ⟨op,R,n,d⟩=b):=⟨_,(rfl:Aq c f ⟨op,R,n,d⟩=_)⟩;rw[ah.out]at aq ak;obtain⟨Q,hQ⟩:∃ Q,wr.alloc (.cells #[.int .i64 op,.int .i64 R,.int .i64 n,.string d] 107)=Q:=⟨_,rfl⟩;have an:Hid (Below wr.heap.size wr Q):=(by rw[Hid,<- hQ];exact Ao _ _);have K:Q.heap[wr.heap.size]? = some (.cells #[.int .i64 op,.int .i64 R,.int .i64 n,.string d] 107):=(by rw[<- hQ];exact Ae _ _);have n0:Q.cell? (OK wr 0)=some (.int .i64 op):=(by rw[Lib.cell_of_heap K];rfl);have n1:Q.cell? (OK wr 1)=some (.int .i64 R):=(by rw[Lib.cell_of_heap K];rfl);have n2:Q.cell? (OK wr 2)=some (.int .i64 n):=(by rw[Lib.cell_of_heap K];rfl);have n3:Q.cell? (OK wr 3)=some (.string d):=(by rw[Lib.cell_of_heap K];rfl);have bq:Hid (Below U.heap.size U wr):=J;have I:Hid (Below U.heap.size U Q):=J.trans (an.out.mono J.size);have E:=(I.out.block O.heap.size (by rw[a7.out];omega)).trans a5.out;have b0:Q.cell? (OK O 0)=some (.string f.name):=(by rw[Lib.cell_of_heap E];rfl);have b1:Q.cell? (OK O 1)=some (.slice pa f.params.length pc):=(by rw[Lib.cell_of_heap E];rfl);have b2:Q.cell? (OK O 2)=some (.int .i64 f.result):=(by rw[Lib.cell_of_heap E];rfl);have b3:Q.cell? (OK O 3)=some (.int .i64 f.slots):=(by rw[Lib.cell_of_heap E];rfl);have b4:Q.cell? (OK O 4)=some (.slice (some (OI gi 0)) f.ins.length ic):=(by rw[Lib.cell_of_heap E];rfl);have ad:Hid (∀ W,Below Q.heap.size Q W->Below s.heap.size s W):=fun W hW=>M.out.trans ((P.out.trans ((an.out.trans (hW.mono an.out.size)).mono P.out.size)).mono M.out.size)
         obtain⟨e0,-⟩:=o.out Q (y.out Q (ad.out Q (Below.refl _ _)));clear K E J;cases b with
         | true =>
          have a6:Hid (∀ j (hj:j < f.ins.length),j < q+1->Aq c f f.ins[j]=true):=fun j hj h=>by
           by_cases e:j=q
           ·subst e;exact ak.out
           ·exact ar.out j hj Ou
          go_wp2_with (first|(go_at_call 125;refine(aq.out _).mono ?_;rintro e L ⟨rfl,z⟩));go_roundw;case rel=>exact⟨q+1,by omega,by go_num,I.out.trans (z.mono I.out.size),a6⟩
          case measure=>simp[intOf];omega
         | false =>
          have G:Hid (I2 r = .agg #[.int .i64 3,.int .i64 (k:Int),.int .i64 (q:Int)]):=by
           have h1:Dk c f f.ins 0=some q:=by
            have:=Kr c f f.ins 0 q hltq (fun j hj h=>ar.out j hj h) ak.out;rw[Nat.zero_add]at this;exact this
           have h2:=J6 c c 0 k hlt q N.out (by rw[H.out];exact h1);rw[Nat.zero_add]at h2;rw[Hid,a4.out,h2];rfl
          go_wp2_with (first|(go_at_call 125;refine(aq.out _).mono ?_;rintro e L ⟨rfl,z⟩;obtain⟨j0,⟨j1,j2,j3⟩,⟨a0,a1,a2⟩,A,ay⟩:=o.out L (y.out L (ad.out L z))));exact bodyPost_ret (v:=.agg #[.int .i64 3,.int .i64 (k:Int),.int .i64 (q:Int)]) (by simp[results,Tryz.results95,go_sem,j1,j2,j3]) rfl ⟨by rw[G.out],Ad (Ad (Ad A 1 0 _) 1 1 _) 1 2 _⟩
        ·have ax:¬ (q:Int) < (f.ins.length:Int):=Ou;have bf:Hid (∀ j (hj:j < c.length),j < k+1->Dk c c[j] c[j].ins 0=none):=fun j hj h=>by
          by_cases e:j=k
          ·subst e;rw[H.out];exact Kq c f f.ins 0 (fun i hi=>ar.out i hi Ou)
          ·exact N.out j hj Ou
         have ba:Hid (Below s.heap.size s wr):=M.out.trans (P.out.mono M.out.size);go_wp2_with fail;go_roundw;case rel=>exact⟨k+1,by omega,by go_num,ba.out,bf⟩
         case measure=>simp[intOf];omega
      ·have a9:¬ (k:Int) < (c.length:Int):=Ou;have bd:Hid (Du c c 0=none):=J5 c c 0 (fun j hj=>N.out j hj Ou);have ap:Hid (r=if c.any A8=true then (0,0,0) else (4,0,0)):=(by rw[Hid,a4.out,bd.out]);have S:=Ul c (some (OI g 0)) cap hcl B wr (Nat.le_trans hB l.size) (HC.out wr (l.mono hB));rw[Wz c (O0 F.out)]at S;obtain⟨b,ah⟩:∃ b,Hid (c.any A8=b):=⟨_,(rfl:c.any A8=_)⟩;rw[ah.out]at S ap;have a3:Hid (Calls Tryz.prog 126 #[.agg #[.slice (some (OI g 0)) c.length cap]] wr fun e w'=>e = .returned (.bool b)/\Below wr.heap.size wr w'):=S;clear S N;cases b with
       | true =>
        have G:Hid (I2 r = .agg #[.int .i64 0,.int .i64 0,.int .i64 0]):=by
         rw[Hid,ap.out];rfl
        go_wp2_with (first|(go_at_call 126;refine a3.out.mono ?_;rintro e L ⟨rfl,z⟩;obtain⟨j0,⟨j1,j2,j3⟩,⟨a0,a1,a2⟩,A,ay⟩:=o.out L (y.out L (u.trans (z.mono u.size)))));exact bodyPost_ret (v:=.agg #[.int .i64 0,.int .i64 0,.int .i64 0]) (by simp[results,Tryz.results95,go_sem,j1,j2,j3]) rfl ⟨by rw[G.out],Ad (Ad (Ad A 1 0 _) 1 1 _) 1 2 _⟩
       | false =>
        have G:Hid (I2 r = .agg #[.int .i64 4,.int .i64 0,.int .i64 0]):=by
         rw[Hid,ap.out];rfl
        go_wp2_with (first|(go_at_call 126;refine a3.out.mono ?_;rintro e L ⟨rfl,z⟩;obtain⟨j0,⟨j1,j2,j3⟩,⟨a0,a1,a2⟩,A,ay⟩:=o.out L (y.out L (u.trans (z.mono u.size)))));exact bodyPost_ret (v:=.agg #[.int .i64 4,.int .i64 0,.int .i64 0]) (by simp[results,Tryz.results95,go_sem,j1,j2,j3]) rfl ⟨by rw[G.out],Ad (Ad (Ad A 1 0 _) 1 1 _) 1 2 _⟩
end Go.Proofs.YtahibkjkpmdhgaaGreatDoor
