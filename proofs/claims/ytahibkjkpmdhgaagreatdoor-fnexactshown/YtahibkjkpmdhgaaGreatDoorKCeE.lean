import Derived.Test.YtahibkjkpmdhgaaGreatDoorKWalD
set_option maxRecDepth 100000
set_option maxHeartbeats 1000000
namespace Go.Proofs.YtahibkjkpmdhgaaGreatDoor
open Go.RowKit
def Ij (name:ByteArray):List Af->Nat->Int
 | [],_ => -1
 | f::r,k=>if (f.name.toList == name.toList)=true then (k:Int) else Ij name r (k+1)
def D4 (c:List Af) (name:ByteArray):Int:=Ij name c 0
theorem Pq (name:ByteArray):∀ (l:List Af) (k j:Nat) (hj:j < l.length),(∀ i (hi:i < l.length),i < j->(l[i].name.toList == name.toList)=false)->(l[j].name.toList == name.toList)=true->Ij name l k=((k+j:Nat):Int)
 | [],_,j,hj,_,_=>by simp at hj
 | f::r,k,0,_,_,h=>by
  rw[Ij,if_pos (by simpa using h)];rfl
 | f::r,k,j+1,hj,hn,h=>by
  have a:=hn 0 OB Ou
  rw[Ij,if_neg (by simpa using a),Pq name r (k+1) j (by simpa using hj) (fun i hi hij=>hn (i+1) (Nat.succ_lt_succ hi) Ou) h]
  congr 1;omega
theorem Uv (name:ByteArray):∀ (l:List Af) (k:Nat),(∀ i (hi:i < l.length),(l[i].name.toList == name.toList)=false)->Ij name l k = -1
 | [],_,_=>rfl
 | f::r,k,hn=>by
  have a:=hn 0 OB
  rw[Ij,if_neg (by simpa using a)]
  exact Uv name r (k+1) (fun i hi=>hn (i+1) (Nat.succ_lt_succ hi))
theorem Qaq (f:Af) (pv iv:Value) (p:Nat) (name:ByteArray) (w:World) (hp:w.heap[p]? = some (.cells #[.string name] 9)) :
  Calls Tryz.prog 122 #[.agg #[.string f.name,pv,.int .i64 f.result,.int .i64 f.slots,iv],.pointer (some (OI p 0))] w fun e w'=>e = .returned (.bool (f.name.toList == name.toList))/\OH w w':=by
 have d:p < w.heap.size:=(Array.getElem?_eq_some_iff.1 hp).1;obtain⟨c,a⟩:∃ Y,w.alloc (.cells #[.string f.name,pv,.int .i64 f.result,.int .i64 f.slots,iv] 130)=Y:=⟨_,rfl⟩;have b:OH w c:=by rw[<- a];exact Ao w _
 have g:c.cell? (OK w 0)=some (.string f.name):=by rw[<- a];exact Bk w _ _ 0 _ rfl
 have h:c.cell? (OI p 0)=some (.string name):=by rw[b.cell (p:=(OI p 0)) d,Lib.cell_of_heap hp];rfl
 go_enter Tryz.func122,Tryz.ntmps122;go_wp2_with fail;go_ret;exact⟨rfl,b⟩
theorem Qdc (c:List Af) (a:Option Addr) (cap p:Nat) (name:ByteArray) (hcl:c.length<=1048576) (w:World) (B:Nat) (hB:B<=w.heap.size) (hC:Al B w (.slice a c.length cap) c) (hp:w.heap[p]? = some (.cells #[.string name] 9)) :
  Calls Tryz.prog 121 #[.slice a c.length cap,.func (Fn.func 122) #[] #[.pointer (some (OI p 0))]] w fun e w'=>e = .returned (.int .i64 (D4 c name))/\OH w w':=by
 have I:Hid (Al B w (.slice a c.length cap) c):=hC;have C:Hid (w.heap[p]? = some (.cells #[.string name] 9)):=hp;clear hC hp;obtain⟨r,A⟩:∃ r,Hid (D4 c name=r):=⟨_,(rfl:D4 c name=_)⟩;rw[A.out];go_enter Tryz.func121,Tryz.ntmps121;go_wp2_with fail;go_loopw [8] (fun t wr => ∃ i:Nat,i<=c.length/\t = .int .i64 (i:Int)/\OH w wr/\∀ j (hj:j < c.length),j < i->(c[j].name.toList == name.toList)=false) (fun t _=>c.length - (intOf t).toNat);case atStart=>exact⟨0,by omega,rfl,Below.refl _ _,fun j hj h=>Ou⟩
 case round =>
  obtain⟨i,R,rfl,q,u⟩:=hrel;have d:Hid (OH w wr):=q;have l:Hid (∀ j (hj:j < c.length),j < i->(c[j].name.toList == name.toList)=false):=u;clear q u;by_cases hlt:i < c.length
  ·have s:(i:Int) < (c.length:Int):=Ou;obtain⟨g,D,G,H,E,F,O,Q,J,K,L,M,N,-,-⟩:=(I.out.below (d.out.mono hB)).fn i hlt;injection O with ev1 ev2 ev3;subst ev1;have v:p < w.heap.size:=(Array.getElem?_eq_some_iff.1 C.out).1;have z:Hid (wr.heap[p]? = some (.cells #[.string name] 9)):=(d.out.block p v).trans C.out;obtain⟨b,k⟩:∃ b,Hid ((c[i].name.toList == name.toList)=b):=⟨_,(rfl:(c[i].name.toList == name.toList)=_)⟩;obtain⟨f,x⟩:∃ f,Hid (c[i]=f):=⟨_,(rfl:c[i]=_)⟩;rw[x.out]at J K L M N;have o:Hid (Calls Tryz.prog 122 #[.agg #[.string f.name,.slice G f.params.length H,.int .i64 f.result,.int .i64 f.slots,.slice E f.ins.length F],.pointer (some (OI p 0))] wr fun e w'=>e = .returned (.bool b)/\OH wr w'):=by
    have h:=Qaq f (.slice G f.params.length H) (.slice E f.ins.length F) p name wr z.out;rw[<- x.out,k.out]at h;rw[<- x.out];exact h
   clear ev2 ev3;cases b with
   | true =>
    have m:Hid (((i:Nat):Int)=r):=by
     rw[Hid,<- A.out,D4,Pq name c 0 i hlt l.out k.out,Nat.zero_add]
    go_wp2_with (first|(go_at_call 122;refine o.out.mono ?_;rintro e P ⟨rfl,n⟩));go_ret;exact⟨C9 m.out,d.out.trans (n.mono d.out.size)⟩
   | false =>
    have y:Hid (∀ j (hj:j < c.length),j < i+1->(c[j].name.toList == name.toList)=false):=fun j hj h=>by
     by_cases e:j=i
     ·subst e;exact k.out
     ·exact l.out j hj Ou
    go_wp2_with (first|(go_at_call 122;refine o.out.mono ?_;rintro e P ⟨rfl,n⟩));go_roundw;case rel=>exact⟨i+1,by omega,by go_num,d.out.trans (n.mono d.out.size),y.out⟩
    case measure=>simp[intOf];omega
  ·have s:¬ (i:Int) < (c.length:Int):=Ou;have m:Hid ((-1:Int)=r):=by
    rw[Hid,<- A.out,D4,Uv name c 0 (fun j hj=>l.out j hj Ou)]
   go_wp2_with fail;go_ret;exact⟨C9 m.out,d.out⟩
theorem Ly (c:List Af) (a:Option Addr) (cap:Nat) (name:ByteArray) (hcl:c.length<=1048576) (B:Nat) (w:World) (hB:B<=w.heap.size) (hC:Al B w (.slice a c.length cap) c) :
  Calls Tryz.prog 94 #[.slice a c.length cap,.string name] w fun e w'=>e = .returned (.int .i64 (D4 c name))/\OH w w':=by
 obtain⟨f,b⟩:∃ Y,w.alloc (.cells #[.string name] 9)=Y:=⟨_,rfl⟩;have d:OH w f:=by rw[<- b];exact Ao w _
 have j:f.heap.size=w.heap.size+1:=by rw[<- b];exact World.size_alloc _ _
 have h:Hid (Calls Tryz.prog 121 #[.slice a c.length cap,.func (Fn.func 122) #[] #[.pointer (some (OK w 0))]] f fun e w'=>e = .returned (.int .i64 (D4 c name))/\OH f w'):=Qdc c a cap w.heap.size name hcl f B Ou (hC.below (d.mono hB)) (by rw[<- b];exact Ae w _);obtain⟨r,i⟩:∃ r,Hid (D4 c name=r):=⟨_,(rfl:D4 c name=_)⟩;rw[i.out]at h |-
 clear hC;go_enter Tryz.func94,Tryz.ntmps94;go_wp2_with (first|(go_at_call 121;refine h.out.mono ?_;rintro e k ⟨rfl,g⟩));go_ret;exact⟨rfl,d.trans (g.mono d.size)⟩
theorem Jt (name:ByteArray):∀ (l:List Af) (k:Nat),(Ij name l k = -1/\∀ i (hi:i < l.length),(l[i].name.toList == name.toList)=false)\/∃ j,∃ (d:j < l.length),Ij name l k=((k+j:Nat):Int)/\(l[j].name.toList == name.toList)=true/\∀ i (hi:i < l.length),i < j->(l[i].name.toList == name.toList)=false
 | [],_ => .inl ⟨rfl,fun i hi=>by simp at hi⟩
 | f::r,k=>by
  by_cases h:(f.name.toList == name.toList)=true
  ·exact .inr ⟨0,by simp,by rw[Ij,if_pos h];rfl,h,fun i hi hl=>Ou⟩
  ·have c:(f.name.toList == name.toList)=false:=by simpa using h
   rcases Jt name r (k+1) with⟨a,b⟩|⟨j,d,a,b,g⟩
   ·refine .inl ⟨by rw[Ij,if_neg h];exact a,fun i hi => ?_⟩
    cases i with
    | zero=>exact c
    | succ i=>exact b i (by simpa using hi)
   ·refine .inr ⟨j+1,by simpa using d,by rw[Ij,if_neg h,a];congr 1;omega,b,fun i hi hl => ?_⟩
    cases i with
    | zero=>exact c
    | succ i=>exact g i (by simpa using hi) Ou
def D3 : ByteArray:=⟨#[109,97,105,110]⟩
theorem Ny : D3.toList=[109,97,105,110]:=by rw[ByteArray.toList_eq];rfl
def Im (c:List Af):Bool :=
 decide (0<=D4 c D3) && decide ((c.getD (D4 c D3).toNat A6).params.length=0) && decide ((c.getD (D4 c D3).toNat A6).result=2)
def T4 (c:List Af):Prop := ∀ i j (hi:i < c.length) (hj:j < c.length),i < j->(c[i].name.toList == c[j].name.toList)=false
theorem Wz (c:List Af) (h:T4 c):Im c=c.any A8:=by
 unfold Im D4;rcases Jt D3 c 0 with⟨g,m⟩|⟨j,l,g,m,t⟩
 ·rw[g];have:c.any A8=false:=by
   rw[List.any_eq_false];intro f n a;obtain⟨i,k,rfl⟩:=List.getElem_of_mem n;have d:=m i k;unfold A8 at a;rw[Ny]at d;rw[d]at a;simp at a
  rw[this];rfl
 ·rw[Nat.zero_add]at g;rw[g];have e:c.getD ((j:Nat):Int).toNat A6=c[j]:=by
   rw[Int.toNat_natCast,List.getD_eq_getElem?_getD,List.getElem?_eq_getElem l];rfl
  rw[e];have d:(c[j].name.toList == [109,97,105,110])=true:=by rw[<- Ny];exact m
  by_cases a:A8 c[j]=true
  ·have:c.any A8=true:=(by rw[List.any_eq_true];exact⟨_,List.getElem_mem l,a⟩);rw[this];unfold A8 at a;rw[d]at a;simp at a;simp[a]
  ·have:c.any A8=false:=by
    rw[List.any_eq_false];intro f n b;obtain⟨i,k,rfl⟩:=List.getElem_of_mem n;by_cases e2:i=j
    ·subst e2;exact a b
    ·have r:(c[i].name.toList == [109,97,105,110])=true:=(by unfold A8 at b;simp at b;simpa using b.1.1);have p:c[i].name.toList=[109,97,105,110]:=(by simpa using r);have q:c[j].name.toList=[109,97,105,110]:=(by simpa using d);rcases Nat.lt_or_gt_of_ne e2 with o|o
     ·have:=h i j k l o;rw[p,q]at this;simp at this
     ·have:=h j i l k o;rw[p,q]at this;simp at this
   rw[this];unfold A8 at a;rw[d]at a;simp at a;by_cases hq:c[j].params.length=0
   ·first|(simp[hq];done)|(simp[hq];exact a (by simpa using hq))
   ·first|(simp[hq];done)|(simp[hq];intro s;exact(hq (by simpa using s)).elim)
theorem Ul (c:List Af) (a:Option Addr) (cap:Nat) (hcl:c.length<=1048576) (B:Nat) (w:World) (hB:B<=w.heap.size) (hC:Al B w (.slice a c.length cap) c) :
  Calls Tryz.prog 126 #[.agg #[.slice a c.length cap]] w fun e w'=>e = .returned (.bool (Im c))/\OH w w':=by
 have x:Hid (Al B w (.slice a c.length cap) c):=hC;clear hC;obtain⟨i,o⟩:∃ Y,w.alloc (.cells #[.slice a c.length cap] 59)=Y:=⟨_,rfl⟩;have b:OH w i:=by rw[<- o];exact Ao w _
 have S:i.heap.size=w.heap.size+1:=by rw[<- o];exact World.size_alloc _ _
 have k:i.heap[w.heap.size]? = some (.cells #[.slice a c.length cap] 59):=by rw[<- o];exact Ae w _
 have F:i.cell? (OK w 0)=some (.slice a c.length cap):=by rw[Lib.cell_of_heap k];rfl
 have y:Hid (i.heap[w.heap.size]? = some (.cells #[.slice a c.length cap] 59)):=k;clear k;have l:Hid (Calls Tryz.prog 94 #[.slice a c.length cap,.string D3] i fun e w'=>e = .returned (.int .i64 (D4 c D3))/\OH i w'):=Ly c a cap D3 hcl B i Ou (x.out.below (b.mono hB));obtain⟨r,A⟩:∃ r,Hid (Im c=r):=⟨_,(rfl:Im c=_)⟩;rw[A.out];rcases Jt D3 c 0 with⟨n,C⟩|⟨j,z,n,C,Q⟩
 ·have t:Hid (Calls Tryz.prog 94 #[.slice a c.length cap,.string ⟨#[109,97,105,110]⟩] i fun e w'=>e = .returned (.int .i64 (-1))/\OH i w'):=by
   have h:=l.out;unfold D4 at h;rw[n]at h;exact h
  have s:Hid (false=r):=by
   rw[Hid,<- A.out];unfold Im D4;rw[n];rfl
  clear n C l;go_enter Tryz.func126,Tryz.ntmps126;go_wp2_with (first|(go_at_call 94;refine t.out.mono ?_;rintro e q ⟨rfl,d⟩;have p:=(show q.cell? (OK w 0)=some (.slice a c.length cap) from(by rw[Lib.cell_of_heap ((d.block _ Ou).trans y.out)];rfl))));go_ret;exact⟨Ap s.out,b.trans (d.mono b.size)⟩
 ·have t:Hid (Calls Tryz.prog 94 #[.slice a c.length cap,.string ⟨#[109,97,105,110]⟩] i fun e w'=>e = .returned (.int .i64 (j:Int))/\OH i w'):=by
   have h:=l.out;unfold D4 at h;rw[n,Nat.zero_add]at h;exact h
  have s:Hid ((decide (c[j].params.length=0) && decide (c[j].result=2))=r):=by
   rw[Hid,<- A.out];unfold Im D4;rw[n,Nat.zero_add];have e:c.getD ((j:Nat):Int).toNat A6=c[j]:=by
    rw[Int.toNat_natCast,List.getD_eq_getElem?_getD,List.getElem?_eq_getElem z];rfl
   rw[e];simp
  clear n C Q l;have R:(j:Int) < (c.length:Int):=Ou
  go_enter Tryz.func126,Tryz.ntmps126;by_cases q1:c[j].params.length=0
  ·have D:((c[j].params.length:Int) == 0)=true:=(by simp[q1]);by_cases q2:c[j].result=2
   ·have E:(c[j].result == 2)=true:=(by simp[q2]);have u:Hid (true=r):=(by rw[Hid,<- s.out];simp[q1,q2]);clear q1 q2;go_wp2_with (first|(go_at_call 94;refine t.out.mono ?_;rintro e q ⟨rfl,d⟩;have p:=(show q.cell? (OK w 0)=some (.slice a c.length cap) from(by rw[Lib.cell_of_heap ((d.block _ Ou).trans y.out)];rfl));have f:=b.trans (d.mono b.size);obtain⟨g,m,O,P,M,N,v,L,G,H,I,J,K,-,-⟩:=(x.out.below (f.mono hB)).fn j z;injection v with ev1 ev2 ev3;subst ev1;clear ev2 ev3));all_goals go_ret
    all_goals exact⟨Ap u.out,b.trans (d.mono b.size)⟩
   ·have E:(c[j].result == 2)=false:=(by simp[q2]);have u:Hid (false=r):=(by rw[Hid,<- s.out];simp[q1,q2]);clear q1 q2;go_wp2_with (first|(go_at_call 94;refine t.out.mono ?_;rintro e q ⟨rfl,d⟩;have p:=(show q.cell? (OK w 0)=some (.slice a c.length cap) from(by rw[Lib.cell_of_heap ((d.block _ Ou).trans y.out)];rfl));have f:=b.trans (d.mono b.size);obtain⟨g,m,O,P,M,N,v,L,G,H,I,J,K,-,-⟩:=(x.out.below (f.mono hB)).fn j z;injection v with ev1 ev2 ev3;subst ev1;clear ev2 ev3));all_goals go_ret
    all_goals exact⟨Ap u.out,b.trans (d.mono b.size)⟩
  ·have D:((c[j].params.length:Int) == 0)=false:=beq_eq_false_iff_ne.2 Ou;have u:Hid (false=r):=(by rw[Hid,<- s.out];simp[q1]);clear q1;go_wp2_with (first|(go_at_call 94;refine t.out.mono ?_;rintro e q ⟨rfl,d⟩;have p:=(show q.cell? (OK w 0)=some (.slice a c.length cap) from(by rw[Lib.cell_of_heap ((d.block _ Ou).trans y.out)];rfl));have f:=b.trans (d.mono b.size);obtain⟨g,m,O,P,M,N,v,L,G,H,I,J,K,-,-⟩:=(x.out.below (f.mono hB)).fn j z;injection v with ev1 ev2 ev3;subst ev1;clear ev2 ev3));all_goals go_ret
   all_goals exact⟨Ap u.out,b.trans (d.mono b.size)⟩
def E1 (t:Int):Bool:=As t 1 10
theorem B7 (t:Int) (w:World) :
  Calls Tryz.prog 151 #[.int .i64 t] w fun e w'=>e = .returned (.bool (E1 t))/\w=w':=by
 by_cases h1:1<=t;all_goals
  go_enter Tryz.func151,Tryz.ntmps151;go_wp2;all_goals go_ret
  all_goals exact⟨Ap (by first|(simp[E1,As,h1];done)|(simp[E1,As];omega)),rfl⟩
theorem M9 (t:Int) (w:World) :
  Calls Tryz.prog 150 #[.int .i64 t] w fun e w'=>e = .returned (.bool (!E1 t))/\w=w':=by
 cases hb:E1 t
 all_goals
  go_enter Tryz.func150,Tryz.ntmps150;go_wp2_with (go_at_call 151;refine(B7 _ _).mono ?_;rintro e w' ⟨rfl,rfl⟩;rw[hb]);go_ret;exact⟨rfl,rfl⟩
theorem Zl (l:List Int) (a:Option Addr) (cap:Nat) (hl:l.length<=1048576) (B:Nat) (w:World) (hL:Ac B w (.slice a l.length cap) l) :
  Calls Tryz.prog 171 #[.slice a l.length cap,.func (Fn.func 150) #[] #[]] w fun e w'=>(∃ k:Int,e = .returned (.int .i64 k)/\(decide (0<=k)) = !(l.all E1))/\w=w':=by
 have v:Hid (Ac B w (.slice a l.length cap) l):=hL;clear hL;go_enter Tryz.func171,Tryz.ntmps171;go_wp2_with fail;go_loopw [8] (fun t wr => ∃ i:Nat,i<=l.length/\t = .int .i64 (i:Int)/\w=wr/\∀ j (c:j < l.length),j < i->E1 l[j]=true) (fun t _=>l.length - (intOf t).toNat);case atStart=>exact⟨0,by omega,rfl,rfl,fun j c h=>Ou⟩
 case round =>
  obtain⟨i,F,rfl,rfl,p⟩:=hrel;have f:Hid (∀ j (c:j < l.length),j < i->E1 l[j]=true):=p;clear p;by_cases hlt:i < l.length
  ·have n:(i:Int) < (l.length:Int):=Ou;obtain⟨g,o,rfl,y⟩:∃ g o,a=some (OI g o)/\w.cell? (OI g (o+i))=some (.int .i64 l[i]):=by
    obtain⟨D,E,e,A⟩:=v.out;injection e with e1;subst e1;obtain⟨g,o,z,_,m⟩:=A i hlt;exact⟨g,o,z,m⟩
   obtain⟨b,q⟩:∃ b,Hid (E1 l[i]=b):=⟨_,(rfl:E1 l[i]=_)⟩;obtain⟨x,u⟩:∃ x,Hid (l[i]=x):=⟨_,(rfl:l[i]=_)⟩;have d:Hid (E1 x=b):=(by rw[Hid,<- u.out];exact q.out);rw[u.out]at y;cases b with
   | false =>
    have s:Hid ((decide ((0:Int)<=(i:Int))) = !(l.all E1)):=by
     have m:l.all E1=false:=by
      rw[List.all_eq_false];exact⟨l[i],List.getElem_mem hlt,by rw[q.out];simp⟩
     rw[Hid,m];simp
    go_wp2_with (go_at_call 150;refine(M9 _ _).mono ?_;rintro e w' ⟨rfl,rfl⟩;rw[d.out]);go_ret;exact⟨⟨_,rfl,s.out⟩,rfl⟩
   | true =>
    have r:Hid (∀ j (c:j < l.length),j < i+1->E1 l[j]=true):=fun j c h=>by
     by_cases e:j=i
     ·subst e;exact q.out
     ·exact f.out j c Ou
    go_wp2_with (go_at_call 150;refine(M9 _ _).mono ?_;rintro e w' ⟨rfl,rfl⟩;rw[d.out]);go_roundw;case rel=>exact⟨i+1,by omega,by go_num,by first|rfl|trivial,r.out⟩
    case measure=>simp[intOf];omega
  ·have n:¬ (i:Int) < (l.length:Int):=Ou;have s:Hid ((decide ((0:Int) <= -1)) = !(l.all E1)):=by
    have m:l.all E1=true:=by
     rw[List.all_eq_true];intro t C;obtain⟨j,c,rfl⟩:=List.getElem_of_mem C;exact f.out j c Ou
    rw[Hid,m];rfl
   go_wp2_with fail;go_ret;exact⟨⟨_,rfl,s.out⟩,rfl⟩
theorem Xe (l:List Int) (a:Option Addr) (cap:Nat) (hl:l.length<=1048576) (B:Nat) (w:World) (hL:Ac B w (.slice a l.length cap) l) :
  Calls Tryz.prog 149 #[.slice a l.length cap,.func (Fn.func 150) #[] #[]] w fun e w'=>e = .returned (.bool (!(l.all E1)))/\w=w':=by
 have b:Hid (Calls Tryz.prog 171 #[.slice a l.length cap,.func (Fn.func 150) #[] #[]] w fun e w'=>(∃ k:Int,e = .returned (.int .i64 k)/\(decide (0<=k)) = !(l.all E1))/\w=w'):=Zl l a cap hl B w hL;clear hL;obtain⟨r,d⟩:∃ r,Hid ((!(l.all E1))=r):=⟨_,(rfl:(!(l.all E1))=_)⟩;rw[d.out]at b |-
 go_enter Tryz.func149,Tryz.ntmps149;go_wp2_with (go_at_call 171;refine b.out.mono ?_;rintro e w' ⟨⟨k,rfl,c⟩,rfl⟩);all_goals go_ret
 all_goals exact⟨Ap (by first|exact c|(simp_all;done)|(rw[<- c];simp;omega)),rfl⟩
end Go.Proofs.YtahibkjkpmdhgaaGreatDoor
