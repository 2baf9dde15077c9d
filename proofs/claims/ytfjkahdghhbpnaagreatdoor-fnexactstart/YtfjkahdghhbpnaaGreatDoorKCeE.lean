import Derived.Test.YtfjkahdghhbpnaaGreatDoorKWalD
set_option maxRecDepth 100000
set_option maxHeartbeats 1000000
namespace Go.Proofs.YtfjkahdghhbpnaaGreatDoor
open Go.RowKit
def Hk (name:ByteArray):List Ae->Nat->Int
 | [],_ => -1
 | f::r,k=>if (f.name.toList == name.toList)=true then (k:Int) else Hk name r (k+1)
def Eh (c:List Ae) (name:ByteArray):Int:=Hk name c 0
theorem N8 (name:ByteArray):∀ (l:List Ae) (k j:Nat) (hj:j < l.length),(∀ i (hi:i < l.length),i < j->(l[i].name.toList == name.toList)=false)->(l[j].name.toList == name.toList)=true->Hk name l k=((k+j:Nat):Int)
 | [],_,j,hj,_,_=>by simp at hj
 | f::r,k,0,_,_,h=>by
  rw[Hk,if_pos (by simpa using h)];rfl
 | f::r,k,j+1,hj,hn,h=>by
  have a:=hn 0 (by simp) (by omega)
  rw[Hk,if_neg (by simpa using a),N8 name r (k+1) j (by simpa using hj) (fun i hi hij=>hn (i+1) (Nat.succ_lt_succ hi) (by omega)) h]
  congr 1;omega
theorem Tn (name:ByteArray):∀ (l:List Ae) (k:Nat),(∀ i (hi:i < l.length),(l[i].name.toList == name.toList)=false)->Hk name l k = -1
 | [],_,_=>rfl
 | f::r,k,hn=>by
  have a:=hn 0 (by simp)
  rw[Hk,if_neg (by simpa using a)]
  exact Tn name r (k+1) (fun i hi=>hn (i+1) (Nat.succ_lt_succ hi))
theorem Ys (f:Ae) (pv iv:Value) (p:Nat) (name:ByteArray) (w:World) (hp:w.heap[p]? = some (.cells #[.string name] 9)) :
  Calls Tryz.prog 91 #[.agg #[.string f.name,pv,.int .i64 f.result,.int .i64 f.slots,iv],.pointer (some ⟨p,0,none⟩)] w fun e w'=>e = .returned (.bool (f.name.toList == name.toList))/\Below w.heap.size w w':=by
 have d:p < w.heap.size:=(Array.getElem?_eq_some_iff.1 hp).1
 obtain⟨c,a⟩:∃ Y,w.alloc (.cells #[.string f.name,pv,.int .i64 f.result,.int .i64 f.slots,iv] 97)=Y:=⟨_,rfl⟩
 have b:Below w.heap.size w c:=by rw[<- a];exact A5 w _
 have g:c.cell? ⟨w.heap.size,0,none⟩=some (.string f.name):=by rw[<- a];exact Bq w _ _ 0 _ rfl
 have h:c.cell? ⟨p,0,none⟩=some (.string name):=by rw[b.cell (p:=⟨p,0,none⟩) d,Lib.cell_of_heap hp];rfl
 go_enter Tryz.func91,Tryz.ntmps91
 go_wp2_with fail
 go_ret
 exact⟨rfl,b⟩
theorem Qa5 (c:List Ae) (a:Option Addr) (cap p:Nat) (name:ByteArray) (hcl:c.length<=1048576) (w:World) (B:Nat) (hB:B<=w.heap.size) (hC:Ak B w (.slice a c.length cap) c) (hp:w.heap[p]? = some (.cells #[.string name] 9)) :
  Calls Tryz.prog 90 #[.slice a c.length cap,.func (Fn.func 91) #[] #[.pointer (some ⟨p,0,none⟩)]] w fun e w'=>e = .returned (.int .i64 (Eh c name))/\Below w.heap.size w w':=by
 have I:Hid (Ak B w (.slice a c.length cap) c):=hC
 have C:Hid (w.heap[p]? = some (.cells #[.string name] 9)):=hp
 clear hC hp
 obtain⟨r,A⟩:∃ r,Hid (Eh c name=r):=⟨_,(rfl:Eh c name=_)⟩
 rw[A.out]
 go_enter Tryz.func90,Tryz.ntmps90
 go_wp2_with fail
 go_loopw [8] (fun t wr => ∃ i:Nat,i<=c.length/\t = .int .i64 (i:Int)/\Below w.heap.size w wr/\∀ j (hj:j < c.length),j < i->(c[j].name.toList == name.toList)=false) (fun t _=>c.length - (intOf t).toNat)
 case atStart=>exact⟨0,by omega,rfl,Below.refl _ _,fun j hj h=>by omega⟩
 case round =>
  obtain⟨i,R,rfl,q,u⟩:=hrel
  have d:Hid (Below w.heap.size w wr):=q
  have l:Hid (∀ j (hj:j < c.length),j < i->(c[j].name.toList == name.toList)=false):=u
  clear q u
  by_cases hlt:i < c.length
  ·have s:(i:Int) < (c.length:Int):=by omega
   obtain⟨g,D,G,H,E,F,O,Q,J,K,L,M,N,-,-⟩:=(I.out.below (d.out.mono hB)).fn i hlt
   injection O with ev1 ev2 ev3
   subst ev1
   have v:p < w.heap.size:=(Array.getElem?_eq_some_iff.1 C.out).1
   have z:Hid (wr.heap[p]? = some (.cells #[.string name] 9)):=(d.out.block p v).trans C.out
   obtain⟨b,k⟩:∃ b,Hid ((c[i].name.toList == name.toList)=b):=⟨_,(rfl:(c[i].name.toList == name.toList)=_)⟩
   obtain⟨f,x⟩:∃ f,Hid (c[i]=f):=⟨_,(rfl:c[i]=_)⟩
   rw[x.out]at J K L M N
   have o:Hid (Calls Tryz.prog 91 #[.agg #[.string f.name,.slice G f.params.length H,.int .i64 f.result,.int .i64 f.slots,.slice E f.ins.length F],.pointer (some ⟨p,0,none⟩)] wr fun e w'=>e = .returned (.bool b)/\Below wr.heap.size wr w'):=by
    have h:=Ys f (.slice G f.params.length H) (.slice E f.ins.length F) p name wr z.out
    rw[<- x.out,k.out]at h
    rw[<- x.out]
    exact h
   clear ev2 ev3
   cases b with
   | true =>
    have m:Hid (((i:Nat):Int)=r):=by
     rw[Hid,<- A.out,Eh,N8 name c 0 i hlt l.out k.out,Nat.zero_add]
    go_wp2_with (first|(go_at_call 91;refine o.out.mono ?_;rintro e P ⟨rfl,n⟩))
    go_ret
    exact⟨C4 m.out,d.out.trans (n.mono d.out.size)⟩
   | false =>
    have y:Hid (∀ j (hj:j < c.length),j < i+1->(c[j].name.toList == name.toList)=false):=fun j hj h=>by
     by_cases e:j=i
     ·subst e;exact k.out
     ·exact l.out j hj (by omega)
    go_wp2_with (first|(go_at_call 91;refine o.out.mono ?_;rintro e P ⟨rfl,n⟩))
    go_roundw
    case rel=>exact⟨i+1,by omega,by go_num,d.out.trans (n.mono d.out.size),y.out⟩
    case measure=>simp[intOf];omega
  ·have s:¬ (i:Int) < (c.length:Int):=by omega
   have m:Hid ((-1:Int)=r):=by
    rw[Hid,<- A.out,Eh,Tn name c 0 (fun j hj=>l.out j hj (by omega))]
   go_wp2_with fail
   go_ret
   exact⟨C4 m.out,d.out⟩
theorem Kw (c:List Ae) (a:Option Addr) (cap:Nat) (name:ByteArray) (hcl:c.length<=1048576) (B:Nat) (w:World) (hB:B<=w.heap.size) (hC:Ak B w (.slice a c.length cap) c) :
  Calls Tryz.prog 54 #[.slice a c.length cap,.string name] w fun e w'=>e = .returned (.int .i64 (Eh c name))/\Below w.heap.size w w':=by
 obtain⟨f,b⟩:∃ Y,w.alloc (.cells #[.string name] 9)=Y:=⟨_,rfl⟩
 have d:Below w.heap.size w f:=by rw[<- b];exact A5 w _
 have j:f.heap.size=w.heap.size+1:=by rw[<- b];exact World.size_alloc _ _
 have h:Hid (Calls Tryz.prog 90 #[.slice a c.length cap,.func (Fn.func 91) #[] #[.pointer (some ⟨w.heap.size,0,none⟩)]] f fun e w'=>e = .returned (.int .i64 (Eh c name))/\Below f.heap.size f w'):=Qa5 c a cap w.heap.size name hcl f B (by omega) (hC.below (d.mono hB)) (by rw[<- b];exact Ag w _)
 obtain⟨r,i⟩:∃ r,Hid (Eh c name=r):=⟨_,(rfl:Eh c name=_)⟩
 rw[i.out]at h |-
 clear hC
 go_enter Tryz.func54,Tryz.ntmps54
 go_wp2_with (first|(go_at_call 90;refine h.out.mono ?_;rintro e k ⟨rfl,g⟩))
 go_ret
 exact⟨rfl,d.trans (g.mono d.size)⟩
theorem Iq (name:ByteArray):∀ (l:List Ae) (k:Nat),(Hk name l k = -1/\∀ i (hi:i < l.length),(l[i].name.toList == name.toList)=false)\/∃ j,∃ (d:j < l.length),Hk name l k=((k+j:Nat):Int)/\(l[j].name.toList == name.toList)=true/\∀ i (hi:i < l.length),i < j->(l[i].name.toList == name.toList)=false
 | [],_ => .inl ⟨rfl,fun i hi=>by simp at hi⟩
 | f::r,k=>by
  by_cases h:(f.name.toList == name.toList)=true
  ·exact .inr ⟨0,by simp,by rw[Hk,if_pos h];rfl,h,fun i hi hl=>by omega⟩
  ·have c:(f.name.toList == name.toList)=false:=by simpa using h
   rcases Iq name r (k+1) with⟨a,b⟩|⟨j,d,a,b,g⟩
   ·refine .inl ⟨by rw[Hk,if_neg h];exact a,fun i hi => ?_⟩
    cases i with
    | zero=>exact c
    | succ i=>exact b i (by simpa using hi)
   ·refine .inr ⟨j+1,by simpa using d,by rw[Hk,if_neg h,a];congr 1;omega,b,fun i hi hl => ?_⟩
    cases i with
    | zero=>exact c
    | succ i=>exact g i (by simpa using hi) (by omega)
def E0 : ByteArray:=⟨#[109,97,105,110]⟩
theorem Mw : E0.toList=[109,97,105,110]:=by rw[ByteArray.toList_eq];rfl
def Hn (c:List Ae):Bool :=
 decide (0<=Eh c E0) && decide ((c.getD (Eh c E0).toNat B1).params.length=0) && decide ((c.getD (Eh c E0).toNat B1).result=2)
def Yr (c:List Ae):Prop := ∀ i j (hi:i < c.length) (hj:j < c.length),i < j->(c[i].name.toList == c[j].name.toList)=false
theorem U0 (c:List Ae) (h:Yr c):Hn c=c.any Bb:=by
 unfold Hn Eh
 rcases Iq E0 c 0 with⟨g,m⟩|⟨j,l,g,m,t⟩
 ·rw[g]
  have:c.any Bb=false:=by
   rw[List.any_eq_false]
   intro f n a
   obtain⟨i,k,rfl⟩:=List.getElem_of_mem n
   have d:=m i k
   unfold Bb at a
   rw[Mw]at d
   rw[d]at a
   simp at a
  rw[this];rfl
 ·rw[Nat.zero_add]at g
  rw[g]
  have e:c.getD ((j:Nat):Int).toNat B1=c[j]:=by
   rw[Int.toNat_natCast,List.getD_eq_getElem?_getD,List.getElem?_eq_getElem l];rfl
  rw[e]
  have d:(c[j].name.toList == [109,97,105,110])=true:=by rw[<- Mw];exact m
  by_cases a:Bb c[j]=true
  ·have:c.any Bb=true:=by rw[List.any_eq_true];exact⟨_,List.getElem_mem l,a⟩
   rw[this]
   unfold Bb at a
   rw[d]at a
   simp at a
   simp[a]
  ·have:c.any Bb=false:=by
    rw[List.any_eq_false]
    intro f n b
    obtain⟨i,k,rfl⟩:=List.getElem_of_mem n
    by_cases e2:i=j
    ·subst e2;exact a b
    ·have r:(c[i].name.toList == [109,97,105,110])=true:=by unfold Bb at b;simp at b;simpa using b.1.1
     have p:c[i].name.toList=[109,97,105,110]:=by simpa using r
     have q:c[j].name.toList=[109,97,105,110]:=by simpa using d
     rcases Nat.lt_or_gt_of_ne e2 with o|o
     ·have:=h i j k l o
      rw[p,q]at this
      simp at this
     ·have:=h j i l k o
      rw[p,q]at this
      simp at this
   rw[this]
   unfold Bb at a
   rw[d]at a
   simp at a
   by_cases hq:c[j].params.length=0
   ·first|(simp[hq];done)|(simp[hq];exact a (by simpa using hq))
   ·first|(simp[hq];done)|(simp[hq];intro s;exact(hq (by simpa using s)).elim)
theorem Tb (c:List Ae) (a:Option Addr) (cap:Nat) (hcl:c.length<=1048576) (B:Nat) (w:World) (hB:B<=w.heap.size) (hC:Ak B w (.slice a c.length cap) c) :
  Calls Tryz.prog 84 #[.agg #[.slice a c.length cap]] w fun e w'=>e = .returned (.bool (Hn c))/\Below w.heap.size w w':=by
 have x:Hid (Ak B w (.slice a c.length cap) c):=hC
 clear hC
 obtain⟨i,o⟩:∃ Y,w.alloc (.cells #[.slice a c.length cap] 38)=Y:=⟨_,rfl⟩
 have b:Below w.heap.size w i:=by rw[<- o];exact A5 w _
 have S:i.heap.size=w.heap.size+1:=by rw[<- o];exact World.size_alloc _ _
 have k:i.heap[w.heap.size]? = some (.cells #[.slice a c.length cap] 38):=by rw[<- o];exact Ag w _
 have F:i.cell? ⟨w.heap.size,0,none⟩=some (.slice a c.length cap):=by rw[Lib.cell_of_heap k];rfl
 have y:Hid (i.heap[w.heap.size]? = some (.cells #[.slice a c.length cap] 38)):=k
 clear k
 have l:Hid (Calls Tryz.prog 54 #[.slice a c.length cap,.string E0] i fun e w'=>e = .returned (.int .i64 (Eh c E0))/\Below i.heap.size i w'):=Kw c a cap E0 hcl B i (by omega) (x.out.below (b.mono hB))
 obtain⟨r,A⟩:∃ r,Hid (Hn c=r):=⟨_,(rfl:Hn c=_)⟩
 rw[A.out]
 rcases Iq E0 c 0 with⟨n,C⟩|⟨j,z,n,C,Q⟩
 ·have t:Hid (Calls Tryz.prog 54 #[.slice a c.length cap,.string ⟨#[109,97,105,110]⟩] i fun e w'=>e = .returned (.int .i64 (-1))/\Below i.heap.size i w'):=by
   have h:=l.out
   unfold Eh at h
   rw[n]at h
   exact h
  have s:Hid (false=r):=by
   rw[Hid,<- A.out];unfold Hn Eh;rw[n];rfl
  clear n C l
  go_enter Tryz.func84,Tryz.ntmps84
  go_wp2_with (first|(go_at_call 54;refine t.out.mono ?_;rintro e q ⟨rfl,d⟩;have p:=(show q.cell? ⟨w.heap.size,0,none⟩=some (.slice a c.length cap) from(by rw[Lib.cell_of_heap ((d.block _ (by omega)).trans y.out)];rfl))))
  go_ret
  exact⟨As s.out,b.trans (d.mono b.size)⟩
 ·have t:Hid (Calls Tryz.prog 54 #[.slice a c.length cap,.string ⟨#[109,97,105,110]⟩] i fun e w'=>e = .returned (.int .i64 (j:Int))/\Below i.heap.size i w'):=by
   have h:=l.out
   unfold Eh at h
   rw[n,Nat.zero_add]at h
   exact h
  have s:Hid ((decide (c[j].params.length=0) && decide (c[j].result=2))=r):=by
   rw[Hid,<- A.out];unfold Hn Eh;rw[n,Nat.zero_add]
   have e:c.getD ((j:Nat):Int).toNat B1=c[j]:=by
    rw[Int.toNat_natCast,List.getD_eq_getElem?_getD,List.getElem?_eq_getElem z];rfl
   rw[e];simp
  clear n C Q l
  have R:(j:Int) < (c.length:Int):=by omega
  go_enter Tryz.func84,Tryz.ntmps84
  by_cases q1:c[j].params.length=0
  ·have D:((c[j].params.length:Int) == 0)=true:=by simp[q1]
   by_cases q2:c[j].result=2
   ·have E:(c[j].result == 2)=true:=by simp[q2]
    have u:Hid (true=r):=by rw[Hid,<- s.out];simp[q1,q2]
    clear q1 q2
    go_wp2_with (first|(go_at_call 54;refine t.out.mono ?_;rintro e q ⟨rfl,d⟩;have p:=(show q.cell? ⟨w.heap.size,0,none⟩=some (.slice a c.length cap) from(by rw[Lib.cell_of_heap ((d.block _ (by omega)).trans y.out)];rfl));have f:=b.trans (d.mono b.size);obtain⟨g,m,O,P,M,N,v,L,G,H,I,J,K,-,-⟩:=(x.out.below (f.mono hB)).fn j z;injection v with ev1 ev2 ev3;subst ev1;clear ev2 ev3))
    all_goals go_ret
    all_goals exact⟨As u.out,b.trans (d.mono b.size)⟩
   ·have E:(c[j].result == 2)=false:=by simp[q2]
    have u:Hid (false=r):=by rw[Hid,<- s.out];simp[q1,q2]
    clear q1 q2
    go_wp2_with (first|(go_at_call 54;refine t.out.mono ?_;rintro e q ⟨rfl,d⟩;have p:=(show q.cell? ⟨w.heap.size,0,none⟩=some (.slice a c.length cap) from(by rw[Lib.cell_of_heap ((d.block _ (by omega)).trans y.out)];rfl));have f:=b.trans (d.mono b.size);obtain⟨g,m,O,P,M,N,v,L,G,H,I,J,K,-,-⟩:=(x.out.below (f.mono hB)).fn j z;injection v with ev1 ev2 ev3;subst ev1;clear ev2 ev3))
    all_goals go_ret
    all_goals exact⟨As u.out,b.trans (d.mono b.size)⟩
  ·have D:((c[j].params.length:Int) == 0)=false:=beq_eq_false_iff_ne.2 (by omega)
   have u:Hid (false=r):=by rw[Hid,<- s.out];simp[q1]
   clear q1
   go_wp2_with (first|(go_at_call 54;refine t.out.mono ?_;rintro e q ⟨rfl,d⟩;have p:=(show q.cell? ⟨w.heap.size,0,none⟩=some (.slice a c.length cap) from(by rw[Lib.cell_of_heap ((d.block _ (by omega)).trans y.out)];rfl));have f:=b.trans (d.mono b.size);obtain⟨g,m,O,P,M,N,v,L,G,H,I,J,K,-,-⟩:=(x.out.below (f.mono hB)).fn j z;injection v with ev1 ev2 ev3;subst ev1;clear ev2 ev3))
   all_goals go_ret
   all_goals exact⟨As u.out,b.trans (d.mono b.size)⟩
def Ef (t:Int):Bool:=A4 t 1 10
theorem B4 (t:Int) (w:World) :
  Calls Tryz.prog 117 #[.int .i64 t] w fun e w'=>e = .returned (.bool (Ef t))/\w=w':=by
 by_cases h1:1<=t
 all_goals
  go_enter Tryz.func117,Tryz.ntmps117
  go_wp2
  all_goals go_ret
  all_goals exact⟨As (by first|(simp[Ef,A4,h1];done)|(simp[Ef,A4];omega)),rfl⟩
theorem L8 (t:Int) (w:World) :
  Calls Tryz.prog 116 #[.int .i64 t] w fun e w'=>e = .returned (.bool (!Ef t))/\w=w':=by
 cases hb:Ef t
 all_goals
  go_enter Tryz.func116,Tryz.ntmps116
  go_wp2_with (go_at_call 117;refine(B4 _ _).mono ?_;rintro e w' ⟨rfl,rfl⟩;rw[hb])
  go_ret
  exact⟨rfl,rfl⟩
theorem Xk (l:List Int) (a:Option Addr) (cap:Nat) (hl:l.length<=1048576) (B:Nat) (w:World) (hL:Ab B w (.slice a l.length cap) l) :
  Calls Tryz.prog 141 #[.slice a l.length cap,.func (Fn.func 116) #[] #[]] w fun e w'=>(∃ k:Int,e = .returned (.int .i64 k)/\(decide (0<=k)) = !(l.all Ef))/\w=w':=by
 have v:Hid (Ab B w (.slice a l.length cap) l):=hL
 clear hL
 go_enter Tryz.func141,Tryz.ntmps141
 go_wp2_with fail
 go_loopw [8] (fun t wr => ∃ i:Nat,i<=l.length/\t = .int .i64 (i:Int)/\w=wr/\∀ j (c:j < l.length),j < i->Ef l[j]=true) (fun t _=>l.length - (intOf t).toNat)
 case atStart=>exact⟨0,by omega,rfl,rfl,fun j c h=>by omega⟩
 case round =>
  obtain⟨i,F,rfl,rfl,p⟩:=hrel
  have f:Hid (∀ j (c:j < l.length),j < i->Ef l[j]=true):=p
  clear p
  by_cases hlt:i < l.length
  ·have n:(i:Int) < (l.length:Int):=by omega
   obtain⟨g,o,rfl,y⟩:∃ g o,a=some ⟨g,o,none⟩/\w.cell? ⟨g,o+i,none⟩=some (.int .i64 l[i]):=by
    obtain⟨D,E,e,A⟩:=v.out
    injection e with e1
    subst e1
    obtain⟨g,o,z,_,m⟩:=A i hlt
    exact⟨g,o,z,m⟩
   obtain⟨b,q⟩:∃ b,Hid (Ef l[i]=b):=⟨_,(rfl:Ef l[i]=_)⟩
   obtain⟨x,u⟩:∃ x,Hid (l[i]=x):=⟨_,(rfl:l[i]=_)⟩
   have d:Hid (Ef x=b):=by rw[Hid,<- u.out];exact q.out
   rw[u.out]at y
   cases b with
   | false =>
    have s:Hid ((decide ((0:Int)<=(i:Int))) = !(l.all Ef)):=by
     have m:l.all Ef=false:=by
      rw[List.all_eq_false]
      exact⟨l[i],List.getElem_mem hlt,by rw[q.out];simp⟩
     rw[Hid,m];simp
    go_wp2_with (go_at_call 116;refine(L8 _ _).mono ?_;rintro e w' ⟨rfl,rfl⟩;rw[d.out])
    go_ret
    exact⟨⟨_,rfl,s.out⟩,rfl⟩
   | true =>
    have r:Hid (∀ j (c:j < l.length),j < i+1->Ef l[j]=true):=fun j c h=>by
     by_cases e:j=i
     ·subst e;exact q.out
     ·exact f.out j c (by omega)
    go_wp2_with (go_at_call 116;refine(L8 _ _).mono ?_;rintro e w' ⟨rfl,rfl⟩;rw[d.out])
    go_roundw
    case rel=>exact⟨i+1,by omega,by go_num,by first|rfl|trivial,r.out⟩
    case measure=>simp[intOf];omega
  ·have n:¬ (i:Int) < (l.length:Int):=by omega
   have s:Hid ((decide ((0:Int) <= -1)) = !(l.all Ef)):=by
    have m:l.all Ef=true:=by
     rw[List.all_eq_true]
     intro t C
     obtain⟨j,c,rfl⟩:=List.getElem_of_mem C
     exact f.out j c (by omega)
    rw[Hid,m];rfl
   go_wp2_with fail
   go_ret
   exact⟨⟨_,rfl,s.out⟩,rfl⟩
theorem Va (l:List Int) (a:Option Addr) (cap:Nat) (hl:l.length<=1048576) (B:Nat) (w:World) (hL:Ab B w (.slice a l.length cap) l) :
  Calls Tryz.prog 115 #[.slice a l.length cap,.func (Fn.func 116) #[] #[]] w fun e w'=>e = .returned (.bool (!(l.all Ef)))/\w=w':=by
 have b:Hid (Calls Tryz.prog 141 #[.slice a l.length cap,.func (Fn.func 116) #[] #[]] w fun e w'=>(∃ k:Int,e = .returned (.int .i64 k)/\(decide (0<=k)) = !(l.all Ef))/\w=w'):=Xk l a cap hl B w hL
 clear hL
 obtain⟨r,d⟩:∃ r,Hid ((!(l.all Ef))=r):=⟨_,(rfl:(!(l.all Ef))=_)⟩
 rw[d.out]at b |-
 go_enter Tryz.func115,Tryz.ntmps115
 go_wp2_with (go_at_call 141;refine b.out.mono ?_;rintro e w' ⟨⟨k,rfl,c⟩,rfl⟩)
 all_goals go_ret
 all_goals exact⟨As (by first|exact c|(simp_all;done)|(rw[<- c];simp;omega)),rfl⟩
end Go.Proofs.YtfjkahdghhbpnaaGreatDoor
