import Derived.Test.YtjlaedokfbcbpaaGreatDoorKTreeJ
set_option maxRecDepth 100000
set_option maxHeartbeats 4000000
namespace Go.Proofs.YtjlaedokfbcbpaaGreatDoor
open Go.RowKit Proofs.Tryz
theorem L9 {ks:List Int} (o:Int) (k:Int) (hk:k=10\/k=11\/k=14\/k=15\/k=16\/k=17\/k=18\/k=19) (h:ks.all Ah=false):Ac k o ks=false:=by
 have:ks≠[]:=by intro a;subst a;simp at h
 have b:ks.length≠0:=by intro a;exact this (List.eq_nil_of_length_eq_zero a)
 rcases hk with rfl|rfl|rfl|rfl|rfl|rfl|rfl|rfl <;> simp[Ac,Fb,h] <;> simpa using b
theorem DdTreeMx47 {P:Prop} (h:P:=by
 go_enter func67,ntmps67
 go_wp2_with (go_at_call 68;refine(allValue_is true P us ks j _ n HN _ d hk hl).mono ?_;rintro e w' ⟨rfl,rfl⟩)
 go_ret
 exact⟨i,.inr ⟨f.out,rfl⟩⟩
 ):P:=h
theorem DdTreeMx23 {P:Prop} (h:P:=by
 clear hE
 go_enter func67,ntmps67
 go_wp2_with (go_at_call 68;refine(allValue_is false P us ks j _ n HN _ d hk hl).mono ?_;rintro e w' ⟨rfl,rfl⟩)
 go_ret
 exact⟨i,.inr ⟨f.out,rfl⟩⟩
 ):P:=h
theorem grownStatement_10 (o t y:Int) (x:ByteArray) (k:Int) (P:Nat->Prop) (us:List Value) (ks:List Int) (S:Value) (n:Nat) (HN:Hid (ks.length=n)) (w:World) (hP:∀ g,P g->g < w.heap.size) (hS:Bk P w S n us) (hk:Aq us ks) (hl:n<=1000000) :
  Calls prog 67 #[Af ⟨10,o,t,y,x,k⟩,S] w fun e w'=>De P w ⟨10,o,t,y,x,k⟩ us ks e w':=by
 have i:=(Below.refl w.heap.size w).alloc ON (.cells #[.int .i64 10,.int .i64 o,.int .i64 t,.int .i64 y,.string x,.int .i64 k] 62);have d:=hS.alloc hP (.cells #[.int .i64 10,.int .i64 o,.int .i64 t,.int .i64 y,.string x,.int .i64 k] 62);obtain⟨a,c,rfl,l⟩:=hS;have b:us.length=n:=by rw[hk.1];exact HN.out
 simp only[Af];cases hE:ks.all Ah with
 | false =>
  have j:Hid (ks.all Ah=false):=hE;have f:Hid (Ac 10 o ks=false):=L9 o 10 OC hE;exact DdTreeMx23
 | true =>
  have j:Hid (ks.all Ah=true):=hE;by_cases h1:n=1
  ·subst h1;have f:Hid (Ac 10 o ks=true):=(by rw[Hid];have:=HN.out;simp[Ac,Fb,this,hE]);clear hE;obtain⟨z,A,rfl⟩:=Xu hk b;obtain⟨g,rfl,r,v⟩:=l 0 _ rfl;have s:=hP g r;clear l;go_enter func67,ntmps67;exact DdTreeLx112
  ·have f:Hid (Ac 10 o ks=false):=(by rw[Hid];have:=HN.out;simp[Ac,Fb,this,h1]);have p:((n:Int) == 1)=false:=(by simpa using (by omega:¬ (n:Int)=1));clear hE h1 b;exact DdTreeMx47
theorem grownStatement_11 (o t y:Int) (x:ByteArray) (k:Int) (P:Nat->Prop) (us:List Value) (ks:List Int) (S:Value) (n:Nat) (HN:Hid (ks.length=n)) (w:World) (hP:∀ g,P g->g < w.heap.size) (hS:Bk P w S n us) (hk:Aq us ks) (hl:n<=1000000) :
  Calls prog 67 #[Af ⟨11,o,t,y,x,k⟩,S] w fun e w'=>De P w ⟨11,o,t,y,x,k⟩ us ks e w':=by
 have i:=(Below.refl w.heap.size w).alloc ON (.cells #[.int .i64 11,.int .i64 o,.int .i64 t,.int .i64 y,.string x,.int .i64 k] 62);have d:=hS.alloc hP (.cells #[.int .i64 11,.int .i64 o,.int .i64 t,.int .i64 y,.string x,.int .i64 k] 62);obtain⟨a,c,rfl,l⟩:=hS;have b:us.length=n:=by rw[hk.1];exact HN.out
 simp only[Af];cases hE:ks.all Ah with
 | false =>
  have j:Hid (ks.all Ah=false):=hE;have f:Hid (Ac 11 o ks=false):=L9 o 11 OC hE;exact DdTreeMx23
 | true =>
  have j:Hid (ks.all Ah=true):=hE;by_cases h1:n=1
  ·subst h1;have f:Hid (Ac 11 o ks=true):=(by rw[Hid];have:=HN.out;simp[Ac,Fb,this,hE]);clear hE;obtain⟨z,A,rfl⟩:=Xu hk b;obtain⟨g,rfl,r,v⟩:=l 0 _ rfl;have s:=hP g r;clear l;go_enter func67,ntmps67;exact DdTreeLx112
  ·have f:Hid (Ac 11 o ks=false):=(by rw[Hid];have:=HN.out;simp[Ac,Fb,this,h1]);have p:((n:Int) == 1)=false:=(by simpa using (by omega:¬ (n:Int)=1));clear hE h1 b;exact DdTreeMx47
theorem grownStatement_14 (o t y:Int) (x:ByteArray) (k:Int) (P:Nat->Prop) (us:List Value) (ks:List Int) (S:Value) (n:Nat) (HN:Hid (ks.length=n)) (w:World) (hP:∀ g,P g->g < w.heap.size) (hS:Bk P w S n us) (hk:Aq us ks) (hl:n<=1000000) :
  Calls prog 67 #[Af ⟨14,o,t,y,x,k⟩,S] w fun e w'=>De P w ⟨14,o,t,y,x,k⟩ us ks e w':=by
 have i:=(Below.refl w.heap.size w).alloc ON (.cells #[.int .i64 14,.int .i64 o,.int .i64 t,.int .i64 y,.string x,.int .i64 k] 62);have d:=hS.alloc hP (.cells #[.int .i64 14,.int .i64 o,.int .i64 t,.int .i64 y,.string x,.int .i64 k] 62);obtain⟨a,c,rfl,l⟩:=hS;have b:us.length=n:=by rw[hk.1];exact HN.out
 simp only[Af];cases hE:ks.all Ah with
 | false =>
  have j:Hid (ks.all Ah=false):=hE;have f:Hid (Ac 14 o ks=false):=L9 o 14 OC hE;exact DdTreeMx23
 | true =>
  have j:Hid (ks.all Ah=true):=hE;by_cases h1:n=0
  ·subst h1;have f:Hid (Ac 14 o ks=true):=(by rw[Hid];have:=HN.out;simp[Ac,this]);clear hE;obtain rfl:=T8 b;clear l;go_enter func67,ntmps67;exact DdTreeLx66
  ·have f:Hid (Ac 14 o ks=false):=(by rw[Hid];have:=HN.out;simp[Ac,this,h1]);have p:((n:Int) == 0)=false:=(by simpa using (by omega:¬ (n:Int)=0));clear hE h1 b;exact DdTreeMx47
theorem grownStatement_15 (o t y:Int) (x:ByteArray) (k:Int) (P:Nat->Prop) (us:List Value) (ks:List Int) (S:Value) (n:Nat) (HN:Hid (ks.length=n)) (w:World) (hP:∀ g,P g->g < w.heap.size) (hS:Bk P w S n us) (hk:Aq us ks) (hl:n<=1000000) :
  Calls prog 67 #[Af ⟨15,o,t,y,x,k⟩,S] w fun e w'=>De P w ⟨15,o,t,y,x,k⟩ us ks e w':=by
 have i:=(Below.refl w.heap.size w).alloc ON (.cells #[.int .i64 15,.int .i64 o,.int .i64 t,.int .i64 y,.string x,.int .i64 k] 62);have d:=hS.alloc hP (.cells #[.int .i64 15,.int .i64 o,.int .i64 t,.int .i64 y,.string x,.int .i64 k] 62);obtain⟨a,c,rfl,l⟩:=hS;have b:us.length=n:=by rw[hk.1];exact HN.out
 simp only[Af];cases hE:ks.all Ah with
 | false =>
  have j:Hid (ks.all Ah=false):=hE;have f:Hid (Ac 15 o ks=false):=L9 o 15 OC hE;exact DdTreeMx23
 | true =>
  have j:Hid (ks.all Ah=true):=hE;by_cases h1:n=0
  ·subst h1;have f:Hid (Ac 15 o ks=true):=(by rw[Hid];have:=HN.out;simp[Ac,this]);clear hE;obtain rfl:=T8 b;clear l;go_enter func67,ntmps67;exact DdTreeLx66
  ·have f:Hid (Ac 15 o ks=false):=(by rw[Hid];have:=HN.out;simp[Ac,this,h1]);have p:((n:Int) == 0)=false:=(by simpa using (by omega:¬ (n:Int)=0));clear hE h1 b;exact DdTreeMx47
theorem DdTreeMx194 {P:Prop} (h:P:=by
 obtain⟨z,A,rfl⟩:=Xu hk b
 obtain⟨g,rfl,r,v⟩:=l 0 _ rfl
 have s:=hP g r
 clear l
 go_enter func67,ntmps67
 go_wp2_with (go_at_call 68;refine(allValue_is true P _ ks j _ 1 HN _ d hk hl).mono ?_;rintro e w' ⟨rfl,rfl⟩)
 go_ret
 refine⟨i,.inl ⟨f.out,_,rfl,by simp,by simp,_,rfl,by simp[Az]⟩⟩
 ):P:=h
theorem grownStatement_17 (o t y:Int) (x:ByteArray) (k:Int) (P:Nat->Prop) (us:List Value) (ks:List Int) (S:Value) (n:Nat) (HN:Hid (ks.length=n)) (w:World) (hP:∀ g,P g->g < w.heap.size) (hS:Bk P w S n us) (hk:Aq us ks) (hl:n<=1000000) :
  Calls prog 67 #[Af ⟨17,o,t,y,x,k⟩,S] w fun e w'=>De P w ⟨17,o,t,y,x,k⟩ us ks e w':=by
 have i:=(Below.refl w.heap.size w).alloc ON (.cells #[.int .i64 17,.int .i64 o,.int .i64 t,.int .i64 y,.string x,.int .i64 k] 62);have d:=hS.alloc hP (.cells #[.int .i64 17,.int .i64 o,.int .i64 t,.int .i64 y,.string x,.int .i64 k] 62);obtain⟨a,c,rfl,l⟩:=hS;have b:us.length=n:=by rw[hk.1];exact HN.out
 simp only[Af];cases hE:ks.all Ah with
 | false =>
  have j:Hid (ks.all Ah=false):=hE;have f:Hid (Ac 17 o ks=false):=L9 o 17 OC hE;exact DdTreeMx23
 | true =>
  have j:Hid (ks.all Ah=true):=hE;by_cases h1:n=1
  ·subst h1;have f:Hid (Ac 17 o ks=true):=(by rw[Hid];have:=HN.out;simp[Ac,Fb,this,hE]);clear hE;exact DdTreeMx194
  ·have f:Hid (Ac 17 o ks=false):=(by rw[Hid];have:=HN.out;simp[Ac,Fb,this,h1]);have p:((n:Int) == 1)=false:=(by simpa using (by omega:¬ (n:Int)=1));clear hE h1 b;exact DdTreeMx47
theorem grownStatement_18 (o t y:Int) (x:ByteArray) (k:Int) (P:Nat->Prop) (us:List Value) (ks:List Int) (S:Value) (n:Nat) (HN:Hid (ks.length=n)) (w:World) (hP:∀ g,P g->g < w.heap.size) (hS:Bk P w S n us) (hk:Aq us ks) (hl:n<=1000000) :
  Calls prog 67 #[Af ⟨18,o,t,y,x,k⟩,S] w fun e w'=>De P w ⟨18,o,t,y,x,k⟩ us ks e w':=by
 have i:=(Below.refl w.heap.size w).alloc ON (.cells #[.int .i64 18,.int .i64 o,.int .i64 t,.int .i64 y,.string x,.int .i64 k] 62);have d:=hS.alloc hP (.cells #[.int .i64 18,.int .i64 o,.int .i64 t,.int .i64 y,.string x,.int .i64 k] 62);obtain⟨a,c,rfl,l⟩:=hS;have b:us.length=n:=by rw[hk.1];exact HN.out
 simp only[Af];cases hE:ks.all Ah with
 | false =>
  have j:Hid (ks.all Ah=false):=hE;have f:Hid (Ac 18 o ks=false):=L9 o 18 OC hE;exact DdTreeMx23
 | true =>
  have j:Hid (ks.all Ah=true):=hE;by_cases h1:n=2
  ·subst h1;have f:Hid (Ac 18 o ks=true):=(by rw[Hid];have:=HN.out;simp[Ac,this,hE]);clear hE;obtain⟨z,A,M,N,rfl⟩:=Qjf hk b;obtain⟨g,rfl,r,v⟩:=l 0 _ rfl;obtain⟨G,u,_,F⟩:=l 1 _ rfl;cases u
   have s:=hP g r;clear l;go_enter func67,ntmps67;exact DdTreeLx158
  ·have f:Hid (Ac 18 o ks=false):=(by rw[Hid];have:=HN.out;simp[Ac,this,h1]);have p:((n:Int) == 2)=false:=(by simpa using (by omega:¬ (n:Int)=2));clear hE h1 b;exact DdTreeMx47
theorem grownStatement_19 (o t y:Int) (x:ByteArray) (k:Int) (P:Nat->Prop) (us:List Value) (ks:List Int) (S:Value) (n:Nat) (HN:Hid (ks.length=n)) (w:World) (hP:∀ g,P g->g < w.heap.size) (hS:Bk P w S n us) (hk:Aq us ks) (hl:n<=1000000) :
  Calls prog 67 #[Af ⟨19,o,t,y,x,k⟩,S] w fun e w'=>De P w ⟨19,o,t,y,x,k⟩ us ks e w':=by
 have i:=(Below.refl w.heap.size w).alloc ON (.cells #[.int .i64 19,.int .i64 o,.int .i64 t,.int .i64 y,.string x,.int .i64 k] 62);have d:=hS.alloc hP (.cells #[.int .i64 19,.int .i64 o,.int .i64 t,.int .i64 y,.string x,.int .i64 k] 62);obtain⟨a,c,rfl,l⟩:=hS;have b:us.length=n:=by rw[hk.1];exact HN.out
 simp only[Af];cases hE:ks.all Ah with
 | false =>
  have j:Hid (ks.all Ah=false):=hE;have f:Hid (Ac 19 o ks=false):=L9 o 19 OC hE;exact DdTreeMx23
 | true =>
  have j:Hid (ks.all Ah=true):=hE;by_cases h1:n=1
  ·subst h1;have f:Hid (Ac 19 o ks=true):=(by rw[Hid];have:=HN.out;simp[Ac,Fb,this,hE]);clear hE;exact DdTreeMx194
  ·have f:Hid (Ac 19 o ks=false):=(by rw[Hid];have:=HN.out;simp[Ac,Fb,this,h1]);have p:((n:Int) == 1)=false:=(by simpa using (by omega:¬ (n:Int)=1));clear hE h1 b;exact DdTreeMx47
theorem grownStatement_16 (o t y:Int) (x:ByteArray) (k:Int) (P:Nat->Prop) (us:List Value) (ks:List Int) (S:Value) (n:Nat) (HN:Hid (ks.length=n)) (w:World) (hP:∀ g,P g->g < w.heap.size) (hS:Bk P w S n us) (hk:Aq us ks) (hl:n<=1000000) :
  Calls prog 67 #[Af ⟨16,o,t,y,x,k⟩,S] w fun e w'=>De P w ⟨16,o,t,y,x,k⟩ us ks e w':=by
 have i:=(Below.refl w.heap.size w).alloc ON (.cells #[.int .i64 16,.int .i64 o,.int .i64 t,.int .i64 y,.string x,.int .i64 k] 62);have d:=hS.alloc hP (.cells #[.int .i64 16,.int .i64 o,.int .i64 t,.int .i64 y,.string x,.int .i64 k] 62);obtain⟨a,c,rfl,l⟩:=hS;have b:us.length=n:=by rw[hk.1];exact HN.out
 simp only[Af];cases hE:ks.all Ah with
 | false =>
  have j:Hid (ks.all Ah=false):=hE;have f:Hid (Ac 16 o ks=false):=L9 o 16 OC hE;exact DdTreeMx23
 | true =>
  have j:Hid (ks.all Ah=true):=hE;by_cases h0:n=0
  ·subst h0;have f:Hid (Ac 16 o ks=true):=(by rw[Hid];have:=HN.out;simp[Ac,this,hE]);clear hE;obtain rfl:=T8 b;clear l;go_enter func67,ntmps67;exact DdTreeLx66
  ·by_cases h1:n=1
   ·subst h1;have f:Hid (Ac 16 o ks=true):=(by rw[Hid];have:=HN.out;simp[Ac,this,hE]);clear hE h0;exact DdTreeMx194
   ·have f:Hid (Ac 16 o ks=false):=by
     rw[Hid];have:=HN.out;have I:¬ n<=1:=OC;simp[Ac,this,I]
    have H:((n:Int) == 0)=false:=(by simpa using (by omega:¬ (n:Int)=0));have p:((n:Int) == 1)=false:=(by simpa using (by omega:¬ (n:Int)=1));clear hE h1 h0 b;exact DdTreeMx47
theorem Qg4 : ∀ a b:Fin 24,a≠b->A9 ((a.val:Int)+1)≠A9 ((b.val:Int)+1):=by decide +kernel
theorem Hl {k j:Int} (h1:1<=k) (h2:k<=24) (h3:1<=j) (h4:j<=24) (h:k≠j):A9 k≠A9 j:=by
 have a:A9 (((k - 1).toNat:Int)+1)≠A9 (((j - 1).toNat:Int)+1):=Qg4 ⟨(k - 1).toNat,by omega⟩ ⟨(j - 1).toNat,by omega⟩ (by intro b;have:=congrArg Fin.val b;simp at this;omega);rwa [show ((k - 1).toNat:Int)+1=k by omega,show ((j - 1).toNat:Int)+1=j by omega]at a
theorem Qfn {us:List Value} {ks:List Int} (h:Aq us ks) (hl:ks.length=2):∃ d i c g,us=[.iface (A9 d) i,.iface (A9 c) g]/\ks=[d,c]/\(1<=d/\d<=24)/\(1<=c/\c<=24/\M6 c g):=by
 have f:us.length=2:=by rw[h.1];exact hl
 match us,f,ks,hl with
 | [u,v],_,[a,b],_ =>
  obtain⟨d,i,j,k,l,rfl,_⟩:=B7 h 0 u rfl;obtain⟨c,g,m,n,o,rfl,p⟩:=B7 h 1 v rfl;cases l;cases o
  exact⟨_,_,_,_,rfl,rfl,⟨j,k⟩,m,n,p⟩
theorem Qm9 {us:List Value} {ks:List Int} (h:Aq us ks) (hl:ks.length=3):∃ f l d k g m,us=[.iface (A9 f) l,.iface (A9 d) k,.iface (A9 g) m]/\ks=[f,d,g]/\(1<=f/\f<=24)/\(1<=d/\d<=24/\M6 d k)/\(1<=g/\g<=24):=by
 have j:us.length=3:=by rw[h.1];exact hl
 match us,j,ks,hl with
 | [u,v,z],_,[a,b,c],_ =>
  obtain⟨f,l,n,o,p,rfl,_⟩:=B7 h 0 u rfl;obtain⟨d,k,q,r,s,rfl,t⟩:=B7 h 1 v rfl;obtain⟨g,m,x,y,i,rfl,_⟩:=B7 h 2 z rfl;cases p;cases s;cases i
  exact⟨_,_,_,_,_,_,rfl,rfl,⟨n,o⟩,⟨q,r,t⟩,x,y⟩
theorem Qm8 {us:List Value} {ks:List Int} (h:Aq us ks) (hl:ks.length=1):∃ b d,us=[.iface (A9 b) d]/\ks=[b]/\(1<=b/\b<=24/\M6 b d):=by
 have c:us.length=1:=by rw[h.1];exact hl
 match us,c,ks,hl with
 | [u],_,[a],_ =>
  obtain⟨b,d,f,g,i,rfl,j⟩:=B7 h 0 u rfl;cases i
  exact⟨_,_,rfl,rfl,f,g,j⟩
def Nz (w:World) (T:TypeId) (ok:Bool) (X:Value->Prop) (e:Ending) (w':World):Prop :=
 Below w.heap.size w w'/\((ok=true/\∃ x,e = .returned (.iface T x)/\X x)\/(ok=false/\e = .returned .nilIface))
def Qo2 (us:List Value) (x:Value):Prop:=(∃ u S,us=[u,Dv S]/\x = .agg #[u,S,.nilIface])\/(∃ u S t y,us=[u,Dv S,.iface t y]/\x = .agg #[u,S,.iface t y])
def Qi1 (us:List Value) (x:Value):Prop := ∃ u S,us=[u,Dv S]/\x = .agg #[u,S]
def Qo0 (us:List Value) (x:Value):Prop := ∃ nm S,us=[.iface 183 (.agg #[.string nm,S])]/\x = .agg #[.string nm,S]
theorem grownDo_any (P:Nat->Prop) (us:List Value) (ks:List Int) (S:Value) (n:Nat) (HN:Hid (ks.length=n)) (w:World) (hP:∀ g,P g->g < w.heap.size) (hS:Bk P w S n us) (hk:Aq us ks) :
  Calls prog 107 #[S] w fun e w'=>Nz w 209 (Fu ks) (Qo0 us) e w':=by
 have y:=Tryz.ta_callNode;obtain⟨a,c,rfl,h⟩:=hS;by_cases h1:n=1
 ·subst h1;obtain⟨l,z,rfl,rfl,i,k,q⟩:=Qm8 hk HN.out;obtain⟨g,rfl,s,o⟩:=h 0 _ rfl;have t:=hP g s;clear h;by_cases h7:l=7
  ·subst h7;obtain⟨nm,u,x,v,rfl⟩:=q.2.1 rfl;have m:A9 7=183:=rfl;rw[m]at o |-
   go_enter func107,ntmps107;go_wp2;go_ret;exact⟨OP w _,.inl ⟨rfl,_,rfl,nm,_,rfl,rfl⟩⟩
  ·have m:¬ A9 l=183:=Hl i k (j:=7) OC OC h7;have f:Hid (Fu [l]=false):=(by rw[Hid];simp[Fu,h7]);go_enter func107,ntmps107;go_wp2;go_ret;exact⟨OP w _,.inr ⟨f.out,rfl⟩⟩
 ·have f:Hid (Fu ks=false):=by
   have d:=HN.out;match ks,d with
   | [],_=>rw[Hid];rfl
   | [a],d=>simp at d;omega
   | a::b::r,_=>rw[Hid];rfl
  have p:((n:Int) != 1)=true:=by simpa using (by omega:¬ (n:Int)=1)
  clear h h1;go_enter func107,ntmps107;go_wp2;go_ret;exact⟨OO _,.inr ⟨f.out,rfl⟩⟩
theorem DdTreeNx117 {P:Prop} (h:P:=by
 go_wp2_with (go_at_call 104;refine(isValue_is d i k t true l _).mono ?_;rintro e w' ⟨rfl,rfl⟩)
 go_ret
 exact⟨OP w _,.inr ⟨f.out,rfl⟩⟩
 ):P:=h
theorem grownWhile_any (P:Nat->Prop) (us:List Value) (ks:List Int) (S:Value) (n:Nat) (HN:Hid (ks.length=n)) (w:World) (hP:∀ g,P g->g < w.heap.size) (hS:Bk P w S n us) (hk:Aq us ks) :
  Calls prog 106 #[S] w fun e w'=>Nz w 207 (Ci ks) (Qi1 us) e w':=by
 have O:=Tryz.ta_blockNode;obtain⟨a,c,rfl,p⟩:=hS;by_cases h1:n=2
 ·subst h1;obtain⟨d,t,o,L,rfl,rfl,⟨i,k⟩,q,r,x⟩:=Qfn hk HN.out;obtain⟨g,rfl,y,G⟩:=p 0 _ rfl;obtain⟨D,m,_,v⟩:=p 1 _ rfl;cases m
  have z:=hP g y;clear p;obtain⟨b,l⟩:∃ b,Hid (Ah d=b):=⟨_,(rfl:Ah d=_)⟩;cases b with
  | false =>
   have f:Hid (Ci [d,o]=false):=(by rw[Hid];simp[Ci,l.out]);go_enter func106,ntmps106;go_wp2_with (go_at_call 104;refine(isValue_is d i k t false l _).mono ?_;rintro e w' ⟨rfl,rfl⟩);go_ret;exact⟨OO _,.inr ⟨f.out,rfl⟩⟩
  | true =>
   by_cases h7:o=21
   ·subst h7;obtain⟨I,K,J,rfl⟩:=x.1 rfl;have s:A9 21=51:=rfl;have f:Hid (Ci [d,21]=true):=(by rw[Hid];simp[Ci,l.out]);rw[s]at v |-
    go_enter func106,ntmps106;go_wp2_with (go_at_call 104;refine(isValue_is d i k t true l _).mono ?_;rintro e w' ⟨rfl,rfl⟩);go_quiet (fail);go_wp2;go_ret;exact⟨F7 _ (OP w _),.inl ⟨f.out,_,rfl,_,_,rfl,rfl⟩⟩
   ·have s:¬ A9 o=51:=Hl q r (j:=21) OC OC h7;have f:Hid (Ci [d,o]=false):=(by rw[Hid];simp[Ci,h7]);go_enter func106,ntmps106;exact DdTreeNx117
 ·have f:Hid (Ci ks=false):=Ua ks (by rw[HN.out];exact h1);have M:((n:Int) != 2)=true:=by simpa using (by omega:¬ (n:Int)=2)
  clear p h1;go_enter func106,ntmps106;go_wp2_with fail;go_ret;exact⟨OO _,.inr ⟨f.out,rfl⟩⟩
theorem DdTreeNx147 {P:Prop} (h:P:=by
 go_enter func105,ntmps105
 go_wp2_with (go_at_call 104;refine(isValue_is d i k t false l _).mono ?_;rintro e w' ⟨rfl,rfl⟩)
 go_ret
 exact⟨OO _,.inr ⟨f.out,rfl⟩⟩
 ):P:=h
theorem DdTreeNx198 {P:Prop} (h:P:=by
 go_enter func105,ntmps105
 go_wp2_with (go_at_call 104;refine(isValue_is d i k t true l _).mono ?_;rintro e w' ⟨rfl,rfl⟩)
 go_quiet (fail)
 go_wp2
 go_ret
 exact⟨F7 _ (OP w _),.inl ⟨f.out,_,rfl,.inr ⟨_,_,_,_,rfl,rfl⟩⟩⟩
 ):P:=h
theorem grownIf_any (P:Nat->Prop) (us:List Value) (ks:List Int) (S:Value) (n:Nat) (HN:Hid (ks.length=n)) (w:World) (hP:∀ g,P g->g < w.heap.size) (hS:Bk P w S n us) (hk:Aq us ks) :
  Calls prog 105 #[S] w fun e w'=>Nz w 205 (Cd ks) (Qo2 us) e w':=by
 have O:=Tryz.ta_blockNode;have Q:=Tryz.ta_ifNode;obtain⟨a,c,rfl,p⟩:=hS;by_cases h1:n=2
 ·subst h1;obtain⟨d,t,o,L,rfl,rfl,⟨i,k⟩,q,r,x⟩:=Qfn hk HN.out;obtain⟨g,rfl,y,G⟩:=p 0 _ rfl;obtain⟨D,m,_,v⟩:=p 1 _ rfl;cases m
  have z:=hP g y;clear p Q;obtain⟨b,l⟩:∃ b,Hid (Ah d=b):=⟨_,(rfl:Ah d=_)⟩;cases b with
  | false =>
   have f:Hid (Cd [d,o]=false):=(by rw[Hid];simp[Cd,l.out]);exact DdTreeNx147
  | true =>
   by_cases h7:o=21
   ·subst h7;obtain⟨I,K,J,rfl⟩:=x.1 rfl;have s:A9 21=51:=rfl;have f:Hid (Cd [d,21]=true):=(by rw[Hid];simp[Cd,l.out]);rw[s]at v |-
    go_enter func105,ntmps105;go_wp2_with (go_at_call 104;refine(isValue_is d i k t true l _).mono ?_;rintro e w' ⟨rfl,rfl⟩);go_quiet (fail);go_wp2;go_ret;exact⟨F7 _ (OP w _),.inl ⟨f.out,_,rfl,.inl ⟨_,_,rfl,rfl⟩⟩⟩
   ·have s:¬ A9 o=51:=Hl q r (j:=21) OC OC h7;have f:Hid (Cd [d,o]=false):=(by rw[Hid];simp[Cd,h7]);go_enter func105,ntmps105;exact DdTreeNx117
 ·by_cases h2:n=3
  ·subst h2;obtain⟨d,t,o,L,u,R,rfl,rfl,⟨i,k⟩,⟨q,r,x⟩,A,B⟩:=Qm9 hk HN.out;obtain⟨g,rfl,y,G⟩:=p 0 _ rfl;obtain⟨D,m,_,v⟩:=p 1 _ rfl;cases m
   obtain⟨D,m,_,H⟩:=p 2 _ rfl;cases m
   have z:=hP g y;clear p h1;obtain⟨b,l⟩:∃ b,Hid (Ah d=b):=⟨_,(rfl:Ah d=_)⟩;cases b with
   | false =>
    have f:Hid (Cd [d,o,u]=false):=(by rw[Hid];simp[Cd,l.out]);exact DdTreeNx147
   | true =>
    by_cases h7:o=21
    ·subst h7;obtain⟨I,K,J,rfl⟩:=x.1 rfl;have s:A9 21=51:=rfl;rw[s]at v |-
     by_cases h8:u=21
     ·subst h8;have f:Hid (Cd [d,21,21]=true):=(by rw[Hid];simp[Cd,l.out]);rw[s]at H |-
      exact DdTreeNx198
     ·have F:¬ A9 u=51:=Hl A B (j:=21) OC OC h8;by_cases h9:u=12
      ·subst h9;have f:Hid (Cd [d,21,12]=true):=(by rw[Hid];simp[Cd,l.out]);have C:A9 12=205:=rfl;rw[C]at H |-
       clear F;exact DdTreeNx198
      ·have C:¬ A9 u=205:=Hl A B (j:=12) OC OC h9;have f:Hid (Cd [d,21,u]=false):=(by rw[Hid];simp[Cd,h8,h9]);go_enter func105,ntmps105;exact DdTreeNx117
    ·have s:¬ A9 o=51:=Hl q r (j:=21) OC OC h7;have f:Hid (Cd [d,o,u]=false):=(by rw[Hid];simp[Cd,h7]);go_enter func105,ntmps105;exact DdTreeNx117
  ·have f:Hid (Cd ks=false):=Qah ks (by rw[HN.out];exact h1) (by rw[HN.out];exact h2);clear p;by_cases h3:n < 2
   ·have E:(n:Int) < 2:=OC;clear h1 h2 h3;go_enter func105,ntmps105;go_wp2_with fail;go_ret;exact⟨OO _,.inr ⟨f.out,rfl⟩⟩
   ·have E:¬ (n:Int) < 2:=OC;have N:(3:Int) < (n:Int):=OC;clear h1 h2 h3;go_enter func105,ntmps105;go_wp2_with fail;go_ret;exact⟨OO _,.inr ⟨f.out,rfl⟩⟩
theorem DdTreeNx261 {P:Prop} (h:P:=by
 go_ret
 refine⟨i.trans (b.mono OC),.inl ⟨j.out,_,rfl,by simp,by simp,p,rfl, ?_⟩⟩
 unfold Az
 simp (decide:=true) only[if_false,if_true]
 exact m
 ):P:=h
theorem grownStatement_12 (o t y:Int) (x:ByteArray) (k:Int) (P:Nat->Prop) (us:List Value) (ks:List Int) (S:Value) (n:Nat) (HN:Hid (ks.length=n)) (w:World) (hP:∀ g,P g->g < w.heap.size) (hS:Bk P w S n us) (hk:Aq us ks) :
  Calls prog 67 #[Af ⟨12,o,t,y,x,k⟩,S] w fun e w'=>De P w ⟨12,o,t,y,x,k⟩ us ks e w':=by
 have i:=(Below.refl w.heap.size w).alloc ON (.cells #[.int .i64 12,.int .i64 o,.int .i64 t,.int .i64 y,.string x,.int .i64 k] 62);have d:=hS.alloc hP (.cells #[.int .i64 12,.int .i64 o,.int .i64 t,.int .i64 y,.string x,.int .i64 k] 62);have j:Hid (Ac 12 o ks=Cd ks):=by rw[Hid];simp[Ac]
 obtain⟨a,c,rfl,l⟩:=hS;clear l;simp only[Af];cases hK:Cd ks with
 | true =>
  rw[hK]at j;go_enter func67,ntmps67;go_wp2_with (go_at_call 105;refine(grownIf_any P us ks _ n HN _ (fun g h=>by have:=hP g h;rw[World.size_alloc];omega) d hk).mono ?_;rintro e w' ⟨b,f⟩;rw[hK]at f;obtain⟨_,p,rfl,m⟩:=f.resolve_right OF;rw[World.size_alloc]at b);exact DdTreeNx261
 | false =>
  rw[hK]at j;go_enter func67,ntmps67;go_wp2_with (go_at_call 105;refine(grownIf_any P us ks _ n HN _ (fun g h=>by have:=hP g h;rw[World.size_alloc];omega) d hk).mono ?_;rintro e w' ⟨b,f⟩;rw[hK]at f;obtain⟨_,rfl⟩:=f.resolve_left OF;rw[World.size_alloc]at b);go_ret;exact⟨i.trans (b.mono OC),.inr ⟨j.out,rfl⟩⟩
theorem grownStatement_13 (o t y:Int) (x:ByteArray) (k:Int) (P:Nat->Prop) (us:List Value) (ks:List Int) (S:Value) (n:Nat) (HN:Hid (ks.length=n)) (w:World) (hP:∀ g,P g->g < w.heap.size) (hS:Bk P w S n us) (hk:Aq us ks) :
  Calls prog 67 #[Af ⟨13,o,t,y,x,k⟩,S] w fun e w'=>De P w ⟨13,o,t,y,x,k⟩ us ks e w':=by
 have i:=(Below.refl w.heap.size w).alloc ON (.cells #[.int .i64 13,.int .i64 o,.int .i64 t,.int .i64 y,.string x,.int .i64 k] 62);have d:=hS.alloc hP (.cells #[.int .i64 13,.int .i64 o,.int .i64 t,.int .i64 y,.string x,.int .i64 k] 62);have j:Hid (Ac 13 o ks=Ci ks):=by rw[Hid];simp[Ac]
 obtain⟨a,c,rfl,l⟩:=hS;clear l;simp only[Af];cases hK:Ci ks with
 | true =>
  rw[hK]at j;go_enter func67,ntmps67;go_wp2_with (go_at_call 106;refine(grownWhile_any P us ks _ n HN _ (fun g h=>by have:=hP g h;rw[World.size_alloc];omega) d hk).mono ?_;rintro e w' ⟨b,f⟩;rw[hK]at f;obtain⟨_,p,rfl,m⟩:=f.resolve_right OF;rw[World.size_alloc]at b);exact DdTreeNx261
 | false =>
  rw[hK]at j;go_enter func67,ntmps67;go_wp2_with (go_at_call 106;refine(grownWhile_any P us ks _ n HN _ (fun g h=>by have:=hP g h;rw[World.size_alloc];omega) d hk).mono ?_;rintro e w' ⟨b,f⟩;rw[hK]at f;obtain⟨_,rfl⟩:=f.resolve_left OF;rw[World.size_alloc]at b);go_ret;exact⟨i.trans (b.mono OC),.inr ⟨j.out,rfl⟩⟩
theorem grownStatement_20 (o t y:Int) (x:ByteArray) (k:Int) (P:Nat->Prop) (us:List Value) (ks:List Int) (S:Value) (n:Nat) (HN:Hid (ks.length=n)) (w:World) (hP:∀ g,P g->g < w.heap.size) (hS:Bk P w S n us) (hk:Aq us ks) :
  Calls prog 67 #[Af ⟨20,o,t,y,x,k⟩,S] w fun e w'=>De P w ⟨20,o,t,y,x,k⟩ us ks e w':=by
 have i:=(Below.refl w.heap.size w).alloc ON (.cells #[.int .i64 20,.int .i64 o,.int .i64 t,.int .i64 y,.string x,.int .i64 k] 62);have d:=hS.alloc hP (.cells #[.int .i64 20,.int .i64 o,.int .i64 t,.int .i64 y,.string x,.int .i64 k] 62);have j:Hid (Ac 20 o ks=Fu ks):=by rw[Hid];simp[Ac]
 obtain⟨a,c,rfl,l⟩:=hS;clear l;simp only[Af];cases hK:Fu ks with
 | true =>
  rw[hK]at j;go_enter func67,ntmps67;go_wp2_with (go_at_call 107;refine(grownDo_any P us ks _ n HN _ (fun g h=>by have:=hP g h;rw[World.size_alloc];omega) d hk).mono ?_;rintro e w' ⟨b,f⟩;rw[hK]at f;obtain⟨_,p,rfl,m⟩:=f.resolve_right OF;rw[World.size_alloc]at b);exact DdTreeNx261
 | false =>
  rw[hK]at j;go_enter func67,ntmps67;go_wp2_with (go_at_call 107;refine(grownDo_any P us ks _ n HN _ (fun g h=>by have:=hP g h;rw[World.size_alloc];omega) d hk).mono ?_;rintro e w' ⟨b,f⟩;rw[hK]at f;obtain⟨_,rfl⟩:=f.resolve_left OF;rw[World.size_alloc]at b);go_ret;exact⟨i.trans (b.mono OC),.inr ⟨j.out,rfl⟩⟩
theorem Tryz.infoParam : (prog.info? 94).map (fun i=>(i.zero,i.size,i.bytes))=some (some (.agg #[.string ByteArray.empty,.int .i64 0]),2,24):=OE
theorem Tryz.infoFn : (prog.info? 53).map (fun i=>(i.zero,i.size,i.bytes))=some (some (.agg #[.string ByteArray.empty,.int .i64 0,.slice none 0 0,.slice none 0 0]),4,72):=OE
theorem Qb8 (w:World) (o:Obj) (a b:Value) (t:TypeId) (j:Nat) (u:Value) (h:[a,b][j]? = some u):((w.alloc o).alloc (.cells #[a,b] t)).cell? (((OK (w.heap.size+1) 0):Addr).add j)=some u:=by
 have c:((OK (w.heap.size+1) 0):Addr).add j=(OK ((w.alloc o).heap.size) j):=by unfold Addr.add;split <;> simp_all
 rw[c,cell_of_row _ _ _ #[a,b] t (0,0) (heap_alloc_new (w.alloc o) _)];simpa using h
theorem Qg3 (nm:ByteArray) (pt:Int):∀ u ∈ [Value.string nm,.int .i64 pt],u.oneCell'=true:=by
 intro u a;simp at a;rcases a with rfl|rfl <;> rfl
def Iu (ps:List (ByteArray × Int)):List Value:=ps.flatMap (fun p=>[.string p.1,.int .i64 p.2])
theorem Qen (ps:List (ByteArray × Int)) (p:ByteArray × Int):Iu (ps++[p])=Iu ps++[.string p.1,.int .i64 p.2]:=by simp[Iu]
theorem Ma {w:World} {B e size n:Nat} {v:Value} {xs:List Value} (h:w.ownsRow B e size v n xs):Bk (fun g=>B<=g/\g < w.heap.size) w v n xs:=by
 rcases h.2 with⟨rfl,c⟩|⟨g,d,f,rfl,k,b,_⟩
 ·refine⟨none,0,by rw[c],fun j u hj => ?_⟩;have i:=h.1;rw[c]at i;have:=(List.getElem?_eq_some_iff.1 hj).1;omega
 ·refine⟨_,_,rfl,fun j u hj=>⟨g,rfl,⟨k,(Array.getElem?_eq_some_iff.1 b).1⟩, ?_⟩⟩;have a:=(List.getElem?_eq_some_iff.1 hj).1;rw[h.1]at a;rw[h.cellAt j a];exact hj
theorem Tw (ks:List Int) (h:ks.length=0\/9 < ks.length):Ea ks=false:=by
 rcases h with h|h
 ·rw[List.eq_nil_of_length_eq_zero h];rfl
 ·unfold Ea;have a:¬ ks.length<=9:=OC
  split
  ·rfl
  ·simp[a]
theorem Qi5 (ks:List Int) (m:Nat) (z:Int) (hm:ks.length=m+1) (hz:ks[m]? = some z) (h9:m<=8):Ea ks=((z == 21) && (ks.take m).all (fun k=>k == 22)):=by
 have c:ks≠[]:=by intro a;subst a;simp at hm
 have b:ks.getLast? = some z:=by
  rw[List.getLast?_eq_getElem?,hm];exact hz
 unfold Ea;rw[b];simp[List.dropLast_eq_take,hm,h9]
def Qo1 (P:Nat->Prop) (w:World) (x:ByteArray) (t:Int) (us:List Value) (X:Value):Prop := ∃ (ps:List (ByteArray × Int)) (SP SB:Value),us=ps.map Gm++[Dv SB]/\Bk P w SP ps.length (Iu ps)/\X = .agg #[.string x,.int .i64 t,SP,SB]/\(∃ a n c,SP = .slice a n c)/\∃ a n c,SB = .slice a n c
theorem grownFn_any (c0 o t y:Int) (x:ByteArray) (k:Int) (P:Nat->Prop) (us:List Value) (ks:List Int) (S:Value) (n:Nat) (HN:Hid (ks.length=n)) (w:World) (hP:∀ g,P g->g < w.heap.size) (hS:Bk P w S n us) (hcap:∀ a c,S = .slice a n c->n<=c) (hk:Aq us ks) (hl:n<=1000000) :
  Calls prog 70 #[Af ⟨c0,o,t,y,x,k⟩,S] w fun e w'=>Nz w 53 (Ea ks) (Qo1 (fun g=>w.heap.size<=g/\g < w'.heap.size) w' x t us) e w':=by
 obtain⟨i0,af,am,an,ao⟩:=info_parts Tryz.infoParam;have tb:=Tryz.ta_blockNode;have tp:=Tryz.ta_paramNode;obtain⟨a,c,rfl,H⟩:=hS;have ar:=hcap a c rfl;clear hcap;simp only[Af];by_cases h1:n=0
 ·have r:Hid (Ea ks=false):=Tw ks (.inl (by rw[HN.out];exact h1));subst h1;clear H;go_enter func70,ntmps70;go_wp2;go_ret;exact⟨OP w _,.inr ⟨r.out,rfl⟩⟩
 ·by_cases h9:9 < n
  ·have r:Hid (Ea ks=false):=Tw ks (.inr (by rw[HN.out];exact h9));obtain⟨m,rfl⟩:∃ m,n=m+1:=⟨n - 1,by omega⟩;have ap:(8:Int) < (m:Int):=OC;clear H;go_enter func70,ntmps70;go_wp2;go_ret;exact⟨OP w _,.inr ⟨r.out,rfl⟩⟩
  ·obtain⟨m,rfl⟩:∃ m,n=m+1:=⟨n - 1,by omega⟩;have ay:us.length=m+1:=(by rw[hk.1];exact HN.out);obtain⟨u,V⟩:∃ u,us[m]? = some u:=⟨_,List.getElem?_eq_getElem OC⟩;obtain⟨kl,yl,K,L,ah,rfl,M⟩:=B7 hk m u V;obtain⟨g,rfl,hg,cl⟩:=H m _ V;have ae:=hP g hg;have A:Hid (Ea ks=((kl == 21) && (ks.take m).all (fun k=>k == 22))):=Qi5 ks m kl HN.out ah OC;by_cases h21:kl=21
   ·subst h21;obtain⟨sa,sn,sc,rfl⟩:=M.1 rfl;have ht:A9 21=51:=rfl;rw[ht]at cl V;have ai:m<=8:=OC;have aq:m<=c:=OC;clear h1 h9 K L M ht;go_enter func70,ntmps70;go_wp2;generalize hW2:(w.alloc (.cells #[.int .i64 c0,.int .i64 o,.int .i64 t,.int .i64 y,.string x,.int .i64 k] 62)).alloc (.cells #[.slice sa sn sc] 51)=W2;have U:W2.heap.size=w.heap.size+1+1:=(by rw[<- hW2];simp);have B:Below w.heap.size w W2:=(by rw[<- hW2];exact(OP w _).alloc OF _);have C:∀ {W:World},Below (w.heap.size+2) W2 W->∀ j u,us[j]? = some u->W.cell? (OK g j)=some u:=by
     intro W hW j u hj;obtain⟨g',ad,_,hq⟩:=H j u hj;cases ad
     rw[hW.cell (p:=(OK g j)) OH,B.cell (p:=(OK g j)) ae];exact hq
    clear H cl;go_loopw [42] (fun tv wr => ∃ (i:Nat) (G:List (ByteArray × Int)) (Y:Option Addr) (Z:Nat),i<=m/\tv = .int .i64 (i:Int)/\G.length=i/\us.take i=G.map Gm/\(ks.take i).all (fun k=>k == 22)=true/\wr.ownsRow (w.heap.size+3) 94 2 (.slice Y i Z) i (Iu G)/\Below (w.heap.size+2) W2 wr/\w.heap.size+3<=wr.heap.size/\wr.cell? (OK (w.heap.size+1+1) 0)=some (.string x)/\wr.cell? (OK (w.heap.size+1+1) 1)=some (.int .i64 t)/\wr.cell? (OK (w.heap.size+1+1) 2)=some (.slice Y i Z)/\wr.cell? (OK (w.heap.size+1+1) 3)=some (.slice sa sn sc)/\∀ j,wr.frozen? (OK (w.heap.size+1+1) j)=false) (fun tv _=>m - (intOf tv).toNat);case atStart =>
     refine⟨0,[],none,0,by omega,rfl,rfl,by simp,by simp,⟨by simp[Iu],.inl ⟨rfl,rfl⟩⟩,(OO W2).alloc OC _,by simp[U], ?_, ?_, ?_, ?_, ?_⟩;all_goals rw[<- U];simp[go_sem]
    case round =>
     obtain⟨i,G,Y,Z,hi,rfl,T,E,D,f,s,ak,q0,q1,q2,q3,qf⟩:=hrel;by_cases hlt:i < m
     ·obtain⟨u,q⟩:∃ u,us[i]? = some u:=⟨_,List.getElem?_eq_getElem OC⟩;obtain⟨kp,yp,O,Q,z,rfl,R⟩:=B7 hk i u q;have ci:=C s i _ q;by_cases h22:kp=22
      ·subst h22;obtain⟨nm,X,rfl⟩:=R.2.2.1 rfl;have F:A9 22=94:=rfl;rw[F]at ci q;have ab:Hid (us.take (i+1)=(G++[(nm,X)]).map Gm):=by
        have d:i < us.length:=OC;have I:us[i]=Gm (nm,X):=by
         rw[List.getElem?_eq_getElem d]at q;exact Option.some.inj q
        rw[Hid,<- List.take_append_getElem d,I,E,List.map_append];rfl
       have aa:Hid ((ks.take (i+1)).all (fun k=>k == 22)=true):=by
        have d:i < ks.length:=(by rw[HN.out];omega);have I:ks[i]=22:=(by rw[List.getElem?_eq_getElem d]at z;exact Option.some.inj z);rw[Hid,<- List.take_append_getElem d,I,List.all_append,D];rfl
       clear E D O Q z R F;have aw:w.heap.size+1+1 < wr.heap.size:=OC;go_wp2_with (first|(at_builtin;(refine wpList_append_own _ rfl _ _ 48 rfl (w.heap.size+3) 94 i0 (.agg #[.string ByteArray.empty,.int .i64 0]) 2 24 underlying48 af am an ao rfl OD _ _ _ rfl ((f.alloc _).alloc _) (OK (wr.heap.size+1) 0) 1 1 [.string nm,.int .i64 X] rfl rfl (Qb8 _ _ _ _ _) (Qg3 nm X) OI OC OB ?_;intro v' w3 l v _;obtain⟨a',c',al⟩:=G1 l;subst al;have b:Below (w.heap.size+3) wr w3:=Below.grown (((OO wr).alloc ak _).alloc OB _) v OB (fun j hj=>(f.lt _ hj).1);have d2:w3.cell? (OK (w.heap.size+1+1) 2)=some (.slice Y i Z):=(by rw[b.cell (p:=(OK (w.heap.size+1+1) 2)) (Nat.lt_succ_self _)];exact q2);have df:w3.frozen? (OK (w.heap.size+1+1) 2)=false:=(by rw[b.frozen (p:=(OK (w.heap.size+1+1) 2)) (Nat.lt_succ_self _)];exact qf 2))));have au:=b.size;go_roundw;case rel =>
        refine⟨i+1,G++[(nm,X)],a',c',by omega,by go_num,by simp[T],ab.out,aa.out, ?_, ?_,by simp;omega, ?_, ?_, ?_, ?_, ?_⟩
        ·rw[Qen];exact ownsRow_setCell_below l (a:=(OK (w.heap.size+1+1) 2)) OF _
        ·exact(s.trans (b.mono OC)).setCell (p:=(OK (w.heap.size+1+1) 2)) ON _
        ·rw[World.cell?_setCell_other _ _ _ _ OF,b.cell (p:=(OK (w.heap.size+1+1) 0)) OF];exact q0
        ·rw[World.cell?_setCell_other _ _ _ _ OF,b.cell (p:=(OK (w.heap.size+1+1) 1)) OF];exact q1
        ·exact World.cell?_setCell_same _ _ _ d2
        ·rw[World.cell?_setCell_other _ _ _ _ OF,b.cell (p:=(OK (w.heap.size+1+1) 3)) OF];exact q3
        ·intro j;simp only[World.frozen?_setCell];rw[b.frozen (p:=(OK (w.heap.size+1+1) j)) OF];exact qf j
       case measure=>simp[intOf];omega
      ·have F:¬ A9 kp=94:=Hl O Q (j:=22) OC OC h22;have r:Hid (Ea ks=false):=by
        rw[Hid,A.out];have N:kp ∈ ks.take m:=List.mem_of_getElem? (i:=i) (by rw[List.getElem?_take,if_pos hlt];exact z);have:(ks.take m).all (fun k=>k == 22)=false:=by
         rw[Bool.eq_false_iff];intro J;have:=List.all_eq_true.1 J kp N;simp at this;exact h22 this
        rw[this];rfl
       go_wp2;go_ret;exact⟨B.trans ((s.mono OC).alloc OC _),.inr ⟨r.out,rfl⟩⟩
     ·have ag:i=m:=OC;subst ag;have r:Hid (Ea ks=true):=(by rw[Hid,A.out,D];rfl);have ac:Below w.heap.size w wr:=B.trans (s.mono OC);go_wp2;go_ret;refine⟨ac,.inl ⟨r.out,_,rfl,G,_,_, ?_, ?_,rfl,⟨_,_,_,rfl⟩,_,_,_,rfl⟩⟩
      ·have aj:us=us.take i++[Dv (.slice sa sn sc)]:=by
        have d:i < us.length:=OC;have h5:us.take (i+1)=us:=List.take_of_length_le OC;have I:us[i]=Dv (.slice sa sn sc):=by
         rw[List.getElem?_eq_getElem d]at V;exact Option.some.inj V
        rw[<- I,List.take_append_getElem];exact h5.symm
       rw[<- E];exact aj
      ·rw[T];exact(Ma f).below (fun g h=>⟨by omega,h.2⟩) (fun g h=>rfl)
   ·have ax:¬ A9 kl=51:=Hl K L (j:=21) OC OC h21;have r:Hid (Ea ks=false):=(by rw[Hid,A.out];simp[h21]);have ai:m<=8:=OC;clear H;go_enter func70,ntmps70;go_wp2;go_ret;exact⟨(OP w _).alloc OF _,.inr ⟨r.out,rfl⟩⟩
end Go.Proofs.YtjlaedokfbcbpaaGreatDoor
