import Derived.Test.YtahibkjkpmdhgaaGreatDoorKScanA
import Derived.Carry
import Derived.OwnWalk
set_option maxRecDepth 100000
set_option maxHeartbeats 2000000
namespace Go.Proofs.YtahibkjkpmdhgaaGreatDoor
inductive Ao where
 | none:Ao
 | known:List Int->List Int->Ao
 | clash:Ao
deriving DecidableEq
def Fd (s s':List Int):Prop:=s.length=s'.length/\∀ i (h:i < s.length) (h':i < s'.length),s'[i]=0\/s[i]=s'[i]
def C8 : Ao->Ao->Prop
 | .none,_=>True
 | _,.clash=>True
 | .known s k,.known s' k'=>k=k'/\Fd s s'
 | .known _ _,.none=>False
 | .clash,.none=>False
 | .clash,.known _ _=>False
def Bg (s s':List Int):List Int:=List.zipWith (fun a b=>if a=b then a else 0) s s'
def Bc : Ao->Ao->Ao
 | a,.none=>a
 | .clash,_ => .clash
 | .none,b=>b
 | .known _ _,.clash => .clash
 | .known s k,.known s' k'=>if k=k' then .known (Bg s s') k else .clash
def Di (m:Nat):Ao->Prop
 | .known s _=>s.length=m
 | _=>True
theorem Fd.refl (s:List Int):Fd s s:=⟨rfl,fun _ _ _ => .inr rfl⟩
theorem C8.refl : ∀ a:Ao,C8 a a
 | .none=>trivial
 | .known s _=>⟨rfl,Fd.refl s⟩
 | .clash=>trivial
theorem Fd.trans {a b c:List Int} (h:Fd a b) (k:Fd b c):Fd a c :=
 ⟨h.1.trans k.1,fun i h1 h2=>by
  rcases k.2 i (by rw[<- h.1];exact h1) h2 with e|e
  ·exact .inl e
  ·rcases h.2 i h1 (by rw[<- h.1];exact h1) with d|d
   ·left;rw[<- e];exact d
   ·right;rw[d,e]⟩
theorem C8.trans : ∀ {a b c:Ao},C8 a b->C8 b c->C8 a c
 | .none,_,_,_,_=>trivial
 | a,_,.clash,_,_=>by cases a <;> trivial
 | .known _ _,.known _ _,.known _ _,h,k=>⟨h.1.trans k.1,h.2.trans k.2⟩
 | .known _ _,.none,_,h,_=>h.elim
 | .clash,.none,_,h,_=>h.elim
 | .clash,.known _ _,_,h,_=>h.elim
 | .known _ _,.known _ _,.none,_,k=>k.elim
 | .known _ _,.clash,.none,_,k=>k.elim
 | .known _ _,.clash,.known _ _,_,k=>k.elim
 | .clash,.clash,.none,_,k=>k.elim
 | .clash,.clash,.known _ _,_,k=>k.elim
theorem Fd.anti {a b:List Int} (h:Fd a b) (k:Fd b a):a=b:=by
 refine List.ext_getElem h.1 (fun i h1 h2 => ?_);rcases h.2 i h1 h2 with e|e
 ·rcases k.2 i h2 h1 with c|c
  ·rw[e,c]
  ·exact c.symm
 ·exact e
theorem C8.anti : ∀ {a b:Ao},C8 a b->C8 b a->a=b
 | .none,.none,_,_=>rfl
 | .none,.known _ _,_,k=>k.elim
 | .none,.clash,_,k=>k.elim
 | .known _ _,.none,h,_=>h.elim
 | .known _ _,.known _ _,h,k=>by rw[h.1,h.2.anti k.2]
 | .known _ _,.clash,_,k=>k.elim
 | .clash,.none,h,_=>h.elim
 | .clash,.known _ _,h,_=>h.elim
 | .clash,.clash,_,_=>rfl
theorem Fy {s s':List Int} (h:s.length=s'.length):(Bg s s').length=s.length:=by
 unfold Bg;rw[List.length_zipWith];omega
theorem J5 {s s':List Int} {i:Nat} (h1:i < s.length) (h2:i < s'.length) (h3:i < (Bg s s').length):(Bg s s')[i]=if s[i]=s'[i] then s[i] else 0:=by
 simp[Bg]
theorem Td {s s':List Int} (h:s.length=s'.length):Fd s (Bg s s'):=by
 refine⟨(Fy h).symm,fun i h1 h2 => ?_⟩;rw[J5 h1 (by omega) h2];by_cases e:s[i]=s'[i]'(by omega)
 ·right;rw[if_pos e]
 ·left;rw[if_neg e]
theorem Q7 {s s':List Int} (h:s.length=s'.length):Fd s' (Bg s s'):=by
 refine⟨by rw[Fy h,h],fun i h1 h2 => ?_⟩;rw[J5 (by omega) h1 h2];by_cases e:s[i]'(by omega)=s'[i]
 ·right;rw[if_pos e,e]
 ·left;rw[if_neg e]
theorem Q6 {s s' t:List Int} (h:Fd s t) (h':Fd s' t):Fd (Bg s s') t:=by
 have b:s.length=s'.length:=h.1.trans h'.1.symm;refine⟨by rw[Fy b];exact h.1,fun i h1 h2 => ?_⟩;rw[Fy b]at h1;rw[J5 h1 (by omega)];rcases h.2 i h1 h2 with e|e
 ·exact .inl e
 ·rcases h'.2 i (by omega) h2 with a|a
  ·exact .inl a
  ·right;rw[if_pos (by rw[e,a]),e]
theorem N9 {m:Nat}:∀ {a b:Ao},Di m a->Di m b->C8 a (Bc a b)
 | .none,b,_,_=>by cases b <;> trivial
 | .known s k,.none,_,_=>C8.refl _
 | .known _ _,.clash,_,_=>trivial
 | .known s k,.known s' k',h,h'=>by
  rw[Bc]
  by_cases e:k=k'
  ·rw[if_pos e];exact⟨rfl,Td (h.trans h'.symm)⟩
  ·rw[if_neg e];trivial
 | .clash,.none,_,_=>C8.refl _
 | .clash,.known _ _,_,_=>trivial
 | .clash,.clash,_,_=>trivial
theorem Kn {m:Nat}:∀ {a b:Ao},Di m a->Di m b->C8 b (Bc a b)
 | a,.none,_,_=>by cases a <;> trivial
 | .none,.known _ _,_,_=>C8.refl _
 | .none,.clash,_,_=>trivial
 | .known _ _,.clash,_,_=>trivial
 | .known s k,.known s' k',h,h'=>by
  rw[Bc]
  by_cases e:k=k'
  ·rw[if_pos e];exact⟨e.symm,Q7 (h.trans h'.symm)⟩
  ·rw[if_neg e];trivial
 | .clash,.known _ _,_,_=>trivial
 | .clash,.clash,_,_=>trivial
theorem T6 : ∀ {a b c:Ao},C8 a c->C8 b c->C8 (Bc a b) c
 | .none,.none,_,_,_=>trivial
 | .none,.known _ _,_,_,k=>k
 | .none,.clash,_,_,k=>k
 | .known _ _,.none,_,h,_=>h
 | .known _ _,.clash,_,_,k=>k
 | .clash,.none,_,h,_=>h
 | .clash,.known _ _,_,h,_=>h
 | .clash,.clash,_,h,_=>h
 | .known _ _,.known _ _,.none,h,_=>h.elim
 | .known s k,.known s' k',.clash,_,_=>by
  rw[Bc]
  by_cases e:k=k'
  ·rw[if_pos e];trivial
  ·rw[if_neg e];trivial
 | .known s k,.known s' k',.known s2 k2,h,h'=>by
  rw[Bc,if_pos (h.1.trans h'.1.symm)]
  exact⟨h.1,Q6 h.2 h'.2⟩
theorem Mb {m:Nat}:∀ {a b:Ao},Di m a->Di m b->Di m (Bc a b)
 | .none,.none,_,_=>trivial
 | .none,.known _ _,_,h=>h
 | .none,.clash,_,_=>trivial
 | .known _ _,.none,h,_=>h
 | .known _ _,.clash,_,_=>trivial
 | .clash,.none,_,_=>trivial
 | .clash,.known _ _,_,_=>trivial
 | .clash,.clash,_,_=>trivial
 | .known s k,.known s' k',h,h'=>by
  rw[Bc]
  by_cases e:k=k'
  ·rw[if_pos e];exact(Fy (h.trans h'.symm)).trans h
  ·rw[if_neg e];trivial
def Jx (s:List Int):Nat:=(s.filter (fun a=>a == 0)).length
def Dw (m:Nat):Ao->Nat
 | .none=>0
 | .known s _=>1+Jx s
 | .clash=>m+2
theorem P7 (s:List Int):Jx s<=s.length:=List.length_filter_le _ _
theorem P8 : ∀ {s s':List Int},Fd s s'->Jx s<=Jx s'/\(s≠s'->Jx s < Jx s')
 | [],[],_=>⟨Nat.le_refl _,fun h=>(h rfl).elim⟩
 | [],_::_,h=>by have:=h.1;simp at this
 | _::_,[],h=>by have:=h.1;simp at this
 | a::r,b::r',h=>by
  have f:Fd r r':=⟨by have:=h.1;simpa using this,fun i h1 h2=>by have:=h.2 (i+1) (by simpa using h1) (by simpa using h2);simpa using this⟩
  have c:=P8 f
  have d:=h.2 0 (by simp) (by simp)
  simp only[List.getElem_cons_zero]at d
  unfold Jx at c |-
  rcases d with e|e
  ·subst e
   by_cases ha:a=0
   ·subst ha
    simp only[List.filter_cons,beq_self_eq_true,if_true,List.length_cons]
    refine⟨by omega,fun hne => ?_⟩
    have:=c.2 (fun e=>hne (by rw[e]))
    omega
   ·simp only[List.filter_cons,beq_self_eq_true,if_true,List.length_cons]
    rw[if_neg (by simpa using ha)]
    refine⟨by omega,fun _=>by omega⟩
  ·subst e
   by_cases ha:a=0
   ·subst ha
    simp only[List.filter_cons,beq_self_eq_true,if_true,List.length_cons]
    refine⟨by omega,fun hne => ?_⟩
    have:=c.2 (fun e=>hne (by rw[e]))
    omega
   ·simp only[List.filter_cons]
    rw[if_neg (by simpa using ha),if_neg (by simpa using ha)]
    refine⟨c.1,fun hne=>c.2 (fun e=>hne (by rw[e]))⟩
theorem Wb {m:Nat}:∀ {a:Ao},Di m a->Dw m a<=m+2
 | .none,_=>by simp[Dw]
 | .known s _,h=>by have:=P7 s;simp only[Dw];have b:s.length=m:=h;omega
 | .clash,_=>by simp[Dw]
theorem L8 {m:Nat}:∀ {a b:Ao},Di m a->Di m b->C8 a b->Dw m a<=Dw m b/\(a≠b->Dw m a < Dw m b)
 | .none,.none,_,_,_=>⟨Nat.le_refl _,fun h=>(h rfl).elim⟩
 | .none,.known _ _,_,_,_=>⟨by simp[Dw],fun _=>by simp[Dw];omega⟩
 | .none,.clash,_,_,_=>⟨by simp[Dw],fun _=>by simp[Dw]⟩
 | .known _ _,.none,_,_,h=>h.elim
 | .known s k,.known s' k',_,_,h=>by
  obtain⟨e,c⟩:=h
  subst e
  have:=P8 c
  simp only[Dw]
  exact⟨by omega,fun hne=>by have:=this.2 (fun e=>hne (by rw[e]));omega⟩
 | .known s _,.clash,h,_,_=>by
  have:=P7 s
  have d:s.length=m:=h
  simp only[Dw]
  exact⟨by omega,fun _=>by omega⟩
 | .clash,.none,_,_,h=>h.elim
 | .clash,.known _ _,_,_,h=>h.elim
 | .clash,.clash,_,_,_=>⟨Nat.le_refl _,fun h=>(h rfl).elim⟩
structure Dd where
 n:Nat
 m:Nat
 goes:Nat->List Nat
 left:Nat->Ao->Ao
 first:Ao
 mono:∀ u a b,a ≠ .none->C8 a b->C8 (left u a) (left u b)
 keep:∀ u a,Di m a->Di m (left u a)
 flen:Di m first
def Aj (X:List Ao) (u:Nat):Ao:=X.getD u .none
def Qdi (X Y:List Ao):Prop := ∀ u,C8 (Aj X u) (Aj Y u)
def Qc7 (Z:Dd) (X:List Ao):Prop := ∀ u,u < Z.n->Aj X u ≠ .none->∀ v ∈ Z.goes u,v < Z.n->C8 (Z.left u (Aj X u)) (Aj X v)
structure I5 (Z:Dd) (X:List Ao):Prop where
 size:X.length=Z.n
 stab:Qc7 Z X
 first:0 < Z.n->C8 Z.first (Aj X 0)
structure Hh (Z:Dd) (X:List Ao):Prop where
 size:X.length=Z.n
 low:∀ Y,I5 Z Y->Qdi X Y
 lens:∀ u,Di Z.m (Aj X u)
theorem Ez (X:List Ao) (v:Nat) (x:Ao) (u:Nat) (hv:v < X.length):Aj (X.set v x) u=if u=v then x else Aj X u:=by
 unfold Aj;rw[List.getD_eq_getElem?_getD,List.getElem?_set,List.getD_eq_getElem?_getD];by_cases e:u=v
 ·subst e;rw[if_pos rfl,if_pos rfl,if_pos hv];rfl
 ·rw[if_neg (fun h=>e h.symm),if_neg e]
theorem Hh.start (Z:Dd):Hh Z (List.replicate Z.n .none):=by
 have a:∀ u,Aj (List.replicate Z.n .none) u = .none:=fun u=>by
  unfold Aj;rw[List.getD_eq_getElem?_getD,List.getElem?_replicate];by_cases e:u < Z.n <;> simp[e]
 exact⟨List.length_replicate,fun Y _ u=>by rw[a];trivial,fun u=>by rw[a];trivial⟩
theorem Hh.come {Z:Dd} {X:List Ao} (h:Hh Z X) (v:Nat) (hv:v < Z.n) (b:Ao) (hb:Di Z.m b) (hlow:∀ Y,I5 Z Y->C8 b (Aj Y v)):Hh Z (X.set v (Bc (Aj X v) b)):=by
 refine⟨by rw[List.length_set];exact h.size,fun Y hY u => ?_,fun u => ?_⟩
 ·rw[Ez _ _ _ _ (by rw[h.size];exact hv)];by_cases e:u=v
  ·subst e;rw[if_pos rfl];exact T6 (h.low Y hY u) (hlow Y hY)
  ·rw[if_neg e];exact h.low Y hY u
 ·rw[Ez _ _ _ _ (by rw[h.size];exact hv)];by_cases e:u=v
  ·rw[if_pos e];exact Mb (h.lens v) hb
  ·rw[if_neg e];exact h.lens u
theorem Hh.leaves {Z:Dd} {X:List Ao} (h:Hh Z X) (u:Nat) (hu:u < Z.n) (hn:Aj X u ≠ .none) (v:Nat) (hv:v < Z.n) (hg:v ∈ Z.goes u):∀ Y,I5 Z Y->C8 (Z.left u (Aj X u)) (Aj Y v):=by
 intro Y b;have a:=h.low Y b u;have c:Aj Y u ≠ .none:=fun e=>by
  rw[e]at a;cases hx:Aj X u with
  | none=>exact hn hx
  | known s k=>rw[hx]at a;exact a.elim
  | clash=>rw[hx]at a;exact a.elim
 exact(Z.mono u _ _ hn a).trans (b.stab u hu c v hg hv)
theorem Qcp {Z:Dd} {X Y:List Ao} (h:Hh Z X) (hX:I5 Z X) (k:Hh Z Y) (hY:I5 Z Y):X=Y:=by
 refine List.ext_getElem (h.size.trans k.size.symm) (fun u h1 h2 => ?_);have e:=(h.low Y hY u).anti (k.low X hX u);simpa[Aj,List.getD_eq_getElem?_getD,List.getElem?_eq_getElem h1,List.getElem?_eq_getElem h2]using e
def Ic (m:Nat) (X:List Ao):Nat:=(X.map (Dw m)).sum
theorem Nv (m:Nat):∀ (X:List Ao) (v:Nat) (x:Ao) (_:v < X.length),Ic m (X.set v x)+Dw m (Aj X v)=Ic m X+Dw m x
 | [],v,x,h=>by simp at h
 | a::r,0,x,_=>by simp[Ic,Aj];omega
 | a::r,v+1,x,h=>by
  have b:=Nv m r v x (by simpa using h)
  simp[Ic,Aj]at b |-
  omega
theorem Oz (m:Nat):∀ (X:List Ao) (_:∀ u,Di m (Aj X u)),Ic m X<=X.length * (m+2)
 | [],_=>by simp[Ic]
 | a::r,h=>by
  have c:=Oz m r (fun u=>by have:=h (u+1);simpa[Aj]using this)
  have b:=Wb (h 0)
  simp only[Aj,List.getD_cons_zero]at b
  simp only[Ic,List.map_cons,List.sum_cons,List.length_cons,Nat.add_mul]at c |-
  omega
end Go.Proofs.YtahibkjkpmdhgaaGreatDoor
namespace Go.Proofs.YtahibkjkpmdhgaaGreatDoor
structure Ay where
 op:Int
 a:Int
 n:Int
 text:ByteArray
structure Ae where
 name:ByteArray
 params:List Int
 result:Int
 slots:Int
 ins:List Ay
def A6 : Ae:=⟨⟨#[]⟩,[],0,0,[]⟩
def Cv : Ay:=⟨0,0,0,⟨#[]⟩⟩
def At (n low high:Int):Bool:=decide (low<=n) && decide (n<=high)
def Cc (t:Int):Bool:=decide (3<=t) && decide (t<=10)
def Fe (op t:Int):Int:=if op=2 then (if t=1 then 1 else 0) else if Cc t=true then t else 0
def Cp (op a b:Int):Int :=
 if a≠b\/a=0 then 0
 else if op=1\/op=2 then (if a=1 then a else 0)
 else if op=3\/op=4 then 1
 else if op=5\/op=6\/op=7\/op=8 then (if a=1 then 0 else 1)
 else if op=9 then (if a=1 then 0 else a)
 else if Cc a=true then a else 0
def Bk (op:Int):List Int :=
 if op=1\/op=2\/op=3\/op=6\/op=12 then [2]
 else if op=4\/op=9 then [2,2]
 else if op=5 then []
 else if op=7 then [2,10]
 else if op=8 then [2,10,10]
 else if op=10 then [3]
 else [0]
def Ci (op:Int):Int :=
 if op=2 then 1 else if op=6\/op=12\/op=9 then 10 else if op=7 then 3 else 2
def Lf (k h:Int):Bool:=decide (h=k) || (decide (k=0) && Cc h)
def E2 : List Int->List Int->Bool
 | [],[]=>true
 | w::ws,h::hs=>Lf w h && E2 ws hs
 | _,_=>false
def C1 (op:Int) (hs:List Int):Int:=if E2 (Bk op) hs=true then Ci op else 0
def Bw (c:List Ae) (k:Nat) (f:Ae):Bool :=
 Bq f.name && decide (f.params.length<=8) && At f.result 0 10 && At f.slots (f.params.length:Int) 200 && At (f.ins.length:Int) 1 50000
  && f.params.all (fun t=>At t 1 10) && !(c.take k).any (fun g=>g.name.toList == f.name.toList)
def Df (op:Int):Bool:=decide (op=1) || decide (op=2) || decide (op=3) || At op 5 12
def Ar (c:List Ae) (f:Ae) (i:Ay):Bool :=
 if At i.op 1 16=false\/(Df i.op=false/\i.a≠0) then false
 else if i.op=1 then A4 ⟨i.a,i.n,i.text⟩
 else if i.n≠0\/i.text.toList.isEmpty=false then false
 else if i.op=2\/i.op=3 then At i.a 0 (f.slots - 1)
 else if i.op=5 then At i.a 1 3
 else if i.op=6 then At i.a 3 18
 else if i.op=7 then Cc i.a
 else if i.op=8 then At i.a 1 12
 else if i.op=9 then At i.a 0 ((c.length:Int) - 1)
 else if i.op=10\/i.op=11 then At i.a 0 (f.ins.length:Int)
 else if i.op=12 then (decide (i.a=1) && decide (f.result≠0)) || (decide (i.a=0) && decide (f.result=0))
 else true
def A9 (f:Ae):Bool:=(f.name.toList == [109,97,105,110]) && decide (f.params.length=0) && decide (f.result=2)
def Gb (c:List Ae):List Ae->Nat->Option Nat
 | [],_=>none
 | f::r,k=>if Bw c k f=true then Gb c r (k+1) else some k
def C7 (c:List Ae) (f:Ae):List Ay->Nat->Option Nat
 | [],_=>none
 | i::r,at'=>if Ar c f i=true then C7 c f r (at'+1) else some at'
def Dh (c:List Ae):List Ae->Nat->Option (Nat × Nat)
 | [],_=>none
 | f::r,k=>match C7 c f f.ins 0 with
  | some i=>some (k,i)
  | none=>Dh c r (k+1)
def B4 (c:List Ae):Int × Int × Int :=
 if c.length=0\/60 < c.length then (1,0,0)
 else match Gb c c 0 with
  | some k=>(2,(k:Int),0)
  | none=>match Dh c c 0 with
   | some p=>(3,(p.1:Int),(p.2:Int))
   | none=>if c.any A9=true then (0,0,0) else (4,0,0)
def Az (k:List Int):Int:=k.getLast?.getD 0
def Ap (k:List Int):Int:=(k.take (k.length - 1)).getLast?.getD 0
def Ag (c:List Ae) (f:Ae) (i:Ay) (s k:List Int):Nat × List Int × Bool :=
  if i.op=1 then (0,[i.a],true)
  else if i.op=2 then (0,[s.getD i.a.toNat 0],decide (s.getD i.a.toNat 0≠0))
  else if i.op=3\/i.op=4 then (1,[],decide (0 < k.length))
  else if i.op=5 then (1,[Fe i.a (Az k)],decide (Fe i.a (Az k)≠0))
  else if i.op=6 then (2,[Cp i.a (Ap k) (Az k)],decide (Cp i.a (Ap k) (Az k)≠0))
  else if i.op=7 then (1,[i.a],Cc (Az k))
  else if i.op=8 then
    (if k.length < (Bk i.a).length then (0,[],false)
     else ((Bk i.a).length,[C1 i.a (k.drop (k.length - (Bk i.a).length))],decide (C1 i.a (k.drop (k.length - (Bk i.a).length))≠0)))
  else if i.op = 9 then
    (if k.length < (c.getD i.a.toNat A6).params.length then (0,[],false)
     else if k.drop (k.length - (c.getD i.a.toNat A6).params.length)=(c.getD i.a.toNat A6).params then
       ((c.getD i.a.toNat A6).params.length,if (c.getD i.a.toNat A6).result=0 then [] else [(c.getD i.a.toNat A6).result],true)
     else (0,[],false))
  else if i.op=11 then (1,[],decide (Az k=1))
  else if i.op=12 then (i.a.toNat,[],decide (i.a=0) || (decide (0 < k.length) && decide (Az k=f.result)))
  else if i.op=13\/i.op=15 then (1,[],decide (Az k=2))
  else if i.op=14 then (2,[],decide (Az k=2) && decide (Ap k=2))
  else (0,[],true)
def A5 (i:Ay) (at':Nat):List Nat :=
 if i.op=12\/i.op=13 then []
 else if i.op=10 then [i.a.toNat]
 else if i.op=11 then [i.a.toNat,at'+1]
 else [at'+1]
def Bj (c:List Ae) (f:Ae) (i:Ay) (at':Nat) (s k:List Int):Ao :=
 if (Ag c f i s k).2.2=false\/k.length < (Ag c f i s k).1 then .clash
 else if (A5 i at').any (fun v=>decide (f.ins.length<=v))=true then .clash
 else if 600 < (k.take (k.length - (Ag c f i s k).1)++(Ag c f i s k).2.1).length then .clash
 else .known (if i.op=3 then s.set i.a.toNat (Az k) else s) (k.take (k.length - (Ag c f i s k).1)++(Ag c f i s k).2.1)
def Ck (c:List Ae) (f:Ae) (at':Nat):Ao->Ao
 | .known s k=>Bj c f (f.ins.getD at' Cv) at' s k
 | _ => .clash
theorem Fd.getD {s s':List Int} (h:Fd s s') (i:Nat):s'.getD i 0=0\/s.getD i 0=s'.getD i 0:=by
 by_cases hi:i < s.length
 ·have a:i < s'.length:=by rw[<- h.1];exact hi
  simp only[List.getD_eq_getElem?_getD,List.getElem?_eq_getElem hi,List.getElem?_eq_getElem a,Option.getD_some];exact h.2 i hi a
 ·left;rw[List.getD_eq_getElem?_getD,List.getElem?_eq_none (by rw[<- h.1];omega)];rfl
theorem Fd.set {s s':List Int} (h:Fd s s') (i:Nat) (t:Int):Fd (s.set i t) (s'.set i t):=by
 refine⟨by simp[h.1],fun j h1 h2 => ?_⟩;rw[List.getElem_set,List.getElem_set];by_cases e:i=j
 ·right;rw[if_pos e,if_pos e]
 ·rw[if_neg e,if_neg e];exact h.2 j (by simpa using h1) (by simpa using h2)
theorem Tt (c:List Ae) (f:Ae) (i:Ay) (s s' k:List Int) (h:i.op≠2\/s.getD i.a.toNat 0=s'.getD i.a.toNat 0):Ag c f i s k=Ag c f i s' k:=by
 by_cases h2:i.op=2
 ·have b:s.getD i.a.toNat 0=s'.getD i.a.toNat 0:=h.resolve_left (fun e=>e h2);have a:¬ i.op=1:=by omega
  simp only[Ag,if_neg a,if_pos h2,b]
 ·simp only[Ag,if_neg h2]
theorem Rv (c:List Ae) (f:Ae) (i:Ay) (at':Nat) (s s' k:List Int) (h:Fd s s'):C8 (Bj c f i at' s k) (Bj c f i at' s' k):=by
 by_cases hg:i.op≠2\/s.getD i.a.toNat 0=s'.getD i.a.toNat 0
 ·have e:=Tt c f i s s' k hg;unfold Bj;rw[e];split
  ·trivial
  ·split
   ·trivial
   ·split
    ·trivial
    ·refine⟨rfl, ?_⟩;split
     ·exact h.set _ _
     ·exact h
 ·have d:i.op=2:=Classical.byContradiction (fun e=>hg (.inl e));have a:s'.getD i.a.toNat 0=0:=(h.getD i.a.toNat).resolve_right (fun e=>hg (.inr e));have g:Bj c f i at' s' k = .clash:=by
   have b:¬ i.op=1:=(by omega);unfold Bj;rw[if_pos];left;simp only[Ag,if_neg b,if_pos d,a];simp
  rw[g];cases Bj c f i at' s k <;> trivial
theorem Ra (c:List Ae) (f:Ae) (u:Nat):∀ a b,a ≠ .none->C8 a b->C8 (Ck c f u a) (Ck c f u b)
 | .none,_,h,_=>(h rfl).elim
 | .known s k,.known s' k',_,h=>by
  obtain⟨rfl,d⟩:=h
  exact Rv c f _ u s s' k d
 | .known _ _,.none,_,h=>h.elim
 | .known s k,.clash,_,_=>by
  show C8 _ Ao.clash
  cases Ck c f u (.known s k) <;> trivial
 | .clash,.none,_,h=>h.elim
 | .clash,.known _ _,_,h=>h.elim
 | .clash,.clash,_,_=>trivial
theorem T8 (c:List Ae) (f:Ae) (i:Ay) (at' m:Nat) (s k:List Int) (h:s.length=m):Di m (Bj c f i at' s k):=by
 unfold Bj;split
 ·trivial
 ·split
  ·trivial
  ·split
   ·trivial
   ·show List.length _=m
    split
    ·rw[List.length_set];exact h
    ·exact h
theorem Tf (c:List Ae) (f:Ae) (u m:Nat):∀ a,Di m a->Di m (Ck c f u a)
 | .none,_=>trivial
 | .known s k,h=>T8 c f _ u m s k h
 | .clash,_=>trivial
def Bz (f:Ae):List Int:=f.params++List.replicate (f.slots.toNat - f.params.length) 0
def B8 (c:List Ae) (f:Ae):Dd where
 n:=f.ins.length
 m:=(Bz f).length
 goes:=fun u=>A5 (f.ins.getD u Cv) u
 left:=Ck c f
 first:=.known (Bz f) []
 mono:=Ra c f
 keep:=fun u a=>Tf c f u _ a
 flen:=rfl
def Cl (c:List Ae) (f:Ae) (X:List Ao):Prop:=Hh (B8 c f) X/\I5 (B8 c f) X
theorem Cl.one {c:List Ae} {f:Ae} {X Y:List Ao} (h:Cl c f X) (k:Cl c f Y):X=Y:=Qcp h.1 h.2 k.1 k.2
def By (c:List Ae) (f:Ae) (X:List Ao) (u:Nat):Bool:=decide (Aj X u ≠ .none) && decide (Ck c f u (Aj X u) = .clash)
def C5 (c:List Ae) (r:Int × Int × Int):Prop :=
  if (B4 c).1≠0 then r=B4 c
  else ∃ XS:List (List Ao),XS.length=c.length/\(∀ k (h:k < c.length) (h':k < XS.length),Cl c c[k] XS[k]) /\
    ((∃ k u,∃ (h:k < c.length) (h':k < XS.length),u < c[k].ins.length/\By c c[k] XS[k] u=true/\(∀ j,j < u->By c c[k] XS[k] j=false) /\
        (∀ q (hq:q < k) j,j < (c[q]'(by omega)).ins.length->By c (c[q]'(by omega)) (XS[q]'(by omega)) j=false)/\r=(5,(k:Int),(u:Int))) \/
     ((∀ q (hq:q < c.length) (hq':q < XS.length) j,j < c[q].ins.length->By c c[q] XS[q] j=false)/\r=(0,0,0)))
open Go.RowKit
theorem Eo (t:Int) (w:World):Calls Tryz.prog 115 #[.int .i64 t] w fun e w'=>e = .returned (.bool (Cc t))/\w=w':=Kh t w
theorem C0 {a b:Int} (h:a=b):(Ending.returned (.int .i64 a):Ending) = .returned (.int .i64 b):=by rw[h]
theorem Aq {a b:Bool} (h:a=b):(Ending.returned (.bool a):Ending) = .returned (.bool b):=by rw[h]
def As (l:List Int):List Value:=l.map (fun z=>Value.int .i64 z)
theorem Ob {P:Program} {f:FuncId} {args:Array Value} {w:World} {n:Nat} {v:Value}
  (h:Calls P f args (w.drewN n) fun e w'=>e = .returned v/\w.drewN n=w'):Calls P f args (w.drewN n) fun e w''=>e = .returned v/\∃ m,w''=w.drewN m :=
 h.mono fun _ _ ⟨he,hm⟩=>⟨he,n,hm.symm⟩
theorem Lt (b:Bool) (t:Int) (h:Hid (Cc t=b)) (w:World) :
  Calls Tryz.prog 115 #[.int .i64 t] w fun e w'=>e = .returned (.bool b)/\w=w':=by rw[<- h.out];exact Eo t w
theorem Af (w:World) (o:Obj):(w.alloc o).heap[w.heap.size]? = some o:=(MapKept.heap_alloc w o).1
theorem B5 {B:Nat} {a w:World} (n:Nat) (h:Below B a w):Below B a (w.drewN n):=⟨h.os,h.tape,h.output,h.size,h.block⟩
theorem Mc (op t:Int) (w:World) :
  Calls Tryz.prog 140 #[.int .i64 op,.int .i64 t] w fun e w'=>e = .returned (.int .i64 (Fe op t))/\w=w':=by
 by_cases h20:op=2
 ·subst h20;have a:((2:Int) == 2)=true:=rfl;by_cases h1:t=1;all_goals
   go_enter Tryz.func140,Tryz.ntmps140;go_wp2;all_goals go_ret
   all_goals exact⟨C0 (by simp[Fe,h1]),rfl⟩
 ·cases hi:Cc t
  all_goals
   go_enter Tryz.func140,Tryz.ntmps140;go_wp2_with (go_at_call 115;refine(Eo _ _).mono ?_;rintro e w' ⟨rfl,rfl⟩;rw[hi]);all_goals go_ret
   all_goals exact⟨C0 (by simp[Fe,h20,hi]),rfl⟩
theorem Lh (op a b:Int) (w:World) :
  Calls Tryz.prog 141 #[.int .i64 op,.int .i64 a,.int .i64 b] w fun e w'=>e = .returned (.int .i64 (Cp op a b))/\w=w':=by
 by_cases hab:a=b
 ·subst hab;by_cases ha0:a=0
  ·subst ha0;go_enter Tryz.func141,Tryz.ntmps141;go_wp2;go_ret;exact⟨C0 (by simp[Cp]),rfl⟩
  ·cases hi:Cc a
   all_goals
    by_cases hop:1<=op/\op<=9
    ·have c:op=1\/op=2\/op=3\/op=4\/op=5\/op=6\/op=7\/op=8\/op=9:=(by omega);by_cases ha1:a=1;all_goals
      rcases c with rfl|rfl|rfl|rfl|rfl|rfl|rfl|rfl|rfl
      all_goals
       go_enter Tryz.func141,Tryz.ntmps141;go_wp2;all_goals go_ret
       all_goals exact⟨C0 (by simp[Cp,ha0,ha1]),rfl⟩
    ·have d:¬ op=1:=(by omega);have f:¬ op=2:=(by omega);have g:¬ op=3:=(by omega);have h:¬ op=4:=(by omega);have i:¬ op=5:=(by omega);have j:¬ op=6:=(by omega);have k:¬ op=7:=(by omega);have l:¬ op=8:=(by omega);have c:¬ op=9:=(by omega);go_enter Tryz.func141,Tryz.ntmps141;go_wp2_with (go_at_call 115;refine(Eo _ _).mono ?_;rintro e w' ⟨rfl,rfl⟩;rw[hi]);all_goals go_ret
     all_goals exact⟨C0 (by simp[Cp,ha0,d,f,g,h,i,j,k,l,c,hi]),rfl⟩
 ·have m:(a != b)=true:=by simpa using hab
  go_enter Tryz.func141,Tryz.ntmps141;go_wp2;go_ret;exact⟨C0 (by simp[Cp,hab]),rfl⟩
def Xp (w:World) (v:Value) (hs:List Int):Prop :=
 ∃ a cap,v = .slice a hs.length cap/\∀ i (hi:i < hs.length),∃ g,a=some ⟨g,0,none⟩/\g < w.heap.size/\w.cell? ⟨g,i,none⟩=some (.int .i64 hs[i])
def Ab (B:Nat) (w:World) (v:Value) (hs:List Int):Prop :=
 ∃ a cap,v = .slice a hs.length cap/\∀ i (hi:i < hs.length),∃ g o,a=some ⟨g,o,none⟩/\g < B/\w.cell? ⟨g,o+i,none⟩=some (.int .i64 hs[i])
theorem Ab.below {B:Nat} {w w':World} {v:Value} {ns:List Int} (h:Ab B w v ns) (hb:Below B w w'):Ab B w' v ns:=by
 obtain⟨a,c,rfl,j⟩:=h;refine⟨a,c,rfl,fun i hi => ?_⟩;obtain⟨g,o,f,d,b⟩:=j i hi;exact⟨g,o,f,d,by rw[hb.cell (p:=⟨g,o+i,none⟩) d];exact b⟩
theorem Ab.mono {B C:Nat} {w:World} {v:Value} {ns:List Int} (h:Ab B w v ns) (hb:B<=C):Ab C w v ns:=by
 obtain⟨a,c,rfl,f⟩:=h;refine⟨a,c,rfl,fun i hi => ?_⟩;obtain⟨g,o,d,j,b⟩:=f i hi;exact⟨g,o,d,by omega,b⟩
theorem Ab.own {w:World} {B C:Nat} {v:Value} {hs:List Int} {e:TypeId} (h:w.ownsRow B e 1 v hs.length (As hs)) (hC:w.heap.size<=C):Ab C w v hs:=by
 rcases h.2 with⟨rfl,d⟩|⟨g,b,c,rfl,f,a,_⟩
 ·exact⟨none,0,by rw[d],fun i hi=>by omega⟩
 ·refine⟨_,_,rfl,fun i hi=>⟨g,0,rfl,Nat.lt_of_lt_of_le (Array.getElem?_eq_some_iff.1 a).1 hC, ?_⟩⟩;rw[Nat.zero_add,h.cellAt i (by omega)];simp[As,hi]
theorem Ab.new (w:World) (hs:List Int) (t:TypeId) (cap:Nat):Ab (w.heap.size+1) (w.alloc (.cells (As hs).toArray t)) (.slice (some ⟨w.heap.size,0,none⟩) hs.length cap) hs:=by
 refine⟨_,_,rfl,fun i hi=>⟨w.heap.size,0,rfl,by omega, ?_⟩⟩;have h:=Af w (.cells (As hs).toArray t);unfold World.cell?;simp only[h];simp[As,hi]
theorem Ab.drop {B:Nat} {w:World} {a:Option Addr} {n cap:Nat} {hs:List Int} (h:Ab B w (.slice a n cap) hs) {k:Nat} (hk:k < hs.length):∃ g o,a=some ⟨g,o,none⟩/\n=hs.length/\∀ cap',Ab B w (.slice (some ⟨g,o+k,none⟩) (hs.length - k) cap') (hs.drop k):=by
 obtain⟨m,p,f,d⟩:=h;injection f with h1 h2 h3;subst h1 h2;obtain⟨g,o,rfl,j,_⟩:=d k hk;refine⟨g,o,rfl,rfl,fun cap'=>⟨_,cap',by rw[List.length_drop],fun i hi => ?_⟩⟩;have c:k+i < hs.length:=by rw[List.length_drop]at hi;omega
 obtain⟨q,r,e,l,b⟩:=d (k+i) c;injection e with e;injection e with e1 e2
 subst e1 e2;refine⟨g,o+k,rfl,j, ?_⟩;rw[Nat.add_assoc,b,List.getElem_drop]
theorem Dr (w:World) (hs:List Int) (t:TypeId) (cap:Nat):Xp (w.alloc (.cells (As hs).toArray t)) (.slice (some ⟨w.heap.size,0,none⟩) hs.length cap) hs:=by
 refine⟨_,_,rfl,fun i hi=>⟨w.heap.size,rfl,by rw[World.size_alloc];omega, ?_⟩⟩;have h:=Af w (.cells (As hs).toArray t);unfold World.cell?;simp only[h];simp[As,hi]
theorem Js (op:Int) (h6:1<=op) (h12:op<=12) (w:World) :
  Calls Tryz.prog 117 #[.int .i64 op] w fun e w'=>(∃ g n,e = .returned (.tuple #[.slice (some ⟨g,0,none⟩) n n,.int .i64 (Ci op)])/\n=(Bk op).length/\Xp w' (.slice (some ⟨g,0,none⟩) n n) (Bk op))/\Below w.heap.size w w':=by
 have h:op=1\/op=2\/op=3\/op=4\/op=5\/op=6\/op=7\/op=8\/op=9\/op=10\/op=11\/op=12:=by omega
 rcases h with rfl|rfl|rfl|rfl|rfl|rfl|rfl|rfl|rfl|rfl|rfl|rfl
 all_goals
  go_enter Tryz.func117,Tryz.ntmps117;go_wp2
 ·go_ret2;exact⟨⟨_,_,rfl,rfl,Dr w [2] _ _⟩,(Below.refl _ w).alloc (Nat.le_refl _) _⟩
 ·go_ret2;exact⟨⟨_,_,rfl,rfl,Dr w [2] _ _⟩,(Below.refl _ w).alloc (Nat.le_refl _) _⟩
 ·go_ret2;exact⟨⟨_,_,rfl,rfl,Dr w [2] _ _⟩,(Below.refl _ w).alloc (Nat.le_refl _) _⟩
 ·go_ret2;exact⟨⟨_,_,rfl,rfl,Dr w [2,2] _ _⟩,(Below.refl _ w).alloc (Nat.le_refl _) _⟩
 ·go_ret2;exact⟨⟨_,_,rfl,rfl,Dr w [] _ _⟩,(Below.refl _ w).alloc (Nat.le_refl _) _⟩
 ·go_ret2;exact⟨⟨_,_,rfl,rfl,Dr w [2] _ _⟩,(Below.refl _ w).alloc (Nat.le_refl _) _⟩
 ·go_ret2;exact⟨⟨_,_,rfl,rfl,Dr w [2,10] _ _⟩,(Below.refl _ w).alloc (Nat.le_refl _) _⟩
 ·go_ret2;exact⟨⟨_,_,rfl,rfl,Dr w [2,10,10] _ _⟩,(Below.refl _ w).alloc (Nat.le_refl _) _⟩
 ·go_ret2;exact⟨⟨_,_,rfl,rfl,Dr w [2,2] _ _⟩,(Below.refl _ w).alloc (Nat.le_refl _) _⟩
 ·go_ret2;exact⟨⟨_,_,rfl,rfl,Dr w [3] _ _⟩,(Below.refl _ w).alloc (Nat.le_refl _) _⟩
 ·go_ret2;exact⟨⟨_,_,rfl,rfl,Dr w [0] _ _⟩,(Below.refl _ w).alloc (Nat.le_refl _) _⟩
 ·go_ret2;exact⟨⟨_,_,rfl,rfl,Dr w [2] _ _⟩,(Below.refl _ w).alloc (Nat.le_refl _) _⟩
theorem Ps : ∀ (ks hs:List Int),E2 ks hs=true->ks.length=hs.length
 | [],[],_=>rfl
 | [],_::_,h=>by cases h
 | _::_,[],h=>by cases h
 | k::ks,h::hs,e=>by
  rw[E2,Bool.and_eq_true]at e
  simp[Ps ks hs e.2]
theorem Vw (ks hs:List Int) (i:Nat) (h1:i < ks.length) (h2:i < hs.length):E2 (ks.drop i) (hs.drop i)=(Lf ks[i] hs[i] && E2 (ks.drop (i+1)) (hs.drop (i+1))):=by
 rw[List.drop_eq_getElem_cons h1,List.drop_eq_getElem_cons h2,E2]
theorem Ew (op:Int) (h6:1<=op) (h12:op<=12) (v:Value) (hs:List Int) (_hl:hs.length<=1048576) (w:World) (hH:Ab w.heap.size w v hs) :
  Calls Tryz.prog 143 #[.int .i64 op,v] w fun e w'=>e = .returned (.int .i64 (C1 op hs))/\Below w.heap.size w w':=by
 obtain⟨b,x⟩:∃ b,Hid (Bk op=b):=⟨_,(rfl:Bk op=_)⟩;obtain⟨G,M⟩:∃ G,Hid (Ci op=G):=⟨_,(rfl:Ci op=_)⟩;have U:b.length<=3:=by rw[<- x.out];unfold Bk;split;simp;split;simp;split;simp;split;simp;split;simp;split <;> simp
 have HT:Hid (C1 op hs=if E2 b hs=true then G else 0):=by rw[Hid,C1,x.out,M.out]
 rw[HT.out];obtain⟨a,aa,rfl,Y⟩:=hH;have J:Hid (∀ i (Z:i < hs.length),∃ g o,a=some ⟨g,o,none⟩/\g < w.heap.size/\w.cell? ⟨g,o+i,none⟩=some (.int .i64 hs[i])):=Y;clear Y;by_cases hle:b.length=hs.length
 ·obtain⟨n,u⟩:∃ n,Hid (hs.length=n):=⟨_,(rfl:hs.length=_)⟩;have l:Hid (b.length=n):=by rw[Hid,hle,u.out]
  rw[l.out]at U;clear hle _hl;obtain⟨r,K⟩:∃ r,Hid ((if E2 b hs=true then G else 0)=r):=⟨_,(rfl:_=_)⟩;rw[K.out];simp only[u.out];go_enter Tryz.func143,Tryz.ntmps143;go_wp2_with (go_at_call 117;(refine(Js op h6 h12 _).mono ?_;rintro e H ⟨⟨P,m,rfl,D,Q⟩,s⟩;rw[x.out,l.out]at D;subst D;rw[x.out]at Q;rw[M.out]));obtain⟨X,ck,C,B⟩:=Q;have L:Hid (∀ i (Z:i < b.length),∃ g,X=some ⟨g,0,none⟩/\g < H.heap.size/\H.cell? ⟨g,i,none⟩=some (.int .i64 b[i])):=B;have R:X=some ⟨P,0,none⟩:=by injection C with h1;exact h1.symm
  subst R;clear B C;go_loopw [7] (fun t wr => ∃ i:Nat,i<=m/\t = .int .i64 (i:Int)/\E2 (b.drop i) (hs.drop i)=E2 b hs/\Below H.heap.size H wr) (fun t _=>m - (intOf t).toNat);case atStart=>exact⟨0,by omega,rfl,rfl,Below.refl _ _⟩
  case round =>
   obtain⟨i,Z,rfl,j,d⟩:=hrel;have hz:=d.size;have V:=s.size;have I:Hid (Below w.heap.size w wr):=s.trans (d.mono V);by_cases hlt:i < m
   ·have A:i < hs.length:=(by rw[u.out];exact hlt);have z:i < b.length:=(by rw[l.out];exact hlt);obtain⟨g,o,rfl,hg,f⟩:=J.out i A;obtain⟨O,y,T,c⟩:=L.out i z;have S:O=P:=by injection y with h1;injection h1 with h2;exact h2.symm
    subst S;clear y;rw[Vw b hs i z A]at j;have e1:wr.cell? ⟨g,o+i,none⟩=some (.int .i64 hs[i]):=(by rw[I.out.cell (p:=⟨g,o+i,none⟩) hg];exact f);have e2:wr.cell? ⟨O,i,none⟩=some (.int .i64 b[i]):=(by rw[d.cell (p:=⟨O,i,none⟩) T];exact c);generalize hs[i]=h at *;generalize b[i]=k at *;clear f c J L;by_cases hhk:h=k
    ·subst hhk;have E:(h != h)=false:=(by simp);have q:Hid (E2 (b.drop (i+1)) (hs.drop (i+1))=E2 b hs):=(by rw[Hid,<- j,Lf];simp);clear j;go_wp2_with fail;go_quiet (fail);go_wp2;go_roundw;case rel=>exact⟨i+1,by omega,by go_num,q.out,B5 _ d⟩
     case measure=>simp[intOf];omega
    ·have E:(h != k)=true:=(by simp[hhk]);by_cases hk0:k=0
     ·subst hk0;have F:((0:Int) != 0)=false:=(by simp);cases hI:Cc h with
      | true =>
       have N:Hid (Cc h=true):=hI;have q:Hid (E2 (b.drop (i+1)) (hs.drop (i+1))=E2 b hs):=(by rw[Hid,<- j,Lf,hI];simp);clear j hI;go_wp2_with fail;go_quiet (first|(go_at_call 115;refine Ob (Lt true _ N _)));go_wp2;go_roundw;case rel=>exact⟨i+1,by omega,by go_num,q.out,B5 _ d⟩
       case measure=>simp[intOf];omega
      | false =>
       have N:Hid (Cc h=false):=hI;have q:Hid (0=r):=(by rw[Hid,<- K.out,<- j,Lf,hI];simp[hhk]);clear j hI;go_wp2_with fail;go_quiet (first|(go_at_call 115;refine Ob (Lt false _ N _)));go_wp2;go_ret;exact⟨C0 q.out,B5 _ I.out⟩
     ·have F:(k != 0)=true:=(by simp[hk0]);have q:Hid (0=r):=(by rw[Hid,<- K.out,<- j,Lf];simp[hhk,hk0]);clear j;go_wp2_with fail;go_quiet (fail);go_wp2;go_ret;exact⟨C0 q.out,B5 _ I.out⟩
   ·have q:Hid (G=r):=(by rw[Hid,<- K.out,<- j,List.drop_of_length_le (by rw[l.out];omega),List.drop_of_length_le (by rw[u.out];omega)];rfl);clear j J L;go_wp2;go_ret;exact⟨C0 q.out,I.out⟩
 ·have HF:Hid ((if E2 b hs=true then G else 0)=0):=by
   rw[Hid,if_neg];intro h;exact hle (Ps _ _ h)
  rw[HF.out];obtain⟨n,u⟩:∃ n,Hid (hs.length=n):=⟨_,(rfl:hs.length=_)⟩;obtain⟨m,W⟩:∃ m,Hid (b.length=m):=⟨_,(rfl:b.length=_)⟩;simp only[u.out];rw[u.out,W.out]at hle;have E:((m:Int) != (n:Int))=true:=by simp;omega
  clear J;go_enter Tryz.func143,Tryz.ntmps143;go_wp2_with (go_at_call 117;(refine(Js op h6 h12 _).mono ?_;rintro e H ⟨⟨P,m',rfl,D,Q⟩,s⟩;rw[x.out,W.out]at D;subst D;rw[M.out]));go_ret;exact⟨rfl,s⟩
def Gl (i:Ay):List Value:=[.int .i64 i.op,.int .i64 i.a,.int .i64 i.n,.string i.text]
def Ak (i:Ay):Value:=.agg #[.int .i64 i.op,.int .i64 i.a,.int .i64 i.n,.string i.text]
def Bb (B:Nat) (w:World) (v:Value) (l:List Ay):Prop :=
 ∃ a cap,v = .slice a l.length cap/\∀ i (hi:i < l.length),∃ g,a=some ⟨g,0,none⟩/\g < B/\∀ j,j < 4->w.cell? ⟨g,i * 4+j,none⟩=(Gl l[i])[j]?
theorem Bb.below {B:Nat} {w w':World} {v:Value} {l:List Ay} (h:Bb B w v l) (hb:Below B w w'):Bb B w' v l:=by
 obtain⟨a,c,rfl,k⟩:=h;refine⟨a,c,rfl,fun i hi => ?_⟩;obtain⟨g,f,d,b⟩:=k i hi;exact⟨g,f,d,fun j hj=>by rw[hb.cell (p:=⟨g,i * 4+j,none⟩) d];exact b j hj⟩
def Rn (f:Ae) (pv iv:Value):List Value:=[.string f.name,pv,.int .i64 f.result,.int .i64 f.slots,iv]
def Ax (f:Ae) (pv iv:Value):Value:=.agg #[.string f.name,pv,.int .i64 f.result,.int .i64 f.slots,iv]
def An (B:Nat) (w:World) (v:Value) (c:List Ae):Prop :=
 ∃ a cap,v = .slice a c.length cap/\∀ k (hk:k < c.length),∃ g pv iv,a=some ⟨g,0,none⟩/\g < B/\(∀ j,j < 5->w.cell? ⟨g,k * 5+j,none⟩=(Rn c[k] pv iv)[j]?)/\Ab B w pv c[k].params/\Bb B w iv c[k].ins
theorem An.below {B:Nat} {w w':World} {v:Value} {c:List Ae} (h:An B w v c) (hb:Below B w w'):An B w' v c:=by
 obtain⟨a,d,rfl,l⟩:=h;refine⟨a,d,rfl,fun k hk => ?_⟩;obtain⟨g,q,o,i,f,b,n,m⟩:=l k hk;exact⟨g,q,o,i,f,fun j hj=>by rw[hb.cell (p:=⟨g,k * 5+j,none⟩) f];exact b j hj,n.below hb,m.below hb⟩
theorem Ca (n low high:Int) (w:World) :
  Calls Tryz.prog 22 #[.int .i64 n,.int .i64 low,.int .i64 high] w fun e w'=>e = .returned (.bool (At n low high))/\w=w':=by
 by_cases h1:low<=n;all_goals
  go_enter Tryz.func22,Tryz.ntmps22;go_wp2;all_goals go_ret
  all_goals exact⟨Aq (by first|(simp[At,h1];done)|(simp[At];omega)),rfl⟩
theorem Jr (b:Bool) (n low high:Int) (h:Hid (At n low high=b)) (w:World) :
  Calls Tryz.prog 22 #[.int .i64 n,.int .i64 low,.int .i64 high] w fun e w'=>e = .returned (.bool b)/\w=w':=by rw[<- h.out];exact Ca n low high w
theorem Dl (op:Int) (w:World) :
  Calls Tryz.prog 138 #[.int .i64 op] w fun e w'=>e = .returned (.bool (Df op))/\w=w':=by
 by_cases h1:op=1
 ·subst h1;go_enter Tryz.func138,Tryz.ntmps138;go_wp2;go_ret;exact⟨rfl,rfl⟩
 ·have b:(op == 1)=false:=by simp[h1]
  by_cases h2:op=2
  ·subst h2;go_enter Tryz.func138,Tryz.ntmps138;go_wp2;go_ret;exact⟨rfl,rfl⟩
  ·have c:(op == 2)=false:=(by simp[h2]);by_cases h3:op=3
   ·subst h3;go_enter Tryz.func138,Tryz.ntmps138;go_wp2;go_ret;exact⟨rfl,rfl⟩
   ·have d:(op == 3)=false:=(by simp[h3]);have a:Hid (At op 5 12=Df op):=(by rw[Hid,Df];simp[h1,h2,h3]);clear h1 h2 h3;go_enter Tryz.func138,Tryz.ntmps138;go_wp2_with (first|(go_at_call 22;refine(Ca _ _ _ _).mono ?_;rintro e w' ⟨rfl,rfl⟩));go_ret;exact⟨Aq a.out,rfl⟩
theorem Z6 (b:Bool) (op:Int) (h:Hid (Df op=b)) (w:World) :
  Calls Tryz.prog 138 #[.int .i64 op] w fun e w'=>e = .returned (.bool b)/\w=w':=by rw[<- h.out];exact Dl op w
theorem Ga (w:World) (a b c:Obj):Below w.heap.size w (((w.alloc a).alloc b).alloc c):=(((Below.refl _ w).alloc (Nat.le_refl _) _).alloc (by simp) _).alloc (by simp;omega) _
theorem Z8 (c:List Ae) (f:Ae) (a n:Int) (text:ByteArray) (cv pv iv:Value) (w:World) :
  Calls Tryz.prog 111 #[.agg #[cv],Ax f pv iv,Ak ⟨1,a,n,text⟩] w fun e w'=>e = .returned (.bool (Ar c f ⟨1,a,n,text⟩))/\Below w.heap.size w w':=by
 have b:Hid (At 1 1 16=true):=(rfl:At 1 1 16=true);have g:Hid (Df 1=true):=(rfl:Df 1=true);have h:Hid (A4 ⟨a,n,text⟩=Ar c f ⟨1,a,n,text⟩):=by rw[Hid,Ar,if_neg (by simp[b.out,g.out]),if_pos rfl]
 unfold Ax Ak;go_enter Tryz.func111,Tryz.ntmps111;go_wp2_with (first|(go_at_call 22;refine(Jr true _ _ _ b _).mono ?_;rintro e w' ⟨rfl,rfl⟩)|(go_at_call 138;refine(Z6 true _ g _).mono ?_;rintro e w' ⟨rfl,rfl⟩)|(go_at_call 86;refine(F5 _ _ _ _).mono ?_;rintro e i ⟨rfl,d⟩));go_ret;exact⟨Aq h.out,(Ga w _ _ _).trans (d.mono (Ga w _ _ _).size)⟩
theorem An.fn {B:Nat} {w:World} {v:Value} {c:List Ae} (h:An B w v c) (k:Nat) (hk:k < c.length):∃ g d j l f i,v = .slice (some ⟨g,0,none⟩) c.length d/\g < B/\w.cell? ⟨g,k * 5,none⟩=some (.string c[k].name)/\w.cell? ⟨g,k * 5+1,none⟩=some (.slice j c[k].params.length l)/\w.cell? ⟨g,k * 5+2,none⟩=some (.int .i64 c[k].result)/\w.cell? ⟨g,k * 5+3,none⟩=some (.int .i64 c[k].slots)/\w.cell? ⟨g,k * 5+4,none⟩=some (.slice f c[k].ins.length i)/\Ab B w (.slice j c[k].params.length l) c[k].params/\Bb B w (.slice f c[k].ins.length i) c[k].ins:=by
 obtain⟨a,d,rfl,t⟩:=h;obtain⟨g,A,z,rfl,u,b,y,x⟩:=t k hk;have o:=b 0 (by omega);have p:=b 1 (by omega);have q:=b 2 (by omega);have r:=b 3 (by omega);have s:=b 4 (by omega);simp only[Rn,Nat.add_zero,List.getElem?_cons_zero,List.getElem?_cons_succ]at o p q r s;obtain⟨j,l,rfl,n⟩:=y;obtain⟨f,i,rfl,m⟩:=x;exact⟨g,d,j,l,f,i,rfl,u,o,p,q,r,s,⟨j,l,rfl,n⟩,⟨f,i,rfl,m⟩⟩
theorem Bm (w:World) (xs:Array Value) (t:TypeId) (j n:Nat) (hn:w.heap.size=n):(w.alloc (.cells xs t)).cell? ⟨n,j,none⟩=xs[j]?:=by
 subst hn;have h:=Af w (.cells xs t);unfold World.cell?;simp only[h];simp
theorem Xx (B:Nat) (c:List Ae) (cv:Value) (k:Nat) (hk:k < c.length) (hcl:c.length<=1048576) (hpl:c[k].params.length<=1048576) (_hil:c[k].ins.length<=1048576) (w:World) (hB:B<=w.heap.size) (hC:An B w cv c) :
  Calls Tryz.prog 110 #[.agg #[cv],.int .i64 (k:Int)] w fun e w'=>e = .returned (.bool (Bw c k c[k]))/\Below w.heap.size w w':=by
 obtain⟨g,y,pa,pc,ia,ic,rfl,hg,D,E,F,G,H,hP,M⟩:=hC.fn k hk;obtain⟨f,ab⟩:∃ f,Hid (c[k]=f):=⟨_,(rfl:c[k]=_)⟩;rw[ab.out]at D E F G H hP M hpl _hil |-
 obtain⟨Y,hY⟩:∃ Y,w.alloc (.cells #[.slice (some ⟨g,0,none⟩) c.length y] 59)=Y:=⟨_,rfl⟩;have m:Below w.heap.size w Y:=by rw[<- hY];exact(Below.refl _ w).alloc (Nat.le_refl _) _
 have s:Y.heap.size=w.heap.size+1:=by rw[<- hY];exact World.size_alloc _ _
 have y0:=(m.cell (p:=⟨g,k * 5,none⟩) (by show g < _;omega)).trans D;have y1:=(m.cell (p:=⟨g,k * 5+1,none⟩) (by show g < _;omega)).trans E;have y2:=(m.cell (p:=⟨g,k * 5+2,none⟩) (by show g < _;omega)).trans F;have y3:=(m.cell (p:=⟨g,k * 5+3,none⟩) (by show g < _;omega)).trans G;have y4:=(m.cell (p:=⟨g,k * 5+4,none⟩) (by show g < _;omega)).trans H;have yc:Y.cell? ⟨w.heap.size,0,none⟩=some (.slice (some ⟨g,0,none⟩) c.length y):=by rw[<- hY];exact Bm w _ _ 0 _ rfl
 obtain⟨Z,A⟩:∃ Z,Y.alloc (.cells #[.string f.name,.slice pa f.params.length pc,.int .i64 f.result,.int .i64 f.slots,.slice ia f.ins.length ic] 130)=Z:=⟨_,rfl⟩;have b:Below w.heap.size w Z:=by rw[<- A];exact m.trans ((Below.refl _ Y).alloc (by omega) _)
 have ag:Z.heap.size=w.heap.size+2:=by rw[<- A,World.size_alloc];omega
 have z0:Z.cell? ⟨w.heap.size+1,0,none⟩=some (.string f.name):=by rw[<- A,Bm Y _ _ 0 _ s];rfl
 have z1:Z.cell? ⟨w.heap.size+1,1,none⟩=some (.slice pa f.params.length pc):=by rw[<- A,Bm Y _ _ 1 _ s];rfl
 have z2:Z.cell? ⟨w.heap.size+1,2,none⟩=some (.int .i64 f.result):=by rw[<- A,Bm Y _ _ 2 _ s];rfl
 have z3:Z.cell? ⟨w.heap.size+1,3,none⟩=some (.int .i64 f.slots):=by rw[<- A,Bm Y _ _ 3 _ s];rfl
 have z4:Z.cell? ⟨w.heap.size+1,4,none⟩=some (.slice ia f.ins.length ic):=by rw[<- A,Bm Y _ _ 4 _ s];rfl
 have N:Hid (∀ w',Below Z.heap.size Z w'->w'.cell? ⟨w.heap.size+1,0,none⟩=some (.string f.name)/\w'.cell? ⟨w.heap.size+1,1,none⟩=some (.slice pa f.params.length pc)/\w'.cell? ⟨w.heap.size+1,2,none⟩=some (.int .i64 f.result)/\w'.cell? ⟨w.heap.size+1,3,none⟩=some (.int .i64 f.slots)/\w'.cell? ⟨w.heap.size+1,4,none⟩=some (.slice ia f.ins.length ic)/\w'.cell? ⟨w.heap.size,0,none⟩=some (.slice (some ⟨g,0,none⟩) c.length y)):=fun w' h=>by
  have e:∀ j,w'.cell? ⟨w.heap.size+1,j,none⟩=Z.cell? ⟨w.heap.size+1,j,none⟩:=fun j=>h.cell (p:=⟨w.heap.size+1,j,none⟩) (by show w.heap.size+1 < _;omega)
  refine⟨(e 0).trans z0,(e 1).trans z1,(e 2).trans z2,(e 3).trans z3,(e 4).trans z4, ?_⟩;rw[h.cell (p:=⟨w.heap.size,0,none⟩) (by show w.heap.size < _;omega),<- A,Below.cell ((Below.refl Y.heap.size Y).alloc (Nat.le_refl _) _) (p:=⟨w.heap.size,0,none⟩) (by show w.heap.size < _;omega)];exact yc
 cases h1:Bq f.name with
 | false =>
  have d:Hid (false=Bw c k f):=by rw[Hid,Bw];simp[h1]
  clear D E F G H;go_enter Tryz.func110,Tryz.ntmps110;go_wp2_with fail;go_at_call 137;refine(l1NameOk_any _ _).mono ?_;rintro e q ⟨rfl,a⟩;obtain⟨O,R,S,T,U,P⟩:=N.out q a;rw[h1];go_wp2_with fail;go_ret;exact⟨Aq d.out,b.trans (a.mono b.size)⟩
 | true =>
  by_cases h2:f.params.length<=8
  ·cases h3:At f.result 0 10 with
   | false =>
    have d:Hid (false=Bw c k f):=(by rw[Hid,Bw];simp[h3]);clear D E F G H;go_enter Tryz.func110,Tryz.ntmps110;go_wp2_with fail;go_at_call 137;refine(l1NameOk_any _ _).mono ?_;rintro e q ⟨rfl,a⟩;obtain⟨O,R,S,T,U,P⟩:=N.out q a;rw[h1];go_wp2_with fail;go_at_call 22;refine(Ca _ _ _ _).mono ?_;rintro e w' ⟨rfl,rfl⟩;rw[h3];go_wp2_with fail;go_ret;exact⟨Aq d.out,b.trans (a.mono b.size)⟩
   | true =>
    cases h4:At f.slots (f.params.length:Int) 200 with
    | false =>
     have d:Hid (false=Bw c k f):=(by rw[Hid,Bw];simp[h4]);clear D E F G H;go_enter Tryz.func110,Tryz.ntmps110;go_wp2_with fail;go_at_call 137;refine(l1NameOk_any _ _).mono ?_;rintro e q ⟨rfl,a⟩;obtain⟨O,R,S,T,U,P⟩:=N.out q a;rw[h1];go_wp2_with fail;go_at_call 22;refine(Ca _ _ _ _).mono ?_;rintro e w' ⟨rfl,rfl⟩;rw[h3];go_wp2_with fail;go_at_call 22;refine(Ca _ _ _ _).mono ?_;rintro e w' ⟨rfl,rfl⟩;rw[h4];go_wp2_with fail;go_ret;exact⟨Aq d.out,b.trans (a.mono b.size)⟩
    | true =>
     cases h5:At (f.ins.length:Int) 1 50000 with
     | false =>
      have d:Hid (false=Bw c k f):=(by rw[Hid,Bw];simp[h5]);clear D E F G H;go_enter Tryz.func110,Tryz.ntmps110;go_wp2_with fail;go_at_call 137;refine(l1NameOk_any _ _).mono ?_;rintro e q ⟨rfl,a⟩;obtain⟨O,R,S,T,U,P⟩:=N.out q a;rw[h1];go_wp2_with fail;go_at_call 22;refine(Ca _ _ _ _).mono ?_;rintro e w' ⟨rfl,rfl⟩;rw[h3];go_wp2_with fail;go_at_call 22;refine(Ca _ _ _ _).mono ?_;rintro e w' ⟨rfl,rfl⟩;rw[h4];go_wp2_with fail;go_at_call 22;refine(Ca _ _ _ _).mono ?_;rintro e w' ⟨rfl,rfl⟩;rw[h5];go_wp2_with fail;go_ret;exact⟨Aq d.out,b.trans (a.mono b.size)⟩
     | true =>
      have HR:Hid (Bw c k f=(f.params.all (fun t=>At t 1 10) && !(c.take k).any (fun g=>g.name.toList == f.name.toList))):=(by rw[Hid,Bw,h1,h3,h4,h5];simp[h2]);obtain⟨r,K⟩:∃ r,Hid (Bw c k f=r):=⟨_,(rfl:Bw c k f=_)⟩;rw[K.out];rw[K.out]at HR;clear K;have ad:Hid (∀ i (W:i < f.params.length),∃ L o,pa=some ⟨L,o,none⟩/\L < B/\w.cell? ⟨L,o+i,none⟩=some (.int .i64 f.params[i])):=by
       obtain⟨a',cp,I,hc⟩:=hP;injection I with z e2 e3;subst z;exact hc
      have aa:Hid (∀ i (W:i < c.length),w.cell? ⟨g,i * 5,none⟩=some (.string c[i].name)):=fun i W=>by
       obtain⟨g',_,_,_,_,_,I,_,h,_⟩:=hC.fn i W;injection I with z;injection z with z;injection z with z
       subst z;exact h
      clear hC hP M;clear D E F G H;go_enter Tryz.func110,Tryz.ntmps110;go_wp2_with fail;go_at_call 137;refine(l1NameOk_any _ _).mono ?_;rintro e q ⟨rfl,a⟩;obtain⟨O,R,S,T,U,P⟩:=N.out q a;rw[h1];go_wp2_with fail;go_at_call 22;refine(Ca _ _ _ _).mono ?_;rintro e w' ⟨rfl,rfl⟩;rw[h3];go_wp2_with fail;go_at_call 22;refine(Ca _ _ _ _).mono ?_;rintro e w' ⟨rfl,rfl⟩;rw[h4];go_wp2_with fail;go_at_call 22;refine(Ca _ _ _ _).mono ?_;rintro e w' ⟨rfl,rfl⟩;rw[h5];have C:Below w.heap.size w q:=b.trans (a.mono b.size);clear y0 y1 y2 y3 y4 yc z0 z1 z2 z3 z4 hY A h1 h3 h4 h5;go_wp2_with fail;go_loopw [6] (fun t wr => ∃ i:Nat,i<=f.params.length/\t = .int .i64 (i:Int)/\wr=q/\∀ j (n:j < f.params.length),j < i->At f.params[j] 1 10=true) (fun t _=>f.params.length - (intOf t).toNat);case atStart=>exact⟨0,by omega,rfl,rfl,fun j n h=>by omega⟩
      case round =>
       obtain⟨i,W,rfl,rfl,v⟩:=hrel;by_cases hlt:i < f.params.length
       ·have J:i < f.params.length:=hlt;obtain⟨L,o,rfl,ah,l⟩:=ad.out i J;have z:wr.cell? ⟨L,o+i,none⟩=some (.int .i64 f.params[i]):=(C.cell (p:=⟨L,o+i,none⟩) (by show L < _;omega)).trans l;cases M:At f.params[i] 1 10 with
        | true =>
         have HU:Hid (∀ j (n:j < f.params.length),j < i+1->At f.params[j] 1 10=true):=fun j n h=>by
          by_cases e:j=i
          ·subst e;exact M
          ·exact v j n (by omega)
         generalize f.params[i]=x at *;clear v l;go_wp2_with fail;go_at_call 22;refine(Ca _ _ _ _).mono ?_;rintro e w' ⟨rfl,rfl⟩;rw[M];go_wp2_with fail;go_roundw;case rel=>exact⟨i+1,by omega,by go_num,by first|rfl|trivial,HU.out⟩
         case measure=>simp[intOf];omega
        | false =>
         have d:Hid (false=r):=by
          rw[Hid,HR.out];have:f.params.all (fun t=>At t 1 10)=false:=by
           rw[List.all_eq_false];exact⟨f.params[i],List.getElem_mem J,by simp[M]⟩
          rw[this];rfl
         generalize f.params[i]=x at *;clear v l;go_wp2_with fail;go_at_call 22;refine(Ca _ _ _ _).mono ?_;rintro e w' ⟨rfl,rfl⟩;rw[M];go_wp2_with fail;go_ret;exact⟨Aq d.out,C⟩
       ·have Q:Hid (f.params.all (fun t=>At t 1 10)=true):=by
         rw[Hid,List.all_eq_true];intro x hx;obtain⟨j,n,rfl⟩:=List.mem_iff_getElem.1 hx;exact v j n (by omega)
        clear v;go_wp2_with fail;have af:=a.size;generalize wr=V at *;go_loopw [7] (fun t w2 => ∃ i:Nat,i<=k/\t = .int .i64 (i:Int)/\Below V.heap.size V w2/\∀ j (n:j < c.length),j < i->(c[j].name.toList == f.name.toList)=false) (fun t _=>k - (intOf t).toNat);case atStart=>exact⟨0,by omega,rfl,Below.refl _ _,fun j n h=>by omega⟩
        case round =>
         obtain⟨i,W,rfl,I,v⟩:=hrel;have u:Below w.heap.size w wr:=C.trans (I.mono C.size);have b0:wr.cell? ⟨w.heap.size+1,0,none⟩=some (.string f.name):=(I.cell (p:=⟨w.heap.size+1,0,none⟩) (by show w.heap.size+1 < _;omega)).trans O;have bc:wr.cell? ⟨w.heap.size,0,none⟩=some (.slice (some ⟨g,0,none⟩) c.length y):=(I.cell (p:=⟨w.heap.size,0,none⟩) (by show w.heap.size < _;omega)).trans P;by_cases hlt:i < k
         ·have X:i < c.length:=(by omega);have z:wr.cell? ⟨g,i * 5,none⟩=some (.string c[i].name):=(u.cell (p:=⟨g,i * 5,none⟩) (by show g < _;omega)).trans (aa.out i X);cases hN:(c[i].name.toList == f.name.toList) with
          | false =>
           have HU:Hid (∀ j (n:j < c.length),j < i+1->(c[j].name.toList == f.name.toList)=false):=fun j n h=>by
            by_cases e:j=i
            ·subst e;exact hN
            ·exact v j n (by omega)
           generalize c[i].name=x at *;clear v;go_wp2_with fail;go_quiet (fail);go_wp2_with fail;go_roundw;case rel=>exact⟨i+1,by omega,by go_num,B5 _ I,HU.out⟩
           case measure=>simp[intOf];omega
          | true =>
           have d:Hid (false=r):=by
            rw[Hid,HR.out];have:(c.take k).any (fun g=>g.name.toList == f.name.toList)=true:=by
             rw[List.any_eq_true];exact⟨c[i],List.mem_iff_getElem.2 ⟨i,by rw[List.length_take];omega,List.getElem_take⟩,hN⟩
            rw[this];simp
           generalize c[i].name=x at *;clear v;go_wp2_with fail;go_quiet (fail);go_wp2_with fail;go_ret;exact⟨Aq d.out,B5 _ u⟩
         ·have d:Hid (true=r):=by
           rw[Hid,HR.out,Q.out];have:(c.take k).any (fun g=>g.name.toList == f.name.toList)=false:=by
            rw[List.any_eq_false];intro x hx;obtain⟨j,n,rfl⟩:=List.mem_iff_getElem.1 hx;rw[List.getElem_take];rw[List.length_take]at n;rw[v j (by omega) (by omega)];simp
           rw[this];rfl
          clear v;go_wp2_with fail;go_ret;exact⟨Aq d.out,u⟩
  ·have ae:(8:Int) < (f.params.length:Int):=(by omega);have d:Hid (false=Bw c k f):=(by rw[Hid,Bw];simp[h2]);clear D E F G H;go_enter Tryz.func110,Tryz.ntmps110;go_wp2_with fail;go_at_call 137;refine(l1NameOk_any _ _).mono ?_;rintro e q ⟨rfl,a⟩;obtain⟨O,R,S,T,U,P⟩:=N.out q a;rw[h1];go_wp2_with fail;go_ret;exact⟨Aq d.out,b.trans (a.mono b.size)⟩
theorem Yw (B:Nat) (c:List Ae) (cv:Value) (hcl:c.length<=1048576) (w:World) (hB:B<=w.heap.size) (hC:An B w cv c) :
  Calls Tryz.prog 56 #[.agg #[cv]] w fun e w'=>(∃ m:Int,e = .returned (.int .i64 m)/\(m < 0 ↔ c.any A9=false))/\Below w.heap.size w w':=by
 obtain⟨a,d,rfl,o⟩:=hC;have G:Hid (∀ i (F:i < c.length),∃ g A C,a=some ⟨g,0,none⟩/\g < B/\w.cell? ⟨g,i * 5,none⟩=some (.string c[i].name)/\w.cell? ⟨g,i * 5+1,none⟩=some (.slice A c[i].params.length C)/\w.cell? ⟨g,i * 5+2,none⟩=some (.int .i64 c[i].result)):=fun i F=>by
  obtain⟨g,H,A,C,R,S,q,I,r,s,u,_⟩:=An.fn ⟨a,d,rfl,o⟩ i F;injection q with e1;exact⟨g,A,C,e1,I,r,s,u⟩
 clear o;obtain⟨Z,E⟩:∃ Z,w.alloc (.cells #[.slice a c.length d] 59)=Z:=⟨_,rfl⟩;have n:Below w.heap.size w Z:=by rw[<- E];exact(Below.refl _ w).alloc (Nat.le_refl _) _
 have N:Z.heap.size=w.heap.size+1:=by rw[<- E];exact World.size_alloc _ _
 have P:Z.cell? ⟨w.heap.size,0,none⟩=some (.slice a c.length d):=by rw[<- E];exact Bm w _ _ 0 _ rfl
 go_enter Tryz.func56,Tryz.ntmps56;go_wp2_with fail;go_loopw [3] (fun t w2 => ∃ i:Nat,i<=c.length/\t = .int .i64 (i:Int)/\Below Z.heap.size Z w2/\∀ j (k:j < c.length),j < i->A9 c[j]=false) (fun t _=>c.length - (intOf t).toNat);case atStart=>exact⟨0,by omega,rfl,Below.refl _ _,fun j k h=>by omega⟩
 case round =>
  obtain⟨i,F,rfl,q,z⟩:=hrel;have b:Below w.heap.size w wr:=n.trans (q.mono n.size);have Q:wr.cell? ⟨w.heap.size,0,none⟩=some (.slice a c.length d):=(q.cell (p:=⟨w.heap.size,0,none⟩) (by show w.heap.size < _;omega)).trans P;by_cases hlt:i < c.length
  ·obtain⟨g,A,C,rfl,I,r,s,u⟩:=G.out i hlt;have K:=(b.cell (p:=⟨g,i * 5,none⟩) (by show g < _;omega)).trans r;have L:=(b.cell (p:=⟨g,i * 5+1,none⟩) (by show g < _;omega)).trans s;have M:=(b.cell (p:=⟨g,i * 5+2,none⟩) (by show g < _;omega)).trans u;obtain⟨f,v⟩:∃ f,c[i]=f:=⟨_,rfl⟩;rw[v]at K L M;have D:Hid (A9 f=false->∀ j (k:j < c.length),j < i+1->A9 c[j]=false):=fun hm j k h=>by
    by_cases e:j=i
    ·subst e;rw[v];exact hm
    ·exact z j k (by omega)
   have l:Hid (A9 f=true->((i:Int) < 0 ↔ c.any A9=false)):=fun hm=>by
    refine⟨fun h=>by omega,fun h => ?_⟩;rw[List.any_eq_false]at h;exact absurd (by rw[v];exact hm) (h c[i] (List.getElem_mem hlt))
   clear r s u z v G;go_wp2_with fail;all_goals first
    | (refine⟨⟨i+1,by omega,by go_num,q,D.out (by first|(simp[A9, *];done)|(have y := ‹(f.result == 2)=false›;simp at y;simp[A9,y];done))⟩,by simp[intOf];omega⟩)
    | (go_ret;exact⟨⟨(i:Int),rfl,l.out (by have y := ‹(f.result == 2)=true›;simp at y;simp[A9, *])⟩,b⟩)
  ·have J:Hid ((-1:Int) < 0 ↔ c.any A9=false):=by
    refine⟨fun _ => ?_,fun _=>by omega⟩;rw[List.any_eq_false];intro x O;obtain⟨j,k,rfl⟩:=List.mem_iff_getElem.1 O;rw[z j k (by omega)];simp
   clear z;go_wp2_with fail;go_ret;exact⟨⟨-1,rfl,J.out⟩,b⟩
end Go.Proofs.YtahibkjkpmdhgaaGreatDoor
