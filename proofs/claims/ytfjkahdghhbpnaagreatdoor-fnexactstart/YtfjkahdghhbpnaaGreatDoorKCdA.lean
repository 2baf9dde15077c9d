import Derived.Test.YtfjkahdghhbpnaaGreatDoorRows
import Derived.Test.YtfjkahdghhbpnaaGreatDoorKScanA
import Derived.WalkKit
import Derived.WalkSpells
import Derived.WalkLawsBesides
import Derived.Carry
import Derived.OwnWalk
set_option maxRecDepth 100000
set_option maxHeartbeats 2000000
namespace Go.Proofs.YtfjkahdghhbpnaaGreatDoor
inductive Ap where
 | none:Ap
 | known:List Int->List Int->Ap
 | clash:Ap
deriving DecidableEq
def E2 (s s':List Int):Prop:=s.length=s'.length/\∀ i (h:i < s.length) (h':i < s'.length),s'[i]=0\/s[i]=s'[i]
def Dp : Ap->Ap->Prop
 | .none,_=>True
 | _,.clash=>True
 | .known s k,.known s' k'=>k=k'/\E2 s s'
 | .known _ _,.none=>False
 | .clash,.none=>False
 | .clash,.known _ _=>False
def Bi (s s':List Int):List Int:=List.zipWith (fun a b=>if a=b then a else 0) s s'
def Bd : Ap->Ap->Ap
 | a,.none=>a
 | .clash,_ => .clash
 | .none,b=>b
 | .known _ _,.clash => .clash
 | .known s k,.known s' k'=>if k=k' then .known (Bi s s') k else .clash
def Dl (m:Nat):Ap->Prop
 | .known s _=>s.length=m
 | _=>True
theorem E2.refl (s:List Int):E2 s s:=⟨rfl,fun _ _ _ => .inr rfl⟩
theorem Dp.refl : ∀ a:Ap,Dp a a
 | .none=>trivial
 | .known s _=>⟨rfl,E2.refl s⟩
 | .clash=>trivial
theorem E2.trans {a b c:List Int} (h:E2 a b) (k:E2 b c):E2 a c :=
 ⟨h.1.trans k.1,fun i h1 h2=>by
  rcases k.2 i (by rw[<- h.1];exact h1) h2 with e|e
  ·exact .inl e
  ·rcases h.2 i h1 (by rw[<- h.1];exact h1) with d|d
   ·left;rw[<- e];exact d
   ·right;rw[d,e]⟩
theorem Dp.trans : ∀ {a b c:Ap},Dp a b->Dp b c->Dp a c
 | .none,_,_,_,_=>trivial
 | a,_,.clash,_,_=>by cases a <;> trivial
 | .known _ _,.known _ _,.known _ _,h,k=>⟨h.1.trans k.1,h.2.trans k.2⟩
 | .known _ _,.none,_,h,_=>h.elim
 | .clash,.none,_,h,_=>h.elim
 | .clash,.known _ _,_,h,_=>h.elim
 | .known _ _,.known _ _,.none,_,k=>k.elim
 | .known _ _,.clash,.none,_,k=>k.elim
 | .known _ _,.clash,.known _ _,_,k=>k.elim
 | .clash,.clash,.none,_,k=>k.elim
 | .clash,.clash,.known _ _,_,k=>k.elim
theorem E2.anti {a b:List Int} (h:E2 a b) (k:E2 b a):a=b:=by
 refine List.ext_getElem h.1 (fun i h1 h2 => ?_)
 rcases h.2 i h1 h2 with e|e
 ·rcases k.2 i h2 h1 with c|c
  ·rw[e,c]
  ·exact c.symm
 ·exact e
theorem Dp.anti : ∀ {a b:Ap},Dp a b->Dp b a->a=b
 | .none,.none,_,_=>rfl
 | .none,.known _ _,_,k=>k.elim
 | .none,.clash,_,k=>k.elim
 | .known _ _,.none,h,_=>h.elim
 | .known _ _,.known _ _,h,k=>by rw[h.1,h.2.anti k.2]
 | .known _ _,.clash,_,k=>k.elim
 | .clash,.none,h,_=>h.elim
 | .clash,.known _ _,h,_=>h.elim
 | .clash,.clash,_,_=>rfl
theorem Fd {s s':List Int} (h:s.length=s'.length):(Bi s s').length=s.length:=by
 unfold Bi;rw[List.length_zipWith];omega
theorem J6 {s s':List Int} {i:Nat} (h1:i < s.length) (h2:i < s'.length) (h3:i < (Bi s s').length):(Bi s s')[i]=if s[i]=s'[i] then s[i] else 0:=by
 simp[Bi]
theorem Ui {s s':List Int} (h:s.length=s'.length):E2 s (Bi s s'):=by
 refine⟨(Fd h).symm,fun i h1 h2 => ?_⟩
 rw[J6 h1 (by omega) h2]
 by_cases e:s[i]=s'[i]'(by omega)
 ·right;rw[if_pos e]
 ·left;rw[if_neg e]
theorem Su {s s':List Int} (h:s.length=s'.length):E2 s' (Bi s s'):=by
 refine⟨by rw[Fd h,h],fun i h1 h2 => ?_⟩
 rw[J6 (by omega) h1 h2]
 by_cases e:s[i]'(by omega)=s'[i]
 ·right;rw[if_pos e,e]
 ·left;rw[if_neg e]
theorem Ss {s s' t:List Int} (h:E2 s t) (h':E2 s' t):E2 (Bi s s') t:=by
 have b:s.length=s'.length:=h.1.trans h'.1.symm
 refine⟨by rw[Fd b];exact h.1,fun i h1 h2 => ?_⟩
 rw[Fd b]at h1
 rw[J6 h1 (by omega)]
 rcases h.2 i h1 h2 with e|e
 ·exact .inl e
 ·rcases h'.2 i (by omega) h2 with a|a
  ·exact .inl a
  ·right;rw[if_pos (by rw[e,a]),e]
theorem Oy {m:Nat}:∀ {a b:Ap},Dl m a->Dl m b->Dp a (Bd a b)
 | .none,b,_,_=>by cases b <;> trivial
 | .known s k,.none,_,_=>Dp.refl _
 | .known _ _,.clash,_,_=>trivial
 | .known s k,.known s' k',h,h'=>by
  rw[Bd]
  by_cases e:k=k'
  ·rw[if_pos e];exact⟨rfl,Ui (h.trans h'.symm)⟩
  ·rw[if_neg e];trivial
 | .clash,.none,_,_=>Dp.refl _
 | .clash,.known _ _,_,_=>trivial
 | .clash,.clash,_,_=>trivial
theorem Kv {m:Nat}:∀ {a b:Ap},Dl m a->Dl m b->Dp b (Bd a b)
 | a,.none,_,_=>by cases a <;> trivial
 | .none,.known _ _,_,_=>Dp.refl _
 | .none,.clash,_,_=>trivial
 | .known _ _,.clash,_,_=>trivial
 | .known s k,.known s' k',h,h'=>by
  rw[Bd]
  by_cases e:k=k'
  ·rw[if_pos e];exact⟨e.symm,Su (h.trans h'.symm)⟩
  ·rw[if_neg e];trivial
 | .clash,.known _ _,_,_=>trivial
 | .clash,.clash,_,_=>trivial
theorem U5 : ∀ {a b c:Ap},Dp a c->Dp b c->Dp (Bd a b) c
 | .none,.none,_,_,_=>trivial
 | .none,.known _ _,_,_,k=>k
 | .none,.clash,_,_,k=>k
 | .known _ _,.none,_,h,_=>h
 | .known _ _,.clash,_,_,k=>k
 | .clash,.none,_,h,_=>h
 | .clash,.known _ _,_,h,_=>h
 | .clash,.clash,_,h,_=>h
 | .known _ _,.known _ _,.none,h,_=>h.elim
 | .known s k,.known s' k',.clash,_,_=>by
  rw[Bd]
  by_cases e:k=k'
  ·rw[if_pos e];trivial
  ·rw[if_neg e];trivial
 | .known s k,.known s' k',.known s2 k2,h,h'=>by
  rw[Bd,if_pos (h.1.trans h'.1.symm)]
  exact⟨h.1,Ss h.2 h'.2⟩
theorem Mr {m:Nat}:∀ {a b:Ap},Dl m a->Dl m b->Dl m (Bd a b)
 | .none,.none,_,_=>trivial
 | .none,.known _ _,_,h=>h
 | .none,.clash,_,_=>trivial
 | .known _ _,.none,h,_=>h
 | .known _ _,.clash,_,_=>trivial
 | .clash,.none,_,_=>trivial
 | .clash,.known _ _,_,_=>trivial
 | .clash,.clash,_,_=>trivial
 | .known s k,.known s' k',h,h'=>by
  rw[Bd]
  by_cases e:k=k'
  ·rw[if_pos e];exact(Fd (h.trans h'.symm)).trans h
  ·rw[if_neg e];trivial
def Jy (s:List Int):Nat:=(s.filter (fun a=>a == 0)).length
def Dx (m:Nat):Ap->Nat
 | .none=>0
 | .known s _=>1+Jy s
 | .clash=>m+2
theorem Ri (s:List Int):Jy s<=s.length:=List.length_filter_le _ _
theorem Rj : ∀ {s s':List Int},E2 s s'->Jy s<=Jy s'/\(s≠s'->Jy s < Jy s')
 | [],[],_=>⟨Nat.le_refl _,fun h=>(h rfl).elim⟩
 | [],_::_,h=>by have:=h.1;simp at this
 | _::_,[],h=>by have:=h.1;simp at this
 | a::r,b::r',h=>by
  have f:E2 r r':=⟨by have:=h.1;simpa using this,fun i h1 h2=>by have:=h.2 (i+1) (by simpa using h1) (by simpa using h2);simpa using this⟩
  have c:=Rj f
  have d:=h.2 0 (by simp) (by simp)
  simp only[List.getElem_cons_zero]at d
  unfold Jy at c |-
  rcases d with e|e
  ·subst e
   by_cases ha:a=0
   ·subst ha
    simp only[List.filter_cons,beq_self_eq_true,if_true,List.length_cons]
    refine⟨by omega,fun hne => ?_⟩
    have:=c.2 (fun e=>hne (by rw[e]))
    omega
   ·simp only[List.filter_cons,beq_self_eq_true,if_true,List.length_cons]
    rw[if_neg (by simpa using ha)]
    refine⟨by omega,fun _=>by omega⟩
  ·subst e
   by_cases ha:a=0
   ·subst ha
    simp only[List.filter_cons,beq_self_eq_true,if_true,List.length_cons]
    refine⟨by omega,fun hne => ?_⟩
    have:=c.2 (fun e=>hne (by rw[e]))
    omega
   ·simp only[List.filter_cons]
    rw[if_neg (by simpa using ha),if_neg (by simpa using ha)]
    refine⟨c.1,fun hne=>c.2 (fun e=>hne (by rw[e]))⟩
theorem Xb {m:Nat}:∀ {a:Ap},Dl m a->Dx m a<=m+2
 | .none,_=>by simp[Dx]
 | .known s _,h=>by have:=Ri s;simp only[Dx];have b:s.length=m:=h;omega
 | .clash,_=>by simp[Dx]
theorem Mo {m:Nat}:∀ {a b:Ap},Dl m a->Dl m b->Dp a b->Dx m a<=Dx m b/\(a≠b->Dx m a < Dx m b)
 | .none,.none,_,_,_=>⟨Nat.le_refl _,fun h=>(h rfl).elim⟩
 | .none,.known _ _,_,_,_=>⟨by simp[Dx],fun _=>by simp[Dx];omega⟩
 | .none,.clash,_,_,_=>⟨by simp[Dx],fun _=>by simp[Dx]⟩
 | .known _ _,.none,_,_,h=>h.elim
 | .known s k,.known s' k',_,_,h=>by
  obtain⟨e,c⟩:=h
  subst e
  have:=Rj c
  simp only[Dx]
  exact⟨by omega,fun hne=>by have:=this.2 (fun e=>hne (by rw[e]));omega⟩
 | .known s _,.clash,h,_,_=>by
  have:=Ri s
  have d:s.length=m:=h
  simp only[Dx]
  exact⟨by omega,fun _=>by omega⟩
 | .clash,.none,_,_,h=>h.elim
 | .clash,.known _ _,_,_,h=>h.elim
 | .clash,.clash,_,_,_=>⟨Nat.le_refl _,fun h=>(h rfl).elim⟩
structure Db where
 n:Nat
 m:Nat
 goes:Nat->List Nat
 left:Nat->Ap->Ap
 first:Ap
 mono:∀ u a b,a ≠ .none->Dp a b->Dp (left u a) (left u b)
 keep:∀ u a,Dl m a->Dl m (left u a)
 flen:Dl m first
def Ao (X:List Ap) (u:Nat):Ap:=X.getD u .none
def Qd3 (X Y:List Ap):Prop := ∀ u,Dp (Ao X u) (Ao Y u)
def Qdu (Z:Db) (X:List Ap):Prop := ∀ u,u < Z.n->Ao X u ≠ .none->∀ v ∈ Z.goes u,v < Z.n->Dp (Z.left u (Ao X u)) (Ao X v)
structure I1 (Z:Db) (X:List Ap):Prop where
 size:X.length=Z.n
 stab:Qdu Z X
 first:0 < Z.n->Dp Z.first (Ao X 0)
structure Hc (Z:Db) (X:List Ap):Prop where
 size:X.length=Z.n
 low:∀ Y,I1 Z Y->Qd3 X Y
 lens:∀ u,Dl Z.m (Ao X u)
theorem Et (X:List Ap) (v:Nat) (x:Ap) (u:Nat) (hv:v < X.length):Ao (X.set v x) u=if u=v then x else Ao X u:=by
 unfold Ao
 rw[List.getD_eq_getElem?_getD,List.getElem?_set,List.getD_eq_getElem?_getD]
 by_cases e:u=v
 ·subst e;rw[if_pos rfl,if_pos rfl,if_pos hv];rfl
 ·rw[if_neg (fun h=>e h.symm),if_neg e]
theorem Hc.start (Z:Db):Hc Z (List.replicate Z.n .none):=by
 have a:∀ u,Ao (List.replicate Z.n .none) u = .none:=fun u=>by
  unfold Ao
  rw[List.getD_eq_getElem?_getD,List.getElem?_replicate]
  by_cases e:u < Z.n <;> simp[e]
 exact⟨List.length_replicate,fun Y _ u=>by rw[a];trivial,fun u=>by rw[a];trivial⟩
theorem Hc.come {Z:Db} {X:List Ap} (h:Hc Z X) (v:Nat) (hv:v < Z.n) (b:Ap) (hb:Dl Z.m b) (hlow:∀ Y,I1 Z Y->Dp b (Ao Y v)):Hc Z (X.set v (Bd (Ao X v) b)):=by
 refine⟨by rw[List.length_set];exact h.size,fun Y hY u => ?_,fun u => ?_⟩
 ·rw[Et _ _ _ _ (by rw[h.size];exact hv)]
  by_cases e:u=v
  ·subst e;rw[if_pos rfl];exact U5 (h.low Y hY u) (hlow Y hY)
  ·rw[if_neg e];exact h.low Y hY u
 ·rw[Et _ _ _ _ (by rw[h.size];exact hv)]
  by_cases e:u=v
  ·rw[if_pos e];exact Mr (h.lens v) hb
  ·rw[if_neg e];exact h.lens u
theorem Hc.leaves {Z:Db} {X:List Ap} (h:Hc Z X) (u:Nat) (hu:u < Z.n) (hn:Ao X u ≠ .none) (v:Nat) (hv:v < Z.n) (hg:v ∈ Z.goes u):∀ Y,I1 Z Y->Dp (Z.left u (Ao X u)) (Ao Y v):=by
 intro Y b
 have a:=h.low Y b u
 have c:Ao Y u ≠ .none:=fun e=>by
  rw[e]at a
  cases hx:Ao X u with
  | none=>exact hn hx
  | known s k=>rw[hx]at a;exact a.elim
  | clash=>rw[hx]at a;exact a.elim
 exact(Z.mono u _ _ hn a).trans (b.stab u hu c v hg hv)
theorem Qdd {Z:Db} {X Y:List Ap} (h:Hc Z X) (hX:I1 Z X) (k:Hc Z Y) (hY:I1 Z Y):X=Y:=by
 refine List.ext_getElem (h.size.trans k.size.symm) (fun u h1 h2 => ?_)
 have e:=(h.low Y hY u).anti (k.low X hX u)
 simpa[Ao,List.getD_eq_getElem?_getD,List.getElem?_eq_getElem h1,List.getElem?_eq_getElem h2]using e
def H7 (m:Nat) (X:List Ap):Nat:=(X.map (Dx m)).sum
theorem Oa (m:Nat):∀ (X:List Ap) (v:Nat) (x:Ap) (_:v < X.length),H7 m (X.set v x)+Dx m (Ao X v)=H7 m X+Dx m x
 | [],v,x,h=>by simp at h
 | a::r,0,x,_=>by simp[H7,Ao];omega
 | a::r,v+1,x,h=>by
  have b:=Oa m r v x (by simpa using h)
  simp[H7,Ao]at b |-
  omega
theorem P5 (m:Nat):∀ (X:List Ap) (_:∀ u,Dl m (Ao X u)),H7 m X<=X.length * (m+2)
 | [],_=>by simp[H7]
 | a::r,h=>by
  have c:=P5 m r (fun u=>by have:=h (u+1);simpa[Ao]using this)
  have b:=Xb (h 0)
  simp only[Ao,List.getD_cons_zero]at b
  simp only[H7,List.map_cons,List.sum_cons,List.length_cons,Nat.add_mul]at c |-
  omega
end Go.Proofs.YtfjkahdghhbpnaaGreatDoor
namespace Go.Proofs.YtfjkahdghhbpnaaGreatDoor
structure Ax where
 op:Int
 a:Int
 n:Int
 text:ByteArray
structure Ae where
 name:ByteArray
 params:List Int
 result:Int
 slots:Int
 ins:List Ax
def B1 : Ae:=⟨⟨#[]⟩,[],0,0,[]⟩
def H6 : Ax:=⟨0,0,0,⟨#[]⟩⟩
def A4 (n low high:Int):Bool:=decide (low<=n) && decide (n<=high)
def Cf (t:Int):Bool:=decide (3<=t) && decide (t<=10)
def E8 (op t:Int):Int:=if op=2 then (if t=1 then 1 else 0) else if Cf t=true then t else 0
def Ct (op a b:Int):Int :=
 if a≠b\/a=0 then 0
 else if op=1\/op=2 then (if a=1 then a else 0)
 else if op=3\/op=4 then 1
 else if op=5\/op=6\/op=7\/op=8 then (if a=1 then 0 else 1)
 else if op=9 then (if a=1 then 0 else a)
 else if Cf a=true then a else 0
def By (op:Int):List Int :=
 if op=1\/op=2\/op=3\/op=6\/op=12 then [2]
 else if op=4\/op=9 then [2,2]
 else if op=5 then []
 else if op=7 then [2,10]
 else if op=8 then [2,10,10]
 else if op=10 then [3]
 else [0]
def Dc (op:Int):Int :=
 if op=2 then 1 else if op=6\/op=12\/op=9 then 10 else if op=7 then 3 else 2
def Lp (k h:Int):Bool:=decide (h=k) || (decide (k=0) && Cf h)
def E1 : List Int->List Int->Bool
 | [],[]=>true
 | w::ws,h::hs=>Lp w h && E1 ws hs
 | _,_=>false
def Dw (op:Int) (hs:List Int):Int:=if E1 (By op) hs=true then Dc op else 0
def Bw (c:List Ae) (k:Nat) (f:Ae):Bool :=
 Br f.name && decide (f.params.length<=8) && A4 f.result 0 10 && A4 f.slots (f.params.length:Int) 200 && A4 (f.ins.length:Int) 1 50000
  && f.params.all (fun t=>A4 t 1 10) && !(c.take k).any (fun g=>g.name.toList == f.name.toList)
def C3 (op:Int):Bool:=decide (op=1) || decide (op=2) || decide (op=3) || A4 op 5 12
def At (c:List Ae) (f:Ae) (i:Ax):Bool :=
 if A4 i.op 1 16=false\/(C3 i.op=false/\i.a≠0) then false
 else if i.op=1 then Cn ⟨i.a,i.n,i.text⟩
 else if i.n≠0\/i.text.toList.isEmpty=false then false
 else if i.op=2\/i.op=3 then A4 i.a 0 (f.slots - 1)
 else if i.op=5 then A4 i.a 1 3
 else if i.op=6 then A4 i.a 3 18
 else if i.op=7 then Cf i.a
 else if i.op=8 then A4 i.a 1 12
 else if i.op=9 then A4 i.a 0 ((c.length:Int) - 1)
 else if i.op=10\/i.op=11 then A4 i.a 0 (f.ins.length:Int)
 else if i.op=12 then (decide (i.a=1) && decide (f.result≠0)) || (decide (i.a=0) && decide (f.result=0))
 else true
def Bb (f:Ae):Bool:=(f.name.toList == [109,97,105,110]) && decide (f.params.length=0) && decide (f.result=2)
def F5 (c:List Ae):List Ae->Nat->Option Nat
 | [],_=>none
 | f::r,k=>if Bw c k f=true then F5 c r (k+1) else some k
def C9 (c:List Ae) (f:Ae):List Ax->Nat->Option Nat
 | [],_=>none
 | i::r,at'=>if At c f i=true then C9 c f r (at'+1) else some at'
def Dk (c:List Ae):List Ae->Nat->Option (Nat × Nat)
 | [],_=>none
 | f::r,k=>match C9 c f f.ins 0 with
  | some i=>some (k,i)
  | none=>Dk c r (k+1)
def B6 (c:List Ae):Int × Int × Int :=
 if c.length=0\/60 < c.length then (1,0,0)
 else match F5 c c 0 with
  | some k=>(2,(k:Int),0)
  | none=>match Dk c c 0 with
   | some p=>(3,(p.1:Int),(p.2:Int))
   | none=>if c.any Bb=true then (0,0,0) else (4,0,0)
def Az (k:List Int):Int:=k.getLast?.getD 0
def Ar (k:List Int):Int:=(k.take (k.length - 1)).getLast?.getD 0
def Af (c:List Ae) (f:Ae) (i:Ax) (s k:List Int):Nat × List Int × Bool :=
  if i.op=1 then (0,[i.a],true)
  else if i.op=2 then (0,[s.getD i.a.toNat 0],decide (s.getD i.a.toNat 0≠0))
  else if i.op=3\/i.op=4 then (1,[],decide (0 < k.length))
  else if i.op=5 then (1,[E8 i.a (Az k)],decide (E8 i.a (Az k)≠0))
  else if i.op=6 then (2,[Ct i.a (Ar k) (Az k)],decide (Ct i.a (Ar k) (Az k)≠0))
  else if i.op=7 then (1,[i.a],Cf (Az k))
  else if i.op=8 then
    (if k.length < (By i.a).length then (0,[],false)
     else ((By i.a).length,[Dw i.a (k.drop (k.length - (By i.a).length))],decide (Dw i.a (k.drop (k.length - (By i.a).length))≠0)))
  else if i.op = 9 then
    (if k.length < (c.getD i.a.toNat B1).params.length then (0,[],false)
     else if k.drop (k.length - (c.getD i.a.toNat B1).params.length)=(c.getD i.a.toNat B1).params then
       ((c.getD i.a.toNat B1).params.length,if (c.getD i.a.toNat B1).result=0 then [] else [(c.getD i.a.toNat B1).result],true)
     else (0,[],false))
  else if i.op=11 then (1,[],decide (Az k=1))
  else if i.op=12 then (i.a.toNat,[],decide (i.a=0) || (decide (0 < k.length) && decide (Az k=f.result)))
  else if i.op=13\/i.op=15 then (1,[],decide (Az k=2))
  else if i.op=14 then (2,[],decide (Az k=2) && decide (Ar k=2))
  else (0,[],true)
def A8 (i:Ax) (at':Nat):List Nat :=
 if i.op=12\/i.op=13 then []
 else if i.op=10 then [i.a.toNat]
 else if i.op=11 then [i.a.toNat,at'+1]
 else [at'+1]
def Bn (c:List Ae) (f:Ae) (i:Ax) (at':Nat) (s k:List Int):Ap :=
 if (Af c f i s k).2.2=false\/k.length < (Af c f i s k).1 then .clash
 else if (A8 i at').any (fun v=>decide (f.ins.length<=v))=true then .clash
 else if 600 < (k.take (k.length - (Af c f i s k).1)++(Af c f i s k).2.1).length then .clash
 else .known (if i.op=3 then s.set i.a.toNat (Az k) else s) (k.take (k.length - (Af c f i s k).1)++(Af c f i s k).2.1)
def Cm (c:List Ae) (f:Ae) (at':Nat):Ap->Ap
 | .known s k=>Bn c f (f.ins.getD at' H6) at' s k
 | _ => .clash
theorem E2.getD {s s':List Int} (h:E2 s s') (i:Nat):s'.getD i 0=0\/s.getD i 0=s'.getD i 0:=by
 by_cases hi:i < s.length
 ·have a:i < s'.length:=by rw[<- h.1];exact hi
  simp only[List.getD_eq_getElem?_getD,List.getElem?_eq_getElem hi,List.getElem?_eq_getElem a,Option.getD_some]
  exact h.2 i hi a
 ·left
  rw[List.getD_eq_getElem?_getD,List.getElem?_eq_none (by rw[<- h.1];omega)];rfl
theorem E2.set {s s':List Int} (h:E2 s s') (i:Nat) (t:Int):E2 (s.set i t) (s'.set i t):=by
 refine⟨by simp[h.1],fun j h1 h2 => ?_⟩
 rw[List.getElem_set,List.getElem_set]
 by_cases e:i=j
 ·right;rw[if_pos e,if_pos e]
 ·rw[if_neg e,if_neg e]
  exact h.2 j (by simpa using h1) (by simpa using h2)
theorem Uw (c:List Ae) (f:Ae) (i:Ax) (s s' k:List Int) (h:i.op≠2\/s.getD i.a.toNat 0=s'.getD i.a.toNat 0):Af c f i s k=Af c f i s' k:=by
 by_cases h2:i.op=2
 ·have b:s.getD i.a.toNat 0=s'.getD i.a.toNat 0:=h.resolve_left (fun e=>e h2)
  have a:¬ i.op=1:=by omega
  simp only[Af,if_neg a,if_pos h2,b]
 ·simp only[Af,if_neg h2]
theorem Th (c:List Ae) (f:Ae) (i:Ax) (at':Nat) (s s' k:List Int) (h:E2 s s'):Dp (Bn c f i at' s k) (Bn c f i at' s' k):=by
 by_cases hg:i.op≠2\/s.getD i.a.toNat 0=s'.getD i.a.toNat 0
 ·have e:=Uw c f i s s' k hg
  unfold Bn
  rw[e]
  split
  ·trivial
  ·split
   ·trivial
   ·split
    ·trivial
    ·refine⟨rfl, ?_⟩
     split
     ·exact h.set _ _
     ·exact h
 ·have d:i.op=2:=Classical.byContradiction (fun e=>hg (.inl e))
  have a:s'.getD i.a.toNat 0=0:=(h.getD i.a.toNat).resolve_right (fun e=>hg (.inr e))
  have g:Bn c f i at' s' k = .clash:=by
   have b:¬ i.op=1:=by omega
   unfold Bn
   rw[if_pos]
   left
   simp only[Af,if_neg b,if_pos d,a]
   simp
  rw[g]
  cases Bn c f i at' s k <;> trivial
theorem Sw (c:List Ae) (f:Ae) (u:Nat):∀ a b,a ≠ .none->Dp a b->Dp (Cm c f u a) (Cm c f u b)
 | .none,_,h,_=>(h rfl).elim
 | .known s k,.known s' k',_,h=>by
  obtain⟨rfl,d⟩:=h
  exact Th c f _ u s s' k d
 | .known _ _,.none,_,h=>h.elim
 | .known s k,.clash,_,_=>by
  show Dp _ Ap.clash
  cases Cm c f u (.known s k) <;> trivial
 | .clash,.none,_,h=>h.elim
 | .clash,.known _ _,_,h=>h.elim
 | .clash,.clash,_,_=>trivial
theorem U7 (c:List Ae) (f:Ae) (i:Ax) (at' m:Nat) (s k:List Int) (h:s.length=m):Dl m (Bn c f i at' s k):=by
 unfold Bn
 split
 ·trivial
 ·split
  ·trivial
  ·split
   ·trivial
   ·show List.length _=m
    split
    ·rw[List.length_set];exact h
    ·exact h
theorem Uk (c:List Ae) (f:Ae) (u m:Nat):∀ a,Dl m a->Dl m (Cm c f u a)
 | .none,_=>trivial
 | .known s k,h=>U7 c f _ u m s k h
 | .clash,_=>trivial
def B8 (f:Ae):List Int:=f.params++List.replicate (f.slots.toNat - f.params.length) 0
def Ce (c:List Ae) (f:Ae):Db where
 n:=f.ins.length
 m:=(B8 f).length
 goes:=fun u=>A8 (f.ins.getD u H6) u
 left:=Cm c f
 first:=.known (B8 f) []
 mono:=Sw c f
 keep:=fun u a=>Uk c f u _ a
 flen:=rfl
def Fc (c:List Ae) (f:Ae) (X:List Ap):Prop:=Hc (Ce c f) X/\I1 (Ce c f) X
theorem Fc.one {c:List Ae} {f:Ae} {X Y:List Ap} (h:Fc c f X) (k:Fc c f Y):X=Y:=Qdd h.1 h.2 k.1 k.2
def B7 (c:List Ae) (f:Ae) (X:List Ap) (u:Nat):Bool:=decide (Ao X u ≠ .none) && decide (Cm c f u (Ao X u) = .clash)
def Bt (c:List Ae) (r:Int × Int × Int):Prop :=
  if (B6 c).1≠0 then r=B6 c
  else ∃ XS:List (List Ap),XS.length=c.length/\(∀ k (h:k < c.length) (h':k < XS.length),Fc c c[k] XS[k]) /\
    ((∃ k u,∃ (h:k < c.length) (h':k < XS.length),u < c[k].ins.length/\B7 c c[k] XS[k] u=true/\(∀ j,j < u->B7 c c[k] XS[k] j=false) /\
        (∀ q (hq:q < k) j,j < (c[q]'(by omega)).ins.length->B7 c (c[q]'(by omega)) (XS[q]'(by omega)) j=false)/\r=(5,(k:Int),(u:Int))) \/
     ((∀ q (hq:q < c.length) (hq':q < XS.length) j,j < c[q].ins.length->B7 c c[q] XS[q] j=false)/\r=(0,0,0)))
open Go.RowKit
theorem Eg (t:Int) (w:World):Calls Tryz.prog 133 #[.int .i64 t] w fun e w'=>e = .returned (.bool (Cf t))/\w=w':=Kq t w
theorem C4 {a b:Int} (h:a=b):(Ending.returned (.int .i64 a):Ending) = .returned (.int .i64 b):=by rw[h]
theorem As {a b:Bool} (h:a=b):(Ending.returned (.bool a):Ending) = .returned (.bool b):=by rw[h]
def Al (l:List Int):List Value:=l.map (fun z=>Value.int .i64 z)
theorem O0 {P:Program} {f:FuncId} {args:Array Value} {w:World} {n:Nat} {v:Value}
  (h:Calls P f args (w.drewN n) fun e w'=>e = .returned v/\w.drewN n=w'):Calls P f args (w.drewN n) fun e w''=>e = .returned v/\∃ m,w''=w.drewN m :=
 h.mono fun _ _ ⟨he,hm⟩=>⟨he,n,hm.symm⟩
theorem L9 (b:Bool) (t:Int) (h:Hid (Cf t=b)) (w:World) :
  Calls Tryz.prog 133 #[.int .i64 t] w fun e w'=>e = .returned (.bool b)/\w=w':=by rw[<- h.out];exact Eg t w
theorem Ag (w:World) (o:Obj):(w.alloc o).heap[w.heap.size]? = some o:=(MapKept.heap_alloc w o).1
theorem Bz {B:Nat} {a w:World} (n:Nat) (h:Below B a w):Below B a (w.drewN n):=⟨h.os,h.tape,h.output,h.size,h.block⟩
theorem Ms (op t:Int) (w:World) :
  Calls Tryz.prog 135 #[.int .i64 op,.int .i64 t] w fun e w'=>e = .returned (.int .i64 (E8 op t))/\w=w':=by
 by_cases h20:op=2
 ·subst h20
  have a:((2:Int) == 2)=true:=rfl
  by_cases h1:t=1
  all_goals
   go_enter Tryz.func135,Tryz.ntmps135
   go_wp2
   all_goals go_ret
   all_goals exact⟨C4 (by simp[E8,h1]),rfl⟩
 ·cases hi:Cf t
  all_goals
   go_enter Tryz.func135,Tryz.ntmps135
   go_wp2_with (go_at_call 133;refine(Eg _ _).mono ?_;rintro e w' ⟨rfl,rfl⟩;rw[hi])
   all_goals go_ret
   all_goals exact⟨C4 (by simp[E8,h20,hi]),rfl⟩
theorem Lr (op a b:Int) (w:World) :
  Calls Tryz.prog 136 #[.int .i64 op,.int .i64 a,.int .i64 b] w fun e w'=>e = .returned (.int .i64 (Ct op a b))/\w=w':=by
 by_cases hab:a=b
 ·subst hab
  by_cases ha0:a=0
  ·subst ha0
   go_enter Tryz.func136,Tryz.ntmps136
   go_wp2
   go_ret
   exact⟨C4 (by simp[Ct]),rfl⟩
  ·cases hi:Cf a
   all_goals
    by_cases hop:1<=op/\op<=9
    ·have c:op=1\/op=2\/op=3\/op=4\/op=5\/op=6\/op=7\/op=8\/op=9:=by omega
     by_cases ha1:a=1
     all_goals
      rcases c with rfl|rfl|rfl|rfl|rfl|rfl|rfl|rfl|rfl
      all_goals
       go_enter Tryz.func136,Tryz.ntmps136
       go_wp2
       all_goals go_ret
       all_goals exact⟨C4 (by simp[Ct,ha0,ha1]),rfl⟩
    ·have d:¬ op=1:=by omega
     have f:¬ op=2:=by omega
     have g:¬ op=3:=by omega
     have h:¬ op=4:=by omega
     have i:¬ op=5:=by omega
     have j:¬ op=6:=by omega
     have k:¬ op=7:=by omega
     have l:¬ op=8:=by omega
     have c:¬ op=9:=by omega
     go_enter Tryz.func136,Tryz.ntmps136
     go_wp2_with (go_at_call 133;refine(Eg _ _).mono ?_;rintro e w' ⟨rfl,rfl⟩;rw[hi])
     all_goals go_ret
     all_goals exact⟨C4 (by simp[Ct,ha0,d,f,g,h,i,j,k,l,c,hi]),rfl⟩
 ·have m:(a != b)=true:=by simpa using hab
  go_enter Tryz.func136,Tryz.ntmps136
  go_wp2
  go_ret
  exact⟨C4 (by simp[Ct,hab]),rfl⟩
def Yq (w:World) (v:Value) (hs:List Int):Prop :=
 ∃ a cap,v = .slice a hs.length cap/\∀ i (hi:i < hs.length),∃ g,a=some ⟨g,0,none⟩/\g < w.heap.size/\w.cell? ⟨g,i,none⟩=some (.int .i64 hs[i])
def Ab (B:Nat) (w:World) (v:Value) (hs:List Int):Prop :=
 ∃ a cap,v = .slice a hs.length cap/\∀ i (hi:i < hs.length),∃ g o,a=some ⟨g,o,none⟩/\g < B/\w.cell? ⟨g,o+i,none⟩=some (.int .i64 hs[i])
theorem Ab.below {B:Nat} {w w':World} {v:Value} {ns:List Int} (h:Ab B w v ns) (hb:Below B w w'):Ab B w' v ns:=by
 obtain⟨a,c,rfl,j⟩:=h
 refine⟨a,c,rfl,fun i hi => ?_⟩
 obtain⟨g,o,f,d,b⟩:=j i hi
 exact⟨g,o,f,d,by rw[hb.cell (p:=⟨g,o+i,none⟩) d];exact b⟩
theorem Ab.mono {B C:Nat} {w:World} {v:Value} {ns:List Int} (h:Ab B w v ns) (hb:B<=C):Ab C w v ns:=by
 obtain⟨a,c,rfl,f⟩:=h
 refine⟨a,c,rfl,fun i hi => ?_⟩
 obtain⟨g,o,d,j,b⟩:=f i hi
 exact⟨g,o,d,by omega,b⟩
theorem Ab.own {w:World} {B C:Nat} {v:Value} {hs:List Int} {e:TypeId} (h:w.ownsRow B e 1 v hs.length (Al hs)) (hC:w.heap.size<=C):Ab C w v hs:=by
 rcases h.2 with⟨rfl,d⟩|⟨g,b,c,rfl,f,a,_⟩
 ·exact⟨none,0,by rw[d],fun i hi=>by omega⟩
 ·refine⟨_,_,rfl,fun i hi=>⟨g,0,rfl,Nat.lt_of_lt_of_le (Array.getElem?_eq_some_iff.1 a).1 hC, ?_⟩⟩
  rw[Nat.zero_add,h.cellAt i (by omega)]
  simp[Al,hi]
theorem Ab.new (w:World) (hs:List Int) (t:TypeId) (cap:Nat):Ab (w.heap.size+1) (w.alloc (.cells (Al hs).toArray t)) (.slice (some ⟨w.heap.size,0,none⟩) hs.length cap) hs:=by
 refine⟨_,_,rfl,fun i hi=>⟨w.heap.size,0,rfl,by omega, ?_⟩⟩
 have h:=Ag w (.cells (Al hs).toArray t)
 unfold World.cell?
 simp only[h]
 simp[Al,hi]
theorem Ab.drop {B:Nat} {w:World} {a:Option Addr} {n cap:Nat} {hs:List Int} (h:Ab B w (.slice a n cap) hs) {k:Nat} (hk:k < hs.length):∃ g o,a=some ⟨g,o,none⟩/\n=hs.length/\∀ cap',Ab B w (.slice (some ⟨g,o+k,none⟩) (hs.length - k) cap') (hs.drop k):=by
 obtain⟨m,p,f,d⟩:=h
 injection f with h1 h2 h3
 subst h1 h2
 obtain⟨g,o,rfl,j,_⟩:=d k hk
 refine⟨g,o,rfl,rfl,fun cap'=>⟨_,cap',by rw[List.length_drop],fun i hi => ?_⟩⟩
 have c:k+i < hs.length:=by rw[List.length_drop]at hi;omega
 obtain⟨q,r,e,l,b⟩:=d (k+i) c
 injection e with e;injection e with e1 e2
 subst e1 e2
 refine⟨g,o+k,rfl,j, ?_⟩
 rw[Nat.add_assoc,b,List.getElem_drop]
theorem Dt (w:World) (hs:List Int) (t:TypeId) (cap:Nat):Yq (w.alloc (.cells (Al hs).toArray t)) (.slice (some ⟨w.heap.size,0,none⟩) hs.length cap) hs:=by
 refine⟨_,_,rfl,fun i hi=>⟨w.heap.size,rfl,by rw[World.size_alloc];omega, ?_⟩⟩
 have h:=Ag w (.cells (Al hs).toArray t)
 unfold World.cell?
 simp only[h]
 simp[Al,hi]
theorem Mt (op:Int) (h6:1<=op) (h12:op<=12) (w:World) :
  Calls Tryz.prog 157 #[.int .i64 op] w fun e w'=>(∃ g n,e = .returned (.tuple #[.slice (some ⟨g,0,none⟩) n n,.int .i64 (Dc op)])/\n=(By op).length/\Yq w' (.slice (some ⟨g,0,none⟩) n n) (By op))/\Below w.heap.size w w':=by
 have h:op=1\/op=2\/op=3\/op=4\/op=5\/op=6\/op=7\/op=8\/op=9\/op=10\/op=11\/op=12:=by omega
 rcases h with rfl|rfl|rfl|rfl|rfl|rfl|rfl|rfl|rfl|rfl|rfl|rfl
 all_goals
  go_enter Tryz.func157,Tryz.ntmps157
  go_wp2
 ·go_ret2;exact⟨⟨_,_,rfl,rfl,Dt w [2] _ _⟩,(Below.refl _ w).alloc (Nat.le_refl _) _⟩
 ·go_ret2;exact⟨⟨_,_,rfl,rfl,Dt w [2] _ _⟩,(Below.refl _ w).alloc (Nat.le_refl _) _⟩
 ·go_ret2;exact⟨⟨_,_,rfl,rfl,Dt w [2] _ _⟩,(Below.refl _ w).alloc (Nat.le_refl _) _⟩
 ·go_ret2;exact⟨⟨_,_,rfl,rfl,Dt w [2,2] _ _⟩,(Below.refl _ w).alloc (Nat.le_refl _) _⟩
 ·go_ret2;exact⟨⟨_,_,rfl,rfl,Dt w [] _ _⟩,(Below.refl _ w).alloc (Nat.le_refl _) _⟩
 ·go_ret2;exact⟨⟨_,_,rfl,rfl,Dt w [2] _ _⟩,(Below.refl _ w).alloc (Nat.le_refl _) _⟩
 ·go_ret2;exact⟨⟨_,_,rfl,rfl,Dt w [2,10] _ _⟩,(Below.refl _ w).alloc (Nat.le_refl _) _⟩
 ·go_ret2;exact⟨⟨_,_,rfl,rfl,Dt w [2,10,10] _ _⟩,(Below.refl _ w).alloc (Nat.le_refl _) _⟩
 ·go_ret2;exact⟨⟨_,_,rfl,rfl,Dt w [2,2] _ _⟩,(Below.refl _ w).alloc (Nat.le_refl _) _⟩
 ·go_ret2;exact⟨⟨_,_,rfl,rfl,Dt w [3] _ _⟩,(Below.refl _ w).alloc (Nat.le_refl _) _⟩
 ·go_ret2;exact⟨⟨_,_,rfl,rfl,Dt w [0] _ _⟩,(Below.refl _ w).alloc (Nat.le_refl _) _⟩
 ·go_ret2;exact⟨⟨_,_,rfl,rfl,Dt w [2] _ _⟩,(Below.refl _ w).alloc (Nat.le_refl _) _⟩
theorem Q4 : ∀ (ks hs:List Int),E1 ks hs=true->ks.length=hs.length
 | [],[],_=>rfl
 | [],_::_,h=>by cases h
 | _::_,[],h=>by cases h
 | k::ks,h::hs,e=>by
  rw[E1,Bool.and_eq_true]at e
  simp[Q4 ks hs e.2]
theorem Wu (ks hs:List Int) (i:Nat) (h1:i < ks.length) (h2:i < hs.length):E1 (ks.drop i) (hs.drop i)=(Lp ks[i] hs[i] && E1 (ks.drop (i+1)) (hs.drop (i+1))):=by
 rw[List.drop_eq_getElem_cons h1,List.drop_eq_getElem_cons h2,E1]
theorem Em (op:Int) (h6:1<=op) (h12:op<=12) (v:Value) (hs:List Int) (_hl:hs.length<=1048576) (w:World) (hH:Ab w.heap.size w v hs) :
  Calls Tryz.prog 138 #[.int .i64 op,v] w fun e w'=>e = .returned (.int .i64 (Dw op hs))/\Below w.heap.size w w':=by
 obtain⟨b,x⟩:∃ b,Hid (By op=b):=⟨_,(rfl:By op=_)⟩
 obtain⟨G,M⟩:∃ G,Hid (Dc op=G):=⟨_,(rfl:Dc op=_)⟩
 have U:b.length<=3:=by rw[<- x.out];unfold By;split;simp;split;simp;split;simp;split;simp;split;simp;split <;> simp
 have HT:Hid (Dw op hs=if E1 b hs=true then G else 0):=by rw[Hid,Dw,x.out,M.out]
 rw[HT.out]
 obtain⟨a,aa,rfl,Y⟩:=hH
 have J:Hid (∀ i (Z:i < hs.length),∃ g o,a=some ⟨g,o,none⟩/\g < w.heap.size/\w.cell? ⟨g,o+i,none⟩=some (.int .i64 hs[i])):=Y
 clear Y
 by_cases hle:b.length=hs.length
 ·obtain⟨n,u⟩:∃ n,Hid (hs.length=n):=⟨_,(rfl:hs.length=_)⟩
  have l:Hid (b.length=n):=by rw[Hid,hle,u.out]
  rw[l.out]at U
  clear hle _hl
  obtain⟨r,K⟩:∃ r,Hid ((if E1 b hs=true then G else 0)=r):=⟨_,(rfl:_=_)⟩
  rw[K.out]
  simp only[u.out]
  go_enter Tryz.func138,Tryz.ntmps138
  go_wp2_with (go_at_call 157;(refine(Mt op h6 h12 _).mono ?_;rintro e H ⟨⟨P,m,rfl,D,Q⟩,s⟩;rw[x.out,l.out]at D;subst D;rw[x.out]at Q;rw[M.out]))
  obtain⟨X,ck,C,B⟩:=Q
  have L:Hid (∀ i (Z:i < b.length),∃ g,X=some ⟨g,0,none⟩/\g < H.heap.size/\H.cell? ⟨g,i,none⟩=some (.int .i64 b[i])):=B
  have R:X=some ⟨P,0,none⟩:=by injection C with h1;exact h1.symm
  subst R
  clear B C
  go_loopw [7] (fun t wr => ∃ i:Nat,i<=m/\t = .int .i64 (i:Int)/\E1 (b.drop i) (hs.drop i)=E1 b hs/\Below H.heap.size H wr) (fun t _=>m - (intOf t).toNat)
  case atStart=>exact⟨0,by omega,rfl,rfl,Below.refl _ _⟩
  case round =>
   obtain⟨i,Z,rfl,j,d⟩:=hrel
   have hz:=d.size
   have V:=s.size
   have I:Hid (Below w.heap.size w wr):=s.trans (d.mono V)
   by_cases hlt:i < m
   ·have A:i < hs.length:=by rw[u.out];exact hlt
    have z:i < b.length:=by rw[l.out];exact hlt
    obtain⟨g,o,rfl,hg,f⟩:=J.out i A
    obtain⟨O,y,T,c⟩:=L.out i z
    have S:O=P:=by injection y with h1;injection h1 with h2;exact h2.symm
    subst S
    clear y
    rw[Wu b hs i z A]at j
    have e1:wr.cell? ⟨g,o+i,none⟩=some (.int .i64 hs[i]):=by rw[I.out.cell (p:=⟨g,o+i,none⟩) hg];exact f
    have e2:wr.cell? ⟨O,i,none⟩=some (.int .i64 b[i]):=by rw[d.cell (p:=⟨O,i,none⟩) T];exact c
    generalize hs[i]=h at *
    generalize b[i]=k at *
    clear f c J L
    by_cases hhk:h=k
    ·subst hhk
     have E:(h != h)=false:=by simp
     have q:Hid (E1 (b.drop (i+1)) (hs.drop (i+1))=E1 b hs):=by rw[Hid,<- j,Lp];simp
     clear j
     go_wp2_with fail
     go_quiet (fail)
     go_wp2
     go_roundw
     case rel=>exact⟨i+1,by omega,by go_num,q.out,Bz _ d⟩
     case measure=>simp[intOf];omega
    ·have E:(h != k)=true:=by simp[hhk]
     by_cases hk0:k=0
     ·subst hk0
      have F:((0:Int) != 0)=false:=by simp
      cases hI:Cf h with
      | true =>
       have N:Hid (Cf h=true):=hI
       have q:Hid (E1 (b.drop (i+1)) (hs.drop (i+1))=E1 b hs):=by rw[Hid,<- j,Lp,hI];simp
       clear j hI
       go_wp2_with fail
       go_quiet (first|(go_at_call 133;refine O0 (L9 true _ N _)))
       go_wp2
       go_roundw
       case rel=>exact⟨i+1,by omega,by go_num,q.out,Bz _ d⟩
       case measure=>simp[intOf];omega
      | false =>
       have N:Hid (Cf h=false):=hI
       have q:Hid (0=r):=by rw[Hid,<- K.out,<- j,Lp,hI];simp[hhk]
       clear j hI
       go_wp2_with fail
       go_quiet (first|(go_at_call 133;refine O0 (L9 false _ N _)))
       go_wp2
       go_ret
       exact⟨C4 q.out,Bz _ I.out⟩
     ·have F:(k != 0)=true:=by simp[hk0]
      have q:Hid (0=r):=by rw[Hid,<- K.out,<- j,Lp];simp[hhk,hk0]
      clear j
      go_wp2_with fail
      go_quiet (fail)
      go_wp2
      go_ret
      exact⟨C4 q.out,Bz _ I.out⟩
   ·have q:Hid (G=r):=by rw[Hid,<- K.out,<- j,List.drop_of_length_le (by rw[l.out];omega),List.drop_of_length_le (by rw[u.out];omega)];rfl
    clear j J L
    go_wp2
    go_ret
    exact⟨C4 q.out,I.out⟩
 ·have HF:Hid ((if E1 b hs=true then G else 0)=0):=by
   rw[Hid,if_neg]
   intro h;exact hle (Q4 _ _ h)
  rw[HF.out]
  obtain⟨n,u⟩:∃ n,Hid (hs.length=n):=⟨_,(rfl:hs.length=_)⟩
  obtain⟨m,W⟩:∃ m,Hid (b.length=m):=⟨_,(rfl:b.length=_)⟩
  simp only[u.out]
  rw[u.out,W.out]at hle
  have E:((m:Int) != (n:Int))=true:=by simp;omega
  clear J
  go_enter Tryz.func138,Tryz.ntmps138
  go_wp2_with (go_at_call 157;(refine(Mt op h6 h12 _).mono ?_;rintro e H ⟨⟨P,m',rfl,D,Q⟩,s⟩;rw[x.out,W.out]at D;subst D;rw[M.out]))
  go_ret
  exact⟨rfl,s⟩
def Cz (i:Ax):List Value:=[.int .i64 i.op,.int .i64 i.a,.int .i64 i.n,.string i.text]
def An (i:Ax):Value:=.agg #[.int .i64 i.op,.int .i64 i.a,.int .i64 i.n,.string i.text]
def Ba (B:Nat) (w:World) (v:Value) (l:List Ax):Prop :=
 ∃ a cap,v = .slice a l.length cap/\∀ i (hi:i < l.length),∃ g,a=some ⟨g,0,none⟩/\g < B/\∀ j,j < 4->w.cell? ⟨g,i * 4+j,none⟩=(Cz l[i])[j]?
theorem Ba.below {B:Nat} {w w':World} {v:Value} {l:List Ax} (h:Ba B w v l) (hb:Below B w w'):Ba B w' v l:=by
 obtain⟨a,c,rfl,k⟩:=h
 refine⟨a,c,rfl,fun i hi => ?_⟩
 obtain⟨g,f,d,b⟩:=k i hi
 exact⟨g,f,d,fun j hj=>by rw[hb.cell (p:=⟨g,i * 4+j,none⟩) d];exact b j hj⟩
def Ig (f:Ae) (pv iv:Value):List Value:=[.string f.name,pv,.int .i64 f.result,.int .i64 f.slots,iv]
def Aw (f:Ae) (pv iv:Value):Value:=.agg #[.string f.name,pv,.int .i64 f.result,.int .i64 f.slots,iv]
def Ak (B:Nat) (w:World) (v:Value) (c:List Ae):Prop :=
 ∃ a cap,v = .slice a c.length cap/\∀ k (hk:k < c.length),∃ g pv iv,a=some ⟨g,0,none⟩/\g < B/\(∀ j,j < 5->w.cell? ⟨g,k * 5+j,none⟩=(Ig c[k] pv iv)[j]?)/\Ab B w pv c[k].params/\Ba B w iv c[k].ins
theorem Ak.below {B:Nat} {w w':World} {v:Value} {c:List Ae} (h:Ak B w v c) (hb:Below B w w'):Ak B w' v c:=by
 obtain⟨a,d,rfl,l⟩:=h
 refine⟨a,d,rfl,fun k hk => ?_⟩
 obtain⟨g,q,o,i,f,b,n,m⟩:=l k hk
 exact⟨g,q,o,i,f,fun j hj=>by rw[hb.cell (p:=⟨g,k * 5+j,none⟩) f];exact b j hj,n.below hb,m.below hb⟩
theorem Cs (n low high:Int) (w:World) :
  Calls Tryz.prog 107 #[.int .i64 n,.int .i64 low,.int .i64 high] w fun e w'=>e = .returned (.bool (A4 n low high))/\w=w':=by
 by_cases h1:low<=n
 all_goals
  go_enter Tryz.func107,Tryz.ntmps107
  go_wp2
  all_goals go_ret
  all_goals exact⟨As (by first|(simp[A4,h1];done)|(simp[A4];omega)),rfl⟩
theorem Jt (b:Bool) (n low high:Int) (h:Hid (A4 n low high=b)) (w:World) :
  Calls Tryz.prog 107 #[.int .i64 n,.int .i64 low,.int .i64 high] w fun e w'=>e = .returned (.bool b)/\w=w':=by rw[<- h.out];exact Cs n low high w
theorem Do (op:Int) (w:World) :
  Calls Tryz.prog 131 #[.int .i64 op] w fun e w'=>e = .returned (.bool (C3 op))/\w=w':=by
 by_cases h1:op=1
 ·subst h1
  go_enter Tryz.func131,Tryz.ntmps131
  go_wp2
  go_ret
  exact⟨rfl,rfl⟩
 ·have b:(op == 1)=false:=by simp[h1]
  by_cases h2:op=2
  ·subst h2
   go_enter Tryz.func131,Tryz.ntmps131
   go_wp2
   go_ret
   exact⟨rfl,rfl⟩
  ·have c:(op == 2)=false:=by simp[h2]
   by_cases h3:op=3
   ·subst h3
    go_enter Tryz.func131,Tryz.ntmps131
    go_wp2
    go_ret
    exact⟨rfl,rfl⟩
   ·have d:(op == 3)=false:=by simp[h3]
    have a:Hid (A4 op 5 12=C3 op):=by rw[Hid,C3];simp[h1,h2,h3]
    clear h1 h2 h3
    go_enter Tryz.func131,Tryz.ntmps131
    go_wp2_with (first|(go_at_call 107;refine(Cs _ _ _ _).mono ?_;rintro e w' ⟨rfl,rfl⟩))
    go_ret
    exact⟨As a.out,rfl⟩
theorem Qa4 (b:Bool) (op:Int) (h:Hid (C3 op=b)) (w:World) :
  Calls Tryz.prog 131 #[.int .i64 op] w fun e w'=>e = .returned (.bool b)/\w=w':=by rw[<- h.out];exact Do op w
theorem Hs (w:World) (a b c:Obj):Below w.heap.size w (((w.alloc a).alloc b).alloc c):=(((Below.refl _ w).alloc (Nat.le_refl _) _).alloc (by simp) _).alloc (by simp;omega) _
theorem Qa6 (c:List Ae) (f:Ae) (a n:Int) (text:ByteArray) (cv pv iv:Value) (w:World) :
  Calls Tryz.prog 109 #[.agg #[cv],Aw f pv iv,An ⟨1,a,n,text⟩] w fun e w'=>e = .returned (.bool (At c f ⟨1,a,n,text⟩))/\Below w.heap.size w w':=by
 have b:Hid (A4 1 1 16=true):=(rfl:A4 1 1 16=true)
 have g:Hid (C3 1=true):=(rfl:C3 1=true)
 have h:Hid (Cn ⟨a,n,text⟩=At c f ⟨1,a,n,text⟩):=by rw[Hid,At,if_neg (by simp[b.out,g.out]),if_pos rfl]
 unfold Aw An
 go_enter Tryz.func109,Tryz.ntmps109
 go_wp2_with (first|(go_at_call 107;refine(Jt true _ _ _ b _).mono ?_;rintro e w' ⟨rfl,rfl⟩)|(go_at_call 131;refine(Qa4 true _ g _).mono ?_;rintro e w' ⟨rfl,rfl⟩)|(go_at_call 132;refine(V6 _ _ _ _).mono ?_;rintro e i ⟨rfl,d⟩))
 go_ret
 exact⟨As h.out,(Hs w _ _ _).trans (d.mono (Hs w _ _ _).size)⟩
theorem Ak.fn {B:Nat} {w:World} {v:Value} {c:List Ae} (h:Ak B w v c) (k:Nat) (hk:k < c.length):∃ g d j l f i,v = .slice (some ⟨g,0,none⟩) c.length d/\g < B/\w.cell? ⟨g,k * 5,none⟩=some (.string c[k].name)/\w.cell? ⟨g,k * 5+1,none⟩=some (.slice j c[k].params.length l)/\w.cell? ⟨g,k * 5+2,none⟩=some (.int .i64 c[k].result)/\w.cell? ⟨g,k * 5+3,none⟩=some (.int .i64 c[k].slots)/\w.cell? ⟨g,k * 5+4,none⟩=some (.slice f c[k].ins.length i)/\Ab B w (.slice j c[k].params.length l) c[k].params/\Ba B w (.slice f c[k].ins.length i) c[k].ins:=by
 obtain⟨a,d,rfl,t⟩:=h
 obtain⟨g,A,z,rfl,u,b,y,x⟩:=t k hk
 have o:=b 0 (by omega);have p:=b 1 (by omega);have q:=b 2 (by omega);have r:=b 3 (by omega);have s:=b 4 (by omega)
 simp only[Ig,Nat.add_zero,List.getElem?_cons_zero,List.getElem?_cons_succ]at o p q r s
 obtain⟨j,l,rfl,n⟩:=y
 obtain⟨f,i,rfl,m⟩:=x
 exact⟨g,d,j,l,f,i,rfl,u,o,p,q,r,s,⟨j,l,rfl,n⟩,⟨f,i,rfl,m⟩⟩
theorem Bq (w:World) (xs:Array Value) (t:TypeId) (j n:Nat) (hn:w.heap.size=n):(w.alloc (.cells xs t)).cell? ⟨n,j,none⟩=xs[j]?:=by
 subst hn
 have h:=Ag w (.cells xs t)
 unfold World.cell?
 simp only[h]
 simp
theorem Y4 (B:Nat) (c:List Ae) (cv:Value) (k:Nat) (hk:k < c.length) (hcl:c.length<=1048576) (hpl:c[k].params.length<=1048576) (_hil:c[k].ins.length<=1048576) (w:World) (hB:B<=w.heap.size) (hC:Ak B w cv c) :
  Calls Tryz.prog 108 #[.agg #[cv],.int .i64 (k:Int)] w fun e w'=>e = .returned (.bool (Bw c k c[k]))/\Below w.heap.size w w':=by
 obtain⟨g,y,pa,pc,ia,ic,rfl,hg,D,E,F,G,H,hP,M⟩:=hC.fn k hk
 obtain⟨f,ab⟩:∃ f,Hid (c[k]=f):=⟨_,(rfl:c[k]=_)⟩
 rw[ab.out]at D E F G H hP M hpl _hil |-
 obtain⟨Y,hY⟩:∃ Y,w.alloc (.cells #[.slice (some ⟨g,0,none⟩) c.length y] 38)=Y:=⟨_,rfl⟩
 have m:Below w.heap.size w Y:=by rw[<- hY];exact(Below.refl _ w).alloc (Nat.le_refl _) _
 have s:Y.heap.size=w.heap.size+1:=by rw[<- hY];exact World.size_alloc _ _
 have y0:=(m.cell (p:=⟨g,k * 5,none⟩) (by show g < _;omega)).trans D
 have y1:=(m.cell (p:=⟨g,k * 5+1,none⟩) (by show g < _;omega)).trans E
 have y2:=(m.cell (p:=⟨g,k * 5+2,none⟩) (by show g < _;omega)).trans F
 have y3:=(m.cell (p:=⟨g,k * 5+3,none⟩) (by show g < _;omega)).trans G
 have y4:=(m.cell (p:=⟨g,k * 5+4,none⟩) (by show g < _;omega)).trans H
 have yc:Y.cell? ⟨w.heap.size,0,none⟩=some (.slice (some ⟨g,0,none⟩) c.length y):=by rw[<- hY];exact Bq w _ _ 0 _ rfl
 obtain⟨Z,A⟩:∃ Z,Y.alloc (.cells #[.string f.name,.slice pa f.params.length pc,.int .i64 f.result,.int .i64 f.slots,.slice ia f.ins.length ic] 97)=Z:=⟨_,rfl⟩
 have b:Below w.heap.size w Z:=by rw[<- A];exact m.trans ((Below.refl _ Y).alloc (by omega) _)
 have ag:Z.heap.size=w.heap.size+2:=by rw[<- A,World.size_alloc];omega
 have z0:Z.cell? ⟨w.heap.size+1,0,none⟩=some (.string f.name):=by rw[<- A,Bq Y _ _ 0 _ s];rfl
 have z1:Z.cell? ⟨w.heap.size+1,1,none⟩=some (.slice pa f.params.length pc):=by rw[<- A,Bq Y _ _ 1 _ s];rfl
 have z2:Z.cell? ⟨w.heap.size+1,2,none⟩=some (.int .i64 f.result):=by rw[<- A,Bq Y _ _ 2 _ s];rfl
 have z3:Z.cell? ⟨w.heap.size+1,3,none⟩=some (.int .i64 f.slots):=by rw[<- A,Bq Y _ _ 3 _ s];rfl
 have z4:Z.cell? ⟨w.heap.size+1,4,none⟩=some (.slice ia f.ins.length ic):=by rw[<- A,Bq Y _ _ 4 _ s];rfl
 have N:Hid (∀ w',Below Z.heap.size Z w'->w'.cell? ⟨w.heap.size+1,0,none⟩=some (.string f.name)/\w'.cell? ⟨w.heap.size+1,1,none⟩=some (.slice pa f.params.length pc)/\w'.cell? ⟨w.heap.size+1,2,none⟩=some (.int .i64 f.result)/\w'.cell? ⟨w.heap.size+1,3,none⟩=some (.int .i64 f.slots)/\w'.cell? ⟨w.heap.size+1,4,none⟩=some (.slice ia f.ins.length ic)/\w'.cell? ⟨w.heap.size,0,none⟩=some (.slice (some ⟨g,0,none⟩) c.length y)):=fun w' h=>by
  have e:∀ j,w'.cell? ⟨w.heap.size+1,j,none⟩=Z.cell? ⟨w.heap.size+1,j,none⟩:=fun j=>h.cell (p:=⟨w.heap.size+1,j,none⟩) (by show w.heap.size+1 < _;omega)
  refine⟨(e 0).trans z0,(e 1).trans z1,(e 2).trans z2,(e 3).trans z3,(e 4).trans z4, ?_⟩
  rw[h.cell (p:=⟨w.heap.size,0,none⟩) (by show w.heap.size < _;omega),<- A,Below.cell ((Below.refl Y.heap.size Y).alloc (Nat.le_refl _) _) (p:=⟨w.heap.size,0,none⟩) (by show w.heap.size < _;omega)]
  exact yc
 cases h1:Br f.name with
 | false =>
  have d:Hid (false=Bw c k f):=by rw[Hid,Bw];simp[h1]
  clear D E F G H
  go_enter Tryz.func108,Tryz.ntmps108
  go_wp2_with fail
  go_at_call 130;refine(l1NameOk_any _ _).mono ?_;rintro e q ⟨rfl,a⟩;obtain⟨O,R,S,T,U,P⟩:=N.out q a;rw[h1]
  go_wp2_with fail
  go_ret
  exact⟨As d.out,b.trans (a.mono b.size)⟩
 | true =>
  by_cases h2:f.params.length<=8
  ·cases h3:A4 f.result 0 10 with
   | false =>
    have d:Hid (false=Bw c k f):=by rw[Hid,Bw];simp[h3]
    clear D E F G H
    go_enter Tryz.func108,Tryz.ntmps108
    go_wp2_with fail
    go_at_call 130;refine(l1NameOk_any _ _).mono ?_;rintro e q ⟨rfl,a⟩;obtain⟨O,R,S,T,U,P⟩:=N.out q a;rw[h1]
    go_wp2_with fail
    go_at_call 107;refine(Cs _ _ _ _).mono ?_;rintro e w' ⟨rfl,rfl⟩;rw[h3]
    go_wp2_with fail
    go_ret
    exact⟨As d.out,b.trans (a.mono b.size)⟩
   | true =>
    cases h4:A4 f.slots (f.params.length:Int) 200 with
    | false =>
     have d:Hid (false=Bw c k f):=by rw[Hid,Bw];simp[h4]
     clear D E F G H
     go_enter Tryz.func108,Tryz.ntmps108
     go_wp2_with fail
     go_at_call 130;refine(l1NameOk_any _ _).mono ?_;rintro e q ⟨rfl,a⟩;obtain⟨O,R,S,T,U,P⟩:=N.out q a;rw[h1]
     go_wp2_with fail
     go_at_call 107;refine(Cs _ _ _ _).mono ?_;rintro e w' ⟨rfl,rfl⟩;rw[h3]
     go_wp2_with fail
     go_at_call 107;refine(Cs _ _ _ _).mono ?_;rintro e w' ⟨rfl,rfl⟩;rw[h4]
     go_wp2_with fail
     go_ret
     exact⟨As d.out,b.trans (a.mono b.size)⟩
    | true =>
     cases h5:A4 (f.ins.length:Int) 1 50000 with
     | false =>
      have d:Hid (false=Bw c k f):=by rw[Hid,Bw];simp[h5]
      clear D E F G H
      go_enter Tryz.func108,Tryz.ntmps108
      go_wp2_with fail
      go_at_call 130;refine(l1NameOk_any _ _).mono ?_;rintro e q ⟨rfl,a⟩;obtain⟨O,R,S,T,U,P⟩:=N.out q a;rw[h1]
      go_wp2_with fail
      go_at_call 107;refine(Cs _ _ _ _).mono ?_;rintro e w' ⟨rfl,rfl⟩;rw[h3]
      go_wp2_with fail
      go_at_call 107;refine(Cs _ _ _ _).mono ?_;rintro e w' ⟨rfl,rfl⟩;rw[h4]
      go_wp2_with fail
      go_at_call 107;refine(Cs _ _ _ _).mono ?_;rintro e w' ⟨rfl,rfl⟩;rw[h5]
      go_wp2_with fail
      go_ret
      exact⟨As d.out,b.trans (a.mono b.size)⟩
     | true =>
      have HR:Hid (Bw c k f=(f.params.all (fun t=>A4 t 1 10) && !(c.take k).any (fun g=>g.name.toList == f.name.toList))):=by rw[Hid,Bw,h1,h3,h4,h5];simp[h2]
      obtain⟨r,K⟩:∃ r,Hid (Bw c k f=r):=⟨_,(rfl:Bw c k f=_)⟩
      rw[K.out]
      rw[K.out]at HR
      clear K
      have ad:Hid (∀ i (W:i < f.params.length),∃ L o,pa=some ⟨L,o,none⟩/\L < B/\w.cell? ⟨L,o+i,none⟩=some (.int .i64 f.params[i])):=by
       obtain⟨a',cp,I,hc⟩:=hP
       injection I with z e2 e3
       subst z
       exact hc
      have aa:Hid (∀ i (W:i < c.length),w.cell? ⟨g,i * 5,none⟩=some (.string c[i].name)):=fun i W=>by
       obtain⟨g',_,_,_,_,_,I,_,h,_⟩:=hC.fn i W
       injection I with z;injection z with z;injection z with z
       subst z
       exact h
      clear hC hP M
      clear D E F G H
      go_enter Tryz.func108,Tryz.ntmps108
      go_wp2_with fail
      go_at_call 130;refine(l1NameOk_any _ _).mono ?_;rintro e q ⟨rfl,a⟩;obtain⟨O,R,S,T,U,P⟩:=N.out q a;rw[h1]
      go_wp2_with fail
      go_at_call 107;refine(Cs _ _ _ _).mono ?_;rintro e w' ⟨rfl,rfl⟩;rw[h3]
      go_wp2_with fail
      go_at_call 107;refine(Cs _ _ _ _).mono ?_;rintro e w' ⟨rfl,rfl⟩;rw[h4]
      go_wp2_with fail
      go_at_call 107;refine(Cs _ _ _ _).mono ?_;rintro e w' ⟨rfl,rfl⟩;rw[h5]
      have C:Below w.heap.size w q:=b.trans (a.mono b.size)
      clear y0 y1 y2 y3 y4 yc z0 z1 z2 z3 z4 hY A h1 h3 h4 h5
      go_wp2_with fail
      go_loopw [6] (fun t wr => ∃ i:Nat,i<=f.params.length/\t = .int .i64 (i:Int)/\wr=q/\∀ j (n:j < f.params.length),j < i->A4 f.params[j] 1 10=true) (fun t _=>f.params.length - (intOf t).toNat)
      case atStart=>exact⟨0,by omega,rfl,rfl,fun j n h=>by omega⟩
      case round =>
       obtain⟨i,W,rfl,rfl,v⟩:=hrel
       by_cases hlt:i < f.params.length
       ·have J:i < f.params.length:=hlt
        obtain⟨L,o,rfl,ah,l⟩:=ad.out i J
        have z:wr.cell? ⟨L,o+i,none⟩=some (.int .i64 f.params[i]):=(C.cell (p:=⟨L,o+i,none⟩) (by show L < _;omega)).trans l
        cases M:A4 f.params[i] 1 10 with
        | true =>
         have HU:Hid (∀ j (n:j < f.params.length),j < i+1->A4 f.params[j] 1 10=true):=fun j n h=>by
          by_cases e:j=i
          ·subst e;exact M
          ·exact v j n (by omega)
         generalize f.params[i]=x at *
         clear v l
         go_wp2_with fail
         go_at_call 107;refine(Cs _ _ _ _).mono ?_;rintro e w' ⟨rfl,rfl⟩;rw[M]
         go_wp2_with fail
         go_roundw
         case rel=>exact⟨i+1,by omega,by go_num,by first|rfl|trivial,HU.out⟩
         case measure=>simp[intOf];omega
        | false =>
         have d:Hid (false=r):=by
          rw[Hid,HR.out]
          have:f.params.all (fun t=>A4 t 1 10)=false:=by
           rw[List.all_eq_false];exact⟨f.params[i],List.getElem_mem J,by simp[M]⟩
          rw[this];rfl
         generalize f.params[i]=x at *
         clear v l
         go_wp2_with fail
         go_at_call 107;refine(Cs _ _ _ _).mono ?_;rintro e w' ⟨rfl,rfl⟩;rw[M]
         go_wp2_with fail
         go_ret
         exact⟨As d.out,C⟩
       ·have Q:Hid (f.params.all (fun t=>A4 t 1 10)=true):=by
         rw[Hid,List.all_eq_true]
         intro x hx
         obtain⟨j,n,rfl⟩:=List.mem_iff_getElem.1 hx
         exact v j n (by omega)
        clear v
        go_wp2_with fail
        have af:=a.size
        generalize wr=V at *
        go_loopw [7] (fun t w2 => ∃ i:Nat,i<=k/\t = .int .i64 (i:Int)/\Below V.heap.size V w2/\∀ j (n:j < c.length),j < i->(c[j].name.toList == f.name.toList)=false) (fun t _=>k - (intOf t).toNat)
        case atStart=>exact⟨0,by omega,rfl,Below.refl _ _,fun j n h=>by omega⟩
        case round =>
         obtain⟨i,W,rfl,I,v⟩:=hrel
         have u:Below w.heap.size w wr:=C.trans (I.mono C.size)
         have b0:wr.cell? ⟨w.heap.size+1,0,none⟩=some (.string f.name):=(I.cell (p:=⟨w.heap.size+1,0,none⟩) (by show w.heap.size+1 < _;omega)).trans O
         have bc:wr.cell? ⟨w.heap.size,0,none⟩=some (.slice (some ⟨g,0,none⟩) c.length y):=(I.cell (p:=⟨w.heap.size,0,none⟩) (by show w.heap.size < _;omega)).trans P
         by_cases hlt:i < k
         ·have X:i < c.length:=by omega
          have z:wr.cell? ⟨g,i * 5,none⟩=some (.string c[i].name):=(u.cell (p:=⟨g,i * 5,none⟩) (by show g < _;omega)).trans (aa.out i X)
          cases hN:(c[i].name.toList == f.name.toList) with
          | false =>
           have HU:Hid (∀ j (n:j < c.length),j < i+1->(c[j].name.toList == f.name.toList)=false):=fun j n h=>by
            by_cases e:j=i
            ·subst e;exact hN
            ·exact v j n (by omega)
           generalize c[i].name=x at *
           clear v
           go_wp2_with fail
           go_quiet (fail)
           go_wp2_with fail
           go_roundw
           case rel=>exact⟨i+1,by omega,by go_num,Bz _ I,HU.out⟩
           case measure=>simp[intOf];omega
          | true =>
           have d:Hid (false=r):=by
            rw[Hid,HR.out]
            have:(c.take k).any (fun g=>g.name.toList == f.name.toList)=true:=by
             rw[List.any_eq_true]
             exact⟨c[i],List.mem_iff_getElem.2 ⟨i,by rw[List.length_take];omega,List.getElem_take⟩,hN⟩
            rw[this];simp
           generalize c[i].name=x at *
           clear v
           go_wp2_with fail
           go_quiet (fail)
           go_wp2_with fail
           go_ret
           exact⟨As d.out,Bz _ u⟩
         ·have d:Hid (true=r):=by
           rw[Hid,HR.out,Q.out]
           have:(c.take k).any (fun g=>g.name.toList == f.name.toList)=false:=by
            rw[List.any_eq_false]
            intro x hx
            obtain⟨j,n,rfl⟩:=List.mem_iff_getElem.1 hx
            rw[List.getElem_take]
            rw[List.length_take]at n
            rw[v j (by omega) (by omega)];simp
           rw[this];rfl
          clear v
          go_wp2_with fail
          go_ret
          exact⟨As d.out,u⟩
  ·have ae:(8:Int) < (f.params.length:Int):=by omega
   have d:Hid (false=Bw c k f):=by rw[Hid,Bw];simp[h2]
   clear D E F G H
   go_enter Tryz.func108,Tryz.ntmps108
   go_wp2_with fail
   go_at_call 130;refine(l1NameOk_any _ _).mono ?_;rintro e q ⟨rfl,a⟩;obtain⟨O,R,S,T,U,P⟩:=N.out q a;rw[h1]
   go_wp2_with fail
   go_ret
   exact⟨As d.out,b.trans (a.mono b.size)⟩
theorem Z2 (B:Nat) (c:List Ae) (cv:Value) (hcl:c.length<=1048576) (w:World) (hB:B<=w.heap.size) (hC:Ak B w cv c) :
  Calls Tryz.prog 23 #[.agg #[cv]] w fun e w'=>(∃ m:Int,e = .returned (.int .i64 m)/\(m < 0 ↔ c.any Bb=false))/\Below w.heap.size w w':=by
 obtain⟨a,d,rfl,o⟩:=hC
 have G:Hid (∀ i (F:i < c.length),∃ g A C,a=some ⟨g,0,none⟩/\g < B/\w.cell? ⟨g,i * 5,none⟩=some (.string c[i].name)/\w.cell? ⟨g,i * 5+1,none⟩=some (.slice A c[i].params.length C)/\w.cell? ⟨g,i * 5+2,none⟩=some (.int .i64 c[i].result)):=fun i F=>by
  obtain⟨g,H,A,C,R,S,q,I,r,s,u,_⟩:=Ak.fn ⟨a,d,rfl,o⟩ i F
  injection q with e1
  exact⟨g,A,C,e1,I,r,s,u⟩
 clear o
 obtain⟨Z,E⟩:∃ Z,w.alloc (.cells #[.slice a c.length d] 38)=Z:=⟨_,rfl⟩
 have n:Below w.heap.size w Z:=by rw[<- E];exact(Below.refl _ w).alloc (Nat.le_refl _) _
 have N:Z.heap.size=w.heap.size+1:=by rw[<- E];exact World.size_alloc _ _
 have P:Z.cell? ⟨w.heap.size,0,none⟩=some (.slice a c.length d):=by rw[<- E];exact Bq w _ _ 0 _ rfl
 go_enter Tryz.func23,Tryz.ntmps23
 go_wp2_with fail
 go_loopw [3] (fun t w2 => ∃ i:Nat,i<=c.length/\t = .int .i64 (i:Int)/\Below Z.heap.size Z w2/\∀ j (k:j < c.length),j < i->Bb c[j]=false) (fun t _=>c.length - (intOf t).toNat)
 case atStart=>exact⟨0,by omega,rfl,Below.refl _ _,fun j k h=>by omega⟩
 case round =>
  obtain⟨i,F,rfl,q,z⟩:=hrel
  have b:Below w.heap.size w wr:=n.trans (q.mono n.size)
  have Q:wr.cell? ⟨w.heap.size,0,none⟩=some (.slice a c.length d):=(q.cell (p:=⟨w.heap.size,0,none⟩) (by show w.heap.size < _;omega)).trans P
  by_cases hlt:i < c.length
  ·obtain⟨g,A,C,rfl,I,r,s,u⟩:=G.out i hlt
   have K:=(b.cell (p:=⟨g,i * 5,none⟩) (by show g < _;omega)).trans r
   have L:=(b.cell (p:=⟨g,i * 5+1,none⟩) (by show g < _;omega)).trans s
   have M:=(b.cell (p:=⟨g,i * 5+2,none⟩) (by show g < _;omega)).trans u
   obtain⟨f,v⟩:∃ f,c[i]=f:=⟨_,rfl⟩
   rw[v]at K L M
   have D:Hid (Bb f=false->∀ j (k:j < c.length),j < i+1->Bb c[j]=false):=fun hm j k h=>by
    by_cases e:j=i
    ·subst e;rw[v];exact hm
    ·exact z j k (by omega)
   have l:Hid (Bb f=true->((i:Int) < 0 ↔ c.any Bb=false)):=fun hm=>by
    refine⟨fun h=>by omega,fun h => ?_⟩
    rw[List.any_eq_false]at h
    exact absurd (by rw[v];exact hm) (h c[i] (List.getElem_mem hlt))
   clear r s u z v G
   go_wp2_with fail
   all_goals first
    | (refine⟨⟨i+1,by omega,by go_num,q,D.out (by first|(simp[Bb, *];done)|(have y := ‹(f.result == 2)=false›;simp at y;simp[Bb,y];done))⟩,by simp[intOf];omega⟩)
    | (go_ret;exact⟨⟨(i:Int),rfl,l.out (by have y := ‹(f.result == 2)=true›;simp at y;simp[Bb, *])⟩,b⟩)
  ·have J:Hid ((-1:Int) < 0 ↔ c.any Bb=false):=by
    refine⟨fun _ => ?_,fun _=>by omega⟩
    rw[List.any_eq_false]
    intro x O
    obtain⟨j,k,rfl⟩:=List.mem_iff_getElem.1 O
    rw[z j k (by omega)];simp
   clear z
   go_wp2_with fail
   go_ret
   exact⟨⟨-1,rfl,J.out⟩,b⟩
end Go.Proofs.YtfjkahdghhbpnaaGreatDoor
