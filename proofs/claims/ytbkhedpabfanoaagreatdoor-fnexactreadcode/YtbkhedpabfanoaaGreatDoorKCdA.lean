import Derived.Test.YtbkhedpabfanoaaGreatDoorRows
import Derived.Test.YtbkhedpabfanoaaGreatDoorKScanA
import Derived.WalkKit
import Derived.WalkSpells
import Derived.WalkLawsBesides
import Derived.Carry
import Derived.OwnWalk
namespace Go.Proofs.YtbkhedpabfanoaaGreatDoor


inductive Cd.Sh where
  | none:Cd.Sh
  | known:List Int→List Int→Cd.Sh
  | clash:Cd.Sh
deriving DecidableEq
def Cd.leL (s s':List Int):Prop:=s.length=s'.length∧∀ i (h:i < s.length) (h':i < s'.length),s'[i]=0∨s[i]=s'[i]
def Cd.le : Cd.Sh→Cd.Sh→Prop
  | .none,_=>True
  | _,.clash=>True
  | .known s k,.known s' k'=>k=k'∧Cd.leL s s'
  | .known _ _,.none=>False
  | .clash,.none=>False
  | .clash,.known _ _=>False
def Cd.agree (s s':List Int):List Int:=List.zipWith (fun a b=>if a=b then a else 0) s s'
def Cd.join : Cd.Sh→Cd.Sh→Cd.Sh
  | a,.none=>a
  | .clash,_ => .clash
  | .none,b=>b
  | .known _ _,.clash => .clash
  | .known s k,.known s' k'=>if k=k' then .known (Cd.agree s s') k else .clash
def Cd.len (m:Nat):Cd.Sh→Prop
  | .known s _=>s.length=m
  | _=>True
theorem Cd.leL.refl (s:List Int):Cd.leL s s:=⟨rfl,fun _ _ _ => .inr rfl⟩
theorem Cd.le.refl : ∀ a:Cd.Sh,Cd.le a a
  | .none=>trivial
  | .known s _=>⟨rfl,Cd.leL.refl s⟩
  | .clash=>trivial
theorem Cd.leL.trans {a b c:List Int} (h:Cd.leL a b) (k:Cd.leL b c):Cd.leL a c :=
  ⟨h.1.trans k.1,fun i h1 h2=>by
    rcases k.2 i (by rw [← h.1];exact h1) h2 with e | e
    · exact .inl e
    · rcases h.2 i h1 (by rw [← h.1];exact h1) with e2 | e2
      · left;rw [← e];exact e2
      · right;rw [e2,e]⟩
theorem Cd.le.trans : ∀ {a b c:Cd.Sh},Cd.le a b→Cd.le b c→Cd.le a c
  | .none,_,_,_,_=>trivial
  | a,_,.clash,_,_=>by cases a <;> trivial
  | .known _ _,.known _ _,.known _ _,h,k=>⟨h.1.trans k.1,h.2.trans k.2⟩
  | .known _ _,.none,_,h,_=>h.elim
  | .clash,.none,_,h,_=>h.elim
  | .clash,.known _ _,_,h,_=>h.elim
  | .known _ _,.known _ _,.none,_,k=>k.elim
  | .known _ _,.clash,.none,_,k=>k.elim
  | .known _ _,.clash,.known _ _,_,k=>k.elim
  | .clash,.clash,.none,_,k=>k.elim
  | .clash,.clash,.known _ _,_,k=>k.elim
theorem Cd.leL.anti {a b:List Int} (h:Cd.leL a b) (k:Cd.leL b a):a=b:=by
  refine List.ext_getElem h.1 (fun i h1 h2 => ?_)
  rcases h.2 i h1 h2 with e | e
  · rcases k.2 i h2 h1 with e2 | e2
    · rw [e,e2]
    · exact e2.symm
  · exact e
theorem Cd.le.anti : ∀ {a b:Cd.Sh},Cd.le a b→Cd.le b a→a=b
  | .none,.none,_,_=>rfl
  | .none,.known _ _,_,k=>k.elim
  | .none,.clash,_,k=>k.elim
  | .known _ _,.none,h,_=>h.elim
  | .known _ _,.known _ _,h,k=>by rw [h.1,h.2.anti k.2]
  | .known _ _,.clash,_,k=>k.elim
  | .clash,.none,h,_=>h.elim
  | .clash,.known _ _,h,_=>h.elim
  | .clash,.clash,_,_=>rfl
theorem Cd.agree_len {s s':List Int} (h:s.length=s'.length):(Cd.agree s s').length=s.length:=by
  unfold Cd.agree;rw [List.length_zipWith];omega
theorem Cd.agree_at {s s':List Int} {i:Nat} (h1:i < s.length) (h2:i < s'.length) (h3:i < (Cd.agree s s').length):(Cd.agree s s')[i]=if s[i]=s'[i] then s[i] else 0:=by
  simp [Cd.agree]
theorem Cd.agree_left {s s':List Int} (h:s.length=s'.length):Cd.leL s (Cd.agree s s'):=by
  refine ⟨(Cd.agree_len h).symm,fun i h1 h2 => ?_⟩
  rw [Cd.agree_at h1 (by omega) h2]
  by_cases e:s[i]=s'[i]'(by omega)
  · right;rw [if_pos e]
  · left;rw [if_neg e]
theorem Cd.agree_right {s s':List Int} (h:s.length=s'.length):Cd.leL s' (Cd.agree s s'):=by
  refine ⟨by rw [Cd.agree_len h,h],fun i h1 h2 => ?_⟩
  rw [Cd.agree_at (by omega) h1 h2]
  by_cases e:s[i]'(by omega)=s'[i]
  · right;rw [if_pos e,e]
  · left;rw [if_neg e]
theorem Cd.agree_least {s s' t:List Int} (h:Cd.leL s t) (h':Cd.leL s' t):Cd.leL (Cd.agree s s') t:=by
  have hl:s.length=s'.length:=h.1.trans h'.1.symm
  refine ⟨by rw [Cd.agree_len hl];exact h.1,fun i h1 h2 => ?_⟩
  rw [Cd.agree_len hl] at h1
  rw [Cd.agree_at h1 (by omega)]
  rcases h.2 i h1 h2 with e | e
  · exact .inl e
  · rcases h'.2 i (by omega) h2 with e2 | e2
    · exact .inl e2
    · right;rw [if_pos (by rw [e,e2]),e]
theorem Cd.join_left {m:Nat}:∀ {a b:Cd.Sh},Cd.len m a→Cd.len m b→Cd.le a (Cd.join a b)
  | .none,b,_,_=>by cases b <;> trivial
  | .known s k,.none,_,_=>Cd.le.refl _
  | .known _ _,.clash,_,_=>trivial
  | .known s k,.known s' k',h,h'=>by
    rw [Cd.join]
    by_cases e:k=k'
    · rw [if_pos e];exact ⟨rfl,Cd.agree_left (h.trans h'.symm)⟩
    · rw [if_neg e];trivial
  | .clash,.none,_,_=>Cd.le.refl _
  | .clash,.known _ _,_,_=>trivial
  | .clash,.clash,_,_=>trivial
theorem Cd.join_right {m:Nat}:∀ {a b:Cd.Sh},Cd.len m a→Cd.len m b→Cd.le b (Cd.join a b)
  | a,.none,_,_=>by cases a <;> trivial
  | .none,.known _ _,_,_=>Cd.le.refl _
  | .none,.clash,_,_=>trivial
  | .known _ _,.clash,_,_=>trivial
  | .known s k,.known s' k',h,h'=>by
    rw [Cd.join]
    by_cases e:k=k'
    · rw [if_pos e];exact ⟨e.symm,Cd.agree_right (h.trans h'.symm)⟩
    · rw [if_neg e];trivial
  | .clash,.known _ _,_,_=>trivial
  | .clash,.clash,_,_=>trivial
theorem Cd.join_least : ∀ {a b c:Cd.Sh},Cd.le a c→Cd.le b c→Cd.le (Cd.join a b) c
  | .none,.none,_,_,_=>trivial
  | .none,.known _ _,_,_,k=>k
  | .none,.clash,_,_,k=>k
  | .known _ _,.none,_,h,_=>h
  | .known _ _,.clash,_,_,k=>k
  | .clash,.none,_,h,_=>h
  | .clash,.known _ _,_,h,_=>h
  | .clash,.clash,_,h,_=>h
  | .known _ _,.known _ _,.none,h,_=>h.elim
  | .known s k,.known s' k',.clash,_,_=>by
    rw [Cd.join]
    by_cases e:k=k'
    · rw [if_pos e];trivial
    · rw [if_neg e];trivial
  | .known s k,.known s' k',.known s2 k2,h,h'=>by
    rw [Cd.join,if_pos (h.1.trans h'.1.symm)]
    exact ⟨h.1,Cd.agree_least h.2 h'.2⟩
theorem Cd.join_len {m:Nat}:∀ {a b:Cd.Sh},Cd.len m a→Cd.len m b→Cd.len m (Cd.join a b)
  | .none,.none,_,_=>trivial
  | .none,.known _ _,_,h=>h
  | .none,.clash,_,_=>trivial
  | .known _ _,.none,h,_=>h
  | .known _ _,.clash,_,_=>trivial
  | .clash,.none,_,_=>trivial
  | .clash,.known _ _,_,_=>trivial
  | .clash,.clash,_,_=>trivial
  | .known s k,.known s' k',h,h'=>by
    rw [Cd.join]
    by_cases e:k=k'
    · rw [if_pos e];exact (Cd.agree_len (h.trans h'.symm)).trans h
    · rw [if_neg e];trivial
def Cd.zeros (s:List Int):Nat:=(s.filter (fun a=>a == 0)).length
def Cd.height (m:Nat):Cd.Sh→Nat
  | .none=>0
  | .known s _=>1+Cd.zeros s
  | .clash=>m+2
theorem Cd.zeros_le (s:List Int):Cd.zeros s≤s.length:=List.length_filter_le _ _
theorem Cd.zeros_lt : ∀ {s s':List Int},Cd.leL s s'→Cd.zeros s≤Cd.zeros s'∧(s≠s'→Cd.zeros s < Cd.zeros s')
  | [],[],_=>⟨Nat.le_refl _,fun h=>(h rfl).elim⟩
  | [],_::_,h=>by have:=h.1;simp at this
  | _::_,[],h=>by have:=h.1;simp at this
  | a::r,b::r',h=>by
    have hr:Cd.leL r r':=⟨by have:=h.1;simpa using this,fun i h1 h2=>by have:=h.2 (i+1) (by simpa using h1) (by simpa using h2);simpa using this⟩
    have ih:=Cd.zeros_lt hr
    have h0:=h.2 0 (by simp) (by simp)
    simp only [List.getElem_cons_zero] at h0
    unfold Cd.zeros at ih ⊢
    rcases h0 with e | e
    · subst e
      by_cases ha:a=0
      · subst ha
        simp only [List.filter_cons,beq_self_eq_true,if_true,List.length_cons]
        refine ⟨by omega,fun hne => ?_⟩
        have:=ih.2 (fun e=>hne (by rw [e]))
        omega
      · simp only [List.filter_cons,beq_self_eq_true,if_true,List.length_cons]
        rw [if_neg (by simpa using ha)]
        refine ⟨by omega,fun _=>by omega⟩
    · subst e
      by_cases ha:a=0
      · subst ha
        simp only [List.filter_cons,beq_self_eq_true,if_true,List.length_cons]
        refine ⟨by omega,fun hne => ?_⟩
        have:=ih.2 (fun e=>hne (by rw [e]))
        omega
      · simp only [List.filter_cons]
        rw [if_neg (by simpa using ha),if_neg (by simpa using ha)]
        refine ⟨ih.1,fun hne=>ih.2 (fun e=>hne (by rw [e]))⟩
theorem Cd.height_le {m:Nat}:∀ {a:Cd.Sh},Cd.len m a→Cd.height m a≤m+2
  | .none,_=>by simp [Cd.height]
  | .known s _,h=>by have:=Cd.zeros_le s;simp only [Cd.height];have h2:s.length=m:=h;omega
  | .clash,_=>by simp [Cd.height]
theorem Cd.height_mono {m:Nat}:∀ {a b:Cd.Sh},Cd.len m a→Cd.len m b→Cd.le a b→Cd.height m a≤Cd.height m b∧(a≠b→Cd.height m a < Cd.height m b)
  | .none,.none,_,_,_=>⟨Nat.le_refl _,fun h=>(h rfl).elim⟩
  | .none,.known _ _,_,_,_=>⟨by simp [Cd.height],fun _=>by simp [Cd.height];omega⟩
  | .none,.clash,_,_,_=>⟨by simp [Cd.height],fun _=>by simp [Cd.height]⟩
  | .known _ _,.none,_,_,h=>h.elim
  | .known s k,.known s' k',_,_,h=>by
    obtain ⟨e,hl⟩:=h
    subst e
    have:=Cd.zeros_lt hl
    simp only [Cd.height]
    exact ⟨by omega,fun hne=>by have:=this.2 (fun e=>hne (by rw [e]));omega⟩
  | .known s _,.clash,h,_,_=>by
    have:=Cd.zeros_le s
    have h2:s.length=m:=h
    simp only [Cd.height]
    exact ⟨by omega,fun _=>by omega⟩
  | .clash,.none,_,_,h=>h.elim
  | .clash,.known _ _,_,_,h=>h.elim
  | .clash,.clash,_,_,_=>⟨Nat.le_refl _,fun h=>(h rfl).elim⟩
structure Cd.Sys where
  n:Nat
  m:Nat
  goes:Nat→List Nat
  left:Nat→Cd.Sh→Cd.Sh
  first:Cd.Sh
  mono:∀ u a b,a ≠ .none→Cd.le a b→Cd.le (left u a) (left u b)
  keep:∀ u a,Cd.len m a→Cd.len m (left u a)
  flen:Cd.len m first
def Cd.at' (X:List Cd.Sh) (u:Nat):Cd.Sh:=X.getD u .none
def Cd.leX (X Y:List Cd.Sh):Prop := ∀ u,Cd.le (Cd.at' X u) (Cd.at' Y u)
def Cd.Stab (Z:Cd.Sys) (X:List Cd.Sh):Prop := ∀ u,u < Z.n→Cd.at' X u ≠ .none→∀ v ∈ Z.goes u,v < Z.n→Cd.le (Z.left u (Cd.at' X u)) (Cd.at' X v)
structure Cd.Fix (Z:Cd.Sys) (X:List Cd.Sh):Prop where
  size:X.length=Z.n
  stab:Cd.Stab Z X
  first:0 < Z.n→Cd.le Z.first (Cd.at' X 0)
structure Cd.Low (Z:Cd.Sys) (X:List Cd.Sh):Prop where
  size:X.length=Z.n
  low:∀ Y,Cd.Fix Z Y→Cd.leX X Y
  lens:∀ u,Cd.len Z.m (Cd.at' X u)
theorem Cd.at_set (X:List Cd.Sh) (v:Nat) (x:Cd.Sh) (u:Nat) (hv:v < X.length):Cd.at' (X.set v x) u=if u=v then x else Cd.at' X u:=by
  unfold Cd.at'
  rw [List.getD_eq_getElem?_getD,List.getElem?_set,List.getD_eq_getElem?_getD]
  by_cases e:u=v
  · subst e;rw [if_pos rfl,if_pos rfl,if_pos hv];rfl
  · rw [if_neg (fun h=>e h.symm),if_neg e]
theorem Cd.Low.start (Z:Cd.Sys):Cd.Low Z (List.replicate Z.n .none):=by
  have h0:∀ u,Cd.at' (List.replicate Z.n .none) u = .none:=fun u=>by
    unfold Cd.at'
    rw [List.getD_eq_getElem?_getD,List.getElem?_replicate]
    by_cases e:u < Z.n <;> simp [e]
  exact ⟨List.length_replicate,fun Y _ u=>by rw [h0];trivial,fun u=>by rw [h0];trivial⟩
theorem Cd.Low.come {Z:Cd.Sys} {X:List Cd.Sh} (h:Cd.Low Z X) (v:Nat) (hv:v < Z.n) (b:Cd.Sh) (hb:Cd.len Z.m b) (hlow:∀ Y,Cd.Fix Z Y→Cd.le b (Cd.at' Y v)):Cd.Low Z (X.set v (Cd.join (Cd.at' X v) b)):=by
  refine ⟨by rw [List.length_set];exact h.size,fun Y hY u => ?_,fun u => ?_⟩
  · rw [Cd.at_set _ _ _ _ (by rw [h.size];exact hv)]
    by_cases e:u=v
    · subst e;rw [if_pos rfl];exact Cd.join_least (h.low Y hY u) (hlow Y hY)
    · rw [if_neg e];exact h.low Y hY u
  · rw [Cd.at_set _ _ _ _ (by rw [h.size];exact hv)]
    by_cases e:u=v
    · rw [if_pos e];exact Cd.join_len (h.lens v) hb
    · rw [if_neg e];exact h.lens u
theorem Cd.Low.leaves {Z:Cd.Sys} {X:List Cd.Sh} (h:Cd.Low Z X) (u:Nat) (hu:u < Z.n) (hn:Cd.at' X u ≠ .none) (v:Nat) (hv:v < Z.n) (hg:v ∈ Z.goes u):∀ Y,Cd.Fix Z Y→Cd.le (Z.left u (Cd.at' X u)) (Cd.at' Y v):=by
  intro Y hY
  have h1:=h.low Y hY u
  have h2:Cd.at' Y u ≠ .none:=fun e=>by
    rw [e] at h1
    cases hx:Cd.at' X u with
    | none=>exact hn hx
    | known s k=>rw [hx] at h1;exact h1.elim
    | clash=>rw [hx] at h1;exact h1.elim
  exact (Z.mono u _ _ hn h1).trans (hY.stab u hu h2 v hg hv)
theorem Cd.least {Z:Cd.Sys} {X Y:List Cd.Sh} (h:Cd.Low Z X) (hX:Cd.Fix Z X) (k:Cd.Low Z Y) (hY:Cd.Fix Z Y):X=Y:=by
  refine List.ext_getElem (h.size.trans k.size.symm) (fun u h1 h2 => ?_)
  have e:=(h.low Y hY u).anti (k.low X hX u)
  simpa [Cd.at',List.getD_eq_getElem?_getD,List.getElem?_eq_getElem h1,List.getElem?_eq_getElem h2] using e
def Cd.sum (m:Nat) (X:List Cd.Sh):Nat:=(X.map (Cd.height m)).sum
theorem Cd.sum_set (m:Nat):∀ (X:List Cd.Sh) (v:Nat) (x:Cd.Sh) (_:v < X.length),Cd.sum m (X.set v x)+Cd.height m (Cd.at' X v)=Cd.sum m X+Cd.height m x
  | [],v,x,h=>by simp at h
  | a::r,0,x,_=>by simp [Cd.sum,Cd.at'];omega
  | a::r,v+1,x,h=>by
    have ih:=Cd.sum_set m r v x (by simpa using h)
    simp [Cd.sum,Cd.at'] at ih ⊢
    omega
theorem Cd.sum_le (m:Nat):∀ (X:List Cd.Sh) (_:∀ u,Cd.len m (Cd.at' X u)),Cd.sum m X≤X.length * (m+2)
  | [],_=>by simp [Cd.sum]
  | a::r,h=>by
    have ih:=Cd.sum_le m r (fun u=>by have:=h (u+1);simpa [Cd.at'] using this)
    have h0:=Cd.height_le (h 0)
    simp only [Cd.at',List.getD_cons_zero] at h0
    simp only [Cd.sum,List.map_cons,List.sum_cons,List.length_cons,Nat.add_mul] at ih ⊢
    omega
end Go.Proofs.YtbkhedpabfanoaaGreatDoor
namespace Go.Proofs.YtbkhedpabfanoaaGreatDoor

structure Cd.Ins where
  op:Int
  a:Int
  n:Int
  text:ByteArray
structure Cd.Fn where
  name:ByteArray
  params:List Int
  result:Int
  slots:Int
  ins:List Cd.Ins
def Cd.noFn : Cd.Fn:=⟨⟨#[]⟩,[],0,0,[]⟩
def Cd.noIns : Cd.Ins:=⟨0,0,0,⟨#[]⟩⟩
def Cd.inR (n low high:Int):Bool:=decide (low≤n) && decide (n≤high)
def Cd.isInt (t:Int):Bool:=decide (3≤t) && decide (t≤10)
def Cd.un (op t:Int):Int:=if op=2 then (if t=1 then 1 else 0) else if Cd.isInt t=true then t else 0
def Cd.bin (op a b:Int):Int :=
  if a≠b∨a=0 then 0
  else if op=1∨op=2 then (if a=1 then a else 0)
  else if op=3∨op=4 then 1
  else if op=5∨op=6∨op=7∨op=8 then (if a=1 then 0 else 1)
  else if op=9 then (if a=1 then 0 else a)
  else if Cd.isInt a=true then a else 0
def Cd.want (op:Int):List Int :=
  if op=1∨op=2∨op=3∨op=6∨op=12 then [2]
  else if op=4∨op=9 then [2,2]
  else if op=5 then []
  else if op=7 then [2,10]
  else if op=8 then [2,10,10]
  else if op=10 then [3]
  else [0]
def Cd.makes (op:Int):Int :=
  if op=2 then 1 else if op=6∨op=12∨op=9 then 10 else if op=7 then 3 else 2
def Cd.fit1 (k h:Int):Bool:=decide (h=k) || (decide (k=0) && Cd.isInt h)
def Cd.fitL : List Int→List Int→Bool
  | [],[]=>true
  | w::ws,h::hs=>Cd.fit1 w h && Cd.fitL ws hs
  | _,_=>false
def Cd.built (op:Int) (hs:List Int):Int:=if Cd.fitL (Cd.want op) hs=true then Cd.makes op else 0
def Cd.fnOk (c:List Cd.Fn) (k:Nat) (f:Cd.Fn):Bool :=
  Mill.nameOk f.name && decide (f.params.length≤8) && Cd.inR f.result 0 10 && Cd.inR f.slots (f.params.length:Int) 200 && Cd.inR (f.ins.length:Int) 1 50000
    && f.params.all (fun t=>Cd.inR t 1 10) && !(c.take k).any (fun g=>g.name.toList == f.name.toList)
def Cd.hasA (op:Int):Bool:=decide (op=1) || decide (op=2) || decide (op=3) || Cd.inR op 5 12
def Cd.insOk (c:List Cd.Fn) (f:Cd.Fn) (i:Cd.Ins):Bool :=
  if Cd.inR i.op 1 16=false∨(Cd.hasA i.op=false∧i.a≠0) then false
  else if i.op=1 then Val.valid ⟨i.a,i.n,i.text⟩
  else if i.n≠0∨i.text.toList.isEmpty=false then false
  else if i.op=2∨i.op=3 then Cd.inR i.a 0 (f.slots - 1)
  else if i.op=5 then Cd.inR i.a 1 3
  else if i.op=6 then Cd.inR i.a 3 18
  else if i.op=7 then Cd.isInt i.a
  else if i.op=8 then Cd.inR i.a 1 12
  else if i.op=9 then Cd.inR i.a 0 ((c.length:Int) - 1)
  else if i.op=10∨i.op=11 then Cd.inR i.a 0 (f.ins.length:Int)
  else if i.op=12 then (decide (i.a=1) && decide (f.result≠0)) || (decide (i.a=0) && decide (f.result=0))
  else true
def Cd.isMain (f:Cd.Fn):Bool:=(f.name.toList == [109,97,105,110]) && decide (f.params.length=0) && decide (f.result=2)
def Cd.badFn (c:List Cd.Fn):List Cd.Fn→Nat→Option Nat
  | [],_=>none
  | f::r,k=>if Cd.fnOk c k f=true then Cd.badFn c r (k+1) else some k
def Cd.badIns (c:List Cd.Fn) (f:Cd.Fn):List Cd.Ins→Nat→Option Nat
  | [],_=>none
  | i::r,at'=>if Cd.insOk c f i=true then Cd.badIns c f r (at'+1) else some at'
def Cd.badCode (c:List Cd.Fn):List Cd.Fn→Nat→Option (Nat × Nat)
  | [],_=>none
  | f::r,k=>match Cd.badIns c f f.ins 0 with
    | some i=>some (k,i)
    | none=>Cd.badCode c r (k+1)
def Cd.plain (c:List Cd.Fn):Int × Int × Int :=
  if c.length=0∨60 < c.length then (1,0,0)
  else match Cd.badFn c c 0 with
    | some k=>(2,(k:Int),0)
    | none=>match Cd.badCode c c 0 with
      | some p=>(3,(p.1:Int),(p.2:Int))
      | none=>if c.any Cd.isMain=true then (0,0,0) else (4,0,0)
def Cd.top (k:List Int):Int:=k.getLast?.getD 0
def Cd.below (k:List Int):Int:=(k.take (k.length - 1)).getLast?.getD 0
def Cd.gives (c:List Cd.Fn) (f:Cd.Fn) (i:Cd.Ins) (s k:List Int):Nat × List Int × Bool :=
  if i.op=1 then (0,[i.a],true)
  else if i.op=2 then (0,[s.getD i.a.toNat 0],decide (s.getD i.a.toNat 0≠0))
  else if i.op=3∨i.op=4 then (1,[],decide (0 < k.length))
  else if i.op=5 then (1,[Cd.un i.a (Cd.top k)],decide (Cd.un i.a (Cd.top k)≠0))
  else if i.op=6 then (2,[Cd.bin i.a (Cd.below k) (Cd.top k)],decide (Cd.bin i.a (Cd.below k) (Cd.top k)≠0))
  else if i.op=7 then (1,[i.a],Cd.isInt (Cd.top k))
  else if i.op=8 then
    (if k.length < (Cd.want i.a).length then (0,[],false)
     else ((Cd.want i.a).length,[Cd.built i.a (k.drop (k.length - (Cd.want i.a).length))],decide (Cd.built i.a (k.drop (k.length - (Cd.want i.a).length))≠0)))
  else if i.op = 9 then
    (if k.length < (c.getD i.a.toNat Cd.noFn).params.length then (0,[],false)
     else if k.drop (k.length - (c.getD i.a.toNat Cd.noFn).params.length)=(c.getD i.a.toNat Cd.noFn).params then
       ((c.getD i.a.toNat Cd.noFn).params.length,if (c.getD i.a.toNat Cd.noFn).result=0 then [] else [(c.getD i.a.toNat Cd.noFn).result],true)
     else (0,[],false))
  else if i.op=11 then (1,[],decide (Cd.top k=1))
  else if i.op=12 then (i.a.toNat,[],decide (i.a=0) || (decide (0 < k.length) && decide (Cd.top k=f.result)))
  else if i.op=13∨i.op=15 then (1,[],decide (Cd.top k=2))
  else if i.op=14 then (2,[],decide (Cd.top k=2) && decide (Cd.below k=2))
  else (0,[],true)
def Cd.goes (i:Cd.Ins) (at':Nat):List Nat :=
  if i.op=12∨i.op=13 then []
  else if i.op=10 then [i.a.toNat]
  else if i.op=11 then [i.a.toNat,at'+1]
  else [at'+1]
def Cd.leaves (c:List Cd.Fn) (f:Cd.Fn) (i:Cd.Ins) (at':Nat) (s k:List Int):Cd.Sh :=
  if (Cd.gives c f i s k).2.2=false∨k.length < (Cd.gives c f i s k).1 then .clash
  else if (Cd.goes i at').any (fun v=>decide (f.ins.length≤v))=true then .clash
  else if 600 < (k.take (k.length - (Cd.gives c f i s k).1)++(Cd.gives c f i s k).2.1).length then .clash
  else .known (if i.op=3 then s.set i.a.toNat (Cd.top k) else s) (k.take (k.length - (Cd.gives c f i s k).1)++(Cd.gives c f i s k).2.1)
def Cd.behind (c:List Cd.Fn) (f:Cd.Fn) (at':Nat):Cd.Sh→Cd.Sh
  | .known s k=>Cd.leaves c f (f.ins.getD at' Cd.noIns) at' s k
  | _ => .clash
theorem Cd.leL.getD {s s':List Int} (h:Cd.leL s s') (i:Nat):s'.getD i 0=0∨s.getD i 0=s'.getD i 0:=by
  by_cases hi:i < s.length
  · have h2:i < s'.length:=by rw [← h.1];exact hi
    simp only [List.getD_eq_getElem?_getD,List.getElem?_eq_getElem hi,List.getElem?_eq_getElem h2,Option.getD_some]
    exact h.2 i hi h2
  · left
    rw [List.getD_eq_getElem?_getD,List.getElem?_eq_none (by rw [← h.1];omega)];rfl
theorem Cd.leL.set {s s':List Int} (h:Cd.leL s s') (i:Nat) (t:Int):Cd.leL (s.set i t) (s'.set i t):=by
  refine ⟨by simp [h.1],fun j h1 h2 => ?_⟩
  rw [List.getElem_set,List.getElem_set]
  by_cases e:i=j
  · right;rw [if_pos e,if_pos e]
  · rw [if_neg e,if_neg e]
    exact h.2 j (by simpa using h1) (by simpa using h2)
theorem Cd.gives_same (c:List Cd.Fn) (f:Cd.Fn) (i:Cd.Ins) (s s' k:List Int) (h:i.op≠2∨s.getD i.a.toNat 0=s'.getD i.a.toNat 0):Cd.gives c f i s k=Cd.gives c f i s' k:=by
  by_cases h2:i.op=2
  · have h3:s.getD i.a.toNat 0=s'.getD i.a.toNat 0:=h.resolve_left (fun e=>e h2)
    have h1:¬ i.op=1:=by omega
    simp only [Cd.gives,if_neg h1,if_pos h2,h3]
  · simp only [Cd.gives,if_neg h2]
theorem Cd.leaves_mono (c:List Cd.Fn) (f:Cd.Fn) (i:Cd.Ins) (at':Nat) (s s' k:List Int) (h:Cd.leL s s'):Cd.le (Cd.leaves c f i at' s k) (Cd.leaves c f i at' s' k):=by
  by_cases hg:i.op≠2∨s.getD i.a.toNat 0=s'.getD i.a.toNat 0
  · have e:=Cd.gives_same c f i s s' k hg
    unfold Cd.leaves
    rw [e]
    split
    · trivial
    · split
      · trivial
      · split
        · trivial
        · refine ⟨rfl, ?_⟩
          split
          · exact h.set _ _
          · exact h
  · have h2:i.op=2:=Classical.byContradiction (fun e=>hg (.inl e))
    have h0:s'.getD i.a.toNat 0=0:=(h.getD i.a.toNat).resolve_right (fun e=>hg (.inr e))
    have hc:Cd.leaves c f i at' s' k = .clash:=by
      have h1:¬ i.op=1:=by omega
      unfold Cd.leaves
      rw [if_pos]
      left
      simp only [Cd.gives,if_neg h1,if_pos h2,h0]
      simp
    rw [hc]
    cases Cd.leaves c f i at' s k <;> trivial
theorem Cd.behind_mono (c:List Cd.Fn) (f:Cd.Fn) (u:Nat):∀ a b,a ≠ .none→Cd.le a b→Cd.le (Cd.behind c f u a) (Cd.behind c f u b)
  | .none,_,h,_=>(h rfl).elim
  | .known s k,.known s' k',_,h=>by
    obtain ⟨rfl,hl⟩:=h
    exact Cd.leaves_mono c f _ u s s' k hl
  | .known _ _,.none,_,h=>h.elim
  | .known s k,.clash,_,_=>by
    show Cd.le _ Cd.Sh.clash
    cases Cd.behind c f u (.known s k) <;> trivial
  | .clash,.none,_,h=>h.elim
  | .clash,.known _ _,_,h=>h.elim
  | .clash,.clash,_,_=>trivial
theorem Cd.leaves_len (c:List Cd.Fn) (f:Cd.Fn) (i:Cd.Ins) (at' m:Nat) (s k:List Int) (h:s.length=m):Cd.len m (Cd.leaves c f i at' s k):=by
  unfold Cd.leaves
  split
  · trivial
  · split
    · trivial
    · split
      · trivial
      · show List.length _=m
        split
        · rw [List.length_set];exact h
        · exact h
theorem Cd.behind_len (c:List Cd.Fn) (f:Cd.Fn) (u m:Nat):∀ a,Cd.len m a→Cd.len m (Cd.behind c f u a)
  | .none,_=>trivial
  | .known s k,h=>Cd.leaves_len c f _ u m s k h
  | .clash,_=>trivial
def Cd.firstS (f:Cd.Fn):List Int:=f.params++List.replicate (f.slots.toNat - f.params.length) 0
def Cd.sys (c:List Cd.Fn) (f:Cd.Fn):Cd.Sys where
  n:=f.ins.length
  m:=(Cd.firstS f).length
  goes:=fun u=>Cd.goes (f.ins.getD u Cd.noIns) u
  left:=Cd.behind c f
  first:=.known (Cd.firstS f) []
  mono:=Cd.behind_mono c f
  keep:=fun u a=>Cd.behind_len c f u _ a
  flen:=rfl
def Cd.Least (c:List Cd.Fn) (f:Cd.Fn) (X:List Cd.Sh):Prop:=Cd.Low (Cd.sys c f) X∧Cd.Fix (Cd.sys c f) X
theorem Cd.Least.one {c:List Cd.Fn} {f:Cd.Fn} {X Y:List Cd.Sh} (h:Cd.Least c f X) (k:Cd.Least c f Y):X=Y:=Cd.least h.1 h.2 k.1 k.2
def Cd.unfit (c:List Cd.Fn) (f:Cd.Fn) (X:List Cd.Sh) (u:Nat):Bool:=decide (Cd.at' X u ≠ .none) && decide (Cd.behind c f u (Cd.at' X u) = .clash)
def Cd.Answer (c:List Cd.Fn) (r:Int × Int × Int):Prop :=
  if (Cd.plain c).1≠0 then r=Cd.plain c
  else ∃ XS:List (List Cd.Sh),XS.length=c.length∧(∀ k (h:k < c.length) (h':k < XS.length),Cd.Least c c[k] XS[k]) ∧
    ((∃ k u,∃ (h:k < c.length) (h':k < XS.length),u < c[k].ins.length∧Cd.unfit c c[k] XS[k] u=true∧(∀ j,j < u→Cd.unfit c c[k] XS[k] j=false) ∧
        (∀ q (hq:q < k) j,j < (c[q]'(by omega)).ins.length→Cd.unfit c (c[q]'(by omega)) (XS[q]'(by omega)) j=false)∧r=(5,(k:Int),(u:Int))) ∨
     ((∀ q (hq:q < c.length) (hq':q < XS.length) j,j < c[q].ins.length→Cd.unfit c c[q] XS[q] j=false)∧r=(0,0,0)))
end Go.Proofs.YtbkhedpabfanoaaGreatDoor
namespace Go.Proofs.YtbkhedpabfanoaaGreatDoor
open Go.RowKit

theorem Cd.l1Integer_any (t:Int) (w:World):Calls Tryz.prog 77 #[.int .i64 t] w fun e w'=>e = .returned (.bool (Cd.isInt t))∧w=w':=Val.l1Integer_any t w
theorem Cd.ret_int {a b:Int} (h:a=b):(Ending.returned (.int .i64 a):Ending) = .returned (.int .i64 b):=by rw [h]
theorem Cd.ret_bool {a b:Bool} (h:a=b):(Ending.returned (.bool a):Ending) = .returned (.bool b):=by rw [h]
def Cd.ints (l:List Int):List Value:=l.map (fun z=>Value.int .i64 z)
theorem Cd.quiet {P:Program} {f:FuncId} {args:Array Value} {w:World} {n:Nat} {v:Value}
    (h:Calls P f args (w.drewN n) fun e w'=>e = .returned v∧w.drewN n=w'):Calls P f args (w.drewN n) fun e w''=>e = .returned v∧∃ m,w''=w.drewN m :=
  h.mono fun _ _ ⟨he,hm⟩=>⟨he,n,hm.symm⟩
theorem Cd.l1Integer_is (b:Bool) (t:Int) (h:Hid (Cd.isInt t=b)) (w:World) :
    Calls Tryz.prog 77 #[.int .i64 t] w fun e w'=>e = .returned (.bool b)∧w=w':=by rw [← h.out];exact Cd.l1Integer_any t w
theorem Cd.new_at (w:World) (o:Obj):(w.alloc o).heap[w.heap.size]? = some o:=(MapKept.heap_alloc w o).1
theorem Cd.belowD {B:Nat} {a w:World} (n:Nat) (h:Below B a w):Below B a (w.drewN n):=⟨h.os,h.tape,h.output,h.size,h.block⟩
set_option maxHeartbeats 400000 in
theorem Cd.l3Un_any (op t:Int) (w:World) :
    Calls Tryz.prog 79 #[.int .i64 op,.int .i64 t] w fun e w'=>e = .returned (.int .i64 (Cd.un op t))∧w=w':=by
  by_cases h20:op=2
  · subst h20
    have h22:((2:Int) == 2)=true:=rfl
    by_cases h1:t=1
    all_goals
      go_enter Tryz.func79,Tryz.ntmps79
      go_wp2
      all_goals go_ret
      all_goals exact ⟨Cd.ret_int (by simp [Cd.un,h1]),rfl⟩
  · cases hi:Cd.isInt t
    all_goals
      go_enter Tryz.func79,Tryz.ntmps79
      go_wp2_with (go_at_call 77;refine (Cd.l1Integer_any _ _).mono ?_;rintro e w' ⟨rfl,rfl⟩;rw [hi])
      all_goals go_ret
      all_goals exact ⟨Cd.ret_int (by simp [Cd.un,h20,hi]),rfl⟩

set_option maxRecDepth 100000 in
set_option maxHeartbeats 1000000 in
theorem Cd.l3Bin_any (op a b:Int) (w:World) :
    Calls Tryz.prog 80 #[.int .i64 op,.int .i64 a,.int .i64 b] w fun e w'=>e = .returned (.int .i64 (Cd.bin op a b))∧w=w':=by
  by_cases hab:a=b
  · subst hab
    by_cases ha0:a=0
    · subst ha0
      go_enter Tryz.func80,Tryz.ntmps80
      go_wp2
      go_ret
      exact ⟨Cd.ret_int (by simp [Cd.bin]),rfl⟩
    · cases hi:Cd.isInt a
      all_goals
        by_cases hop:1≤op∧op≤9
        · have h9:op=1∨op=2∨op=3∨op=4∨op=5∨op=6∨op=7∨op=8∨op=9:=by omega
          by_cases ha1:a=1
          all_goals
            rcases h9 with rfl | rfl | rfl | rfl | rfl | rfl | rfl | rfl | rfl
            all_goals
              go_enter Tryz.func80,Tryz.ntmps80
              go_wp2
              all_goals go_ret
              all_goals exact ⟨Cd.ret_int (by simp [Cd.bin,ha0,ha1]),rfl⟩
        · have h1:¬ op=1:=by omega
          have h2:¬ op=2:=by omega
          have h3:¬ op=3:=by omega
          have h4:¬ op=4:=by omega
          have h5:¬ op=5:=by omega
          have h6:¬ op=6:=by omega
          have h7:¬ op=7:=by omega
          have h8:¬ op=8:=by omega
          have h9:¬ op=9:=by omega
          go_enter Tryz.func80,Tryz.ntmps80
          go_wp2_with (go_at_call 77;refine (Cd.l1Integer_any _ _).mono ?_;rintro e w' ⟨rfl,rfl⟩;rw [hi])
          all_goals go_ret
          all_goals exact ⟨Cd.ret_int (by simp [Cd.bin,ha0,h1,h2,h3,h4,h5,h6,h7,h8,h9,hi]),rfl⟩
  · have hne:(a != b)=true:=by simpa using hab
    go_enter Tryz.func80,Tryz.ntmps80
    go_wp2
    go_ret
    exact ⟨Cd.ret_int (by simp [Cd.bin,hab]),rfl⟩
def Cd.Ints0 (w:World) (v:Value) (hs:List Int):Prop :=
  ∃ a cap,v = .slice a hs.length cap∧∀ i (hi:i < hs.length),∃ g,a=some ⟨g,0,none⟩∧g < w.heap.size∧w.cell? ⟨g,i,none⟩=some (.int .i64 hs[i])
def Cd.IntsAt (B:Nat) (w:World) (v:Value) (hs:List Int):Prop :=
  ∃ a cap,v = .slice a hs.length cap∧∀ i (hi:i < hs.length),∃ g o,a=some ⟨g,o,none⟩∧g < B∧w.cell? ⟨g,o+i,none⟩=some (.int .i64 hs[i])
theorem Cd.IntsAt.below {B:Nat} {w w':World} {v:Value} {ns:List Int} (h:Cd.IntsAt B w v ns) (hb:Below B w w'):Cd.IntsAt B w' v ns:=by
  obtain ⟨a,cap,rfl,hc⟩:=h
  refine ⟨a,cap,rfl,fun i hi => ?_⟩
  obtain ⟨g,o,ha,hg,hcell⟩:=hc i hi
  exact ⟨g,o,ha,hg,by rw [hb.cell (p:=⟨g,o+i,none⟩) hg];exact hcell⟩
theorem Cd.IntsAt.mono {B C:Nat} {w:World} {v:Value} {ns:List Int} (h:Cd.IntsAt B w v ns) (hb:B≤C):Cd.IntsAt C w v ns:=by
  obtain ⟨a,cap,rfl,hc⟩:=h
  refine ⟨a,cap,rfl,fun i hi => ?_⟩
  obtain ⟨g,o,ha,hg,hcell⟩:=hc i hi
  exact ⟨g,o,ha,by omega,hcell⟩
theorem Cd.IntsAt.own {w:World} {B C:Nat} {v:Value} {hs:List Int} {e:TypeId} (h:w.ownsRow B e 1 v hs.length (Cd.ints hs)) (hC:w.heap.size≤C):Cd.IntsAt C w v hs:=by
  rcases h.2 with ⟨rfl,h0⟩ | ⟨g,cap,cur,rfl,hg,hgg,_⟩
  · exact ⟨none,0,by rw [h0],fun i hi=>by omega⟩
  · refine ⟨_,_,rfl,fun i hi=>⟨g,0,rfl,Nat.lt_of_lt_of_le (Array.getElem?_eq_some_iff.1 hgg).1 hC, ?_⟩⟩
    rw [Nat.zero_add,h.cellAt i (by omega)]
    simp [Cd.ints,hi]
theorem Cd.IntsAt.new (w:World) (hs:List Int) (t:TypeId) (cap:Nat):Cd.IntsAt (w.heap.size+1) (w.alloc (.cells (Cd.ints hs).toArray t)) (.slice (some ⟨w.heap.size,0,none⟩) hs.length cap) hs:=by
  refine ⟨_,_,rfl,fun i hi=>⟨w.heap.size,0,rfl,by omega, ?_⟩⟩
  have h:=Cd.new_at w (.cells (Cd.ints hs).toArray t)
  unfold World.cell?
  simp only [h]
  simp [Cd.ints,hi]
theorem Cd.IntsAt.drop {B:Nat} {w:World} {a:Option Addr} {n cap:Nat} {hs:List Int} (h:Cd.IntsAt B w (.slice a n cap) hs) {k:Nat} (hk:k < hs.length):∃ g o,a=some ⟨g,o,none⟩∧n=hs.length∧∀ cap',Cd.IntsAt B w (.slice (some ⟨g,o+k,none⟩) (hs.length - k) cap') (hs.drop k):=by
  obtain ⟨a',cp,he,hc⟩:=h
  injection he with h1 h2 h3
  subst h1 h2
  obtain ⟨g,o,rfl,hg,_⟩:=hc k hk
  refine ⟨g,o,rfl,rfl,fun cap'=>⟨_,cap',by rw [List.length_drop],fun i hi => ?_⟩⟩
  have hi2:k+i < hs.length:=by rw [List.length_drop] at hi;omega
  obtain ⟨g2,o2,e,hg2,hcell⟩:=hc (k+i) hi2
  injection e with e;injection e with e1 e2
  subst e1 e2
  refine ⟨g,o+k,rfl,hg, ?_⟩
  rw [Nat.add_assoc,hcell,List.getElem_drop]
theorem Cd.ints0_new (w:World) (hs:List Int) (t:TypeId) (cap:Nat):Cd.Ints0 (w.alloc (.cells (Cd.ints hs).toArray t)) (.slice (some ⟨w.heap.size,0,none⟩) hs.length cap) hs:=by
  refine ⟨_,_,rfl,fun i hi=>⟨w.heap.size,rfl,by rw [World.size_alloc];omega, ?_⟩⟩
  have h:=Cd.new_at w (.cells (Cd.ints hs).toArray t)
  unfold World.cell?
  simp only [h]
  simp [Cd.ints,hi]
set_option maxRecDepth 100000 in
set_option maxHeartbeats 1000000 in
theorem Cd.l3Wants_any (op:Int) (h6:1≤op) (h12:op≤12) (w:World) :
    Calls Tryz.prog 98 #[.int .i64 op] w fun e w'=>(∃ g n,e = .returned (.tuple #[.slice (some ⟨g,0,none⟩) n n,.int .i64 (Cd.makes op)])∧n=(Cd.want op).length∧Cd.Ints0 w' (.slice (some ⟨g,0,none⟩) n n) (Cd.want op))∧Below w.heap.size w w':=by
  have h:op=1∨op=2∨op=3∨op=4∨op=5∨op=6∨op=7∨op=8∨op=9∨op=10∨op=11∨op=12:=by omega
  rcases h with rfl | rfl | rfl | rfl | rfl | rfl | rfl | rfl | rfl | rfl | rfl | rfl
  all_goals
    go_enter Tryz.func98,Tryz.ntmps98
    go_wp2
  · go_ret2;exact ⟨⟨_,_,rfl,rfl,Cd.ints0_new w [2] _ _⟩,(Below.refl _ w).alloc (Nat.le_refl _) _⟩
  · go_ret2;exact ⟨⟨_,_,rfl,rfl,Cd.ints0_new w [2] _ _⟩,(Below.refl _ w).alloc (Nat.le_refl _) _⟩
  · go_ret2;exact ⟨⟨_,_,rfl,rfl,Cd.ints0_new w [2] _ _⟩,(Below.refl _ w).alloc (Nat.le_refl _) _⟩
  · go_ret2;exact ⟨⟨_,_,rfl,rfl,Cd.ints0_new w [2,2] _ _⟩,(Below.refl _ w).alloc (Nat.le_refl _) _⟩
  · go_ret2;exact ⟨⟨_,_,rfl,rfl,Cd.ints0_new w [] _ _⟩,(Below.refl _ w).alloc (Nat.le_refl _) _⟩
  · go_ret2;exact ⟨⟨_,_,rfl,rfl,Cd.ints0_new w [2] _ _⟩,(Below.refl _ w).alloc (Nat.le_refl _) _⟩
  · go_ret2;exact ⟨⟨_,_,rfl,rfl,Cd.ints0_new w [2,10] _ _⟩,(Below.refl _ w).alloc (Nat.le_refl _) _⟩
  · go_ret2;exact ⟨⟨_,_,rfl,rfl,Cd.ints0_new w [2,10,10] _ _⟩,(Below.refl _ w).alloc (Nat.le_refl _) _⟩
  · go_ret2;exact ⟨⟨_,_,rfl,rfl,Cd.ints0_new w [2,2] _ _⟩,(Below.refl _ w).alloc (Nat.le_refl _) _⟩
  · go_ret2;exact ⟨⟨_,_,rfl,rfl,Cd.ints0_new w [3] _ _⟩,(Below.refl _ w).alloc (Nat.le_refl _) _⟩
  · go_ret2;exact ⟨⟨_,_,rfl,rfl,Cd.ints0_new w [0] _ _⟩,(Below.refl _ w).alloc (Nat.le_refl _) _⟩
  · go_ret2;exact ⟨⟨_,_,rfl,rfl,Cd.ints0_new w [2] _ _⟩,(Below.refl _ w).alloc (Nat.le_refl _) _⟩
theorem Cd.fitL_len : ∀ (ks hs:List Int),Cd.fitL ks hs=true→ks.length=hs.length
  | [],[],_=>rfl
  | [],_::_,h=>by cases h
  | _::_,[],h=>by cases h
  | k::ks,h::hs,e=>by
    rw [Cd.fitL,Bool.and_eq_true] at e
    simp [Cd.fitL_len ks hs e.2]
theorem Cd.fitL_drop (ks hs:List Int) (i:Nat) (h1:i < ks.length) (h2:i < hs.length):Cd.fitL (ks.drop i) (hs.drop i)=(Cd.fit1 ks[i] hs[i] && Cd.fitL (ks.drop (i+1)) (hs.drop (i+1))):=by
  rw [List.drop_eq_getElem_cons h1,List.drop_eq_getElem_cons h2,Cd.fitL]
set_option maxRecDepth 100000 in
set_option maxHeartbeats 2000000 in
theorem Cd.l3Built_any (op:Int) (h6:1≤op) (h12:op≤12) (v:Value) (hs:List Int) (_hl:hs.length≤1048576) (w:World) (hH:Cd.IntsAt w.heap.size w v hs) :
    Calls Tryz.prog 82 #[.int .i64 op,v] w fun e w'=>e = .returned (.int .i64 (Cd.built op hs))∧Below w.heap.size w w':=by
  obtain ⟨ks,HK⟩:∃ ks,Hid (Cd.want op=ks):=⟨_,(rfl:Cd.want op=_)⟩
  obtain ⟨G,HG⟩:∃ G,Hid (Cd.makes op=G):=⟨_,(rfl:Cd.makes op=_)⟩
  have hk3:ks.length≤3:=by rw [← HK.out];unfold Cd.want;split;simp;split;simp;split;simp;split;simp;split;simp;split <;> simp
  have HT:Hid (Cd.built op hs=if Cd.fitL ks hs=true then G else 0):=by rw [Hid,Cd.built,HK.out,HG.out]
  rw [HT.out]
  obtain ⟨a,cap,rfl,hc⟩:=hH
  have HC:Hid (∀ i (hi:i < hs.length),∃ g o,a=some ⟨g,o,none⟩∧g < w.heap.size∧w.cell? ⟨g,o+i,none⟩=some (.int .i64 hs[i])):=hc
  clear hc
  by_cases hle:ks.length=hs.length
  · obtain ⟨n,HN⟩:∃ n,Hid (hs.length=n):=⟨_,(rfl:hs.length=_)⟩
    have HKN:Hid (ks.length=n):=by rw [Hid,hle,HN.out]
    rw [HKN.out] at hk3
    clear hle _hl
    obtain ⟨r,HR⟩:∃ r,Hid ((if Cd.fitL ks hs=true then G else 0)=r):=⟨_,(rfl:_=_)⟩
    rw [HR.out]
    simp only [HN.out]
    go_enter Tryz.func82,Tryz.ntmps82
    go_wp2_with (go_at_call 98;(refine (Cd.l3Wants_any op h6 h12 _).mono ?_;rintro e w1 ⟨⟨gk,m,rfl,hm,hW⟩,hb1⟩;rw [HK.out,HKN.out] at hm;subst hm;rw [HK.out] at hW;rw [HG.out]))
    obtain ⟨ak,ck,hkv,hkc⟩:=hW
    have HD:Hid (∀ i (hi:i < ks.length),∃ g,ak=some ⟨g,0,none⟩∧g < w1.heap.size∧w1.cell? ⟨g,i,none⟩=some (.int .i64 ks[i])):=hkc
    have hak:ak=some ⟨gk,0,none⟩:=by injection hkv with h1;exact h1.symm
    subst hak
    clear hkc hkv
    go_loopw [7] (fun t wr => ∃ i:Nat,i≤m∧t = .int .i64 (i:Int)∧Cd.fitL (ks.drop i) (hs.drop i)=Cd.fitL ks hs∧Below w1.heap.size w1 wr) (fun t _=>m - (intOf t).toNat)
    case atStart=>exact ⟨0,by omega,rfl,rfl,Below.refl _ _⟩
    case round =>
      obtain ⟨i,hi,rfl,hu,hbw⟩:=hrel
      have hz:=hbw.size
      have hz1:=hb1.size
      have HB:Hid (Below w.heap.size w wr):=hb1.trans (hbw.mono hz1)
      by_cases hlt:i < m
      · have hil:i < hs.length:=by rw [HN.out];exact hlt
        have hik:i < ks.length:=by rw [HKN.out];exact hlt
        obtain ⟨g,o,rfl,hg,hcell⟩:=HC.out i hil
        obtain ⟨g2,hg2,hgk,hkcell⟩:=HD.out i hik
        have hg3:g2=gk:=by injection hg2 with h1;injection h1 with h2;exact h2.symm
        subst hg3
        clear hg2
        rw [Cd.fitL_drop ks hs i hik hil] at hu
        have e1:wr.cell? ⟨g,o+i,none⟩=some (.int .i64 hs[i]):=by rw [HB.out.cell (p:=⟨g,o+i,none⟩) hg];exact hcell
        have e2:wr.cell? ⟨g2,i,none⟩=some (.int .i64 ks[i]):=by rw [hbw.cell (p:=⟨g2,i,none⟩) hgk];exact hkcell
        generalize hs[i]=h at *
        generalize ks[i]=k at *
        clear hcell hkcell HC HD
        by_cases hhk:h=k
        · subst hhk
          have hne:(h != h)=false:=by simp
          have HU:Hid (Cd.fitL (ks.drop (i+1)) (hs.drop (i+1))=Cd.fitL ks hs):=by rw [Hid,← hu,Cd.fit1];simp
          clear hu
          go_wp2_with fail
          go_quiet (fail)
          go_wp2
          go_roundw
          case rel=>exact ⟨i+1,by omega,by go_num,HU.out,Cd.belowD _ hbw⟩
          case measure=>simp [intOf];omega
        · have hne:(h != k)=true:=by simp [hhk]
          by_cases hk0:k=0
          · subst hk0
            have hne0:((0:Int) != 0)=false:=by simp
            cases hI:Cd.isInt h with
            | true =>
              have HI:Hid (Cd.isInt h=true):=hI
              have HU:Hid (Cd.fitL (ks.drop (i+1)) (hs.drop (i+1))=Cd.fitL ks hs):=by rw [Hid,← hu,Cd.fit1,hI];simp
              clear hu hI
              go_wp2_with fail
              go_quiet (first | (go_at_call 77;refine Cd.quiet (Cd.l1Integer_is true _ HI _)))
              go_wp2
              go_roundw
              case rel=>exact ⟨i+1,by omega,by go_num,HU.out,Cd.belowD _ hbw⟩
              case measure=>simp [intOf];omega
            | false =>
              have HI:Hid (Cd.isInt h=false):=hI
              have HU:Hid (0=r):=by rw [Hid,← HR.out,← hu,Cd.fit1,hI];simp [hhk]
              clear hu hI
              go_wp2_with fail
              go_quiet (first | (go_at_call 77;refine Cd.quiet (Cd.l1Integer_is false _ HI _)))
              go_wp2
              go_ret
              exact ⟨Cd.ret_int HU.out,Cd.belowD _ HB.out⟩
          · have hne0:(k != 0)=true:=by simp [hk0]
            have HU:Hid (0=r):=by rw [Hid,← HR.out,← hu,Cd.fit1];simp [hhk,hk0]
            clear hu
            go_wp2_with fail
            go_quiet (fail)
            go_wp2
            go_ret
            exact ⟨Cd.ret_int HU.out,Cd.belowD _ HB.out⟩
      · have HU:Hid (G=r):=by rw [Hid,← HR.out,← hu,List.drop_of_length_le (by rw [HKN.out];omega),List.drop_of_length_le (by rw [HN.out];omega)];rfl
        clear hu HC HD
        go_wp2
        go_ret
        exact ⟨Cd.ret_int HU.out,HB.out⟩
  · have HF:Hid ((if Cd.fitL ks hs=true then G else 0)=0):=by
      rw [Hid,if_neg]
      intro h;exact hle (Cd.fitL_len _ _ h)
    rw [HF.out]
    obtain ⟨n,HN⟩:∃ n,Hid (hs.length=n):=⟨_,(rfl:hs.length=_)⟩
    obtain ⟨m,HM⟩:∃ m,Hid (ks.length=m):=⟨_,(rfl:ks.length=_)⟩
    simp only [HN.out]
    rw [HN.out,HM.out] at hle
    have hne:((m:Int) != (n:Int))=true:=by simp;omega
    clear HC
    go_enter Tryz.func82,Tryz.ntmps82
    go_wp2_with (go_at_call 98;(refine (Cd.l3Wants_any op h6 h12 _).mono ?_;rintro e w1 ⟨⟨gk,m',rfl,hm,hW⟩,hb1⟩;rw [HK.out,HM.out] at hm;subst hm;rw [HG.out]))
    go_ret
    exact ⟨rfl,hb1⟩
end Go.Proofs.YtbkhedpabfanoaaGreatDoor
namespace Go.Proofs.YtbkhedpabfanoaaGreatDoor
open Go.RowKit

def Cd.insC (i:Cd.Ins):List Value:=[.int .i64 i.op,.int .i64 i.a,.int .i64 i.n,.string i.text]
def Cd.insV (i:Cd.Ins):Value:=.agg #[.int .i64 i.op,.int .i64 i.a,.int .i64 i.n,.string i.text]
def Cd.InsAt (B:Nat) (w:World) (v:Value) (l:List Cd.Ins):Prop :=
  ∃ a cap,v = .slice a l.length cap∧∀ i (hi:i < l.length),∃ g,a=some ⟨g,0,none⟩∧g < B∧∀ j,j < 4→w.cell? ⟨g,i * 4+j,none⟩=(Cd.insC l[i])[j]?
theorem Cd.InsAt.below {B:Nat} {w w':World} {v:Value} {l:List Cd.Ins} (h:Cd.InsAt B w v l) (hb:Below B w w'):Cd.InsAt B w' v l:=by
  obtain ⟨a,cap,rfl,hc⟩:=h
  refine ⟨a,cap,rfl,fun i hi => ?_⟩
  obtain ⟨g,ha,hg,hcell⟩:=hc i hi
  exact ⟨g,ha,hg,fun j hj=>by rw [hb.cell (p:=⟨g,i * 4+j,none⟩) hg];exact hcell j hj⟩
def Cd.fnC (f:Cd.Fn) (pv iv:Value):List Value:=[.string f.name,pv,.int .i64 f.result,.int .i64 f.slots,iv]
def Cd.fnV (f:Cd.Fn) (pv iv:Value):Value:=.agg #[.string f.name,pv,.int .i64 f.result,.int .i64 f.slots,iv]
def Cd.CodeAt (B:Nat) (w:World) (v:Value) (c:List Cd.Fn):Prop :=
  ∃ a cap,v = .slice a c.length cap∧∀ k (hk:k < c.length),∃ g pv iv,a=some ⟨g,0,none⟩∧g < B∧(∀ j,j < 5→w.cell? ⟨g,k * 5+j,none⟩=(Cd.fnC c[k] pv iv)[j]?)∧Cd.IntsAt B w pv c[k].params∧Cd.InsAt B w iv c[k].ins
theorem Cd.CodeAt.below {B:Nat} {w w':World} {v:Value} {c:List Cd.Fn} (h:Cd.CodeAt B w v c) (hb:Below B w w'):Cd.CodeAt B w' v c:=by
  obtain ⟨a,cap,rfl,hc⟩:=h
  refine ⟨a,cap,rfl,fun k hk => ?_⟩
  obtain ⟨g,pv,iv,ha,hg,hcell,hp,hi⟩:=hc k hk
  exact ⟨g,pv,iv,ha,hg,fun j hj=>by rw [hb.cell (p:=⟨g,k * 5+j,none⟩) hg];exact hcell j hj,hp.below hb,hi.below hb⟩
theorem Cd.in_any (n low high:Int) (w:World) :
    Calls Tryz.prog 46 #[.int .i64 n,.int .i64 low,.int .i64 high] w fun e w'=>e = .returned (.bool (Cd.inR n low high))∧w=w':=by
  by_cases h1:low≤n
  all_goals
    go_enter Tryz.func46,Tryz.ntmps46
    go_wp2
    all_goals go_ret
    all_goals exact ⟨Cd.ret_bool (by first | (simp [Cd.inR,h1];done) | (simp [Cd.inR];omega)),rfl⟩
theorem Cd.in_is (b:Bool) (n low high:Int) (h:Hid (Cd.inR n low high=b)) (w:World) :
    Calls Tryz.prog 46 #[.int .i64 n,.int .i64 low,.int .i64 high] w fun e w'=>e = .returned (.bool b)∧w=w':=by rw [← h.out];exact Cd.in_any n low high w
theorem Cd.hasA_any (op:Int) (w:World) :
    Calls Tryz.prog 33 #[.int .i64 op] w fun e w'=>e = .returned (.bool (Cd.hasA op))∧w=w':=by
  by_cases h1:op=1
  · subst h1
    go_enter Tryz.func33,Tryz.ntmps33
    go_wp2
    go_ret
    exact ⟨rfl,rfl⟩
  · have e1:(op == 1)=false:=by simp [h1]
    by_cases h2:op=2
    · subst h2
      go_enter Tryz.func33,Tryz.ntmps33
      go_wp2
      go_ret
      exact ⟨rfl,rfl⟩
    · have e2:(op == 2)=false:=by simp [h2]
      by_cases h3:op=3
      · subst h3
        go_enter Tryz.func33,Tryz.ntmps33
        go_wp2
        go_ret
        exact ⟨rfl,rfl⟩
      · have e3:(op == 3)=false:=by simp [h3]
        have HH:Hid (Cd.inR op 5 12=Cd.hasA op):=by rw [Hid,Cd.hasA];simp [h1,h2,h3]
        clear h1 h2 h3
        go_enter Tryz.func33,Tryz.ntmps33
        go_wp2_with (first | (go_at_call 46;refine (Cd.in_any _ _ _ _).mono ?_;rintro e w' ⟨rfl,rfl⟩))
        go_ret
        exact ⟨Cd.ret_bool HH.out,rfl⟩
theorem Cd.hasA_is (b:Bool) (op:Int) (h:Hid (Cd.hasA op=b)) (w:World) :
    Calls Tryz.prog 33 #[.int .i64 op] w fun e w'=>e = .returned (.bool b)∧w=w':=by rw [← h.out];exact Cd.hasA_any op w
theorem Cd.b3 (w:World) (a b c:Obj):Below w.heap.size w (((w.alloc a).alloc b).alloc c):=(((Below.refl _ w).alloc (Nat.le_refl _) _).alloc (by simp) _).alloc (by simp;omega) _
set_option maxRecDepth 100000 in
set_option maxHeartbeats 2000000 in
theorem Cd.insOk_1 (c:List Cd.Fn) (f:Cd.Fn) (a n:Int) (text:ByteArray) (cv pv iv:Value) (w:World) :
    Calls Tryz.prog 61 #[.agg #[cv],Cd.fnV f pv iv,Cd.insV ⟨1,a,n,text⟩] w fun e w'=>e = .returned (.bool (Cd.insOk c f ⟨1,a,n,text⟩))∧Below w.heap.size w w':=by
  have HIN:Hid (Cd.inR 1 1 16=true):=(rfl:Cd.inR 1 1 16=true)
  have HA:Hid (Cd.hasA 1=true):=(rfl:Cd.hasA 1=true)
  have HR:Hid (Val.valid ⟨a,n,text⟩=Cd.insOk c f ⟨1,a,n,text⟩):=by rw [Hid,Cd.insOk,if_neg (by simp [HIN.out,HA.out]),if_pos rfl]
  unfold Cd.fnV Cd.insV
  go_enter Tryz.func61,Tryz.ntmps61
  go_wp2_with (first | (go_at_call 46;refine (Cd.in_is true _ _ _ HIN _).mono ?_;rintro e w' ⟨rfl,rfl⟩) | (go_at_call 33;refine (Cd.hasA_is true _ HA _).mono ?_;rintro e w' ⟨rfl,rfl⟩) | (go_at_call 76;refine (Val.valid_any _ _ _ _).mono ?_;rintro e w2 ⟨rfl,hb2⟩))
  go_ret
  exact ⟨Cd.ret_bool HR.out,(Cd.b3 w _ _ _).trans (hb2.mono (Cd.b3 w _ _ _).size)⟩
end Go.Proofs.YtbkhedpabfanoaaGreatDoor
namespace Go.Proofs.YtbkhedpabfanoaaGreatDoor
open Go.RowKit

theorem Cd.CodeAt.fn {B:Nat} {w:World} {v:Value} {c:List Cd.Fn} (h:Cd.CodeAt B w v c) (k:Nat) (hk:k < c.length):∃ g cap pa pc ia ic,v = .slice (some ⟨g,0,none⟩) c.length cap∧g < B∧w.cell? ⟨g,k * 5,none⟩=some (.string c[k].name)∧w.cell? ⟨g,k * 5+1,none⟩=some (.slice pa c[k].params.length pc)∧w.cell? ⟨g,k * 5+2,none⟩=some (.int .i64 c[k].result)∧w.cell? ⟨g,k * 5+3,none⟩=some (.int .i64 c[k].slots)∧w.cell? ⟨g,k * 5+4,none⟩=some (.slice ia c[k].ins.length ic)∧Cd.IntsAt B w (.slice pa c[k].params.length pc) c[k].params∧Cd.InsAt B w (.slice ia c[k].ins.length ic) c[k].ins:=by
  obtain ⟨a,cap,rfl,hc⟩:=h
  obtain ⟨g,pv,iv,rfl,hg,hcell,hp,hi⟩:=hc k hk
  have c0:=hcell 0 (by omega);have c1:=hcell 1 (by omega);have c2:=hcell 2 (by omega);have c3:=hcell 3 (by omega);have c4:=hcell 4 (by omega)
  simp only [Cd.fnC,Nat.add_zero,List.getElem?_cons_zero,List.getElem?_cons_succ] at c0 c1 c2 c3 c4
  obtain ⟨pa,pc,rfl,hp2⟩:=hp
  obtain ⟨ia,ic,rfl,hi2⟩:=hi
  exact ⟨g,cap,pa,pc,ia,ic,rfl,hg,c0,c1,c2,c3,c4,⟨pa,pc,rfl,hp2⟩,⟨ia,ic,rfl,hi2⟩⟩
theorem Cd.new_cell (w:World) (xs:Array Value) (t:TypeId) (j n:Nat) (hn:w.heap.size=n):(w.alloc (.cells xs t)).cell? ⟨n,j,none⟩=xs[j]?:=by
  subst hn
  have h:=Cd.new_at w (.cells xs t)
  unfold World.cell?
  simp only [h]
  simp
set_option maxRecDepth 100000 in
set_option maxHeartbeats 1000000 in
theorem Cd.fnOk_any (B:Nat) (c:List Cd.Fn) (cv:Value) (k:Nat) (hk:k < c.length) (hcl:c.length≤1048576) (hpl:c[k].params.length≤1048576) (_hil:c[k].ins.length≤1048576) (w:World) (hB:B≤w.heap.size) (hC:Cd.CodeAt B w cv c) :
    Calls Tryz.prog 60 #[.agg #[cv],.int .i64 (k:Int)] w fun e w'=>e = .returned (.bool (Cd.fnOk c k c[k]))∧Below w.heap.size w w':=by
  obtain ⟨g,cap,pa,pc,ia,ic,rfl,hg,c0,c1,c2,c3,c4,hP,hI⟩:=hC.fn k hk
  obtain ⟨f,HFf⟩:∃ f,Hid (c[k]=f):=⟨_,(rfl:c[k]=_)⟩
  rw [HFf.out] at c0 c1 c2 c3 c4 hP hI hpl _hil ⊢
  obtain ⟨Y,hY⟩:∃ Y,w.alloc (.cells #[.slice (some ⟨g,0,none⟩) c.length cap] 24)=Y:=⟨_,rfl⟩
  have hbY:Below w.heap.size w Y:=by rw [← hY];exact (Below.refl _ w).alloc (Nat.le_refl _) _
  have hYs:Y.heap.size=w.heap.size+1:=by rw [← hY];exact World.size_alloc _ _
  have y0:=(hbY.cell (p:=⟨g,k * 5,none⟩) (by show g < _;omega)).trans c0
  have y1:=(hbY.cell (p:=⟨g,k * 5+1,none⟩) (by show g < _;omega)).trans c1
  have y2:=(hbY.cell (p:=⟨g,k * 5+2,none⟩) (by show g < _;omega)).trans c2
  have y3:=(hbY.cell (p:=⟨g,k * 5+3,none⟩) (by show g < _;omega)).trans c3
  have y4:=(hbY.cell (p:=⟨g,k * 5+4,none⟩) (by show g < _;omega)).trans c4
  have yc:Y.cell? ⟨w.heap.size,0,none⟩=some (.slice (some ⟨g,0,none⟩) c.length cap):=by rw [← hY];exact Cd.new_cell w _ _ 0 _ rfl
  obtain ⟨Z,hZ⟩:∃ Z,Y.alloc (.cells #[.string f.name,.slice pa f.params.length pc,.int .i64 f.result,.int .i64 f.slots,.slice ia f.ins.length ic] 37)=Z:=⟨_,rfl⟩
  have hbZ:Below w.heap.size w Z:=by rw [← hZ];exact hbY.trans ((Below.refl _ Y).alloc (by omega) _)
  have hZs:Z.heap.size=w.heap.size+2:=by rw [← hZ,World.size_alloc];omega
  have z0:Z.cell? ⟨w.heap.size+1,0,none⟩=some (.string f.name):=by rw [← hZ,Cd.new_cell Y _ _ 0 _ hYs];rfl
  have z1:Z.cell? ⟨w.heap.size+1,1,none⟩=some (.slice pa f.params.length pc):=by rw [← hZ,Cd.new_cell Y _ _ 1 _ hYs];rfl
  have z2:Z.cell? ⟨w.heap.size+1,2,none⟩=some (.int .i64 f.result):=by rw [← hZ,Cd.new_cell Y _ _ 2 _ hYs];rfl
  have z3:Z.cell? ⟨w.heap.size+1,3,none⟩=some (.int .i64 f.slots):=by rw [← hZ,Cd.new_cell Y _ _ 3 _ hYs];rfl
  have z4:Z.cell? ⟨w.heap.size+1,4,none⟩=some (.slice ia f.ins.length ic):=by rw [← hZ,Cd.new_cell Y _ _ 4 _ hYs];rfl
  have HZ:Hid (∀ w',Below Z.heap.size Z w'→w'.cell? ⟨w.heap.size+1,0,none⟩=some (.string f.name)∧w'.cell? ⟨w.heap.size+1,1,none⟩=some (.slice pa f.params.length pc)∧w'.cell? ⟨w.heap.size+1,2,none⟩=some (.int .i64 f.result)∧w'.cell? ⟨w.heap.size+1,3,none⟩=some (.int .i64 f.slots)∧w'.cell? ⟨w.heap.size+1,4,none⟩=some (.slice ia f.ins.length ic)∧w'.cell? ⟨w.heap.size,0,none⟩=some (.slice (some ⟨g,0,none⟩) c.length cap)):=fun w' h=>by
    have e:∀ j,w'.cell? ⟨w.heap.size+1,j,none⟩=Z.cell? ⟨w.heap.size+1,j,none⟩:=fun j=>h.cell (p:=⟨w.heap.size+1,j,none⟩) (by show w.heap.size+1 < _;omega)
    refine ⟨(e 0).trans z0,(e 1).trans z1,(e 2).trans z2,(e 3).trans z3,(e 4).trans z4, ?_⟩
    rw [h.cell (p:=⟨w.heap.size,0,none⟩) (by show w.heap.size < _;omega),← hZ,Below.cell ((Below.refl Y.heap.size Y).alloc (Nat.le_refl _) _) (p:=⟨w.heap.size,0,none⟩) (by show w.heap.size < _;omega)]
    exact yc
  cases h1:Mill.nameOk f.name with
  | false =>
    have HF:Hid (false=Cd.fnOk c k f):=by rw [Hid,Cd.fnOk];simp [h1]
    clear c0 c1 c2 c3 c4
    go_enter Tryz.func60,Tryz.ntmps60
    go_wp2_with fail
    go_at_call 75;refine (l1NameOk_any _ _).mono ?_;rintro e w1 ⟨rfl,hb1⟩;obtain ⟨a0,a1,a2,a3,a4,ac⟩:=HZ.out w1 hb1;rw [h1]
    go_wp2_with fail
    go_ret
    exact ⟨Cd.ret_bool HF.out,hbZ.trans (hb1.mono hbZ.size)⟩
  | true =>
    by_cases h2:f.params.length≤8
    · cases h3:Cd.inR f.result 0 10 with
      | false =>
        have HF:Hid (false=Cd.fnOk c k f):=by rw [Hid,Cd.fnOk];simp [h3]
        clear c0 c1 c2 c3 c4
        go_enter Tryz.func60,Tryz.ntmps60
        go_wp2_with fail
        go_at_call 75;refine (l1NameOk_any _ _).mono ?_;rintro e w1 ⟨rfl,hb1⟩;obtain ⟨a0,a1,a2,a3,a4,ac⟩:=HZ.out w1 hb1;rw [h1]
        go_wp2_with fail
        go_at_call 46;refine (Cd.in_any _ _ _ _).mono ?_;rintro e w' ⟨rfl,rfl⟩;rw [h3]
        go_wp2_with fail
        go_ret
        exact ⟨Cd.ret_bool HF.out,hbZ.trans (hb1.mono hbZ.size)⟩
      | true =>
        cases h4:Cd.inR f.slots (f.params.length:Int) 200 with
        | false =>
          have HF:Hid (false=Cd.fnOk c k f):=by rw [Hid,Cd.fnOk];simp [h4]
          clear c0 c1 c2 c3 c4
          go_enter Tryz.func60,Tryz.ntmps60
          go_wp2_with fail
          go_at_call 75;refine (l1NameOk_any _ _).mono ?_;rintro e w1 ⟨rfl,hb1⟩;obtain ⟨a0,a1,a2,a3,a4,ac⟩:=HZ.out w1 hb1;rw [h1]
          go_wp2_with fail
          go_at_call 46;refine (Cd.in_any _ _ _ _).mono ?_;rintro e w' ⟨rfl,rfl⟩;rw [h3]
          go_wp2_with fail
          go_at_call 46;refine (Cd.in_any _ _ _ _).mono ?_;rintro e w' ⟨rfl,rfl⟩;rw [h4]
          go_wp2_with fail
          go_ret
          exact ⟨Cd.ret_bool HF.out,hbZ.trans (hb1.mono hbZ.size)⟩
        | true =>
          cases h5:Cd.inR (f.ins.length:Int) 1 50000 with
          | false =>
            have HF:Hid (false=Cd.fnOk c k f):=by rw [Hid,Cd.fnOk];simp [h5]
            clear c0 c1 c2 c3 c4
            go_enter Tryz.func60,Tryz.ntmps60
            go_wp2_with fail
            go_at_call 75;refine (l1NameOk_any _ _).mono ?_;rintro e w1 ⟨rfl,hb1⟩;obtain ⟨a0,a1,a2,a3,a4,ac⟩:=HZ.out w1 hb1;rw [h1]
            go_wp2_with fail
            go_at_call 46;refine (Cd.in_any _ _ _ _).mono ?_;rintro e w' ⟨rfl,rfl⟩;rw [h3]
            go_wp2_with fail
            go_at_call 46;refine (Cd.in_any _ _ _ _).mono ?_;rintro e w' ⟨rfl,rfl⟩;rw [h4]
            go_wp2_with fail
            go_at_call 46;refine (Cd.in_any _ _ _ _).mono ?_;rintro e w' ⟨rfl,rfl⟩;rw [h5]
            go_wp2_with fail
            go_ret
            exact ⟨Cd.ret_bool HF.out,hbZ.trans (hb1.mono hbZ.size)⟩
          | true =>
            have HR:Hid (Cd.fnOk c k f=(f.params.all (fun t=>Cd.inR t 1 10) && !(c.take k).any (fun g=>g.name.toList == f.name.toList))):=by rw [Hid,Cd.fnOk,h1,h3,h4,h5];simp [h2]
            obtain ⟨r,HRr⟩:∃ r,Hid (Cd.fnOk c k f=r):=⟨_,(rfl:Cd.fnOk c k f=_)⟩
            rw [HRr.out]
            rw [HRr.out] at HR
            clear HRr
            have HPC:Hid (∀ i (hi:i < f.params.length),∃ gp o,pa=some ⟨gp,o,none⟩∧gp < B∧w.cell? ⟨gp,o+i,none⟩=some (.int .i64 f.params[i])):=by
              obtain ⟨a',cp,he,hc⟩:=hP
              injection he with e1 e2 e3
              subst e1
              exact hc
            have HCN:Hid (∀ i (hi:i < c.length),w.cell? ⟨g,i * 5,none⟩=some (.string c[i].name)):=fun i hi=>by
              obtain ⟨g',_,_,_,_,_,he,_,h,_⟩:=hC.fn i hi
              injection he with e1;injection e1 with e1;injection e1 with e1
              subst e1
              exact h
            clear hC hP hI
            clear c0 c1 c2 c3 c4
            go_enter Tryz.func60,Tryz.ntmps60
            go_wp2_with fail
            go_at_call 75;refine (l1NameOk_any _ _).mono ?_;rintro e w1 ⟨rfl,hb1⟩;obtain ⟨a0,a1,a2,a3,a4,ac⟩:=HZ.out w1 hb1;rw [h1]
            go_wp2_with fail
            go_at_call 46;refine (Cd.in_any _ _ _ _).mono ?_;rintro e w' ⟨rfl,rfl⟩;rw [h3]
            go_wp2_with fail
            go_at_call 46;refine (Cd.in_any _ _ _ _).mono ?_;rintro e w' ⟨rfl,rfl⟩;rw [h4]
            go_wp2_with fail
            go_at_call 46;refine (Cd.in_any _ _ _ _).mono ?_;rintro e w' ⟨rfl,rfl⟩;rw [h5]
            have hbW:Below w.heap.size w w1:=hbZ.trans (hb1.mono hbZ.size)
            clear y0 y1 y2 y3 y4 yc z0 z1 z2 z3 z4 hY hZ h1 h3 h4 h5
            go_wp2_with fail
            go_loopw [6] (fun t wr => ∃ i:Nat,i≤f.params.length∧t = .int .i64 (i:Int)∧wr=w1∧∀ j (hj:j < f.params.length),j < i→Cd.inR f.params[j] 1 10=true) (fun t _=>f.params.length - (intOf t).toNat)
            case atStart=>exact ⟨0,by omega,rfl,rfl,fun j hj h=>by omega⟩
            case round =>
              obtain ⟨i,hi,rfl,rfl,hu⟩:=hrel
              by_cases hlt:i < f.params.length
              · have hil2:i < f.params.length:=hlt
                obtain ⟨gp,o,rfl,hgp,hcell⟩:=HPC.out i hil2
                have e1:wr.cell? ⟨gp,o+i,none⟩=some (.int .i64 f.params[i]):=(hbW.cell (p:=⟨gp,o+i,none⟩) (by show gp < _;omega)).trans hcell
                cases hI:Cd.inR f.params[i] 1 10 with
                | true =>
                  have HU:Hid (∀ j (hj:j < f.params.length),j < i+1→Cd.inR f.params[j] 1 10=true):=fun j hj h=>by
                    by_cases e:j=i
                    · subst e;exact hI
                    · exact hu j hj (by omega)
                  generalize f.params[i]=x at *
                  clear hu hcell
                  go_wp2_with fail
                  go_at_call 46;refine (Cd.in_any _ _ _ _).mono ?_;rintro e w' ⟨rfl,rfl⟩;rw [hI]
                  go_wp2_with fail
                  go_roundw
                  case rel=>exact ⟨i+1,by omega,by go_num,by first | rfl | trivial,HU.out⟩
                  case measure=>simp [intOf];omega
                | false =>
                  have HF:Hid (false=r):=by
                    rw [Hid,HR.out]
                    have:f.params.all (fun t=>Cd.inR t 1 10)=false:=by
                      rw [List.all_eq_false];exact ⟨f.params[i],List.getElem_mem hil2,by simp [hI]⟩
                    rw [this];rfl
                  generalize f.params[i]=x at *
                  clear hu hcell
                  go_wp2_with fail
                  go_at_call 46;refine (Cd.in_any _ _ _ _).mono ?_;rintro e w' ⟨rfl,rfl⟩;rw [hI]
                  go_wp2_with fail
                  go_ret
                  exact ⟨Cd.ret_bool HF.out,hbW⟩
              · have HALL:Hid (f.params.all (fun t=>Cd.inR t 1 10)=true):=by
                  rw [Hid,List.all_eq_true]
                  intro x hx
                  obtain ⟨j,hj,rfl⟩:=List.mem_iff_getElem.1 hx
                  exact hu j hj (by omega)
                clear hu
                go_wp2_with fail
                have hZV:=hb1.size
                generalize wr=V at *
                go_loopw [7] (fun t w2 => ∃ i:Nat,i≤k∧t = .int .i64 (i:Int)∧Below V.heap.size V w2∧∀ j (hj:j < c.length),j < i→(c[j].name.toList == f.name.toList)=false) (fun t _=>k - (intOf t).toNat)
                case atStart=>exact ⟨0,by omega,rfl,Below.refl _ _,fun j hj h=>by omega⟩
                case round =>
                  obtain ⟨i,hi,rfl,he,hu⟩:=hrel
                  have hbW2:Below w.heap.size w wr:=hbW.trans (he.mono hbW.size)
                  have b0:wr.cell? ⟨w.heap.size+1,0,none⟩=some (.string f.name):=(he.cell (p:=⟨w.heap.size+1,0,none⟩) (by show w.heap.size+1 < _;omega)).trans a0
                  have bc:wr.cell? ⟨w.heap.size,0,none⟩=some (.slice (some ⟨g,0,none⟩) c.length cap):=(he.cell (p:=⟨w.heap.size,0,none⟩) (by show w.heap.size < _;omega)).trans ac
                  by_cases hlt:i < k
                  · have hil3:i < c.length:=by omega
                    have e1:wr.cell? ⟨g,i * 5,none⟩=some (.string c[i].name):=(hbW2.cell (p:=⟨g,i * 5,none⟩) (by show g < _;omega)).trans (HCN.out i hil3)
                    cases hN:(c[i].name.toList == f.name.toList) with
                    | false =>
                      have HU:Hid (∀ j (hj:j < c.length),j < i+1→(c[j].name.toList == f.name.toList)=false):=fun j hj h=>by
                        by_cases e:j=i
                        · subst e;exact hN
                        · exact hu j hj (by omega)
                      generalize c[i].name=x at *
                      clear hu
                      go_wp2_with fail
                      go_quiet (fail)
                      go_wp2_with fail
                      go_roundw
                      case rel=>exact ⟨i+1,by omega,by go_num,Cd.belowD _ he,HU.out⟩
                      case measure=>simp [intOf];omega
                    | true =>
                      have HF:Hid (false=r):=by
                        rw [Hid,HR.out]
                        have:(c.take k).any (fun g=>g.name.toList == f.name.toList)=true:=by
                          rw [List.any_eq_true]
                          exact ⟨c[i],List.mem_iff_getElem.2 ⟨i,by rw [List.length_take];omega,List.getElem_take⟩,hN⟩
                        rw [this];simp
                      generalize c[i].name=x at *
                      clear hu
                      go_wp2_with fail
                      go_quiet (fail)
                      go_wp2_with fail
                      go_ret
                      exact ⟨Cd.ret_bool HF.out,Cd.belowD _ hbW2⟩
                  · have HF:Hid (true=r):=by
                      rw [Hid,HR.out,HALL.out]
                      have:(c.take k).any (fun g=>g.name.toList == f.name.toList)=false:=by
                        rw [List.any_eq_false]
                        intro x hx
                        obtain ⟨j,hj,rfl⟩:=List.mem_iff_getElem.1 hx
                        rw [List.getElem_take]
                        rw [List.length_take] at hj
                        rw [hu j (by omega) (by omega)];simp
                      rw [this];rfl
                    clear hu
                    go_wp2_with fail
                    go_ret
                    exact ⟨Cd.ret_bool HF.out,hbW2⟩
    · have h2i:(8:Int) < (f.params.length:Int):=by omega
      have HF:Hid (false=Cd.fnOk c k f):=by rw [Hid,Cd.fnOk];simp [h2]
      clear c0 c1 c2 c3 c4
      go_enter Tryz.func60,Tryz.ntmps60
      go_wp2_with fail
      go_at_call 75;refine (l1NameOk_any _ _).mono ?_;rintro e w1 ⟨rfl,hb1⟩;obtain ⟨a0,a1,a2,a3,a4,ac⟩:=HZ.out w1 hb1;rw [h1]
      go_wp2_with fail
      go_ret
      exact ⟨Cd.ret_bool HF.out,hbZ.trans (hb1.mono hbZ.size)⟩
end Go.Proofs.YtbkhedpabfanoaaGreatDoor
namespace Go.Proofs.YtbkhedpabfanoaaGreatDoor
open Go.RowKit

set_option maxRecDepth 100000 in
set_option maxHeartbeats 1000000 in
theorem Cd.main_any (B:Nat) (c:List Cd.Fn) (cv:Value) (hcl:c.length≤1048576) (w:World) (hB:B≤w.heap.size) (hC:Cd.CodeAt B w cv c) :
    Calls Tryz.prog 62 #[.agg #[cv]] w fun e w'=>(∃ m:Int,e = .returned (.int .i64 m)∧(m < 0 ↔ c.any Cd.isMain=false))∧Below w.heap.size w w':=by
  obtain ⟨a,cap,rfl,hc0⟩:=hC
  have HC:Hid (∀ i (hi:i < c.length),∃ g pa pc,a=some ⟨g,0,none⟩∧g < B∧w.cell? ⟨g,i * 5,none⟩=some (.string c[i].name)∧w.cell? ⟨g,i * 5+1,none⟩=some (.slice pa c[i].params.length pc)∧w.cell? ⟨g,i * 5+2,none⟩=some (.int .i64 c[i].result)):=fun i hi=>by
    obtain ⟨g,cap',pa,pc,ia,ic,he,hg,c0,c1,c2,_⟩:=Cd.CodeAt.fn ⟨a,cap,rfl,hc0⟩ i hi
    injection he with e1
    exact ⟨g,pa,pc,e1,hg,c0,c1,c2⟩
  clear hc0
  obtain ⟨Z,hZ⟩:∃ Z,w.alloc (.cells #[.slice a c.length cap] 24)=Z:=⟨_,rfl⟩
  have hbZ:Below w.heap.size w Z:=by rw [← hZ];exact (Below.refl _ w).alloc (Nat.le_refl _) _
  have hZs:Z.heap.size=w.heap.size+1:=by rw [← hZ];exact World.size_alloc _ _
  have zc:Z.cell? ⟨w.heap.size,0,none⟩=some (.slice a c.length cap):=by rw [← hZ];exact Cd.new_cell w _ _ 0 _ rfl
  go_enter Tryz.func62,Tryz.ntmps62
  go_wp2_with fail
  go_loopw [3] (fun t w2 => ∃ i:Nat,i≤c.length∧t = .int .i64 (i:Int)∧Below Z.heap.size Z w2∧∀ j (hj:j < c.length),j < i→Cd.isMain c[j]=false) (fun t _=>c.length - (intOf t).toNat)
  case atStart=>exact ⟨0,by omega,rfl,Below.refl _ _,fun j hj h=>by omega⟩
  case round =>
    obtain ⟨i,hi,rfl,he,hu⟩:=hrel
    have hbW:Below w.heap.size w wr:=hbZ.trans (he.mono hbZ.size)
    have bc:wr.cell? ⟨w.heap.size,0,none⟩=some (.slice a c.length cap):=(he.cell (p:=⟨w.heap.size,0,none⟩) (by show w.heap.size < _;omega)).trans zc
    by_cases hlt:i < c.length
    · obtain ⟨g,pa,pc,rfl,hg,c0,c1,c2⟩:=HC.out i hlt
      have d0:=(hbW.cell (p:=⟨g,i * 5,none⟩) (by show g < _;omega)).trans c0
      have d1:=(hbW.cell (p:=⟨g,i * 5+1,none⟩) (by show g < _;omega)).trans c1
      have d2:=(hbW.cell (p:=⟨g,i * 5+2,none⟩) (by show g < _;omega)).trans c2
      obtain ⟨f,hf⟩:∃ f,c[i]=f:=⟨_,rfl⟩
      rw [hf] at d0 d1 d2
      have HNO:Hid (Cd.isMain f=false→∀ j (hj:j < c.length),j < i+1→Cd.isMain c[j]=false):=fun hm j hj h=>by
        by_cases e:j=i
        · subst e;rw [hf];exact hm
        · exact hu j hj (by omega)
      have HYES:Hid (Cd.isMain f=true→((i:Int) < 0 ↔ c.any Cd.isMain=false)):=fun hm=>by
        refine ⟨fun h=>by omega,fun h => ?_⟩
        rw [List.any_eq_false] at h
        exact absurd (by rw [hf];exact hm) (h c[i] (List.getElem_mem hlt))
      clear c0 c1 c2 hu hf HC
      go_wp2_with fail
      all_goals first
        | (refine ⟨⟨i+1,by omega,by go_num,he,HNO.out (by first | (simp [Cd.isMain, *];done) | (have hh := ‹(f.result == 2)=false›;simp at hh;simp [Cd.isMain,hh];done))⟩,by simp [intOf];omega⟩)
        | (go_ret;exact ⟨⟨(i:Int),rfl,HYES.out (by have hh := ‹(f.result == 2)=true›;simp at hh;simp [Cd.isMain, *])⟩,hbW⟩)
    · have HN:Hid ((-1:Int) < 0 ↔ c.any Cd.isMain=false):=by
        refine ⟨fun _ => ?_,fun _=>by omega⟩
        rw [List.any_eq_false]
        intro x hx
        obtain ⟨j,hj,rfl⟩:=List.mem_iff_getElem.1 hx
        rw [hu j hj (by omega)];simp
      clear hu
      go_wp2_with fail
      go_ret
      exact ⟨⟨-1,rfl,HN.out⟩,hbW⟩
end Go.Proofs.YtbkhedpabfanoaaGreatDoor
