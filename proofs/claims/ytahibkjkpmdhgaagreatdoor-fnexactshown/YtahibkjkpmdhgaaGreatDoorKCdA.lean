import Derived.Test.YtahibkjkpmdhgaaGreatDoorKTk
import Derived.Test.YtahibkjkpmdhgaaGreatDoorKScanA
import Derived.Carry
import Derived.OwnWalk
set_option maxRecDepth 100000
set_option maxHeartbeats 2000000
namespace Go.Proofs.YtahibkjkpmdhgaaGreatDoor
inductive Am where
 | none:Am
 | known:List Int->List Int->Am
 | clash:Am
deriving DecidableEq
def Fw (s s':List Int):Prop:=s.length=s'.length/\∀ i (h:i < s.length) (h':i < s'.length),s'[i]=0\/s[i]=s'[i]
def Dl : Am->Am->Prop
 | .none,_=>True
 | _,.clash=>True
 | .known s k,.known s' k'=>k=k'/\Fw s s'
 | .known _ _,.none=>False
 | .clash,.none=>False
 | .clash,.known _ _=>False
def Be (s s':List Int):List Int:=List.zipWith (fun a b=>if a=b then a else 0) s s'
def Bb : Am->Am->Am
 | a,.none=>a
 | .clash,_ => .clash
 | .none,b=>b
 | .known _ _,.clash => .clash
 | .known s k,.known s' k'=>if k=k' then .known (Be s s') k else .clash
def Dv (m:Nat):Am->Prop
 | .known s _=>s.length=m
 | _=>True
theorem Fw.refl (s:List Int):Fw s s:=⟨rfl,fun _ _ _ => .inr rfl⟩
theorem Dl.refl : ∀ a:Am,Dl a a
 | .none=>trivial
 | .known s _=>⟨rfl,Fw.refl s⟩
 | .clash=>trivial
theorem Fw.trans {a b c:List Int} (h:Fw a b) (k:Fw b c):Fw a c :=
 ⟨h.1.trans k.1,fun i h1 h2=>by
  rcases k.2 i (by rw[<- h.1];exact h1) h2 with e|e
  ·exact .inl e
  ·rcases h.2 i h1 (by rw[<- h.1];exact h1) with d|d
   ·left;rw[<- e];exact d
   ·right;rw[d,e]⟩
theorem Dl.trans : ∀ {a b c:Am},Dl a b->Dl b c->Dl a c
 | .none,_,_,_,_=>trivial
 | a,_,.clash,_,_=>by cases a <;> trivial
 | .known _ _,.known _ _,.known _ _,h,k=>⟨h.1.trans k.1,h.2.trans k.2⟩
 | .known _ _,.none,_,h,_=>h.elim
 | .clash,.none,_,h,_=>h.elim
 | .clash,.known _ _,_,h,_=>h.elim
 | .known _ _,.known _ _,.none,_,k=>k.elim
 | .known _ _,.clash,.none,_,k=>k.elim
 | .known _ _,.clash,.known _ _,_,k=>k.elim
 | .clash,.clash,.none,_,k=>k.elim
 | .clash,.clash,.known _ _,_,k=>k.elim
theorem Fw.anti {a b:List Int} (h:Fw a b) (k:Fw b a):a=b:=by
 refine List.ext_getElem h.1 (fun i h1 h2 => ?_);rcases h.2 i h1 h2 with e|e
 ·rcases k.2 i h2 h1 with c|c
  ·rw[e,c]
  ·exact c.symm
 ·exact e
theorem Dl.anti : ∀ {a b:Am},Dl a b->Dl b a->a=b
 | .none,.none,_,_=>rfl
 | .none,.known _ _,_,k=>k.elim
 | .none,.clash,_,k=>k.elim
 | .known _ _,.none,h,_=>h.elim
 | .known _ _,.known _ _,h,k=>by rw[h.1,h.2.anti k.2]
 | .known _ _,.clash,_,k=>k.elim
 | .clash,.none,h,_=>h.elim
 | .clash,.known _ _,h,_=>h.elim
 | .clash,.clash,_,_=>rfl
theorem Gi {s s':List Int} (h:s.length=s'.length):(Be s s').length=s.length:=by
 unfold Be;rw[List.length_zipWith];omega
theorem Lc {s s':List Int} {i:Nat} (h1:i < s.length) (h2:i < s'.length) (h3:i < (Be s s').length):(Be s s')[i]=if s[i]=s'[i] then s[i] else 0:=by
 simp[Be]
theorem Wf {s s':List Int} (h:s.length=s'.length):Fw s (Be s s'):=by
 refine⟨(Gi h).symm,fun i h1 h2 => ?_⟩;rw[Lc h1 Ou h2];by_cases e:s[i]=s'[i]'Ou
 ·right;rw[if_pos e]
 ·left;rw[if_neg e]
theorem T3 {s s':List Int} (h:s.length=s'.length):Fw s' (Be s s'):=by
 refine⟨by rw[Gi h,h],fun i h1 h2 => ?_⟩;rw[Lc Ou h1 h2];by_cases e:s[i]'Ou=s'[i]
 ·right;rw[if_pos e,e]
 ·left;rw[if_neg e]
theorem Tz {s s' t:List Int} (h:Fw s t) (h':Fw s' t):Fw (Be s s') t:=by
 have b:s.length=s'.length:=h.1.trans h'.1.symm;refine⟨by rw[Gi b];exact h.1,fun i h1 h2 => ?_⟩;rw[Gi b]at h1;rw[Lc h1 Ou];rcases h.2 i h1 h2 with e|e
 ·exact .inl e
 ·rcases h'.2 i Ou h2 with a|a
  ·exact .inl a
  ·right;rw[if_pos (by rw[e,a]),e]
theorem Qa {m:Nat}:∀ {a b:Am},Dv m a->Dv m b->Dl a (Bb a b)
 | .none,b,_,_=>by cases b <;> trivial
 | .known s k,.none,_,_=>Dl.refl _
 | .known _ _,.clash,_,_=>trivial
 | .known s k,.known s' k',h,h'=>by
  rw[Bb]
  by_cases e:k=k'
  ·rw[if_pos e];exact⟨rfl,Wf (h.trans h'.symm)⟩
  ·rw[if_neg e];trivial
 | .clash,.none,_,_=>Dl.refl _
 | .clash,.known _ _,_,_=>trivial
 | .clash,.clash,_,_=>trivial
theorem Lx {m:Nat}:∀ {a b:Am},Dv m a->Dv m b->Dl b (Bb a b)
 | a,.none,_,_=>by cases a <;> trivial
 | .none,.known _ _,_,_=>Dl.refl _
 | .none,.clash,_,_=>trivial
 | .known _ _,.clash,_,_=>trivial
 | .known s k,.known s' k',h,h'=>by
  rw[Bb]
  by_cases e:k=k'
  ·rw[if_pos e];exact⟨e.symm,T3 (h.trans h'.symm)⟩
  ·rw[if_neg e];trivial
 | .clash,.known _ _,_,_=>trivial
 | .clash,.clash,_,_=>trivial
theorem W8 : ∀ {a b c:Am},Dl a c->Dl b c->Dl (Bb a b) c
 | .none,.none,_,_,_=>trivial
 | .none,.known _ _,_,_,k=>k
 | .none,.clash,_,_,k=>k
 | .known _ _,.none,_,h,_=>h
 | .known _ _,.clash,_,_,k=>k
 | .clash,.none,_,h,_=>h
 | .clash,.known _ _,_,h,_=>h
 | .clash,.clash,_,h,_=>h
 | .known _ _,.known _ _,.none,h,_=>h.elim
 | .known s k,.known s' k',.clash,_,_=>by
  rw[Bb]
  by_cases e:k=k'
  ·rw[if_pos e];trivial
  ·rw[if_neg e];trivial
 | .known s k,.known s' k',.known s2 k2,h,h'=>by
  rw[Bb,if_pos (h.1.trans h'.1.symm)]
  exact⟨h.1,Tz h.2 h'.2⟩
theorem Nu {m:Nat}:∀ {a b:Am},Dv m a->Dv m b->Dv m (Bb a b)
 | .none,.none,_,_=>trivial
 | .none,.known _ _,_,h=>h
 | .none,.clash,_,_=>trivial
 | .known _ _,.none,h,_=>h
 | .known _ _,.clash,_,_=>trivial
 | .clash,.none,_,_=>trivial
 | .clash,.known _ _,_,_=>trivial
 | .clash,.clash,_,_=>trivial
 | .known s k,.known s' k',h,h'=>by
  rw[Bb]
  by_cases e:k=k'
  ·rw[if_pos e];exact(Gi (h.trans h'.symm)).trans h
  ·rw[if_neg e];trivial
def K4 (s:List Int):Nat:=(s.filter (fun a=>a == 0)).length
def Ed (m:Nat):Am->Nat
 | .none=>0
 | .known s _=>1+K4 s
 | .clash=>m+2
theorem So (s:List Int):K4 s<=s.length:=List.length_filter_le _ _
theorem Sp : ∀ {s s':List Int},Fw s s'->K4 s<=K4 s'/\(s≠s'->K4 s < K4 s')
 | [],[],_=>⟨Nat.le_refl _,fun h=>(h rfl).elim⟩
 | [],_::_,h=>by have:=h.1;simp at this
 | _::_,[],h=>by have:=h.1;simp at this
 | a::r,b::r',h=>by
  have f:Fw r r':=⟨by have:=h.1;simpa using this,fun i h1 h2=>by have:=h.2 (i+1) (by simpa using h1) (by simpa using h2);simpa using this⟩
  have c:=Sp f
  have d:=h.2 0 OB OB
  simp only[List.getElem_cons_zero]at d
  unfold K4 at c |-
  rcases d with e|e
  ·subst e
   by_cases ha:a=0
   ·subst ha
    simp only[List.filter_cons,beq_self_eq_true,if_true,List.length_cons]
    refine⟨by omega,fun hne => ?_⟩
    have:=c.2 (fun e=>hne (by rw[e]))
    omega
   ·simp only[List.filter_cons,beq_self_eq_true,if_true,List.length_cons]
    rw[if_neg (by simpa using ha)]
    refine⟨by omega,fun _=>Ou⟩
  ·subst e
   by_cases ha:a=0
   ·subst ha
    simp only[List.filter_cons,beq_self_eq_true,if_true,List.length_cons]
    refine⟨by omega,fun hne => ?_⟩
    have:=c.2 (fun e=>hne (by rw[e]))
    omega
   ·simp only[List.filter_cons]
    rw[if_neg (by simpa using ha),if_neg (by simpa using ha)]
    refine⟨c.1,fun hne=>c.2 (fun e=>hne (by rw[e]))⟩
theorem Zd {m:Nat}:∀ {a:Am},Dv m a->Ed m a<=m+2
 | .none,_=>by simp[Ed]
 | .known s _,h=>by have:=So s;simp only[Ed];have b:s.length=m:=h;omega
 | .clash,_=>by simp[Ed]
theorem Nr {m:Nat}:∀ {a b:Am},Dv m a->Dv m b->Dl a b->Ed m a<=Ed m b/\(a≠b->Ed m a < Ed m b)
 | .none,.none,_,_,_=>⟨Nat.le_refl _,fun h=>(h rfl).elim⟩
 | .none,.known _ _,_,_,_=>⟨by simp[Ed],fun _=>by simp[Ed];omega⟩
 | .none,.clash,_,_,_=>⟨by simp[Ed],fun _=>by simp[Ed]⟩
 | .known _ _,.none,_,_,h=>h.elim
 | .known s k,.known s' k',_,_,h=>by
  obtain⟨e,c⟩:=h
  subst e
  have:=Sp c
  simp only[Ed]
  exact⟨by omega,fun hne=>by have:=this.2 (fun e=>hne (by rw[e]));omega⟩
 | .known s _,.clash,h,_,_=>by
  have:=So s
  have d:s.length=m:=h
  simp only[Ed]
  exact⟨by omega,fun _=>Ou⟩
 | .clash,.none,_,_,h=>h.elim
 | .clash,.known _ _,_,_,h=>h.elim
 | .clash,.clash,_,_,_=>⟨Nat.le_refl _,fun h=>(h rfl).elim⟩
structure Dp where
 n:Nat
 m:Nat
 goes:Nat->List Nat
 left:Nat->Am->Am
 first:Am
 mono:∀ u a b,a ≠ .none->Dl a b->Dl (left u a) (left u b)
 keep:∀ u a,Dv m a->Dv m (left u a)
 flen:Dv m first
def Ai (X:List Am) (u:Nat):Am:=X.getD u .none
def Qg5 (X Y:List Am):Prop := ∀ u,Dl (Ai X u) (Ai Y u)
def Qgr (Z:Dp) (X:List Am):Prop := ∀ u,u < Z.n->Ai X u ≠ .none->∀ v ∈ Z.goes u,v < Z.n->Dl (Z.left u (Ai X u)) (Ai X v)
structure J4 (Z:Dp) (X:List Am):Prop where
 size:X.length=Z.n
 stab:Qgr Z X
 first:0 < Z.n->Dl Z.first (Ai X 0)
structure H5 (Z:Dp) (X:List Am):Prop where
 size:X.length=Z.n
 low:∀ Y,J4 Z Y->Qg5 X Y
 lens:∀ u,Dv Z.m (Ai X u)
theorem Fj (X:List Am) (v:Nat) (x:Am) (u:Nat) (hv:v < X.length):Ai (X.set v x) u=if u=v then x else Ai X u:=by
 unfold Ai;rw[List.getD_eq_getElem?_getD,List.getElem?_set,List.getD_eq_getElem?_getD];by_cases e:u=v
 ·subst e;rw[if_pos rfl,if_pos rfl,if_pos hv];rfl
 ·rw[if_neg (fun h=>e h.symm),if_neg e]
theorem H5.start (Z:Dp):H5 Z (List.replicate Z.n .none):=by
 have a:∀ u,Ai (List.replicate Z.n .none) u = .none:=fun u=>by
  unfold Ai;rw[List.getD_eq_getElem?_getD,List.getElem?_replicate];by_cases e:u < Z.n <;> simp[e]
 exact⟨List.length_replicate,fun Y _ u=>by rw[a];trivial,fun u=>by rw[a];trivial⟩
theorem H5.come {Z:Dp} {X:List Am} (h:H5 Z X) (v:Nat) (hv:v < Z.n) (b:Am) (hb:Dv Z.m b) (hlow:∀ Y,J4 Z Y->Dl b (Ai Y v)):H5 Z (X.set v (Bb (Ai X v) b)):=by
 refine⟨by rw[List.length_set];exact h.size,fun Y hY u => ?_,fun u => ?_⟩
 ·rw[Fj _ _ _ _ (by rw[h.size];exact hv)];by_cases e:u=v
  ·subst e;rw[if_pos rfl];exact W8 (h.low Y hY u) (hlow Y hY)
  ·rw[if_neg e];exact h.low Y hY u
 ·rw[Fj _ _ _ _ (by rw[h.size];exact hv)];by_cases e:u=v
  ·rw[if_pos e];exact Nu (h.lens v) hb
  ·rw[if_neg e];exact h.lens u
theorem H5.leaves {Z:Dp} {X:List Am} (h:H5 Z X) (u:Nat) (hu:u < Z.n) (hn:Ai X u ≠ .none) (v:Nat) (hv:v < Z.n) (hg:v ∈ Z.goes u):∀ Y,J4 Z Y->Dl (Z.left u (Ai X u)) (Ai Y v):=by
 intro Y b;have a:=h.low Y b u;have c:Ai Y u ≠ .none:=fun e=>by
  rw[e]at a;cases hx:Ai X u with
  | none=>exact hn hx
  | known s k=>rw[hx]at a;exact a.elim
  | clash=>rw[hx]at a;exact a.elim
 exact(Z.mono u _ _ hn a).trans (b.stab u hu c v hg hv)
theorem Qf3 {Z:Dp} {X Y:List Am} (h:H5 Z X) (hX:J4 Z X) (k:H5 Z Y) (hY:J4 Z Y):X=Y:=by
 refine List.ext_getElem (h.size.trans k.size.symm) (fun u h1 h2 => ?_);have e:=(h.low Y hY u).anti (k.low X hX u);simpa[Ai,List.getD_eq_getElem?_getD,List.getElem?_eq_getElem h1,List.getElem?_eq_getElem h2]using e
def I6 (m:Nat) (X:List Am):Nat:=(X.map (Ed m)).sum
theorem Ps (m:Nat):∀ (X:List Am) (v:Nat) (x:Am) (_:v < X.length),I6 m (X.set v x)+Ed m (Ai X v)=I6 m X+Ed m x
 | [],v,x,h=>by simp at h
 | a::r,0,x,_=>by simp[I6,Ai];omega
 | a::r,v+1,x,h=>by
  have b:=Ps m r v x (by simpa using h)
  simp[I6,Ai]at b |-
  omega
theorem Qy (m:Nat):∀ (X:List Am) (_:∀ u,Dv m (Ai X u)),I6 m X<=X.length * (m+2)
 | [],_=>by simp[I6]
 | a::r,h=>by
  have c:=Qy m r (fun u=>by have:=h (u+1);simpa[Ai]using this)
  have b:=Zd (h 0)
  simp only[Ai,List.getD_cons_zero]at b
  simp only[I6,List.map_cons,List.sum_cons,List.length_cons,Nat.add_mul]at c |-
  omega
end Go.Proofs.YtahibkjkpmdhgaaGreatDoor
namespace Go.Proofs.YtahibkjkpmdhgaaGreatDoor
structure Az where
 op:Int
 a:Int
 n:Int
 text:ByteArray
structure Af where
 name:ByteArray
 params:List Int
 result:Int
 slots:Int
 ins:List Az
def A6 : Af:=⟨⟨#[]⟩,[],0,0,[]⟩
def C3 : Az:=⟨0,0,0,⟨#[]⟩⟩
def As (n low high:Int):Bool:=decide (low<=n) && decide (n<=high)
def Ci (t:Int):Bool:=decide (3<=t) && decide (t<=10)
def Fx (op t:Int):Int:=if op=2 then (if t=1 then 1 else 0) else if Ci t=true then t else 0
def Cy (op a b:Int):Int :=
 if a≠b\/a=0 then 0
 else if op=1\/op=2 then (if a=1 then a else 0)
 else if op=3\/op=4 then 1
 else if op=5\/op=6\/op=7\/op=8 then (if a=1 then 0 else 1)
 else if op=9 then (if a=1 then 0 else a)
 else if Ci a=true then a else 0
def Bj (op:Int):List Int :=
 if op=1\/op=2\/op=3\/op=6\/op=12 then [2]
 else if op=4\/op=9 then [2,2]
 else if op=5 then []
 else if op=7 then [2,10]
 else if op=8 then [2,10,10]
 else if op=10 then [3]
 else [0]
def Cm (op:Int):Int :=
 if op=2 then 1 else if op=6\/op=12\/op=9 then 10 else if op=7 then 3 else 2
def Mm (k h:Int):Bool:=decide (h=k) || (decide (k=0) && Ci h)
def Fo : List Int->List Int->Bool
 | [],[]=>true
 | w::ws,h::hs=>Mm w h && Fo ws hs
 | _,_=>false
def Da (op:Int) (hs:List Int):Int:=if Fo (Bj op) hs=true then Cm op else 0
def Bz (c:List Af) (k:Nat) (f:Af):Bool :=
 Br f.name && decide (f.params.length<=8) && As f.result 0 10 && As f.slots (f.params.length:Int) 200 && As (f.ins.length:Int) 1 50000
  && f.params.all (fun t=>As t 1 10) && !(c.take k).any (fun g=>g.name.toList == f.name.toList)
def Dr (op:Int):Bool:=decide (op=1) || decide (op=2) || decide (op=3) || As op 5 12
def Aq (c:List Af) (f:Af) (i:Az):Bool :=
 if As i.op 1 16=false\/(Dr i.op=false/\i.a≠0) then false
 else if i.op=1 then A4 ⟨i.a,i.n,i.text⟩
 else if i.n≠0\/i.text.toList.isEmpty=false then false
 else if i.op=2\/i.op=3 then As i.a 0 (f.slots - 1)
 else if i.op=5 then As i.a 1 3
 else if i.op=6 then As i.a 3 18
 else if i.op=7 then Ci i.a
 else if i.op=8 then As i.a 1 12
 else if i.op=9 then As i.a 0 ((c.length:Int) - 1)
 else if i.op=10\/i.op=11 then As i.a 0 (f.ins.length:Int)
 else if i.op=12 then (decide (i.a=1) && decide (f.result≠0)) || (decide (i.a=0) && decide (f.result=0))
 else true
def A8 (f:Af):Bool:=(f.name.toList == [109,97,105,110]) && decide (f.params.length=0) && decide (f.result=2)
def Gz (c:List Af):List Af->Nat->Option Nat
 | [],_=>none
 | f::r,k=>if Bz c k f=true then Gz c r (k+1) else some k
def Dk (c:List Af) (f:Af):List Az->Nat->Option Nat
 | [],_=>none
 | i::r,at'=>if Aq c f i=true then Dk c f r (at'+1) else some at'
def Du (c:List Af):List Af->Nat->Option (Nat × Nat)
 | [],_=>none
 | f::r,k=>match Dk c f f.ins 0 with
  | some i=>some (k,i)
  | none=>Du c r (k+1)
def B8 (c:List Af):Int × Int × Int :=
 if c.length=0\/60 < c.length then (1,0,0)
 else match Gz c c 0 with
  | some k=>(2,(k:Int),0)
  | none=>match Du c c 0 with
   | some p=>(3,(p.1:Int),(p.2:Int))
   | none=>if c.any A8=true then (0,0,0) else (4,0,0)
def A3 (k:List Int):Int:=k.getLast?.getD 0
def An (k:List Int):Int:=(k.take (k.length - 1)).getLast?.getD 0
def Ag (c:List Af) (f:Af) (i:Az) (s k:List Int):Nat × List Int × Bool :=
  if i.op=1 then (0,[i.a],true)
  else if i.op=2 then (0,[s.getD i.a.toNat 0],decide (s.getD i.a.toNat 0≠0))
  else if i.op=3\/i.op=4 then (1,[],decide (0 < k.length))
  else if i.op=5 then (1,[Fx i.a (A3 k)],decide (Fx i.a (A3 k)≠0))
  else if i.op=6 then (2,[Cy i.a (An k) (A3 k)],decide (Cy i.a (An k) (A3 k)≠0))
  else if i.op=7 then (1,[i.a],Ci (A3 k))
  else if i.op=8 then
    (if k.length < (Bj i.a).length then (0,[],false)
     else ((Bj i.a).length,[Da i.a (k.drop (k.length - (Bj i.a).length))],decide (Da i.a (k.drop (k.length - (Bj i.a).length))≠0)))
  else if i.op = 9 then
    (if k.length < (c.getD i.a.toNat A6).params.length then (0,[],false)
     else if k.drop (k.length - (c.getD i.a.toNat A6).params.length)=(c.getD i.a.toNat A6).params then
       ((c.getD i.a.toNat A6).params.length,if (c.getD i.a.toNat A6).result=0 then [] else [(c.getD i.a.toNat A6).result],true)
     else (0,[],false))
  else if i.op=11 then (1,[],decide (A3 k=1))
  else if i.op=12 then (i.a.toNat,[],decide (i.a=0) || (decide (0 < k.length) && decide (A3 k=f.result)))
  else if i.op=13\/i.op=15 then (1,[],decide (A3 k=2))
  else if i.op=14 then (2,[],decide (A3 k=2) && decide (An k=2))
  else (0,[],true)
def A5 (i:Az) (at':Nat):List Nat :=
 if i.op=12\/i.op=13 then []
 else if i.op=10 then [i.a.toNat]
 else if i.op=11 then [i.a.toNat,at'+1]
 else [at'+1]
def Bi (c:List Af) (f:Af) (i:Az) (at':Nat) (s k:List Int):Am :=
 if (Ag c f i s k).2.2=false\/k.length < (Ag c f i s k).1 then .clash
 else if (A5 i at').any (fun v=>decide (f.ins.length<=v))=true then .clash
 else if 600 < (k.take (k.length - (Ag c f i s k).1)++(Ag c f i s k).2.1).length then .clash
 else .known (if i.op=3 then s.set i.a.toNat (A3 k) else s) (k.take (k.length - (Ag c f i s k).1)++(Ag c f i s k).2.1)
def Cq (c:List Af) (f:Af) (at':Nat):Am->Am
 | .known s k=>Bi c f (f.ins.getD at' C3) at' s k
 | _ => .clash
theorem Fw.getD {s s':List Int} (h:Fw s s') (i:Nat):s'.getD i 0=0\/s.getD i 0=s'.getD i 0:=by
 by_cases hi:i < s.length
 ·have a:i < s'.length:=by rw[<- h.1];exact hi
  simp only[List.getD_eq_getElem?_getD,List.getElem?_eq_getElem hi,List.getElem?_eq_getElem a,Option.getD_some];exact h.2 i hi a
 ·left;rw[List.getD_eq_getElem?_getD,List.getElem?_eq_none (by rw[<- h.1];omega)];rfl
theorem Fw.set {s s':List Int} (h:Fw s s') (i:Nat) (t:Int):Fw (s.set i t) (s'.set i t):=by
 refine⟨by simp[h.1],fun j h1 h2 => ?_⟩;rw[List.getElem_set,List.getElem_set];by_cases e:i=j
 ·right;rw[if_pos e,if_pos e]
 ·rw[if_neg e,if_neg e];exact h.2 j (by simpa using h1) (by simpa using h2)
theorem Wu (c:List Af) (f:Af) (i:Az) (s s' k:List Int) (h:i.op≠2\/s.getD i.a.toNat 0=s'.getD i.a.toNat 0):Ag c f i s k=Ag c f i s' k:=by
 by_cases h2:i.op=2
 ·have b:s.getD i.a.toNat 0=s'.getD i.a.toNat 0:=h.resolve_left (fun e=>e h2);have a:¬ i.op=1:=Ou
  simp only[Ag,if_neg a,if_pos h2,b]
 ·simp only[Ag,if_neg h2]
theorem Ur (c:List Af) (f:Af) (i:Az) (at':Nat) (s s' k:List Int) (h:Fw s s'):Dl (Bi c f i at' s k) (Bi c f i at' s' k):=by
 by_cases hg:i.op≠2\/s.getD i.a.toNat 0=s'.getD i.a.toNat 0
 ·have e:=Wu c f i s s' k hg;unfold Bi;rw[e];split
  ·trivial
  ·split
   ·trivial
   ·split
    ·trivial
    ·refine⟨rfl, ?_⟩;split
     ·exact h.set _ _
     ·exact h
 ·have d:i.op=2:=Classical.byContradiction (fun e=>hg (.inl e));have a:s'.getD i.a.toNat 0=0:=(h.getD i.a.toNat).resolve_right (fun e=>hg (.inr e));have g:Bi c f i at' s' k = .clash:=by
   have b:¬ i.op=1:=Ou;unfold Bi;rw[if_pos];left;simp only[Ag,if_neg b,if_pos d,a];simp
  rw[g];cases Bi c f i at' s k <;> trivial
theorem Ua (c:List Af) (f:Af) (u:Nat):∀ a b,a ≠ .none->Dl a b->Dl (Cq c f u a) (Cq c f u b)
 | .none,_,h,_=>(h rfl).elim
 | .known s k,.known s' k',_,h=>by
  obtain⟨rfl,d⟩:=h
  exact Ur c f _ u s s' k d
 | .known _ _,.none,_,h=>h.elim
 | .known s k,.clash,_,_=>by
  show Dl _ Am.clash
  cases Cq c f u (.known s k) <;> trivial
 | .clash,.none,_,h=>h.elim
 | .clash,.known _ _,_,h=>h.elim
 | .clash,.clash,_,_=>trivial
theorem Xa (c:List Af) (f:Af) (i:Az) (at' m:Nat) (s k:List Int) (h:s.length=m):Dv m (Bi c f i at' s k):=by
 unfold Bi;split
 ·trivial
 ·split
  ·trivial
  ·split
   ·trivial
   ·show List.length _=m
    split
    ·rw[List.length_set];exact h
    ·exact h
theorem Wh (c:List Af) (f:Af) (u m:Nat):∀ a,Dv m a->Dv m (Cq c f u a)
 | .none,_=>trivial
 | .known s k,h=>Xa c f _ u m s k h
 | .clash,_=>trivial
def B4 (f:Af):List Int:=f.params++List.replicate (f.slots.toNat - f.params.length) 0
def Cc (c:List Af) (f:Af):Dp where
 n:=f.ins.length
 m:=(B4 f).length
 goes:=fun u=>A5 (f.ins.getD u C3) u
 left:=Cq c f
 first:=.known (B4 f) []
 mono:=Ua c f
 keep:=fun u a=>Wh c f u _ a
 flen:=rfl
def Cr (c:List Af) (f:Af) (X:List Am):Prop:=H5 (Cc c f) X/\J4 (Cc c f) X
theorem Cr.one {c:List Af} {f:Af} {X Y:List Am} (h:Cr c f X) (k:Cr c f Y):X=Y:=Qf3 h.1 h.2 k.1 k.2
def B0 (c:List Af) (f:Af) (X:List Am) (u:Nat):Bool:=decide (Ai X u ≠ .none) && decide (Cq c f u (Ai X u) = .clash)
def Dj (c:List Af) (r:Int × Int × Int):Prop :=
  if (B8 c).1≠0 then r=B8 c
  else ∃ XS:List (List Am),XS.length=c.length/\(∀ k (h:k < c.length) (h':k < XS.length),Cr c c[k] XS[k]) /\
    ((∃ k u,∃ (h:k < c.length) (h':k < XS.length),u < c[k].ins.length/\B0 c c[k] XS[k] u=true/\(∀ j,j < u->B0 c c[k] XS[k] j=false) /\
        (∀ q (hq:q < k) j,j < (c[q]'Ou).ins.length->B0 c (c[q]'Ou) (XS[q]'Ou) j=false)/\r=(5,(k:Int),(u:Int))) \/
     ((∀ q (hq:q < c.length) (hq':q < XS.length) j,j < c[q].ins.length->B0 c c[q] XS[q] j=false)/\r=(0,0,0)))
open Go.RowKit
theorem E2 (t:Int) (w:World):Calls Tryz.prog 115 #[.int .i64 t] w fun e w'=>e = .returned (.bool (Ci t))/\w=w':=Lq t w
theorem C9 {a b:Int} (h:a=b):(Ending.returned (.int .i64 a):Ending) = .returned (.int .i64 b):=by rw[h]
theorem Ap {a b:Bool} (h:a=b):(Ending.returned (.bool a):Ending) = .returned (.bool b):=by rw[h]
def Ar (l:List Int):List Value:=l.map (fun z=>Value.int .i64 z)
theorem Qc {P:Program} {f:FuncId} {args:Array Value} {w:World} {n:Nat} {v:Value}
  (h:Calls P f args (w.drewN n) fun e w'=>e = .returned v/\w.drewN n=w'):Calls P f args (w.drewN n) fun e w''=>e = .returned v/\∃ m,w''=w.drewN m :=
 h.mono fun _ _ ⟨he,hm⟩=>⟨he,n,hm.symm⟩
theorem Na (b:Bool) (t:Int) (h:Hid (Ci t=b)) (w:World) :
  Calls Tryz.prog 115 #[.int .i64 t] w fun e w'=>e = .returned (.bool b)/\w=w':=by rw[<- h.out];exact E2 t w
theorem Ae (w:World) (o:Obj):(w.alloc o).heap[w.heap.size]? = some o:=(MapKept.heap_alloc w o).1
theorem B9 {B:Nat} {a w:World} (n:Nat) (h:Below B a w):Below B a (w.drewN n):=⟨h.os,h.tape,h.output,h.size,h.block⟩
theorem Nv (op t:Int) (w:World) :
  Calls Tryz.prog 140 #[.int .i64 op,.int .i64 t] w fun e w'=>e = .returned (.int .i64 (Fx op t))/\w=w':=by
 by_cases h20:op=2
 ·subst h20;have a:((2:Int) == 2)=true:=rfl;by_cases h1:t=1;all_goals
   go_enter Tryz.func140,Tryz.ntmps140;go_wp2;all_goals go_ret
   all_goals exact⟨C9 (by simp[Fx,h1]),rfl⟩
 ·cases hi:Ci t
  all_goals
   go_enter Tryz.func140,Tryz.ntmps140;go_wp2_with (go_at_call 115;refine(E2 _ _).mono ?_;rintro e w' ⟨rfl,rfl⟩;rw[hi]);all_goals go_ret
   all_goals exact⟨C9 (by simp[Fx,h20,hi]),rfl⟩
theorem Mo (op a b:Int) (w:World) :
  Calls Tryz.prog 141 #[.int .i64 op,.int .i64 a,.int .i64 b] w fun e w'=>e = .returned (.int .i64 (Cy op a b))/\w=w':=by
 by_cases hab:a=b
 ·subst hab;by_cases ha0:a=0
  ·subst ha0;go_enter Tryz.func141,Tryz.ntmps141;go_wp2;go_ret;exact⟨C9 (by simp[Cy]),rfl⟩
  ·cases hi:Ci a
   all_goals
    by_cases hop:1<=op/\op<=9
    ·have c:op=1\/op=2\/op=3\/op=4\/op=5\/op=6\/op=7\/op=8\/op=9:=Ou;by_cases ha1:a=1;all_goals
      rcases c with rfl|rfl|rfl|rfl|rfl|rfl|rfl|rfl|rfl
      all_goals
       go_enter Tryz.func141,Tryz.ntmps141;go_wp2;all_goals go_ret
       all_goals exact⟨C9 (by simp[Cy,ha0,ha1]),rfl⟩
    ·have d:¬ op=1:=Ou;have f:¬ op=2:=Ou;have g:¬ op=3:=Ou;have h:¬ op=4:=Ou;have i:¬ op=5:=Ou;have j:¬ op=6:=Ou;have k:¬ op=7:=Ou;have l:¬ op=8:=Ou;have c:¬ op=9:=Ou;go_enter Tryz.func141,Tryz.ntmps141;go_wp2_with (go_at_call 115;refine(E2 _ _).mono ?_;rintro e w' ⟨rfl,rfl⟩;rw[hi]);all_goals go_ret
     all_goals exact⟨C9 (by simp[Cy,ha0,d,f,g,h,i,j,k,l,c,hi]),rfl⟩
 ·have m:(a != b)=true:=by simpa using hab
  go_enter Tryz.func141,Tryz.ntmps141;go_wp2;go_ret;exact⟨C9 (by simp[Cy,hab]),rfl⟩
def Qap (w:World) (v:Value) (hs:List Int):Prop :=
 ∃ a cap,v = .slice a hs.length cap/\∀ i (hi:i < hs.length),∃ g,a=some (OI g 0)/\g < w.heap.size/\w.cell? (OI g i)=some (.int .i64 hs[i])
def Ac (B:Nat) (w:World) (v:Value) (hs:List Int):Prop :=
 ∃ a cap,v = .slice a hs.length cap/\∀ i (hi:i < hs.length),∃ g o,a=some (OI g o)/\g < B/\w.cell? (OI g (o+i))=some (.int .i64 hs[i])
theorem Ac.below {B:Nat} {w w':World} {v:Value} {ns:List Int} (h:Ac B w v ns) (hb:Below B w w'):Ac B w' v ns:=by
 obtain⟨a,c,rfl,j⟩:=h;refine⟨a,c,rfl,fun i hi => ?_⟩;obtain⟨g,o,f,d,b⟩:=j i hi;exact⟨g,o,f,d,by rw[hb.cell (p:=(OI g (o+i))) d];exact b⟩
theorem Ac.mono {B C:Nat} {w:World} {v:Value} {ns:List Int} (h:Ac B w v ns) (hb:B<=C):Ac C w v ns:=by
 obtain⟨a,c,rfl,f⟩:=h;refine⟨a,c,rfl,fun i hi => ?_⟩;obtain⟨g,o,d,j,b⟩:=f i hi;exact⟨g,o,d,by omega,b⟩
theorem Ac.own {w:World} {B C:Nat} {v:Value} {hs:List Int} {e:TypeId} (h:w.ownsRow B e 1 v hs.length (Ar hs)) (hC:w.heap.size<=C):Ac C w v hs:=by
 rcases h.2 with⟨rfl,d⟩|⟨g,b,c,rfl,f,a,_⟩
 ·exact⟨none,0,by rw[d],fun i hi=>Ou⟩
 ·refine⟨_,_,rfl,fun i hi=>⟨g,0,rfl,Nat.lt_of_lt_of_le (Array.getElem?_eq_some_iff.1 a).1 hC, ?_⟩⟩;rw[Nat.zero_add,h.cellAt i Ou];simp[Ar,hi]
theorem Ac.new (w:World) (hs:List Int) (t:TypeId) (cap:Nat):Ac (w.heap.size+1) (w.alloc (.cells (Ar hs).toArray t)) (.slice (some (OK w 0)) hs.length cap) hs:=by
 refine⟨_,_,rfl,fun i hi=>⟨w.heap.size,0,rfl,by omega, ?_⟩⟩;have h:=Ae w (.cells (Ar hs).toArray t);unfold World.cell?;simp only[h];simp[Ar,hi]
theorem Ac.drop {B:Nat} {w:World} {a:Option Addr} {n cap:Nat} {hs:List Int} (h:Ac B w (.slice a n cap) hs) {k:Nat} (hk:k < hs.length):∃ g o,a=some (OI g o)/\n=hs.length/\∀ cap',Ac B w (.slice (some (OI g (o+k))) (hs.length - k) cap') (hs.drop k):=by
 obtain⟨m,p,f,d⟩:=h;injection f with h1 h2 h3;subst h1 h2;obtain⟨g,o,rfl,j,_⟩:=d k hk;refine⟨g,o,rfl,rfl,fun cap'=>⟨_,cap',by rw[List.length_drop],fun i hi => ?_⟩⟩;have c:k+i < hs.length:=by rw[List.length_drop]at hi;omega
 obtain⟨q,r,e,l,b⟩:=d (k+i) c;injection e with e;injection e with e1 e2
 subst e1 e2;refine⟨g,o+k,rfl,j, ?_⟩;rw[Nat.add_assoc,b,List.getElem_drop]
theorem D7 (w:World) (hs:List Int) (t:TypeId) (cap:Nat):Qap (w.alloc (.cells (Ar hs).toArray t)) (.slice (some (OK w 0)) hs.length cap) hs:=by
 refine⟨_,_,rfl,fun i hi=>⟨w.heap.size,rfl,by rw[World.size_alloc];omega, ?_⟩⟩;have h:=Ae w (.cells (Ar hs).toArray t);unfold World.cell?;simp only[h];simp[Ar,hi]
theorem Ku (op:Int) (h6:1<=op) (h12:op<=12) (w:World) :
  Calls Tryz.prog 117 #[.int .i64 op] w fun e w'=>(∃ g n,e = .returned (.tuple #[.slice (some (OI g 0)) n n,.int .i64 (Cm op)])/\n=(Bj op).length/\Qap w' (.slice (some (OI g 0)) n n) (Bj op))/\OH w w':=by
 have h:op=1\/op=2\/op=3\/op=4\/op=5\/op=6\/op=7\/op=8\/op=9\/op=10\/op=11\/op=12:=Ou
 rcases h with rfl|rfl|rfl|rfl|rfl|rfl|rfl|rfl|rfl|rfl|rfl|rfl
 all_goals
  go_enter Tryz.func117,Tryz.ntmps117;go_wp2
 ·go_ret2;exact⟨⟨_,_,rfl,rfl,D7 w [2] _ _⟩,(Below.refl _ w).alloc (Nat.le_refl _) _⟩
 ·go_ret2;exact⟨⟨_,_,rfl,rfl,D7 w [2] _ _⟩,(Below.refl _ w).alloc (Nat.le_refl _) _⟩
 ·go_ret2;exact⟨⟨_,_,rfl,rfl,D7 w [2] _ _⟩,(Below.refl _ w).alloc (Nat.le_refl _) _⟩
 ·go_ret2;exact⟨⟨_,_,rfl,rfl,D7 w [2,2] _ _⟩,(Below.refl _ w).alloc (Nat.le_refl _) _⟩
 ·go_ret2;exact⟨⟨_,_,rfl,rfl,D7 w [] _ _⟩,(Below.refl _ w).alloc (Nat.le_refl _) _⟩
 ·go_ret2;exact⟨⟨_,_,rfl,rfl,D7 w [2] _ _⟩,(Below.refl _ w).alloc (Nat.le_refl _) _⟩
 ·go_ret2;exact⟨⟨_,_,rfl,rfl,D7 w [2,10] _ _⟩,(Below.refl _ w).alloc (Nat.le_refl _) _⟩
 ·go_ret2;exact⟨⟨_,_,rfl,rfl,D7 w [2,10,10] _ _⟩,(Below.refl _ w).alloc (Nat.le_refl _) _⟩
 ·go_ret2;exact⟨⟨_,_,rfl,rfl,D7 w [2,2] _ _⟩,(Below.refl _ w).alloc (Nat.le_refl _) _⟩
 ·go_ret2;exact⟨⟨_,_,rfl,rfl,D7 w [3] _ _⟩,(Below.refl _ w).alloc (Nat.le_refl _) _⟩
 ·go_ret2;exact⟨⟨_,_,rfl,rfl,D7 w [0] _ _⟩,(Below.refl _ w).alloc (Nat.le_refl _) _⟩
 ·go_ret2;exact⟨⟨_,_,rfl,rfl,D7 w [2] _ _⟩,(Below.refl _ w).alloc (Nat.le_refl _) _⟩
theorem R7 : ∀ (ks hs:List Int),Fo ks hs=true->ks.length=hs.length
 | [],[],_=>rfl
 | [],_::_,h=>by cases h
 | _::_,[],h=>by cases h
 | k::ks,h::hs,e=>by
  rw[Fo,Bool.and_eq_true]at e
  simp[R7 ks hs e.2]
theorem Yy (ks hs:List Int) (i:Nat) (h1:i < ks.length) (h2:i < hs.length):Fo (ks.drop i) (hs.drop i)=(Mm ks[i] hs[i] && Fo (ks.drop (i+1)) (hs.drop (i+1))):=by
 rw[List.drop_eq_getElem_cons h1,List.drop_eq_getElem_cons h2,Fo]
theorem Fc (op:Int) (h6:1<=op) (h12:op<=12) (v:Value) (hs:List Int) (_hl:hs.length<=1048576) (w:World) (hH:Ac w.heap.size w v hs) :
  Calls Tryz.prog 143 #[.int .i64 op,v] w fun e w'=>e = .returned (.int .i64 (Da op hs))/\OH w w':=by
 obtain⟨b,x⟩:∃ b,Hid (Bj op=b):=⟨_,(rfl:Bj op=_)⟩;obtain⟨G,M⟩:∃ G,Hid (Cm op=G):=⟨_,(rfl:Cm op=_)⟩;have U:b.length<=3:=by rw[<- x.out];unfold Bj;split;simp;split;simp;split;simp;split;simp;split;simp;split <;> simp
 have HT:Hid (Da op hs=if Fo b hs=true then G else 0):=by rw[Hid,Da,x.out,M.out]
 rw[HT.out];obtain⟨a,aa,rfl,Y⟩:=hH;have J:Hid (∀ i (Z:i < hs.length),∃ g o,a=some (OI g o)/\g < w.heap.size/\w.cell? (OI g (o+i))=some (.int .i64 hs[i])):=Y;clear Y;by_cases hle:b.length=hs.length
 ·obtain⟨n,u⟩:∃ n,Hid (hs.length=n):=⟨_,(rfl:hs.length=_)⟩;have l:Hid (b.length=n):=by rw[Hid,hle,u.out]
  rw[l.out]at U;clear hle _hl;obtain⟨r,K⟩:∃ r,Hid ((if Fo b hs=true then G else 0)=r):=⟨_,(rfl:_=_)⟩;rw[K.out];simp only[u.out];go_enter Tryz.func143,Tryz.ntmps143;go_wp2_with (go_at_call 117;(refine(Ku op h6 h12 _).mono ?_;rintro e H ⟨⟨P,m,rfl,D,Q⟩,s⟩;rw[x.out,l.out]at D;subst D;rw[x.out]at Q;rw[M.out]));obtain⟨X,ck,C,B⟩:=Q;have L:Hid (∀ i (Z:i < b.length),∃ g,X=some (OI g 0)/\g < H.heap.size/\H.cell? (OI g i)=some (.int .i64 b[i])):=B;have R:X=some (OI P 0):=by injection C with h1;exact h1.symm
  subst R;clear B C;go_loopw [7] (fun t wr => ∃ i:Nat,i<=m/\t = .int .i64 (i:Int)/\Fo (b.drop i) (hs.drop i)=Fo b hs/\OH H wr) (fun t _=>m - (intOf t).toNat);case atStart=>exact⟨0,by omega,rfl,rfl,Below.refl _ _⟩
  case round =>
   obtain⟨i,Z,rfl,j,d⟩:=hrel;have hz:=d.size;have V:=s.size;have I:Hid (OH w wr):=s.trans (d.mono V);by_cases hlt:i < m
   ·have A:i < hs.length:=(by rw[u.out];exact hlt);have z:i < b.length:=(by rw[l.out];exact hlt);obtain⟨g,o,rfl,hg,f⟩:=J.out i A;obtain⟨O,y,T,c⟩:=L.out i z;have S:O=P:=by injection y with h1;injection h1 with h2;exact h2.symm
    subst S;clear y;rw[Yy b hs i z A]at j;have e1:wr.cell? (OI g (o+i))=some (.int .i64 hs[i]):=(by rw[I.out.cell (p:=(OI g (o+i))) hg];exact f);have e2:wr.cell? (OI O i)=some (.int .i64 b[i]):=(by rw[d.cell (p:=(OI O i)) T];exact c);generalize hs[i]=h at *;generalize b[i]=k at *;clear f c J L;by_cases hhk:h=k
    ·subst hhk;have E:(h != h)=false:=OB;have q:Hid (Fo (b.drop (i+1)) (hs.drop (i+1))=Fo b hs):=(by rw[Hid,<- j,Mm];simp);clear j;go_wp2_with fail;go_quiet (fail);go_wp2;go_roundw;case rel=>exact⟨i+1,by omega,by go_num,q.out,B9 _ d⟩
     case measure=>simp[intOf];omega
    ·have E:(h != k)=true:=(by simp[hhk]);by_cases hk0:k=0
     ·subst hk0;have F:((0:Int) != 0)=false:=OB;cases hI:Ci h with
      | true =>
       have N:Hid (Ci h=true):=hI;have q:Hid (Fo (b.drop (i+1)) (hs.drop (i+1))=Fo b hs):=(by rw[Hid,<- j,Mm,hI];simp);clear j hI;go_wp2_with fail;go_quiet (first|(go_at_call 115;refine Qc (Na true _ N _)));go_wp2;go_roundw;case rel=>exact⟨i+1,by omega,by go_num,q.out,B9 _ d⟩
       case measure=>simp[intOf];omega
      | false =>
       have N:Hid (Ci h=false):=hI;have q:Hid (0=r):=(by rw[Hid,<- K.out,<- j,Mm,hI];simp[hhk]);clear j hI;go_wp2_with fail;go_quiet (first|(go_at_call 115;refine Qc (Na false _ N _)));go_wp2;go_ret;exact⟨C9 q.out,B9 _ I.out⟩
     ·have F:(k != 0)=true:=(by simp[hk0]);have q:Hid (0=r):=(by rw[Hid,<- K.out,<- j,Mm];simp[hhk,hk0]);clear j;go_wp2_with fail;go_quiet (fail);go_wp2;go_ret;exact⟨C9 q.out,B9 _ I.out⟩
   ·have q:Hid (G=r):=(by rw[Hid,<- K.out,<- j,List.drop_of_length_le (by rw[l.out];omega),List.drop_of_length_le (by rw[u.out];omega)];rfl);clear j J L;go_wp2;go_ret;exact⟨C9 q.out,I.out⟩
 ·have HF:Hid ((if Fo b hs=true then G else 0)=0):=by
   rw[Hid,if_neg];intro h;exact hle (R7 _ _ h)
  rw[HF.out];obtain⟨n,u⟩:∃ n,Hid (hs.length=n):=⟨_,(rfl:hs.length=_)⟩;obtain⟨m,W⟩:∃ m,Hid (b.length=m):=⟨_,(rfl:b.length=_)⟩;simp only[u.out];rw[u.out,W.out]at hle;have E:((m:Int) != (n:Int))=true:=by simp;omega
  clear J;go_enter Tryz.func143,Tryz.ntmps143;go_wp2_with (go_at_call 117;(refine(Ku op h6 h12 _).mono ?_;rintro e H ⟨⟨P,m',rfl,D,Q⟩,s⟩;rw[x.out,W.out]at D;subst D;rw[M.out]));go_ret;exact⟨rfl,s⟩
def G9 (i:Az):List Value:=[.int .i64 i.op,.int .i64 i.a,.int .i64 i.n,.string i.text]
def Aw (i:Az):Value:=.agg #[.int .i64 i.op,.int .i64 i.a,.int .i64 i.n,.string i.text]
def Ba (B:Nat) (w:World) (v:Value) (l:List Az):Prop :=
 ∃ a cap,v = .slice a l.length cap/\∀ i (hi:i < l.length),∃ g,a=some (OI g 0)/\g < B/\∀ j,j < 4->w.cell? (OI g (i * 4+j))=(G9 l[i])[j]?
theorem Ba.below {B:Nat} {w w':World} {v:Value} {l:List Az} (h:Ba B w v l) (hb:Below B w w'):Ba B w' v l:=by
 obtain⟨a,c,rfl,k⟩:=h;refine⟨a,c,rfl,fun i hi => ?_⟩;obtain⟨g,f,d,b⟩:=k i hi;exact⟨g,f,d,fun j hj=>by rw[hb.cell (p:=(OI g (i * 4+j))) d];exact b j hj⟩
def Uk (f:Af) (pv iv:Value):List Value:=[.string f.name,pv,.int .i64 f.result,.int .i64 f.slots,iv]
def Bp (f:Af) (pv iv:Value):Value:=.agg #[.string f.name,pv,.int .i64 f.result,.int .i64 f.slots,iv]
def Al (B:Nat) (w:World) (v:Value) (c:List Af):Prop :=
 ∃ a cap,v = .slice a c.length cap/\∀ k (hk:k < c.length),∃ g pv iv,a=some (OI g 0)/\g < B/\(∀ j,j < 5->w.cell? (OI g (k * 5+j))=(Uk c[k] pv iv)[j]?)/\Ac B w pv c[k].params/\Ba B w iv c[k].ins
theorem Al.below {B:Nat} {w w':World} {v:Value} {c:List Af} (h:Al B w v c) (hb:Below B w w'):Al B w' v c:=by
 obtain⟨a,d,rfl,l⟩:=h;refine⟨a,d,rfl,fun k hk => ?_⟩;obtain⟨g,q,o,i,f,b,n,m⟩:=l k hk;exact⟨g,q,o,i,f,fun j hj=>by rw[hb.cell (p:=(OI g (k * 5+j))) f];exact b j hj,n.below hb,m.below hb⟩
theorem Cf (n low high:Int) (w:World) :
  Calls Tryz.prog 22 #[.int .i64 n,.int .i64 low,.int .i64 high] w fun e w'=>e = .returned (.bool (As n low high))/\w=w':=by
 by_cases h1:low<=n;all_goals
  go_enter Tryz.func22,Tryz.ntmps22;go_wp2;all_goals go_ret
  all_goals exact⟨Ap (by first|(simp[As,h1];done)|(simp[As];omega)),rfl⟩
theorem Ks (b:Bool) (n low high:Int) (h:Hid (As n low high=b)) (w:World) :
  Calls Tryz.prog 22 #[.int .i64 n,.int .i64 low,.int .i64 high] w fun e w'=>e = .returned (.bool b)/\w=w':=by rw[<- h.out];exact Cf n low high w
theorem Dz (op:Int) (w:World) :
  Calls Tryz.prog 138 #[.int .i64 op] w fun e w'=>e = .returned (.bool (Dr op))/\w=w':=by
 by_cases h1:op=1
 ·subst h1;go_enter Tryz.func138,Tryz.ntmps138;go_wp2;go_ret;exact⟨rfl,rfl⟩
 ·have b:(op == 1)=false:=by simp[h1]
  by_cases h2:op=2
  ·subst h2;go_enter Tryz.func138,Tryz.ntmps138;go_wp2;go_ret;exact⟨rfl,rfl⟩
  ·have c:(op == 2)=false:=(by simp[h2]);by_cases h3:op=3
   ·subst h3;go_enter Tryz.func138,Tryz.ntmps138;go_wp2;go_ret;exact⟨rfl,rfl⟩
   ·have d:(op == 3)=false:=(by simp[h3]);have a:Hid (As op 5 12=Dr op):=(by rw[Hid,Dr];simp[h1,h2,h3]);clear h1 h2 h3;go_enter Tryz.func138,Tryz.ntmps138;go_wp2_with (first|(go_at_call 22;refine(Cf _ _ _ _).mono ?_;rintro e w' ⟨rfl,rfl⟩));go_ret;exact⟨Ap a.out,rfl⟩
theorem Qdb (b:Bool) (op:Int) (h:Hid (Dr op=b)) (w:World) :
  Calls Tryz.prog 138 #[.int .i64 op] w fun e w'=>e = .returned (.bool b)/\w=w':=by rw[<- h.out];exact Dz op w
theorem Gy (w:World) (a b c:Obj):OH w (((w.alloc a).alloc b).alloc c):=(((Below.refl _ w).alloc (Nat.le_refl _) _).alloc OB _).alloc OD _
theorem Qdd (c:List Af) (f:Af) (a n:Int) (text:ByteArray) (cv pv iv:Value) (w:World) :
  Calls Tryz.prog 111 #[.agg #[cv],Bp f pv iv,Aw ⟨1,a,n,text⟩] w fun e w'=>e = .returned (.bool (Aq c f ⟨1,a,n,text⟩))/\OH w w':=by
 have b:Hid (As 1 1 16=true):=(rfl:As 1 1 16=true);have g:Hid (Dr 1=true):=(rfl:Dr 1=true);have h:Hid (A4 ⟨a,n,text⟩=Aq c f ⟨1,a,n,text⟩):=by rw[Hid,Aq,if_neg (by simp[b.out,g.out]),if_pos rfl]
 unfold Bp Aw;go_enter Tryz.func111,Tryz.ntmps111;go_wp2_with (first|(go_at_call 22;refine(Ks true _ _ _ b _).mono ?_;rintro e w' ⟨rfl,rfl⟩)|(go_at_call 138;refine(Qdb true _ g _).mono ?_;rintro e w' ⟨rfl,rfl⟩)|(go_at_call 86;refine(Gr _ _ _ _).mono ?_;rintro e i ⟨rfl,d⟩));go_ret;exact⟨Ap h.out,(Gy w _ _ _).trans (d.mono (Gy w _ _ _).size)⟩
theorem Al.fn {B:Nat} {w:World} {v:Value} {c:List Af} (h:Al B w v c) (k:Nat) (hk:k < c.length):∃ g d j l f i,v = .slice (some (OI g 0)) c.length d/\g < B/\w.cell? (OI g (k * 5))=some (.string c[k].name)/\w.cell? (OI g (k * 5+1))=some (.slice j c[k].params.length l)/\w.cell? (OI g (k * 5+2))=some (.int .i64 c[k].result)/\w.cell? (OI g (k * 5+3))=some (.int .i64 c[k].slots)/\w.cell? (OI g (k * 5+4))=some (.slice f c[k].ins.length i)/\Ac B w (.slice j c[k].params.length l) c[k].params/\Ba B w (.slice f c[k].ins.length i) c[k].ins:=by
 obtain⟨a,d,rfl,t⟩:=h;obtain⟨g,A,z,rfl,u,b,y,x⟩:=t k hk;have o:=b 0 Ou;have p:=b 1 Ou;have q:=b 2 Ou;have r:=b 3 Ou;have s:=b 4 Ou;simp only[Uk,Nat.add_zero,List.getElem?_cons_zero,List.getElem?_cons_succ]at o p q r s;obtain⟨j,l,rfl,n⟩:=y;obtain⟨f,i,rfl,m⟩:=x;exact⟨g,d,j,l,f,i,rfl,u,o,p,q,r,s,⟨j,l,rfl,n⟩,⟨f,i,rfl,m⟩⟩
theorem Bk (w:World) (xs:Array Value) (t:TypeId) (j n:Nat) (hn:w.heap.size=n):(w.alloc (.cells xs t)).cell? (OI n j)=xs[j]?:=by
 subst hn;have h:=Ae w (.cells xs t);unfold World.cell?;simp only[h];simp
theorem Qax (B:Nat) (c:List Af) (cv:Value) (k:Nat) (hk:k < c.length) (hcl:c.length<=1048576) (hpl:c[k].params.length<=1048576) (_hil:c[k].ins.length<=1048576) (w:World) (hB:B<=w.heap.size) (hC:Al B w cv c) :
  Calls Tryz.prog 110 #[.agg #[cv],.int .i64 (k:Int)] w fun e w'=>e = .returned (.bool (Bz c k c[k]))/\OH w w':=by
 obtain⟨g,y,pa,pc,ia,ic,rfl,hg,D,E,F,G,H,hP,M⟩:=hC.fn k hk;obtain⟨f,ab⟩:∃ f,Hid (c[k]=f):=⟨_,(rfl:c[k]=_)⟩;rw[ab.out]at D E F G H hP M hpl _hil |-
 obtain⟨Y,hY⟩:∃ Y,w.alloc (.cells #[.slice (some (OI g 0)) c.length y] 59)=Y:=⟨_,rfl⟩;have m:OH w Y:=by rw[<- hY];exact(Below.refl _ w).alloc (Nat.le_refl _) _
 have s:Y.heap.size=w.heap.size+1:=by rw[<- hY];exact World.size_alloc _ _
 have y0:=(m.cell (p:=(OI g (k * 5))) (by show g < _;omega)).trans D;have y1:=(m.cell (p:=(OI g (k * 5+1))) (by show g < _;omega)).trans E;have y2:=(m.cell (p:=(OI g (k * 5+2))) (by show g < _;omega)).trans F;have y3:=(m.cell (p:=(OI g (k * 5+3))) (by show g < _;omega)).trans G;have y4:=(m.cell (p:=(OI g (k * 5+4))) (by show g < _;omega)).trans H;have yc:Y.cell? (OK w 0)=some (.slice (some (OI g 0)) c.length y):=by rw[<- hY];exact Bk w _ _ 0 _ rfl
 obtain⟨Z,A⟩:∃ Z,Y.alloc (.cells #[.string f.name,.slice pa f.params.length pc,.int .i64 f.result,.int .i64 f.slots,.slice ia f.ins.length ic] 130)=Z:=⟨_,rfl⟩;have b:OH w Z:=by rw[<- A];exact m.trans ((Below.refl _ Y).alloc Ou _)
 have ag:Z.heap.size=w.heap.size+2:=by rw[<- A,World.size_alloc];omega
 have z0:Z.cell? (OJ w 1 0)=some (.string f.name):=by rw[<- A,Bk Y _ _ 0 _ s];rfl
 have z1:Z.cell? (OJ w 1 1)=some (.slice pa f.params.length pc):=by rw[<- A,Bk Y _ _ 1 _ s];rfl
 have z2:Z.cell? (OJ w 1 2)=some (.int .i64 f.result):=by rw[<- A,Bk Y _ _ 2 _ s];rfl
 have z3:Z.cell? (OJ w 1 3)=some (.int .i64 f.slots):=by rw[<- A,Bk Y _ _ 3 _ s];rfl
 have z4:Z.cell? (OJ w 1 4)=some (.slice ia f.ins.length ic):=by rw[<- A,Bk Y _ _ 4 _ s];rfl
 have N:Hid (∀ w',OH Z w'->w'.cell? (OJ w 1 0)=some (.string f.name)/\w'.cell? (OJ w 1 1)=some (.slice pa f.params.length pc)/\w'.cell? (OJ w 1 2)=some (.int .i64 f.result)/\w'.cell? (OJ w 1 3)=some (.int .i64 f.slots)/\w'.cell? (OJ w 1 4)=some (.slice ia f.ins.length ic)/\w'.cell? (OK w 0)=some (.slice (some (OI g 0)) c.length y)):=fun w' h=>by
  have e:∀ j,w'.cell? (OJ w 1 j)=Z.cell? (OJ w 1 j):=fun j=>h.cell (p:=(OJ w 1 j)) (by show w.heap.size+1 < _;omega)
  refine⟨(e 0).trans z0,(e 1).trans z1,(e 2).trans z2,(e 3).trans z3,(e 4).trans z4, ?_⟩;rw[h.cell (p:=(OK w 0)) (by show w.heap.size < _;omega),<- A,Below.cell ((Below.refl Y.heap.size Y).alloc (Nat.le_refl _) _) (p:=(OK w 0)) (by show w.heap.size < _;omega)];exact yc
 cases h1:Br f.name with
 | false =>
  have d:Hid (false=Bz c k f):=by rw[Hid,Bz];simp[h1]
  clear D E F G H;go_enter Tryz.func110,Tryz.ntmps110;go_wp2_with fail;go_at_call 137;refine(l1NameOk_any _ _).mono ?_;rintro e q ⟨rfl,a⟩;obtain⟨O,R,S,T,U,P⟩:=N.out q a;rw[h1];go_wp2_with fail;go_ret;exact⟨Ap d.out,b.trans (a.mono b.size)⟩
 | true =>
  by_cases h2:f.params.length<=8
  ·cases h3:As f.result 0 10 with
   | false =>
    have d:Hid (false=Bz c k f):=(by rw[Hid,Bz];simp[h3]);clear D E F G H;go_enter Tryz.func110,Tryz.ntmps110;go_wp2_with fail;go_at_call 137;refine(l1NameOk_any _ _).mono ?_;rintro e q ⟨rfl,a⟩;obtain⟨O,R,S,T,U,P⟩:=N.out q a;rw[h1];go_wp2_with fail;go_at_call 22;refine(Cf _ _ _ _).mono ?_;rintro e w' ⟨rfl,rfl⟩;rw[h3];go_wp2_with fail;go_ret;exact⟨Ap d.out,b.trans (a.mono b.size)⟩
   | true =>
    cases h4:As f.slots (f.params.length:Int) 200 with
    | false =>
     have d:Hid (false=Bz c k f):=(by rw[Hid,Bz];simp[h4]);clear D E F G H;go_enter Tryz.func110,Tryz.ntmps110;go_wp2_with fail;go_at_call 137;refine(l1NameOk_any _ _).mono ?_;rintro e q ⟨rfl,a⟩;obtain⟨O,R,S,T,U,P⟩:=N.out q a;rw[h1];go_wp2_with fail;go_at_call 22;refine(Cf _ _ _ _).mono ?_;rintro e w' ⟨rfl,rfl⟩;rw[h3];go_wp2_with fail;go_at_call 22;refine(Cf _ _ _ _).mono ?_;rintro e w' ⟨rfl,rfl⟩;rw[h4];go_wp2_with fail;go_ret;exact⟨Ap d.out,b.trans (a.mono b.size)⟩
    | true =>
     cases h5:As (f.ins.length:Int) 1 50000 with
     | false =>
      have d:Hid (false=Bz c k f):=(by rw[Hid,Bz];simp[h5]);clear D E F G H;go_enter Tryz.func110,Tryz.ntmps110;go_wp2_with fail;go_at_call 137;refine(l1NameOk_any _ _).mono ?_;rintro e q ⟨rfl,a⟩;obtain⟨O,R,S,T,U,P⟩:=N.out q a;rw[h1];go_wp2_with fail;go_at_call 22;refine(Cf _ _ _ _).mono ?_;rintro e w' ⟨rfl,rfl⟩;rw[h3];go_wp2_with fail;go_at_call 22;refine(Cf _ _ _ _).mono ?_;rintro e w' ⟨rfl,rfl⟩;rw[h4];go_wp2_with fail;go_at_call 22;refine(Cf _ _ _ _).mono ?_;rintro e w' ⟨rfl,rfl⟩;rw[h5];go_wp2_with fail;go_ret;exact⟨Ap d.out,b.trans (a.mono b.size)⟩
     | true =>
      have HR:Hid (Bz c k f=(f.params.all (fun t=>As t 1 10) && !(c.take k).any (fun g=>g.name.toList == f.name.toList))):=(by rw[Hid,Bz,h1,h3,h4,h5];simp[h2]);obtain⟨r,K⟩:∃ r,Hid (Bz c k f=r):=⟨_,(rfl:Bz c k f=_)⟩;rw[K.out];rw[K.out]at HR;clear K;have ad:Hid (∀ i (W:i < f.params.length),∃ L o,pa=some (OI L o)/\L < B/\w.cell? (OI L (o+i))=some (.int .i64 f.params[i])):=by
       obtain⟨a',cp,I,hc⟩:=hP;injection I with z e2 e3;subst z;exact hc
      have aa:Hid (∀ i (W:i < c.length),w.cell? (OI g (i * 5))=some (.string c[i].name)):=fun i W=>by
       obtain⟨g',_,_,_,_,_,I,_,h,_⟩:=hC.fn i W;injection I with z;injection z with z;injection z with z
       subst z;exact h
      clear hC hP M;clear D E F G H;go_enter Tryz.func110,Tryz.ntmps110;go_wp2_with fail;go_at_call 137;refine(l1NameOk_any _ _).mono ?_;rintro e q ⟨rfl,a⟩;obtain⟨O,R,S,T,U,P⟩:=N.out q a;rw[h1];go_wp2_with fail;go_at_call 22;refine(Cf _ _ _ _).mono ?_;rintro e w' ⟨rfl,rfl⟩;rw[h3];go_wp2_with fail;go_at_call 22;refine(Cf _ _ _ _).mono ?_;rintro e w' ⟨rfl,rfl⟩;rw[h4];go_wp2_with fail;go_at_call 22;refine(Cf _ _ _ _).mono ?_;rintro e w' ⟨rfl,rfl⟩;rw[h5];have C:OH w q:=b.trans (a.mono b.size);clear y0 y1 y2 y3 y4 yc z0 z1 z2 z3 z4 hY A h1 h3 h4 h5;go_wp2_with fail;go_loopw [6] (fun t wr => ∃ i:Nat,i<=f.params.length/\t = .int .i64 (i:Int)/\wr=q/\∀ j (n:j < f.params.length),j < i->As f.params[j] 1 10=true) (fun t _=>f.params.length - (intOf t).toNat);case atStart=>exact⟨0,by omega,rfl,rfl,fun j n h=>Ou⟩
      case round =>
       obtain⟨i,W,rfl,rfl,v⟩:=hrel;by_cases hlt:i < f.params.length
       ·have J:i < f.params.length:=hlt;obtain⟨L,o,rfl,ah,l⟩:=ad.out i J;have z:wr.cell? (OI L (o+i))=some (.int .i64 f.params[i]):=(C.cell (p:=(OI L (o+i))) (by show L < _;omega)).trans l;cases M:As f.params[i] 1 10 with
        | true =>
         have HU:Hid (∀ j (n:j < f.params.length),j < i+1->As f.params[j] 1 10=true):=fun j n h=>by
          by_cases e:j=i
          ·subst e;exact M
          ·exact v j n Ou
         generalize f.params[i]=x at *;clear v l;go_wp2_with fail;go_at_call 22;refine(Cf _ _ _ _).mono ?_;rintro e w' ⟨rfl,rfl⟩;rw[M];go_wp2_with fail;go_roundw;case rel=>exact⟨i+1,by omega,by go_num,by first|rfl|trivial,HU.out⟩
         case measure=>simp[intOf];omega
        | false =>
         have d:Hid (false=r):=by
          rw[Hid,HR.out];have:f.params.all (fun t=>As t 1 10)=false:=by
           rw[List.all_eq_false];exact⟨f.params[i],List.getElem_mem J,by simp[M]⟩
          rw[this];rfl
         generalize f.params[i]=x at *;clear v l;go_wp2_with fail;go_at_call 22;refine(Cf _ _ _ _).mono ?_;rintro e w' ⟨rfl,rfl⟩;rw[M];go_wp2_with fail;go_ret;exact⟨Ap d.out,C⟩
       ·have Q:Hid (f.params.all (fun t=>As t 1 10)=true):=by
         rw[Hid,List.all_eq_true];intro x hx;obtain⟨j,n,rfl⟩:=List.mem_iff_getElem.1 hx;exact v j n Ou
        clear v;go_wp2_with fail;have af:=a.size;generalize wr=V at *;go_loopw [7] (fun t w2 => ∃ i:Nat,i<=k/\t = .int .i64 (i:Int)/\OH V w2/\∀ j (n:j < c.length),j < i->(c[j].name.toList == f.name.toList)=false) (fun t _=>k - (intOf t).toNat);case atStart=>exact⟨0,by omega,rfl,Below.refl _ _,fun j n h=>Ou⟩
        case round =>
         obtain⟨i,W,rfl,I,v⟩:=hrel;have u:OH w wr:=C.trans (I.mono C.size);have b0:wr.cell? (OJ w 1 0)=some (.string f.name):=(I.cell (p:=(OJ w 1 0)) (by show w.heap.size+1 < _;omega)).trans O;have bc:wr.cell? (OK w 0)=some (.slice (some (OI g 0)) c.length y):=(I.cell (p:=(OK w 0)) (by show w.heap.size < _;omega)).trans P;by_cases hlt:i < k
         ·have X:i < c.length:=Ou;have z:wr.cell? (OI g (i * 5))=some (.string c[i].name):=(u.cell (p:=(OI g (i * 5))) (by show g < _;omega)).trans (aa.out i X);cases hN:(c[i].name.toList == f.name.toList) with
          | false =>
           have HU:Hid (∀ j (n:j < c.length),j < i+1->(c[j].name.toList == f.name.toList)=false):=fun j n h=>by
            by_cases e:j=i
            ·subst e;exact hN
            ·exact v j n Ou
           generalize c[i].name=x at *;clear v;go_wp2_with fail;go_quiet (fail);go_wp2_with fail;go_roundw;case rel=>exact⟨i+1,by omega,by go_num,B9 _ I,HU.out⟩
           case measure=>simp[intOf];omega
          | true =>
           have d:Hid (false=r):=by
            rw[Hid,HR.out];have:(c.take k).any (fun g=>g.name.toList == f.name.toList)=true:=by
             rw[List.any_eq_true];exact⟨c[i],List.mem_iff_getElem.2 ⟨i,by rw[List.length_take];omega,List.getElem_take⟩,hN⟩
            rw[this];simp
           generalize c[i].name=x at *;clear v;go_wp2_with fail;go_quiet (fail);go_wp2_with fail;go_ret;exact⟨Ap d.out,B9 _ u⟩
         ·have d:Hid (true=r):=by
           rw[Hid,HR.out,Q.out];have:(c.take k).any (fun g=>g.name.toList == f.name.toList)=false:=by
            rw[List.any_eq_false];intro x hx;obtain⟨j,n,rfl⟩:=List.mem_iff_getElem.1 hx;rw[List.getElem_take];rw[List.length_take]at n;rw[v j Ou Ou];simp
           rw[this];rfl
          clear v;go_wp2_with fail;go_ret;exact⟨Ap d.out,u⟩
  ·have ae:(8:Int) < (f.params.length:Int):=Ou;have d:Hid (false=Bz c k f):=(by rw[Hid,Bz];simp[h2]);clear D E F G H;go_enter Tryz.func110,Tryz.ntmps110;go_wp2_with fail;go_at_call 137;refine(l1NameOk_any _ _).mono ?_;rintro e q ⟨rfl,a⟩;obtain⟨O,R,S,T,U,P⟩:=N.out q a;rw[h1];go_wp2_with fail;go_ret;exact⟨Ap d.out,b.trans (a.mono b.size)⟩
theorem Qbt (B:Nat) (c:List Af) (cv:Value) (hcl:c.length<=1048576) (w:World) (hB:B<=w.heap.size) (hC:Al B w cv c) :
  Calls Tryz.prog 56 #[.agg #[cv]] w fun e w'=>(∃ m:Int,e = .returned (.int .i64 m)/\(m < 0 ↔ c.any A8=false))/\OH w w':=by
 obtain⟨a,d,rfl,o⟩:=hC;have G:Hid (∀ i (F:i < c.length),∃ g A C,a=some (OI g 0)/\g < B/\w.cell? (OI g (i * 5))=some (.string c[i].name)/\w.cell? (OI g (i * 5+1))=some (.slice A c[i].params.length C)/\w.cell? (OI g (i * 5+2))=some (.int .i64 c[i].result)):=fun i F=>by
  obtain⟨g,H,A,C,R,S,q,I,r,s,u,_⟩:=Al.fn ⟨a,d,rfl,o⟩ i F;injection q with e1;exact⟨g,A,C,e1,I,r,s,u⟩
 clear o;obtain⟨Z,E⟩:∃ Z,w.alloc (.cells #[.slice a c.length d] 59)=Z:=⟨_,rfl⟩;have n:OH w Z:=by rw[<- E];exact(Below.refl _ w).alloc (Nat.le_refl _) _
 have N:Z.heap.size=w.heap.size+1:=by rw[<- E];exact World.size_alloc _ _
 have P:Z.cell? (OK w 0)=some (.slice a c.length d):=by rw[<- E];exact Bk w _ _ 0 _ rfl
 go_enter Tryz.func56,Tryz.ntmps56;go_wp2_with fail;go_loopw [3] (fun t w2 => ∃ i:Nat,i<=c.length/\t = .int .i64 (i:Int)/\OH Z w2/\∀ j (k:j < c.length),j < i->A8 c[j]=false) (fun t _=>c.length - (intOf t).toNat);case atStart=>exact⟨0,by omega,rfl,Below.refl _ _,fun j k h=>Ou⟩
 case round =>
  obtain⟨i,F,rfl,q,z⟩:=hrel;have b:OH w wr:=n.trans (q.mono n.size);have Q:wr.cell? (OK w 0)=some (.slice a c.length d):=(q.cell (p:=(OK w 0)) (by show w.heap.size < _;omega)).trans P;by_cases hlt:i < c.length
  ·obtain⟨g,A,C,rfl,I,r,s,u⟩:=G.out i hlt;have K:=(b.cell (p:=(OI g (i * 5))) (by show g < _;omega)).trans r;have L:=(b.cell (p:=(OI g (i * 5+1))) (by show g < _;omega)).trans s;have M:=(b.cell (p:=(OI g (i * 5+2))) (by show g < _;omega)).trans u;obtain⟨f,v⟩:∃ f,c[i]=f:=⟨_,rfl⟩;rw[v]at K L M;have D:Hid (A8 f=false->∀ j (k:j < c.length),j < i+1->A8 c[j]=false):=fun hm j k h=>by
    by_cases e:j=i
    ·subst e;rw[v];exact hm
    ·exact z j k Ou
   have l:Hid (A8 f=true->((i:Int) < 0 ↔ c.any A8=false)):=fun hm=>by
    refine⟨fun h=>Ou,fun h => ?_⟩;rw[List.any_eq_false]at h;exact absurd (by rw[v];exact hm) (h c[i] (List.getElem_mem hlt))
   clear r s u z v G;go_wp2_with fail;all_goals first
    | (refine⟨⟨i+1,by omega,by go_num,q,D.out (by first|(simp[A8, *];done)|(have y := ‹(f.result == 2)=false›;simp at y;simp[A8,y];done))⟩,by simp[intOf];omega⟩)
    | (go_ret;exact⟨⟨(i:Int),rfl,l.out (by have y := ‹(f.result == 2)=true›;simp at y;simp[A8, *])⟩,b⟩)
  ·have J:Hid ((-1:Int) < 0 ↔ c.any A8=false):=by
    refine⟨fun _ => ?_,fun _=>Ou⟩;rw[List.any_eq_false];intro x O;obtain⟨j,k,rfl⟩:=List.mem_iff_getElem.1 O;rw[z j k Ou];simp
   clear z;go_wp2_with fail;go_ret;exact⟨⟨-1,rfl,J.out⟩,b⟩
end Go.Proofs.YtahibkjkpmdhgaaGreatDoor
