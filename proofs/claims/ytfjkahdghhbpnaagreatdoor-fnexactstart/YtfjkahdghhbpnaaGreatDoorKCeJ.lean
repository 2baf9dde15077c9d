import Derived.Test.YtfjkahdghhbpnaaGreatDoorKCeE
import Derived.Test.YtfjkahdghhbpnaaGreatDoorKCdA
import Derived.Test.YtfjkahdghhbpnaaGreatDoorKCdH
set_option maxRecDepth 100000
set_option maxHeartbeats 2000000
namespace Go.Proofs.YtfjkahdghhbpnaaGreatDoor
open Go.RowKit
def B2 (m:Nat):Bool × Int × Int × Int × Int :=
 if m=1 then (true,0,0,16,0) else if m=2 then (true,0,0,17,0) else if m=3 then (true,12,0,0,0) else if m=4 then (false,12,0,0,0)
 else if m=5 then (true,12,0,18,0) else if m=6 then (true,12,12,19,0) else if m=7 then (true,11,0,16,0) else if m=8 then (true,13,0,20,0)
 else if m=9 then (true,14,0,21,0) else if m=10 then (true,0,0,0,1) else if m=11 then (true,1,0,0,2) else if m=12 then (true,15,0,0,3)
 else if m=13 then (false,2,0,0,3) else if m=14 then (false,2,2,0,0) else if m=15 then (false,2,0,0,0) else (false,0,0,0,0)
structure Cg (w:World):Prop where
 lt:0 < w.heap.size
 hasA:∀ m:Nat,1<=m->m<=16->w.cell? ⟨0,m * 5,none⟩=some (.bool (B2 m).1)
 take0:∀ m:Nat,1<=m->m<=16->w.cell? ⟨0,m * 5+1,none⟩=some (.int .i64 (B2 m).2.1)
 take1:∀ m:Nat,1<=m->m<=16->w.cell? ⟨0,m * 5+2,none⟩=some (.int .i64 (B2 m).2.2.1)
 puts:∀ m:Nat,1<=m->m<=16->w.cell? ⟨0,m * 5+3,none⟩=some (.int .i64 (B2 m).2.2.2.1)
 goes:∀ m:Nat,1<=m->m<=16->w.cell? ⟨0,m * 5+4,none⟩=some (.int .i64 (B2 m).2.2.2.2)
theorem Cg.below {w w':World} (h:Cg w) (hb:Below w.heap.size w w'):Cg w' :=
 ⟨Nat.lt_of_lt_of_le h.lt hb.size,fun m h1 h2=>(hb.cell (p:=⟨_,_,none⟩) h.lt).trans (h.hasA m h1 h2),fun m h1 h2=>(hb.cell (p:=⟨_,_,none⟩) h.lt).trans (h.take0 m h1 h2),fun m h1 h2=>(hb.cell (p:=⟨_,_,none⟩) h.lt).trans (h.take1 m h1 h2),fun m h1 h2=>(hb.cell (p:=⟨_,_,none⟩) h.lt).trans (h.puts m h1 h2),fun m h1 h2=>(hb.cell (p:=⟨_,_,none⟩) h.lt).trans (h.goes m h1 h2)⟩
theorem Ux (i:Ax) (at':Nat) (h1:1<=i.op) (h16:i.op<=16) (hat:at'<=1048576) (ha:i.op=10\/i.op=11->0<=i.a) (w:World) (hT:Cg w) :
    Calls Tryz.prog 122 #[An i,.int .i64 (at':Int)] w fun e w' => ∃ v,e = .returned v/\Ab w'.heap.size w' v (Co (A8 i at'))/\Below w.heap.size w w':=by
  obtain⟨y,a,n,b⟩:=i
  simp only at h1 h16 ha
  obtain⟨m,rfl⟩:∃ m:Nat,y=(m:Int):=⟨y.toNat,by omega⟩
  have r:1<=m:=by omega
  have o:m<=16:=by omega
  unfold An
  have A:wrap64 ((at':Int)+1)=(at':Int)+1:=IntWalk.wrap64_in _ (by omega)
  obtain⟨d,j⟩:∃ Y,w.alloc (.cells #[.int .i64 (m:Int),.int .i64 a,.int .i64 n,.string b] 140)=Y:=⟨_,rfl⟩
  have f:Below w.heap.size w d:=by rw[<- j];exact A5 w _
  have l:d.heap.size=w.heap.size+1:=by rw[<- j];exact World.size_alloc _ _
  have c:d.heap[w.heap.size]? = some (.cells #[.int .i64 (m:Int),.int .i64 a,.int .i64 n,.string b] 140):=by rw[<- j];exact Ag w _
  have s:d.cell? ⟨w.heap.size,0,none⟩=some (.int .i64 (m:Int)):=by rw[Lib.cell_of_heap c];rfl
  have t:d.cell? ⟨w.heap.size,1,none⟩=some (.int .i64 a):=by rw[Lib.cell_of_heap c];rfl
  have u:d.cell? ⟨w.heap.size,2,none⟩=some (.int .i64 n):=by rw[Lib.cell_of_heap c];rfl
  have x:d.cell? ⟨w.heap.size,3,none⟩=some (.string b):=by rw[Lib.cell_of_heap c];rfl
  clear c
  have q:d.cell? ⟨0,m * 5+4,none⟩=some (.int .i64 (B2 m).2.2.2.2):=(f.cell (p:=⟨_,_,none⟩) hT.lt).trans (hT.goes m r o)
  clear hT
  have z:(m:Int) < 17:=by omega
  by_cases h10:m=10
  · have g:Hid (A8 ⟨(m:Int),a,n,b⟩ at'=[a.toNat]):=by rw[Hid,h10];simp[A8]
    have e:(B2 m).2.2.2.2=1:=by rw[h10];rfl
    rw[e]at q
    obtain⟨k,rfl⟩:∃ k:Nat,a=(k:Int):=⟨a.toNat,by have:=ha (.inl (by omega));omega⟩
    rw[g.out]
    clear h10 ha e
    go_enter Tryz.func122,Tryz.ntmps122
    go_wp2_with fail
    go_ret
    exact⟨.slice (some ⟨d.heap.size,0,none⟩) 1 1,by simp[l],Ab.newZ (Z:=d) (hs:=[(k:Int)]) _ _ rfl,Ac f _⟩
  · by_cases h11:m=11
    · have g:Hid (A8 ⟨(m:Int),a,n,b⟩ at'=[a.toNat,at'+1]):=by rw[Hid,h11];simp[A8]
      have e:(B2 m).2.2.2.2=2:=by rw[h11];rfl
      rw[e]at q
      obtain⟨k,rfl⟩:∃ k:Nat,a=(k:Int):=⟨a.toNat,by have:=ha (.inr (by omega));omega⟩
      rw[g.out]
      clear h10 h11 ha e
      go_enter Tryz.func122,Tryz.ntmps122
      go_wp2_with fail
      go_ret
      exact⟨.slice (some ⟨d.heap.size,0,none⟩) 2 2,by simp[l],Ab.newZ (Z:=d) (hs:=[(k:Int),(at':Int)+1]) _ _ rfl,Ac f _⟩
    · by_cases h12:m=12\/m=13
      · have g:Hid (A8 ⟨(m:Int),a,n,b⟩ at'=[]):=by
          rw[Hid];rcases h12 with h|h <;> (rw[h];simp[A8])
        have e:(B2 m).2.2.2.2=3:=by rcases h12 with h|h <;> (rw[h];rfl)
        rw[e]at q
        rw[g.out]
        clear h10 h11 h12 ha e
        go_enter Tryz.func122,Tryz.ntmps122
        go_wp2_with fail
        go_ret
        exact⟨.slice none 0 0,rfl,⟨none,0,rfl,fun i hi=>by simp[Co]at hi⟩,f⟩
      · have g:Hid (A8 ⟨(m:Int),a,n,b⟩ at'=[at'+1]):=by
          rw[Hid];unfold A8
          rw[if_neg (by simp only;omega),if_neg (by simp only;omega),if_neg (by simp only;omega)]
        have e:(B2 m).2.2.2.2=0:=by
          have h:m=1\/m=2\/m=3\/m=4\/m=5\/m=6\/m=7\/m=8\/m=9\/m=14\/m=15\/m=16:=by omega
          rcases h with h|h|h|h|h|h|h|h|h|h|h|h <;> (rw[h];rfl)
        rw[e]at q
        rw[g.out]
        clear h10 h11 h12 ha e
        go_enter Tryz.func122,Tryz.ntmps122
        go_wp2_with fail
        go_ret
        exact⟨.slice (some ⟨d.heap.size,0,none⟩) 1 1,by simp[l],Ab.newZ (Z:=d) (hs:=[(at':Int)+1]) _ _ rfl,Ac f _⟩
end Go.Proofs.YtfjkahdghhbpnaaGreatDoor
namespace Go.Proofs.YtfjkahdghhbpnaaGreatDoor
theorem Bt.one {c:List Ae} {r q:Int × Int × Int} (h:Bt c r) (h':Bt c q):r=q:=by
 unfold Bt at h h'
 by_cases hp:(B6 c).1≠0
 ·rw[if_pos hp]at h h';rw[h,h']
 ·rw[if_neg hp]at h h'
  obtain⟨y,G,v,I⟩:=h
  obtain⟨z,t,l,n⟩:=h'
  have e:y=z:=by
   apply List.ext_getElem (by rw[G,t])
   intro k C D
   exact(v k (by omega) C).one (l k (by omega) D)
  subst e
  rcases I with⟨k,u,F,s,x,b,E,H,rfl⟩|⟨p,rfl⟩
  ·rcases n with⟨o,g,j,d,f,a,i,m,rfl⟩|⟨p,rfl⟩
   ·have A:k=o:=by
     rcases Nat.lt_trichotomy k o with h|h|h
     ·have:=m k h u x;rw[this]at b;simp at b
     ·exact h
     ·have:=H o h g f;rw[this]at a;simp at a
    subst A
    have B:u=g:=by
     rcases Nat.lt_trichotomy u g with h|h|h
     ·have:=i u h;rw[this]at b;simp at b
     ·exact h
     ·have:=E g h;rw[this]at a;simp at a
    rw[B]
   ·have:=p k F s u x;rw[this]at b;simp at b
  ·rcases n with⟨o,g,j,d,f,a,i,m,rfl⟩|⟨_,rfl⟩
   ·have:=p o j d g f;rw[this]at a;simp at a
   ·rfl
def Ev (e h:Int):Bool:=if e=11 then Cf h else if e=12 then A4 h 1 10 else decide (h=e)
def Cw : List Int->List Int->Bool
 | [],[]=>true
 | e::es,h::hs=>Ev e h && Cw es hs
 | _,_=>false
def Av (c:List Ae) (f:Ae) (i:Ax):List Int :=
 if i.op=3\/i.op=4\/i.op=5 then [12]
 else if i.op=6 then [12,12]
 else if i.op=7 then [11]
 else if i.op=8 then (By i.a).map (fun t=>if t=0 then 11 else t)
 else if i.op=9 then (c.getD i.a.toNat B1).params
 else if i.op=11 then [1]
 else if i.op=12 then (if f.result=0 then [] else [f.result])
 else if i.op=13\/i.op=15 then [2]
 else if i.op=14 then [2,2]
 else []
def Bl (c:List Ae) (i:Ax) (s tk:List Int):Int × Bool :=
 if i.op=1\/i.op=7 then (i.a,decide (i.a≠0))
 else if i.op=2 then (s.getD i.a.toNat 0,decide (s.getD i.a.toNat 0≠0))
 else if i.op=5 then (E8 i.a (tk.getD 0 0),decide (E8 i.a (tk.getD 0 0)≠0))
 else if i.op=6 then (Ct i.a (tk.getD 0 0) (tk.getD 1 0),decide (Ct i.a (tk.getD 0 0) (tk.getD 1 0)≠0))
 else if i.op=8 then (Dc i.a,decide (Dc i.a≠0))
 else if i.op=9 then ((c.getD i.a.toNat B1).result,true)
 else (0,true)
def Cv (k:List Int) (p:Int):List Int:=if p=0 then k else k++[p]
def Gk (c:List Ae) (f:Ae) (i:Ax) (at':Nat) (s k:List Int):Ap :=
 if k.length < (Av c f i).length then .clash
 else if (A8 i at').any (fun v=>decide (v=f.ins.length))=true then .clash
 else if Cw (Av c f i) (k.drop (k.length - (Av c f i).length))=false then .clash
 else if (Bl c i s (k.drop (k.length - (Av c f i).length))).2=false\/600 < (Cv (k.take (k.length - (Av c f i).length)) (Bl c i s (k.drop (k.length - (Av c f i).length))).1).length then .clash
 else .known (if i.op=3 then s.take i.a.toNat++k.drop (k.length - (Av c f i).length)++s.drop (i.a.toNat+1) else s) (Cv (k.take (k.length - (Av c f i).length)) (Bl c i s (k.drop (k.length - (Av c f i).length))).1)
theorem Ml {k:List Int} (h:1<=k.length):k.drop (k.length - 1)=[Az k]:=by
 rw[List.drop_eq_getElem_cons (by omega),List.drop_eq_nil_of_le (by omega)]
 unfold Az
 rw[List.getLast?_eq_getElem?,List.getElem?_eq_getElem (by omega)];rfl
theorem S7 {k:List Int} (h:2<=k.length):k.drop (k.length - 2)=[Ar k,Az k]:=by
 rw[List.drop_eq_getElem_cons (by omega),show k.length - 2+1=k.length - 1 by omega,Ml (by omega)]
 unfold Ar
 rw[List.getLast?_eq_getElem?,List.getElem?_eq_getElem (by simp;omega)]
 simp only[List.length_take,Option.getD_some,List.getElem_take]
 congr 2
 omega
theorem Rh : ∀ (ws hs:List Int),(∀ t ∈ ws,t≠11/\t≠12)->(∀ t ∈ hs,1<=t/\t<=10)->Cw (ws.map (fun t=>if t=0 then 11 else t)) hs=E1 ws hs
 | [],[],_,_=>rfl
 | [],_::_,_,_=>rfl
 | _::_,[],_,_=>rfl
 | w::ws,h::hs,h1,h2=>by
  have c:=Rh ws hs (fun t ht=>h1 t (by simp[ht])) (fun t ht=>h2 t (by simp[ht]))
  simp only[List.map_cons,Cw,E1,c]
  congr 1
  have a:=h1 w (by simp)
  have b:=h2 h (by simp)
  unfold Ev Lp
  by_cases e:w=0
  ·subst e
   have:¬ h=0:=by omega
   simp[this]
  ·simp[e,a.1,a.2]
theorem Rg : ∀ (ps hs:List Int),(∀ t ∈ ps,1<=t/\t<=10)->Cw ps hs=decide (hs=ps)
 | [],[],_=>rfl
 | [],_::_,_=>by simp[Cw]
 | _::_,[],_=>by simp[Cw]
 | p::ps,h::hs,h1=>by
  have b:=Rg ps hs (fun t ht=>h1 t (by simp[ht]))
  have a:=h1 p (by simp)
  simp only[Cw,b,Ev]
  rw[if_neg (by omega),if_neg (by omega)]
  simp
theorem Xj (a:Int):Dc a≠0:=by
 unfold Dc
 repeat (first|split|omega)
theorem Qbp (a:Int):∀ t ∈ By a,0<=t/\t<=10:=by
 unfold By
 intro t b
 repeat' (first|split at b|(simp at b <;> omega))
theorem Zs (c:List Ae) (f:Ae) (i:Ax) (at':Nat) (hok:At c f i=true) (hat:at' < f.ins.length):(A8 i at').any (fun v=>decide (f.ins.length<=v))=(A8 i at').any (fun v=>decide (v=f.ins.length)):=by
 have a:i.op=10\/i.op=11->i.a.toNat<=f.ins.length:=fun h=>by
  unfold At at hok
  split at hok
  ·simp at hok
  ·rw[if_neg (by omega)]at hok
   split at hok
   ·simp at hok
   ·rw[if_neg (by omega),if_neg (by omega),if_neg (by omega),if_neg (by omega),if_neg (by omega),if_neg (by omega)]at hok
    first|(rw[if_pos h]at hok;simp[A4]at hok;omega)|(simp[A4]at hok;omega)
 unfold A8
 split
 ·rfl
 ·split
  ·have:=a (by omega)
   simp;omega
  ·split
   ·have:=a (by omega)
    have b:(f.ins.length<=i.a.toNat) ↔ (i.a.toNat=f.ins.length):=by omega
    have d:(f.ins.length<=at'+1) ↔ (at'+1=f.ins.length):=by omega
    simp[b,d]
   ·simp;omega
theorem Ht {c:List Ae} {f:Ae} {i:Ax} (hok:At c f i=true):1<=i.op/\i.op<=16:=by
 unfold At at hok
 split at hok
 ·simp at hok
 ·rename_i h
  have:¬ A4 i.op 1 16=false:=fun e=>h (.inl e)
  simp[A4]at this
  omega
theorem Xq {s:List Int} {a:Nat} (t:Int) (h:a < s.length):s.take a++[t]++s.drop (a+1)=s.set a t:=by
 rw[List.set_eq_take_append_cons_drop,if_pos h];simp
end Go.Proofs.YtfjkahdghhbpnaaGreatDoor
namespace Go.Proofs.YtfjkahdghhbpnaaGreatDoor
structure Mi (c:List Ae) (f:Ae) (i:Ax) (s k:List Int):Prop where
 ok:At c f i=true
 stack:∀ t ∈ k,1<=t/\t<=10
 slot:i.op=2\/i.op=3->i.a.toNat < s.length
 pars:i.op=9->(∀ t ∈ (c.getD i.a.toNat B1).params,1<=t/\t<=10)
 nz:i.op=1\/i.op=7->i.a≠0
 ret:i.op=12->(i.a=1/\f.result≠0)\/(i.a=0/\f.result=0)
 res:0<=f.result/\f.result<=10
theorem Wb {k:List Int} (h:∀ t ∈ k,1<=t/\t<=10) (hk:0 < k.length):1<=Az k/\Az k<=10:=by
 apply h
 unfold Az
 rw[List.getLast?_eq_getElem?,List.getElem?_eq_getElem (by omega)]
 exact List.getElem_mem _
theorem Qx {k:List Int} (h:∀ t ∈ k,1<=t/\t<=10) (hk:1 < k.length):1<=Ar k/\Ar k<=10:=by
 have e:=S7 (k:=k) (by omega)
 apply h
 have:Ar k ∈ k.drop (k.length - 2):=by rw[e];simp
 exact List.mem_of_mem_drop this
theorem Qcb {A B C D A' B' C':Prop} [Decidable A] [Decidable B] [Decidable C] [Decidable D] [Decidable A'] [Decidable B'] [Decidable C'] {x y:Ap}
  (h1:(A\/B\/C\/D) ↔ (A'\/B'\/C')) (h2:¬ (A'\/B'\/C')->x=y) :
  (if A then Ap.clash else if B then .clash else if C then .clash else if D then .clash else x)=(if A' then Ap.clash else if B' then .clash else if C' then .clash else y):=by
 by_cases h:A'\/B'\/C'
 ·have a:=h1.2 h
  have b:(if A then Ap.clash else if B then .clash else if C then .clash else if D then .clash else x) = .clash:=by
   rcases a with h|h|h|h
   ·rw[if_pos h]
   ·rw[if_pos h];simp
   ·rw[if_pos h];simp
   ·rw[if_pos h];simp
  have c:(if A' then Ap.clash else if B' then .clash else if C' then .clash else y) = .clash:=by
   rcases h with h|h|h
   ·rw[if_pos h]
   ·rw[if_pos h];simp
   ·rw[if_pos h];simp
  rw[b,c]
 ·have a:¬ (A\/B\/C\/D):=fun e=>h (h1.1 e)
  simp only[not_or]at h a
  rw[if_neg a.1,if_neg a.2.1,if_neg a.2.2.1,if_neg a.2.2.2,if_neg h.1,if_neg h.2.1,if_neg h.2.2,h2 (by simp only[not_or];exact h)]
theorem U9 {c:List Ae} {f:Ae} {i:Ax} {at':Nat} {s k:List Int} (hat:at' < f.ins.length) (hok:At c f i=true)
    (h1:(k.length < (Av c f i).length\/Cw (Av c f i) (k.drop (k.length - (Av c f i).length))=false\/(Bl c i s (k.drop (k.length - (Av c f i).length))).2=false) ↔ ((Af c f i s k).2.2=false\/k.length < (Af c f i s k).1))
    (h2:¬ ((Af c f i s k).2.2=false\/k.length < (Af c f i s k).1)->Cv (k.take (k.length - (Av c f i).length)) (Bl c i s (k.drop (k.length - (Av c f i).length))).1=k.take (k.length - (Af c f i s k).1)++(Af c f i s k).2.1)
    (h3:i.op=3->0 < k.length->i.a.toNat < s.length) :
    Gk c f i at' s k=Bn c f i at' s k:=by
  unfold Gk Bn
  rw[Zs c f i at' hok hat]
  apply Qcb
  · by_cases q:(Af c f i s k).2.2=false\/k.length < (Af c f i s k).1
    · have:=h1.2 q
      constructor
      · intro _;exact .inl q
      · intro _
        rcases this with h|h|h
        · exact .inl h
        · exact .inr (.inr (.inl h))
        · exact .inr (.inr (.inr (.inl h)))
    · have a:¬ _:=fun e=>q (h1.1 e)
      simp only[not_or]at a
      rw[h2 q]
      constructor
      · rintro(h|h|h|h|h)
        · exact(a.1 h).elim
        · exact .inr (.inl h)
        · exact(a.2.1 h).elim
        · exact(a.2.2 h).elim
        · exact .inr (.inr h)
      · rintro(h|h|h)
        · exact(q h).elim
        · exact .inr (.inl h)
        · exact .inr (.inr (.inr (.inr h)))
  · intro g
    have q:¬ _:=fun e=>g (.inl e)
    have a:¬ _:=fun e=>q (h1.1 e)
    simp only[not_or]at a
    rw[h2 q]
    by_cases e3:i.op=3
    · have b:Av c f i=[12]:=by unfold Av;rw[if_pos (.inl e3)]
      have d:0 < k.length:=by have:=a.1;rw[b,List.length_singleton]at this;omega
      rw[if_pos e3,if_pos e3,b,List.length_singleton,Ml (by omega),Xq _ (h3 e3 d)]
    · rw[if_neg e3,if_neg e3]
def Jp (c:List Ae) (f:Ae) (i:Ax) (s k:List Int):Prop :=
 ((k.length < (Av c f i).length\/Cw (Av c f i) (k.drop (k.length - (Av c f i).length))=false\/(Bl c i s (k.drop (k.length - (Av c f i).length))).2=false) ↔ ((Af c f i s k).2.2=false\/k.length < (Af c f i s k).1)) /\
 (¬ ((Af c f i s k).2.2=false\/k.length < (Af c f i s k).1)->Cv (k.take (k.length - (Av c f i).length)) (Bl c i s (k.drop (k.length - (Av c f i).length))).1=k.take (k.length - (Af c f i s k).1)++(Af c f i s k).2.1)
theorem Qdg (c:List Ae) (f:Ae) (a n:Int) (text:ByteArray) (s k:List Int) (hst:∀ t ∈ k,1<=t/\t<=10):Jp c f ⟨8,a,n,text⟩ s k:=by
 have d:Av c f ⟨8,a,n,text⟩=(By a).map (fun t=>if t=0 then 11 else t):=by simp[Av]
 have i:∀ tk,Bl c ⟨8,a,n,text⟩ s tk=(Dc a,decide (Dc a≠0)):=fun tk=>by simp[Bl]
 have h:=Xj a
 have g:=Rh (By a) (k.drop (k.length - (By a).length)) (fun t ht=>by have:=Qbp a t ht;omega) (fun t ht=>hst t (List.mem_of_mem_drop ht))
 unfold Jp
 rw[d,i,List.length_map,g]
 by_cases q:k.length < (By a).length
 ·have b:Af c f ⟨8,a,n,text⟩ s k=(0,[],false):=by simp[Af,q]
  rw[b]
  simp[q]
 ·have b:Af c f ⟨8,a,n,text⟩ s k=((By a).length,[Dw a (k.drop (k.length - (By a).length))],decide (Dw a (k.drop (k.length - (By a).length))≠0)):=by simp[Af,q]
  rw[b]
  unfold Dw
  cases hL:E1 (By a) (k.drop (k.length - (By a).length))
  ·simp[q]
  ·simp[q,h,Cv]
theorem Qdh (c:List Ae) (f:Ae) (a n:Int) (text:ByteArray) (s k:List Int) (hpa:∀ t ∈ (c.getD a.toNat B1).params,1<=t/\t<=10):Jp c f ⟨9,a,n,text⟩ s k:=by
 obtain⟨g,b⟩:∃ g,c.getD a.toNat B1=g:=⟨_,rfl⟩
 rw[b]at hpa
 have h:Av c f ⟨9,a,n,text⟩=g.params:=by rw[<- b];simp[Av]
 have j:∀ tk,Bl c ⟨9,a,n,text⟩ s tk=(g.result,true):=fun tk=>by rw[<- b];simp[Bl]
 have i:=Rg g.params (k.drop (k.length - g.params.length)) hpa
 have d:Af c f ⟨9,a,n,text⟩ s k=(if k.length < g.params.length then (0,[],false) else if k.drop (k.length - g.params.length)=g.params then (g.params.length,if g.result=0 then [] else [g.result],true) else (0,[],false)):=by rw[<- b];simp[Af]
 unfold Jp
 rw[h,j,i,d]
 by_cases q:k.length < g.params.length
 ·simp[q]
 ·rw[if_neg q]
  by_cases e:k.drop (k.length - g.params.length)=g.params
  ·rw[if_pos e]
   simp[q,e,Cv]
   split <;> simp
  ·rw[if_neg e]
   simp[e]
theorem Qcq (c:List Ae) (f:Ae) (a n:Int) (text:ByteArray) (s k:List Int) (hre:(a=1/\f.result≠0)\/(a=0/\f.result=0)) (hrr:0<=f.result/\f.result<=10):Jp c f ⟨12,a,n,text⟩ s k:=by
 have j:∀ tk,Bl c ⟨12,a,n,text⟩ s tk=(0,true):=fun tk=>by simp[Bl]
 unfold Jp
 rcases hre with⟨rfl,i⟩|⟨rfl,i⟩
 ·have h:Av c f ⟨12,1,n,text⟩=[f.result]:=by simp[Av,i]
  have b:¬ f.result=11:=by omega
  have d:¬ f.result=12:=by omega
  rw[h,j]
  by_cases k0:0 < k.length
  ·have g:=Ml (k:=k) (by omega)
   have m:¬ k=[]:=by rintro rfl;simp at k0
   have l:¬ k.length < 1:=by omega
   rw[List.length_singleton,g]
   simp[Af,Cw,Ev,b,d,k0,l,Cv]
  ·have:k=[]:=List.length_eq_zero_iff.1 (by omega)
   subst this
   simp[Af]
 ·have h:Av c f ⟨12,0,n,text⟩=[]:=by simp[Av,i]
  rw[h,j]
  simp[Af,Cw,Cv]
theorem Ti {c:List Ae} {f:Ae} {i:Ax} {at':Nat} {s k:List Int} (hat:at' < f.ins.length) (h:Mi c f i s k):Gk c f i at' s k=Bn c f i at' s k:=by
  obtain⟨F,C⟩:=Ht h.ok
  have l:=h.stack
  have u:=h.slot
  have r:=h.pars
  have g:=h.nz
  have t:=h.ret
  have D:=h.res
  suffices hS:Jp c f i s k from U9 hat h.ok hS.1 hS.2 (fun e _=>u (.inr e))
  obtain⟨b,a,n,m⟩:=i
  simp only at F C u r g t
  have q:b=8\/b=9\/b=12\/b=1\/b=2\/b=3\/b=4\/b=5\/b=6\/b=7\/b=10\/b=11\/b=13\/b=14\/b=15\/b=16:=by omega
  rcases q with rfl|rfl|rfl|q
  · exact Qdg c f a n m s k l
  · exact Qdh c f a n m s k (r rfl)
  · exact Qcq c f a n m s k (t rfl) D
  · by_cases k0:0 < k.length
    · have I:=Wb l k0
      have d:=Ml (k:=k) (by omega)
      have y:¬ k=[]:=by rintro rfl;simp at k0
      by_cases k1:1 < k.length
      · have H:=Qx l k1
        have j:=S7 (k:=k) (by omega)
        have v:¬ k.length < 2:=by omega
        have p:¬ k.length < 1:=by omega
        rcases q with rfl|rfl|rfl|rfl|rfl|rfl|rfl|rfl|rfl|rfl|rfl|rfl|rfl
        all_goals
          refine⟨?_, ?_⟩
          · first
            | (simp[Av,Af,Bl,Cw,Ev,A4,d,j,y,v];done)
            | (simp[Av,Af,Bl,Cw,Ev,A4,d,j,y,v];omega)
          · first
            | (simp[Av,Af,Bl,Cv,d,j,y,v,p];done)
            | (simp[Av,Af,Bl,Cv,p,g];done)
            | (simp[Av,Af,Bl,Cv,d,j,y,v,p];intro h G;simp[h,G];done)
            | (simp[Av,Af,Bl,Cv,d,j,y,v,p];intro h;simp[h];done)
      · obtain⟨x,rfl⟩:∃ x,k=[x]:=by
          match k,k0,k1 with
          | [x],_,_=>exact⟨x,rfl⟩
          | _::_::_,_,h=>simp at h
        have J:1<=x/\x<=10:=l x (by simp)
        obtain⟨K,E⟩:=J
        have z:Az [x]=x:=rfl
        have B:Ar [x]=0:=rfl
        have A:∀ o,Ct o 0 x=0:=fun o=>by unfold Ct;rw[if_pos (.inl (by omega))]
        have M:¬ x < 1:=by omega
        have L:¬ 10 < x:=by omega
        clear l I d k0 k1 h
        rcases q with rfl|rfl|rfl|rfl|rfl|rfl|rfl|rfl|rfl|rfl|rfl|rfl|rfl
        all_goals
          refine⟨?_, ?_⟩
          · first
            | (simp[Av,Af,Bl,Cw,Ev,A4,z,B,A,K,E];done)
            | (simp[Av,Af,Bl,Cw,Ev,z,g];done)
          · first
            | (simp[Av,Af,Bl,Cv,z,B,A];done)
            | (simp[Av,Af,Bl,Cv,z,g];done)
            | (simp[Av,Af,Bl,Cv,z,B,A];intro h;simp[h];done)
    · have:k=[]:=List.length_eq_zero_iff.1 (by omega)
      subst this
      rcases q with rfl|rfl|rfl|rfl|rfl|rfl|rfl|rfl|rfl|rfl|rfl|rfl|rfl
      all_goals
        refine⟨?_, ?_⟩
        · first
          | (simp[Av,Af,Bl,Cw,Az,Ar,Ct,E8,Cf];done)
          | (simp[Av,Af,Bl,Cw,g];done)
        · first
          | (simp[Av,Af,Bl,Cv,Az,Ar];done)
          | (simp[Av,Af,Bl,Cv,g];done)
          | (simp[Av,Af,Bl,Cv,Az,Ar];intro h;simp[h];done)
end Go.Proofs.YtfjkahdghhbpnaaGreatDoor
namespace Go.Proofs.YtfjkahdghhbpnaaGreatDoor
def Dn : Ap->Prop
 | .known s k=>(∀ t ∈ s,0<=t/\t<=10)/\(∀ t ∈ k,1<=t/\t<=10)/\k.length<=600
 | _=>True
def Nz (c:List Ae):Prop := ∀ g ∈ c,(0<=g.result/\g.result<=10)/\∀ t ∈ g.params,1<=t/\t<=10
theorem Nz.get {c:List Ae} (h:Nz c) (j:Nat):(0<=(c.getD j B1).result/\(c.getD j B1).result<=10)/\∀ t ∈ (c.getD j B1).params,1<=t/\t<=10:=by
 by_cases hj:j < c.length
 ·rw[List.getD_eq_getElem?_getD,List.getElem?_eq_getElem hj]
  exact h _ (List.getElem_mem hj)
 ·rw[List.getD_eq_getElem?_getD,List.getElem?_eq_none (by omega)]
  simp[B1]
theorem Qad {a n:Int} {text:ByteArray} (h:Cn ⟨a,n,text⟩=true):1<=a/\a<=10:=by
 unfold Cn at h
 simp only at h
 split at h
 ·omega
 ·split at h
  ·omega
  ·simp[Bf]at h;omega
theorem Ka {c:List Ae} {f:Ae} {i:Ax} (hok:At c f i=true) :
  (i.op=1->1<=i.a/\i.a<=10)/\(i.op=7->3<=i.a/\i.a<=10)/\(i.op=2\/i.op=3->0<=i.a/\i.a < f.slots)/\(i.op=5->1<=i.a/\i.a<=3)/\(i.op=6->3<=i.a/\i.a<=18)/\(i.op=8->1<=i.a/\i.a<=12)/\(i.op=9->0<=i.a/\i.a < c.length)/\(i.op=10\/i.op=11->0<=i.a/\i.a<=f.ins.length)/\(i.op=12->(i.a=1/\f.result≠0)\/(i.a=0/\f.result=0)):=by
 obtain⟨g,a,n,d⟩:=i
 have b:=Ht hok
 unfold At at hok
 simp only at hok b |-
 split at hok
 ·simp at hok
 ·split at hok
  ·have:=Qad hok
   refine⟨fun _=>this, ?_, ?_, ?_, ?_, ?_, ?_, ?_, ?_⟩ <;> (intro h;omega)
  ·split at hok
   ·simp at hok
   ·repeat' (first|(split at hok))
    all_goals simp[A4,Cf]at hok
    all_goals (refine⟨?_, ?_, ?_, ?_, ?_, ?_, ?_, ?_, ?_⟩ <;> (intro h;omega))
theorem Re {c:List Ae} {f:Ae} {i:Ax} {s k:List Int} (hc:Nz c) (hr:0<=f.result/\f.result<=10) (hok:At c f i=true) (hl:s.length=f.slots.toNat) (hk:∀ t ∈ k,1<=t/\t<=10):Mi c f i s k:=by
 obtain⟨b,g,d,-,-,-,j,-,a⟩:=Ka hok
 refine⟨hok,hk,fun h => ?_,fun h=>(hc.get i.a.toNat).2,fun h => ?_,a,hr⟩
 ·have:=d h;omega
 ·rcases h with h|h
  ·have:=b h;omega
  ·have:=g h;omega
theorem Qdj {o t:Int} (ht:1<=t/\t<=10) (h:E8 o t≠0):1<=E8 o t/\E8 o t<=10:=by
 unfold E8 at h |-
 split <;> rename_i e
 ·rw[if_pos e]at h
  split <;> rename_i e2
  ·omega
  ·rw[if_neg e2]at h;omega
 ·rw[if_neg e]at h
  split <;> rename_i e2
  ·exact ht
  ·rw[if_neg e2]at h;omega
theorem Qca {o a b:Int} (ha:1<=a/\a<=10) (h:Ct o a b≠0):1<=Ct o a b/\Ct o a b<=10:=by
 revert h
 unfold Ct
 repeat' (first|split)
 all_goals (intro h;first|omega|exact ha)
theorem Z3 (a:Int):1<=Dc a/\Dc a<=10:=by
 unfold Dc
 repeat' (first|split)
 all_goals omega
theorem Wa {c:List Ae} {f:Ae} {i:Ax} {s k:List Int} (hc:Nz c) (h:Mi c f i s k) (hs:∀ t ∈ s,0<=t/\t<=10) (hl:¬ k.length < (Av c f i).length) (h2:(Bl c i s (k.drop (k.length - (Av c f i).length))).2=true) :
    0<=(Bl c i s (k.drop (k.length - (Av c f i).length))).1/\(Bl c i s (k.drop (k.length - (Av c f i).length))).1<=10:=by
  obtain⟨m,o,p,-,-,-,q,-,g⟩:=Ka h.ok
  have d:=h.stack
  obtain⟨l,a,n,b⟩:=i
  simp only at m o p q g
  by_cases e5:l=5
  · subst e5
    have j:Av c f ⟨5,a,n,b⟩=[12]:=by simp[Av]
    rw[j]at h2 hl |-
    rw[List.length_singleton]at h2 hl |-
    rw[Ml (by omega)]at h2 |-
    simp[Bl]at h2 |-
    have:=Qdj (Wb d (by omega)) h2
    omega
  · by_cases e6:l=6
    · subst e6
      have j:Av c f ⟨6,a,n,b⟩=[12,12]:=by simp[Av]
      rw[j]at h2 hl |-
      have e:([12,12]:List Int).length=2:=rfl
      rw[e]at h2 hl |-
      rw[S7 (by omega)]at h2 |-
      simp[Bl]at h2 |-
      have:=Qca (Qx d (by omega)) h2
      omega
    · generalize (k.drop (k.length - (Av c f ⟨l,a,n,b⟩).length))=tk at h2 |-
      revert h2
      unfold Bl
      simp only[e5,e6,if_false]
      repeat' (first|split)
      · rename_i e;intro _;rcases e with e|e
        · have:=m e;omega
        · have:=o e;omega
      · intro _
        by_cases hj:a.toNat < s.length
        · rw[List.getD_eq_getElem?_getD,List.getElem?_eq_getElem hj]
          exact hs _ (List.getElem_mem hj)
        · rw[List.getD_eq_getElem?_getD,List.getElem?_eq_none (by omega)];simp
      · intro _;have:=Z3 a;omega
      · intro _;exact(hc.get _).1
      · intro _;simp
theorem Tg {c:List Ae} {f:Ae} {i:Ax} {at':Nat} {s k:List Int} (hc:Nz c) (hat:at' < f.ins.length) (h:Mi c f i s k) (hf:Dn (.known s k)):Dn (Bn c f i at' s k):=by
 obtain⟨hs,b,g⟩:=hf
 rw[<- Ti hat h]
 unfold Gk
 split
 ·trivial
 ·rename_i q1
  split
  ·trivial
  ·split
   ·trivial
   ·split
    ·trivial
    ·rename_i q
     simp only[not_or]at q
     have d:(Bl c i s (k.drop (k.length - (Av c f i).length))).2=true:=by simpa using q.1
     have j:=Wa hc h hs q1 d
     refine⟨fun t a => ?_,fun t a => ?_,Nat.le_of_not_lt q.2⟩
     ·split at a
      ·simp only[List.mem_append]at a
       rcases a with(a|a)|a
       ·exact hs t (List.mem_of_mem_take a)
       ·have:=b t (List.mem_of_mem_drop a);omega
       ·exact hs t (List.mem_of_mem_drop a)
      ·exact hs t a
     ·unfold Cv at a
      split at a
      ·exact b t (List.mem_of_mem_take a)
      ·rename_i qp
       simp only[List.mem_append,List.mem_singleton]at a
       rcases a with a|a
       ·exact b t (List.mem_of_mem_take a)
       ·rw[a];omega
theorem Qw {s s':List Int} (h:∀ t ∈ s,0<=t/\t<=10):∀ t ∈ Bi s s',0<=t/\t<=10:=by
 intro t a
 unfold Bi at a
 obtain⟨j,b,rfl⟩:=List.getElem_of_mem a
 rw[List.getElem_zipWith]
 split
 ·exact h _ (List.getElem_mem _)
 ·omega
theorem Xi : ∀ {a b:Ap},Dn a->Dn b->Dn (Bd a b)
 | .none,.none,_,_=>trivial
 | .none,.known _ _,_,h=>h
 | .none,.clash,_,_=>trivial
 | .known _ _,.none,h,_=>h
 | .known _ _,.clash,_,_=>trivial
 | .clash,.none,_,_=>trivial
 | .clash,.known _ _,_,_=>trivial
 | .clash,.clash,_,_=>trivial
 | .known s k,.known s' k',h,_=>by
  rw[Bd]
  by_cases e:k=k'
  ·rw[if_pos e];exact⟨Qw h.1,h.2⟩
  ·rw[if_neg e];trivial
open Go.RowKit
theorem Xm {a b:Bool} (h:a=b):Ending.returned (.bool a) = .returned (.bool b):=by rw[h]
theorem Kc {a b:Int} (h:a=b):Ending.returned (.int .i64 a) = .returned (.int .i64 b):=by rw[h]
theorem Zv (b:Bool) (t:Int) (HB:Hid (A4 t 1 10=b)) (w:World) :
  Calls Tryz.prog 117 #[.int .i64 t] w fun e w'=>e = .returned (.bool b)/\w=w':=by
 rw[<- HB.out]
 by_cases h1:1<=t
 all_goals
  go_enter Tryz.func117,Tryz.ntmps117
  go_wp2
  all_goals go_ret
  all_goals exact⟨Xm (by first|(simp[A4,h1];done)|(simp[A4];omega)),rfl⟩
theorem Gz (b:Bool) (t:Int) (HB:Hid (Cf t=b)) (w:World) :
  Calls Tryz.prog 142 #[.int .i64 t] w fun e w'=>e = .returned (.bool b)/\w=w':=by
 rw[<- HB.out]
 by_cases h1:3<=t
 all_goals
  go_enter Tryz.func142,Tryz.ntmps142
  go_wp2
  all_goals go_ret
  all_goals exact⟨Xm (by first|(simp[Cf,h1];done)|(simp[Cf];omega)),rfl⟩
theorem Q5 (b:Bool) (k h:Int) (HB:Hid (Ev k h=b)) (w:World) :
    Calls Tryz.prog 150 #[.int .i64 k,.int .i64 h] w fun e w'=>e = .returned (.bool b)/\w=w':=by
  by_cases h11:k=11
  · subst h11
    have a:Hid (Cf h=b):=by rw[Hid,<- HB.out,Ev,if_pos rfl]
    go_enter Tryz.func150,Tryz.ntmps150
    go_wp2_with (first|(go_at_call 142;refine(Gz _ _ a _).mono ?_;rintro e w' ⟨rfl,rfl⟩))
    go_ret
    exact⟨rfl,rfl⟩
  · by_cases h12:k=12
    · subst h12
      have a:Hid (A4 h 1 10=b):=by rw[Hid,<- HB.out,Ev,if_neg (by decide),if_pos rfl]
      go_enter Tryz.func150,Tryz.ntmps150
      go_wp2_with (first|(go_at_call 117;refine(Zv _ _ a _).mono ?_;rintro e w' ⟨rfl,rfl⟩))
      go_ret
      exact⟨rfl,rfl⟩
    · have c:(k == 11)=false:=by simp[h11]
      have d:(k == 12)=false:=by simp[h12]
      have a:Hid ((h == k)=b):=by rw[Hid,<- HB.out,Ev,if_neg h11,if_neg h12];rfl
      clear h11 h12
      go_enter Tryz.func150,Tryz.ntmps150
      go_wp2
      go_ret
      exact⟨by rw[<- a.out];rfl,rfl⟩
theorem Vm (op t:Int) (h1:1<=op) (h3:op<=3) (w:World) :
  Calls Tryz.prog 164 #[.int .i64 op,.int .i64 t] w fun e w'=>e = .returned (.int .i64 (E8 op t))/\w=w':=by
 obtain⟨b,a⟩:∃ b,Hid (Cf t=b):=⟨_,(rfl:Cf t=_)⟩
 have c:op=1\/op=2\/op=3:=by omega
 clear h1 h3
 cases b
 all_goals
  rcases c with rfl|rfl|rfl
  all_goals
   go_enter Tryz.func164,Tryz.ntmps164
   go_wp2_with (go_at_call 142;refine(Gz _ _ a _).mono ?_;rintro e w' ⟨rfl,rfl⟩)
   all_goals go_ret
   all_goals exact⟨Kc (by have:=a.out;simp_all [E8]),rfl⟩
theorem Tt (op a b:Int) (h3:3<=op) (h18:op<=18) (ha:1<=a/\a<=10) (w:World) :
  Calls Tryz.prog 165 #[.int .i64 op,.int .i64 a,.int .i64 b] w fun e w'=>e = .returned (.int .i64 (Ct op a b))/\w=w':=by
 by_cases hab:a=b
 ·subst hab
  obtain⟨r,d⟩:∃ r,Hid (Ct op a a=r):=⟨_,(rfl:Ct op a a=_)⟩
  rw[d.out]
  have n:(a != a)=false:=by simp
  obtain⟨x,c⟩:∃ b,Hid (Cf a=b):=⟨_,(rfl:Cf a=_)⟩
  have f:op=3\/op=4\/op=5\/op=6\/op=7\/op=8\/op=9\/op=10\/op=11\/op=12\/op=13\/op=14\/op=15\/op=16\/op=17\/op=18:=by omega
  have i:Hid (1<=a/\a<=10):=ha
  have o:(a != 0)=true:=by simp;omega
  clear h3 h18 ha
  cases x with
  | true =>
   have g:(a == 2)=false:=by have:=c.out;simp[Cf]at this;simp;omega
   have j:Hid (a≠1/\a≠0):=by have:=c.out;simp[Cf]at this;exact⟨by omega,by omega⟩
   rcases f with rfl|rfl|rfl|rfl|rfl|rfl|rfl|rfl|rfl|rfl|rfl|rfl|rfl|rfl|rfl|rfl
   all_goals
    go_enter Tryz.func165,Tryz.ntmps165
    go_wp2_with (go_at_call 142;refine(Gz _ _ c _).mono ?_;rintro e w' ⟨rfl,rfl⟩)
    all_goals go_ret
    all_goals exact⟨Kc (by rw[<- d.out];simp[Ct,j.out,c.out]),rfl⟩
  | false =>
   by_cases g:a=2
   ·subst g
    rcases f with rfl|rfl|rfl|rfl|rfl|rfl|rfl|rfl|rfl|rfl|rfl|rfl|rfl|rfl|rfl|rfl
    all_goals
     go_enter Tryz.func165,Tryz.ntmps165
     go_wp2_with (go_at_call 142;refine(Gz _ _ c _).mono ?_;rintro e w' ⟨rfl,rfl⟩)
     all_goals go_ret
     all_goals exact⟨Kc (by rw[<- d.out];simp[Ct,Cf]),rfl⟩
   ·have k:a=1:=by have h:=c.out;have m:=i.out;simp[Cf]at h;omega
    subst k
    rcases f with rfl|rfl|rfl|rfl|rfl|rfl|rfl|rfl|rfl|rfl|rfl|rfl|rfl|rfl|rfl|rfl
    all_goals
     go_enter Tryz.func165,Tryz.ntmps165
     go_wp2_with (go_at_call 142;refine(Gz _ _ c _).mono ?_;rintro e w' ⟨rfl,rfl⟩)
     all_goals go_ret
     all_goals exact⟨Kc (by rw[<- d.out];simp[Ct,Cf]),rfl⟩
 ·have l:(a != b)=true:=by simp[hab]
  have d:Hid (0=Ct op a b):=by rw[Hid,Ct,if_pos (.inl hab)]
  go_enter Tryz.func165,Tryz.ntmps165
  go_wp2
  go_ret
  exact⟨Kc d.out,rfl⟩
def He (l:List Int) (v k:Int):Prop:=(k = -1/\v ∉ l)\/∃ j:Nat,∃ h:j < l.length,k=(j:Int)/\l[j]=v/\∀ i (hi:i < l.length),i < j->l[i]≠v
theorem Lq (l:List Int) (v:Int) (a:Option Addr) (cap:Nat) (hl:l.length<=1048576) (B:Nat) (w:World) (hL:Ab B w (.slice a l.length cap) l) :
  Calls Tryz.prog 163 #[.slice a l.length cap,.int .i64 v] w fun e w'=>(∃ k:Int,e = .returned (.int .i64 k)/\He l v k)/\w=w':=by
 have q:Hid (Ab B w (.slice a l.length cap) l):=hL
 clear hL
 go_enter Tryz.func163,Tryz.ntmps163
 go_wp2_with fail
 go_loopw [8] (fun t wr => ∃ i:Nat,i<=l.length/\t = .int .i64 (i:Int)/\w=wr/\∀ j (c:j < l.length),j < i->l[j]≠v) (fun t _=>l.length - (intOf t).toNat)
 case atStart=>exact⟨0,by omega,rfl,rfl,fun j c h=>by omega⟩
 case round =>
  obtain⟨i,D,rfl,rfl,f⟩:=hrel
  have b:Hid (∀ j (c:j < l.length),j < i->l[j]≠v):=f
  clear f
  by_cases hlt:i < l.length
  ·have d:(i:Int) < (l.length:Int):=by omega
   obtain⟨g,o,rfl,r⟩:∃ g o,a=some ⟨g,o,none⟩/\w.cell? ⟨g,o+i,none⟩=some (.int .i64 l[i]):=by
    obtain⟨A,C,e,y⟩:=q.out
    injection e with e1
    subst e1
    obtain⟨g,o,s,_,u⟩:=y i hlt
    exact⟨g,o,s,u⟩
   obtain⟨x,p⟩:∃ x,Hid (l[i]=x):=⟨_,(rfl:l[i]=_)⟩
   rw[p.out]at r
   by_cases hv:v=x
   ·subst hv
    have n:Hid (He l v (i:Int)):=.inr ⟨i,hlt,rfl,p.out,b.out⟩
    go_wp2_with fail
    go_ret
    exact⟨⟨_,rfl,n.out⟩,rfl⟩
   ·have z:(v == x)=false:=by simp[hv]
    have m:Hid (∀ j (c:j < l.length),j < i+1->l[j]≠v):=fun j c h=>by
     by_cases e:j=i
     ·subst e;rw[p.out];exact fun e=>hv e.symm
     ·exact b.out j c (by omega)
    go_wp2_with fail
    go_roundw
    case rel=>exact⟨i+1,by omega,by go_num,by first|rfl|trivial,m.out⟩
    case measure=>simp[intOf];omega
  ·have d:¬ (i:Int) < (l.length:Int):=by omega
   have n:Hid (He l v (-1)):=.inl ⟨rfl,fun hm=>by
    obtain⟨j,c,e⟩:=List.getElem_of_mem hm
    exact b.out j c (by omega) e⟩
   go_wp2_with fail
   go_ret
   exact⟨⟨_,rfl,n.out⟩,rfl⟩
theorem R0 (l:List Int) (v:Int) (a:Option Addr) (cap:Nat) (hl:l.length<=1048576) (B:Nat) (w:World) (hL:Ab B w (.slice a l.length cap) l) (b:Bool) (HB:Hid (decide (v ∈ l)=b)) :
  Calls Tryz.prog 149 #[.slice a l.length cap,.int .i64 v] w fun e w'=>e = .returned (.bool b)/\w=w':=by
 have d:Hid (Calls Tryz.prog 163 #[.slice a l.length cap,.int .i64 v] w fun e w'=>(∃ k:Int,e = .returned (.int .i64 k)/\decide (0<=k)=b)/\w=w'):=(Lq l v a cap hl B w hL).mono (by
  rintro e w' ⟨⟨k,rfl,c⟩,rfl⟩
  refine⟨⟨k,rfl, ?_⟩,rfl⟩
  rw[<- HB.out]
  rcases c with⟨rfl,h⟩|⟨j,g,rfl,f,_⟩
  ·simp[h]
  ·have:v ∈ l:=by rw[<- f];exact List.getElem_mem g
   simp[this])
 clear hL HB
 go_enter Tryz.func149,Tryz.ntmps149
 go_wp2_with (go_at_call 163;refine d.out.mono ?_;rintro e w' ⟨⟨k,rfl,c⟩,rfl⟩)
 all_goals go_ret
 all_goals exact⟨Xm (by first|exact c|(simp_all;done)|(rw[<- c];simp;omega)),rfl⟩
def Fv (op:Nat):List Int:=(By (op:Int)).map (fun t=>if t=0 then 11 else t)
structure Dj (w:World):Prop where
 lt1:1 < w.heap.size
 lt2:2 < w.heap.size
 kid:∀ m:Nat,1<=m->m<=12->∀ j,j < 3->w.cell? ⟨1,m * 4+j,none⟩=some (.int .i64 ((Fv m).getD j 0))
 gives:∀ m:Nat,1<=m->m<=12->w.cell? ⟨1,m * 4+3,none⟩=some (.int .i64 (Dc (m:Int)))
 kids:∀ m:Nat,1<=m->m<=12->w.cell? ⟨2,m * 2+1,none⟩=some (.int .i64 ((Fv m).length:Int))
theorem Dj.below {w w':World} (h:Dj w) (hb:Below w.heap.size w w'):Dj w' :=
 ⟨Nat.lt_of_lt_of_le h.lt1 hb.size,Nat.lt_of_lt_of_le h.lt2 hb.size,fun m h1 h2 j hj=>(hb.cell (p:=⟨_,_,none⟩) h.lt1).trans (h.kid m h1 h2 j hj),fun m h1 h2=>(hb.cell (p:=⟨_,_,none⟩) h.lt1).trans (h.gives m h1 h2),fun m h1 h2=>(hb.cell (p:=⟨_,_,none⟩) h.lt2).trans (h.kids m h1 h2)⟩
theorem Zx (m:Nat):(Fv m).length<=3:=by
 unfold Fv By
 rw[List.length_map]
 repeat' (first|split)
 all_goals simp
structure Gf (g:Nat) (w:World) (cv:Value) (f:Ae) (pv iv lv wv:Value):Prop where
 blk:w.heap[g]? = some (.cells #[cv,.string f.name,pv,.int .i64 f.result,.int .i64 f.slots,iv,lv,wv] 186 (0,0))
theorem Gf.lt {g:Nat} {w:World} {cv:Value} {f:Ae} {pv iv lv wv:Value} (h:Gf g w cv f pv iv lv wv):g < w.heap.size:=(Array.getElem?_eq_some_iff.1 h.blk).1
theorem Gf.below {g:Nat} {w w':World} {cv:Value} {f:Ae} {pv iv lv wv:Value} (h:Gf g w cv f pv iv lv wv) (hb:Below w.heap.size w w'):Gf g w' cv f pv iv lv wv:=⟨(hb.block g h.lt).trans h.blk⟩
theorem Gf.cells {g:Nat} {w:World} {cv:Value} {f:Ae} {pv iv lv wv:Value} (h:Gf g w cv f pv iv lv wv):w.cell? ⟨g,0,none⟩=some cv/\w.cell? ⟨g,1,none⟩=some (.string f.name)/\w.cell? ⟨g,2,none⟩=some pv/\w.cell? ⟨g,3,none⟩=some (.int .i64 f.result)/\w.cell? ⟨g,4,none⟩=some (.int .i64 f.slots)/\w.cell? ⟨g,5,none⟩=some iv/\w.cell? ⟨g,6,none⟩=some lv/\w.cell? ⟨g,7,none⟩=some wv:=by
 refine⟨?_, ?_, ?_, ?_, ?_, ?_, ?_, ?_⟩ <;> (rw[Lib.cell_of_heap h.blk];rfl)
theorem Mq (w:World) (xs:List Int) (t:TypeId) (k cap:Nat) (hk:k<=xs.length) (W:World) (hW:W.heap[w.heap.size]? = some (.cells (Al xs).toArray t (0,0))) (hs:w.heap.size < W.heap.size):Ab W.heap.size W (.slice (some ⟨w.heap.size,0,none⟩) k cap) (xs.take k):=by
 refine⟨some ⟨w.heap.size,0,none⟩,cap,by rw[List.length_take,Nat.min_eq_left hk],fun i hi=>⟨w.heap.size,0,rfl,hs, ?_⟩⟩
 rw[List.length_take]at hi
 rw[Lib.cell_of_heap hW]
 simp[Al,List.getElem_take]
end Go.Proofs.YtfjkahdghhbpnaaGreatDoor
