import Derived.Test.YtahibkjkpmdhgaaGreatDoorKCeE
set_option maxRecDepth 100000
set_option maxHeartbeats 2000000
namespace Go.Proofs.YtahibkjkpmdhgaaGreatDoor
open Go.RowKit
def B1 (m:Nat):Bool × Int × Int × Int × Int :=
 if m=1 then (true,0,0,16,0) else if m=2 then (true,0,0,17,0) else if m=3 then (true,12,0,0,0) else if m=4 then (false,12,0,0,0)
 else if m=5 then (true,12,0,18,0) else if m=6 then (true,12,12,19,0) else if m=7 then (true,11,0,16,0) else if m=8 then (true,13,0,20,0)
 else if m=9 then (true,14,0,21,0) else if m=10 then (true,0,0,0,1) else if m=11 then (true,1,0,0,2) else if m=12 then (true,15,0,0,3)
 else if m=13 then (false,2,0,0,3) else if m=14 then (false,2,2,0,0) else if m=15 then (false,2,0,0,0) else (false,0,0,0,0)
structure B2 (w:World):Prop where
 lt:0 < w.heap.size
 hasA:∀ m:Nat,1<=m->m<=16->w.cell? ⟨0,m * 5,none⟩=some (.bool (B1 m).1)
 take0:∀ m:Nat,1<=m->m<=16->w.cell? ⟨0,m * 5+1,none⟩=some (.int .i64 (B1 m).2.1)
 take1:∀ m:Nat,1<=m->m<=16->w.cell? ⟨0,m * 5+2,none⟩=some (.int .i64 (B1 m).2.2.1)
 puts:∀ m:Nat,1<=m->m<=16->w.cell? ⟨0,m * 5+3,none⟩=some (.int .i64 (B1 m).2.2.2.1)
 goes:∀ m:Nat,1<=m->m<=16->w.cell? ⟨0,m * 5+4,none⟩=some (.int .i64 (B1 m).2.2.2.2)
theorem B2.below {w w':World} (h:B2 w) (hb:Below w.heap.size w w'):B2 w' :=
 ⟨Nat.lt_of_lt_of_le h.lt hb.size,fun m h1 h2=>(hb.cell (p:=⟨_,_,none⟩) h.lt).trans (h.hasA m h1 h2),fun m h1 h2=>(hb.cell (p:=⟨_,_,none⟩) h.lt).trans (h.take0 m h1 h2),fun m h1 h2=>(hb.cell (p:=⟨_,_,none⟩) h.lt).trans (h.take1 m h1 h2),fun m h1 h2=>(hb.cell (p:=⟨_,_,none⟩) h.lt).trans (h.puts m h1 h2),fun m h1 h2=>(hb.cell (p:=⟨_,_,none⟩) h.lt).trans (h.goes m h1 h2)⟩
theorem Tu (i:Ay) (at':Nat) (h1:1<=i.op) (h16:i.op<=16) (hat:at'<=1048576) (ha:i.op=10\/i.op=11->0<=i.a) (w:World) (hT:B2 w) :
  Calls Tryz.prog 129 #[Ak i,.int .i64 (at':Int)] w fun e w' => ∃ v,e = .returned v/\Ab w'.heap.size w' v (Cn (A5 i at'))/\Below w.heap.size w w':=by
 obtain⟨y,a,n,b⟩:=i;simp only at h1 h16 ha;obtain⟨m,rfl⟩:∃ m:Nat,y=(m:Int):=⟨y.toNat,by omega⟩;have r:1<=m:=by omega
 have o:m<=16:=by omega
 unfold Ak;have A:wrap64 ((at':Int)+1)=(at':Int)+1:=IntWalk.wrap64_in _ (by omega);obtain⟨d,j⟩:∃ Y,w.alloc (.cells #[.int .i64 (m:Int),.int .i64 a,.int .i64 n,.string b] 107)=Y:=⟨_,rfl⟩;have f:Below w.heap.size w d:=by rw[<- j];exact Au w _
 have l:d.heap.size=w.heap.size+1:=by rw[<- j];exact World.size_alloc _ _
 have c:d.heap[w.heap.size]? = some (.cells #[.int .i64 (m:Int),.int .i64 a,.int .i64 n,.string b] 107):=by rw[<- j];exact Af w _
 have s:d.cell? ⟨w.heap.size,0,none⟩=some (.int .i64 (m:Int)):=by rw[Lib.cell_of_heap c];rfl
 have t:d.cell? ⟨w.heap.size,1,none⟩=some (.int .i64 a):=by rw[Lib.cell_of_heap c];rfl
 have u:d.cell? ⟨w.heap.size,2,none⟩=some (.int .i64 n):=by rw[Lib.cell_of_heap c];rfl
 have x:d.cell? ⟨w.heap.size,3,none⟩=some (.string b):=by rw[Lib.cell_of_heap c];rfl
 clear c;have q:d.cell? ⟨0,m * 5+4,none⟩=some (.int .i64 (B1 m).2.2.2.2):=(f.cell (p:=⟨_,_,none⟩) hT.lt).trans (hT.goes m r o);clear hT;have z:(m:Int) < 17:=by omega
 by_cases h10:m=10
 ·have g:Hid (A5 ⟨(m:Int),a,n,b⟩ at'=[a.toNat]):=by rw[Hid,h10];simp[A5]
  have e:(B1 m).2.2.2.2=1:=by rw[h10];rfl
  rw[e]at q;obtain⟨k,rfl⟩:∃ k:Nat,a=(k:Int):=⟨a.toNat,by have:=ha (.inl (by omega));omega⟩;rw[g.out];clear h10 ha e;go_enter Tryz.func129,Tryz.ntmps129;go_wp2_with fail;go_ret;exact⟨.slice (some ⟨d.heap.size,0,none⟩) 1 1,by simp[l],Ab.newZ (Z:=d) (hs:=[(k:Int)]) _ _ rfl,Ac f _⟩
 ·by_cases h11:m=11
  ·have g:Hid (A5 ⟨(m:Int),a,n,b⟩ at'=[a.toNat,at'+1]):=(by rw[Hid,h11];simp[A5]);have e:(B1 m).2.2.2.2=2:=(by rw[h11];rfl);rw[e]at q;obtain⟨k,rfl⟩:∃ k:Nat,a=(k:Int):=⟨a.toNat,by have:=ha (.inr (by omega));omega⟩;rw[g.out];clear h10 h11 ha e;go_enter Tryz.func129,Tryz.ntmps129;go_wp2_with fail;go_ret;exact⟨.slice (some ⟨d.heap.size,0,none⟩) 2 2,by simp[l],Ab.newZ (Z:=d) (hs:=[(k:Int),(at':Int)+1]) _ _ rfl,Ac f _⟩
  ·by_cases h12:m=12\/m=13
   ·have g:Hid (A5 ⟨(m:Int),a,n,b⟩ at'=[]):=by
     rw[Hid];rcases h12 with h|h <;> (rw[h];simp[A5])
    have e:(B1 m).2.2.2.2=3:=by rcases h12 with h|h <;> (rw[h];rfl)
    rw[e]at q;rw[g.out];clear h10 h11 h12 ha e;go_enter Tryz.func129,Tryz.ntmps129;go_wp2_with fail;go_ret;exact⟨.slice none 0 0,rfl,⟨none,0,rfl,fun i hi=>by simp[Cn]at hi⟩,f⟩
   ·have g:Hid (A5 ⟨(m:Int),a,n,b⟩ at'=[at'+1]):=by
     rw[Hid];unfold A5;rw[if_neg (by simp only;omega),if_neg (by simp only;omega),if_neg (by simp only;omega)]
    have e:(B1 m).2.2.2.2=0:=by
     have h:m=1\/m=2\/m=3\/m=4\/m=5\/m=6\/m=7\/m=8\/m=9\/m=14\/m=15\/m=16:=(by omega);rcases h with h|h|h|h|h|h|h|h|h|h|h|h <;> (rw[h];rfl)
    rw[e]at q;rw[g.out];clear h10 h11 h12 ha e;go_enter Tryz.func129,Tryz.ntmps129;go_wp2_with fail;go_ret;exact⟨.slice (some ⟨d.heap.size,0,none⟩) 1 1,by simp[l],Ab.newZ (Z:=d) (hs:=[(at':Int)+1]) _ _ rfl,Ac f _⟩
end Go.Proofs.YtahibkjkpmdhgaaGreatDoor
namespace Go.Proofs.YtahibkjkpmdhgaaGreatDoor
theorem C5.one {c:List Ae} {r q:Int × Int × Int} (h:C5 c r) (h':C5 c q):r=q:=by
 unfold C5 at h h';by_cases hp:(B4 c).1≠0
 ·rw[if_pos hp]at h h';rw[h,h']
 ·rw[if_neg hp]at h h';obtain⟨y,G,v,I⟩:=h;obtain⟨z,t,l,n⟩:=h';have e:y=z:=by
   apply List.ext_getElem (by rw[G,t]);intro k C D;exact(v k (by omega) C).one (l k (by omega) D)
  subst e;rcases I with⟨k,u,F,s,x,b,E,H,rfl⟩|⟨p,rfl⟩
  ·rcases n with⟨o,g,j,d,f,a,i,m,rfl⟩|⟨p,rfl⟩
   ·have A:k=o:=by
     rcases Nat.lt_trichotomy k o with h|h|h
     ·have:=m k h u x;rw[this]at b;simp at b
     ·exact h
     ·have:=H o h g f;rw[this]at a;simp at a
    subst A;have B:u=g:=by
     rcases Nat.lt_trichotomy u g with h|h|h
     ·have:=i u h;rw[this]at b;simp at b
     ·exact h
     ·have:=E g h;rw[this]at a;simp at a
    rw[B]
   ·have:=p k F s u x;rw[this]at b;simp at b
  ·rcases n with⟨o,g,j,d,f,a,i,m,rfl⟩|⟨_,rfl⟩
   ·have:=p o j d g f;rw[this]at a;simp at a
   ·rfl
def E1 (e h:Int):Bool:=if e=11 then Cc h else if e=12 then At h 1 10 else decide (h=e)
def Ct : List Int->List Int->Bool
 | [],[]=>true
 | e::es,h::hs=>E1 e h && Ct es hs
 | _,_=>false
def Av (c:List Ae) (f:Ae) (i:Ay):List Int :=
 if i.op=3\/i.op=4\/i.op=5 then [12]
 else if i.op=6 then [12,12]
 else if i.op=7 then [11]
 else if i.op=8 then (Bk i.a).map (fun t=>if t=0 then 11 else t)
 else if i.op=9 then (c.getD i.a.toNat A6).params
 else if i.op=11 then [1]
 else if i.op=12 then (if f.result=0 then [] else [f.result])
 else if i.op=13\/i.op=15 then [2]
 else if i.op=14 then [2,2]
 else []
def Bi (c:List Ae) (i:Ay) (s tk:List Int):Int × Bool :=
 if i.op=1\/i.op=7 then (i.a,decide (i.a≠0))
 else if i.op=2 then (s.getD i.a.toNat 0,decide (s.getD i.a.toNat 0≠0))
 else if i.op=5 then (Fe i.a (tk.getD 0 0),decide (Fe i.a (tk.getD 0 0)≠0))
 else if i.op=6 then (Cp i.a (tk.getD 0 0) (tk.getD 1 0),decide (Cp i.a (tk.getD 0 0) (tk.getD 1 0)≠0))
 else if i.op=8 then (Ci i.a,decide (Ci i.a≠0))
 else if i.op=9 then ((c.getD i.a.toNat A6).result,true)
 else (0,true)
def Cq (k:List Int) (p:Int):List Int:=if p=0 then k else k++[p]
def Gq (c:List Ae) (f:Ae) (i:Ay) (at':Nat) (s k:List Int):Ao :=
 if k.length < (Av c f i).length then .clash
 else if (A5 i at').any (fun v=>decide (v=f.ins.length))=true then .clash
 else if Ct (Av c f i) (k.drop (k.length - (Av c f i).length))=false then .clash
 else if (Bi c i s (k.drop (k.length - (Av c f i).length))).2=false\/600 < (Cq (k.take (k.length - (Av c f i).length)) (Bi c i s (k.drop (k.length - (Av c f i).length))).1).length then .clash
 else .known (if i.op=3 then s.take i.a.toNat++k.drop (k.length - (Av c f i).length)++s.drop (i.a.toNat+1) else s) (Cq (k.take (k.length - (Av c f i).length)) (Bi c i s (k.drop (k.length - (Av c f i).length))).1)
theorem L6 {k:List Int} (h:1<=k.length):k.drop (k.length - 1)=[Az k]:=by
 rw[List.drop_eq_getElem_cons (by omega),List.drop_eq_nil_of_le (by omega)];unfold Az;rw[List.getLast?_eq_getElem?,List.getElem?_eq_getElem (by omega)];rfl
theorem Rh {k:List Int} (h:2<=k.length):k.drop (k.length - 2)=[Ap k,Az k]:=by
 rw[List.drop_eq_getElem_cons (by omega),show k.length - 2+1=k.length - 1 by omega,L6 (by omega)];unfold Ap;rw[List.getLast?_eq_getElem?,List.getElem?_eq_getElem (by simp;omega)];simp only[List.length_take,Option.getD_some,List.getElem_take];congr 2;omega
theorem P6 : ∀ (ws hs:List Int),(∀ t ∈ ws,t≠11/\t≠12)->(∀ t ∈ hs,1<=t/\t<=10)->Ct (ws.map (fun t=>if t=0 then 11 else t)) hs=E2 ws hs
 | [],[],_,_=>rfl
 | [],_::_,_,_=>rfl
 | _::_,[],_,_=>rfl
 | w::ws,h::hs,h1,h2=>by
  have c:=P6 ws hs (fun t ht=>h1 t (by simp[ht])) (fun t ht=>h2 t (by simp[ht]))
  simp only[List.map_cons,Ct,E2,c]
  congr 1
  have a:=h1 w (by simp)
  have b:=h2 h (by simp)
  unfold E1 Lf
  by_cases e:w=0
  ·subst e
   have:¬ h=0:=by omega
   simp[this]
  ·simp[e,a.1,a.2]
theorem P5 : ∀ (ps hs:List Int),(∀ t ∈ ps,1<=t/\t<=10)->Ct ps hs=decide (hs=ps)
 | [],[],_=>rfl
 | [],_::_,_=>by simp[Ct]
 | _::_,[],_=>by simp[Ct]
 | p::ps,h::hs,h1=>by
  have b:=P5 ps hs (fun t ht=>h1 t (by simp[ht]))
  have a:=h1 p (by simp)
  simp only[Ct,b,E1]
  rw[if_neg (by omega),if_neg (by omega)]
  simp
theorem Wi (a:Int):Ci a≠0:=by
 unfold Ci;repeat (first|split|omega)
theorem Qaq (a:Int):∀ t ∈ Bk a,0<=t/\t<=10:=by
 unfold Bk;intro t b;repeat' (first|split at b|(simp at b <;> omega))
theorem Ym (c:List Ae) (f:Ae) (i:Ay) (at':Nat) (hok:Ar c f i=true) (hat:at' < f.ins.length):(A5 i at').any (fun v=>decide (f.ins.length<=v))=(A5 i at').any (fun v=>decide (v=f.ins.length)):=by
 have a:i.op=10\/i.op=11->i.a.toNat<=f.ins.length:=fun h=>by
  unfold Ar at hok;split at hok
  ·simp at hok
  ·rw[if_neg (by omega)]at hok;split at hok
   ·simp at hok
   ·rw[if_neg (by omega),if_neg (by omega),if_neg (by omega),if_neg (by omega),if_neg (by omega),if_neg (by omega)]at hok;first|(rw[if_pos h]at hok;simp[At]at hok;omega)|(simp[At]at hok;omega)
 unfold A5;split
 ·rfl
 ·split
  ·have:=a (by omega);simp;omega
  ·split
   ·have:=a (by omega);have b:(f.ins.length<=i.a.toNat) ↔ (i.a.toNat=f.ins.length):=(by omega);have d:(f.ins.length<=at'+1) ↔ (at'+1=f.ins.length):=(by omega);simp[b,d]
   ·simp;omega
theorem G3 {c:List Ae} {f:Ae} {i:Ay} (hok:Ar c f i=true):1<=i.op/\i.op<=16:=by
 unfold Ar at hok;split at hok
 ·simp at hok
 ·rename_i h
  have:¬ At i.op 1 16=false:=fun e=>h (.inl e)
  simp[At]at this;omega
theorem Wr {s:List Int} {a:Nat} (t:Int) (h:a < s.length):s.take a++[t]++s.drop (a+1)=s.set a t:=by
 rw[List.set_eq_take_append_cons_drop,if_pos h];simp
end Go.Proofs.YtahibkjkpmdhgaaGreatDoor
namespace Go.Proofs.YtahibkjkpmdhgaaGreatDoor
structure L4 (c:List Ae) (f:Ae) (i:Ay) (s k:List Int):Prop where
 ok:Ar c f i=true
 stack:∀ t ∈ k,1<=t/\t<=10
 slot:i.op=2\/i.op=3->i.a.toNat < s.length
 pars:i.op=9->(∀ t ∈ (c.getD i.a.toNat A6).params,1<=t/\t<=10)
 nz:i.op=1\/i.op=7->i.a≠0
 ret:i.op=12->(i.a=1/\f.result≠0)\/(i.a=0/\f.result=0)
 res:0<=f.result/\f.result<=10
theorem Va {k:List Int} (h:∀ t ∈ k,1<=t/\t<=10) (hk:0 < k.length):1<=Az k/\Az k<=10:=by
 apply h;unfold Az;rw[List.getLast?_eq_getElem?,List.getElem?_eq_getElem (by omega)];exact List.getElem_mem _
theorem Pl {k:List Int} (h:∀ t ∈ k,1<=t/\t<=10) (hk:1 < k.length):1<=Ap k/\Ap k<=10:=by
 have e:=Rh (k:=k) (by omega);apply h;have:Ap k ∈ k.drop (k.length - 2):=by rw[e];simp
 exact List.mem_of_mem_drop this
theorem Qbf {A B C D A' B' C':Prop} [Decidable A] [Decidable B] [Decidable C] [Decidable D] [Decidable A'] [Decidable B'] [Decidable C'] {x y:Ao}
  (h1:(A\/B\/C\/D) ↔ (A'\/B'\/C')) (h2:¬ (A'\/B'\/C')->x=y) :
  (if A then Ao.clash else if B then .clash else if C then .clash else if D then .clash else x)=(if A' then Ao.clash else if B' then .clash else if C' then .clash else y):=by
 by_cases h:A'\/B'\/C'
 ·have a:=h1.2 h;have b:(if A then Ao.clash else if B then .clash else if C then .clash else if D then .clash else x) = .clash:=by
   rcases a with h|h|h|h
   ·rw[if_pos h]
   ·rw[if_pos h];simp
   ·rw[if_pos h];simp
   ·rw[if_pos h];simp
  have c:(if A' then Ao.clash else if B' then .clash else if C' then .clash else y) = .clash:=by
   rcases h with h|h|h
   ·rw[if_pos h]
   ·rw[if_pos h];simp
   ·rw[if_pos h];simp
  rw[b,c]
 ·have a:¬ (A\/B\/C\/D):=fun e=>h (h1.1 e)
  simp only[not_or]at h a;rw[if_neg a.1,if_neg a.2.1,if_neg a.2.2.1,if_neg a.2.2.2,if_neg h.1,if_neg h.2.1,if_neg h.2.2,h2 (by simp only[not_or];exact h)]
theorem Ua {c:List Ae} {f:Ae} {i:Ay} {at':Nat} {s k:List Int} (hat:at' < f.ins.length) (hok:Ar c f i=true)
  (h1:(k.length < (Av c f i).length\/Ct (Av c f i) (k.drop (k.length - (Av c f i).length))=false\/(Bi c i s (k.drop (k.length - (Av c f i).length))).2=false) ↔ ((Ag c f i s k).2.2=false\/k.length < (Ag c f i s k).1))
  (h2:¬ ((Ag c f i s k).2.2=false\/k.length < (Ag c f i s k).1)->Cq (k.take (k.length - (Av c f i).length)) (Bi c i s (k.drop (k.length - (Av c f i).length))).1=k.take (k.length - (Ag c f i s k).1)++(Ag c f i s k).2.1)
  (h3:i.op=3->0 < k.length->i.a.toNat < s.length) :
  Gq c f i at' s k=Bj c f i at' s k:=by
 unfold Gq Bj;rw[Ym c f i at' hok hat];apply Qbf
 ·by_cases q:(Ag c f i s k).2.2=false\/k.length < (Ag c f i s k).1
  ·have:=h1.2 q;constructor
   ·intro _;exact .inl q
   ·intro _;rcases this with h|h|h
    ·exact .inl h
    ·exact .inr (.inr (.inl h))
    ·exact .inr (.inr (.inr (.inl h)))
  ·have a:¬ _:=fun e=>q (h1.1 e)
   simp only[not_or]at a;rw[h2 q];constructor
   ·rintro(h|h|h|h|h)
    ·exact(a.1 h).elim
    ·exact .inr (.inl h)
    ·exact(a.2.1 h).elim
    ·exact(a.2.2 h).elim
    ·exact .inr (.inr h)
   ·rintro(h|h|h)
    ·exact(q h).elim
    ·exact .inr (.inl h)
    ·exact .inr (.inr (.inr (.inr h)))
 ·intro g;have q:¬ _:=fun e=>g (.inl e)
  have a:¬ _:=fun e=>q (h1.1 e)
  simp only[not_or]at a;rw[h2 q];by_cases e3:i.op=3
  ·have b:Av c f i=[12]:=(by unfold Av;rw[if_pos (.inl e3)]);have d:0 < k.length:=(by have:=a.1;rw[b,List.length_singleton]at this;omega);rw[if_pos e3,if_pos e3,b,List.length_singleton,L6 (by omega),Wr _ (h3 e3 d)]
  ·rw[if_neg e3,if_neg e3]
def Jo (c:List Ae) (f:Ae) (i:Ay) (s k:List Int):Prop :=
 ((k.length < (Av c f i).length\/Ct (Av c f i) (k.drop (k.length - (Av c f i).length))=false\/(Bi c i s (k.drop (k.length - (Av c f i).length))).2=false) ↔ ((Ag c f i s k).2.2=false\/k.length < (Ag c f i s k).1)) /\
 (¬ ((Ag c f i s k).2.2=false\/k.length < (Ag c f i s k).1)->Cq (k.take (k.length - (Av c f i).length)) (Bi c i s (k.drop (k.length - (Av c f i).length))).1=k.take (k.length - (Ag c f i s k).1)++(Ag c f i s k).2.1)
theorem Qcs (c:List Ae) (f:Ae) (a n:Int) (text:ByteArray) (s k:List Int) (hst:∀ t ∈ k,1<=t/\t<=10):Jo c f ⟨8,a,n,text⟩ s k:=by
 have d:Av c f ⟨8,a,n,text⟩=(Bk a).map (fun t=>if t=0 then 11 else t):=by simp[Av]
 have i:∀ tk,Bi c ⟨8,a,n,text⟩ s tk=(Ci a,decide (Ci a≠0)):=fun tk=>by simp[Bi]
 have h:=Wi a;have g:=P6 (Bk a) (k.drop (k.length - (Bk a).length)) (fun t ht=>by have:=Qaq a t ht;omega) (fun t ht=>hst t (List.mem_of_mem_drop ht));unfold Jo;rw[d,i,List.length_map,g];by_cases q:k.length < (Bk a).length
 ·have b:Ag c f ⟨8,a,n,text⟩ s k=(0,[],false):=by simp[Ag,q]
  rw[b];simp[q]
 ·have b:Ag c f ⟨8,a,n,text⟩ s k=((Bk a).length,[C1 a (k.drop (k.length - (Bk a).length))],decide (C1 a (k.drop (k.length - (Bk a).length))≠0)):=by simp[Ag,q]
  rw[b];unfold C1;cases hL:E2 (Bk a) (k.drop (k.length - (Bk a).length))
  ·simp[q]
  ·simp[q,h,Cq]
theorem Qct (c:List Ae) (f:Ae) (a n:Int) (text:ByteArray) (s k:List Int) (hpa:∀ t ∈ (c.getD a.toNat A6).params,1<=t/\t<=10):Jo c f ⟨9,a,n,text⟩ s k:=by
 obtain⟨g,b⟩:∃ g,c.getD a.toNat A6=g:=⟨_,rfl⟩;rw[b]at hpa;have h:Av c f ⟨9,a,n,text⟩=g.params:=by rw[<- b];simp[Av]
 have j:∀ tk,Bi c ⟨9,a,n,text⟩ s tk=(g.result,true):=fun tk=>by rw[<- b];simp[Bi]
 have i:=P5 g.params (k.drop (k.length - g.params.length)) hpa;have d:Ag c f ⟨9,a,n,text⟩ s k=(if k.length < g.params.length then (0,[],false) else if k.drop (k.length - g.params.length)=g.params then (g.params.length,if g.result=0 then [] else [g.result],true) else (0,[],false)):=by rw[<- b];simp[Ag]
 unfold Jo;rw[h,j,i,d];by_cases q:k.length < g.params.length
 ·simp[q]
 ·rw[if_neg q];by_cases e:k.drop (k.length - g.params.length)=g.params
  ·rw[if_pos e];simp[q,e,Cq];split <;> simp
  ·rw[if_neg e];simp[e]
theorem Qbs (c:List Ae) (f:Ae) (a n:Int) (text:ByteArray) (s k:List Int) (hre:(a=1/\f.result≠0)\/(a=0/\f.result=0)) (hrr:0<=f.result/\f.result<=10):Jo c f ⟨12,a,n,text⟩ s k:=by
 have j:∀ tk,Bi c ⟨12,a,n,text⟩ s tk=(0,true):=fun tk=>by simp[Bi]
 unfold Jo;rcases hre with⟨rfl,i⟩|⟨rfl,i⟩
 ·have h:Av c f ⟨12,1,n,text⟩=[f.result]:=by simp[Av,i]
  have b:¬ f.result=11:=by omega
  have d:¬ f.result=12:=by omega
  rw[h,j];by_cases k0:0 < k.length
  ·have g:=L6 (k:=k) (by omega);have m:¬ k=[]:=(by rintro rfl;simp at k0);have l:¬ k.length < 1:=(by omega);rw[List.length_singleton,g];simp[Ag,Ct,E1,b,d,k0,l,Cq]
  ·have:k=[]:=List.length_eq_zero_iff.1 (by omega);subst this;simp[Ag]
 ·have h:Av c f ⟨12,0,n,text⟩=[]:=by simp[Av,i]
  rw[h,j];simp[Ag,Ct,Cq]
theorem Rx {c:List Ae} {f:Ae} {i:Ay} {at':Nat} {s k:List Int} (hat:at' < f.ins.length) (h:L4 c f i s k):Gq c f i at' s k=Bj c f i at' s k:=by
 obtain⟨F,C⟩:=G3 h.ok;have l:=h.stack;have u:=h.slot;have r:=h.pars;have g:=h.nz;have t:=h.ret;have D:=h.res;suffices hS:Jo c f i s k from Ua hat h.ok hS.1 hS.2 (fun e _=>u (.inr e))
 obtain⟨b,a,n,m⟩:=i;simp only at F C u r g t;have q:b=8\/b=9\/b=12\/b=1\/b=2\/b=3\/b=4\/b=5\/b=6\/b=7\/b=10\/b=11\/b=13\/b=14\/b=15\/b=16:=by omega
 rcases q with rfl|rfl|rfl|q
 ·exact Qcs c f a n m s k l
 ·exact Qct c f a n m s k (r rfl)
 ·exact Qbs c f a n m s k (t rfl) D
 ·by_cases k0:0 < k.length
  ·have I:=Va l k0;have d:=L6 (k:=k) (by omega);have y:¬ k=[]:=(by rintro rfl;simp at k0);by_cases k1:1 < k.length
   ·have H:=Pl l k1;have j:=Rh (k:=k) (by omega);have v:¬ k.length < 2:=(by omega);have p:¬ k.length < 1:=(by omega);rcases q with rfl|rfl|rfl|rfl|rfl|rfl|rfl|rfl|rfl|rfl|rfl|rfl|rfl
    all_goals
     refine⟨?_, ?_⟩
     ·first
      | (simp[Av,Ag,Bi,Ct,E1,At,d,j,y,v];done)
      | (simp[Av,Ag,Bi,Ct,E1,At,d,j,y,v];omega)
     ·first
      | (simp[Av,Ag,Bi,Cq,d,j,y,v,p];done)
      | (simp[Av,Ag,Bi,Cq,p,g];done)
      | (simp[Av,Ag,Bi,Cq,d,j,y,v,p];intro h G;simp[h,G];done)
      | (simp[Av,Ag,Bi,Cq,d,j,y,v,p];intro h;simp[h];done)
   ·obtain⟨x,rfl⟩:∃ x,k=[x]:=by
     match k,k0,k1 with
     | [x],_,_=>exact⟨x,rfl⟩
     | _::_::_,_,h=>simp at h
    have J:1<=x/\x<=10:=l x (by simp);obtain⟨K,E⟩:=J;have z:Az [x]=x:=rfl;have B:Ap [x]=0:=rfl;have A:∀ o,Cp o 0 x=0:=fun o=>by unfold Cp;rw[if_pos (.inl (by omega))]
    have M:¬ x < 1:=(by omega);have L:¬ 10 < x:=(by omega);clear l I d k0 k1 h;rcases q with rfl|rfl|rfl|rfl|rfl|rfl|rfl|rfl|rfl|rfl|rfl|rfl|rfl
    all_goals
     refine⟨?_, ?_⟩
     ·first
      | (simp[Av,Ag,Bi,Ct,E1,At,z,B,A,K,E];done)
      | (simp[Av,Ag,Bi,Ct,E1,z,g];done)
     ·first
      | (simp[Av,Ag,Bi,Cq,z,B,A];done)
      | (simp[Av,Ag,Bi,Cq,z,g];done)
      | (simp[Av,Ag,Bi,Cq,z,B,A];intro h;simp[h];done)
  ·have:k=[]:=List.length_eq_zero_iff.1 (by omega);subst this;rcases q with rfl|rfl|rfl|rfl|rfl|rfl|rfl|rfl|rfl|rfl|rfl|rfl|rfl
   all_goals
    refine⟨?_, ?_⟩
    ·first
     | (simp[Av,Ag,Bi,Ct,Az,Ap,Cp,Fe,Cc];done)
     | (simp[Av,Ag,Bi,Ct,g];done)
    ·first
     | (simp[Av,Ag,Bi,Cq,Az,Ap];done)
     | (simp[Av,Ag,Bi,Cq,g];done)
     | (simp[Av,Ag,Bi,Cq,Az,Ap];intro h;simp[h];done)
end Go.Proofs.YtahibkjkpmdhgaaGreatDoor
namespace Go.Proofs.YtahibkjkpmdhgaaGreatDoor
def Db : Ao->Prop
 | .known s k=>(∀ t ∈ s,0<=t/\t<=10)/\(∀ t ∈ k,1<=t/\t<=10)/\k.length<=600
 | _=>True
def Nk (c:List Ae):Prop := ∀ g ∈ c,(0<=g.result/\g.result<=10)/\∀ t ∈ g.params,1<=t/\t<=10
theorem Nk.get {c:List Ae} (h:Nk c) (j:Nat):(0<=(c.getD j A6).result/\(c.getD j A6).result<=10)/\∀ t ∈ (c.getD j A6).params,1<=t/\t<=10:=by
 by_cases hj:j < c.length
 ·rw[List.getD_eq_getElem?_getD,List.getElem?_eq_getElem hj];exact h _ (List.getElem_mem hj)
 ·rw[List.getD_eq_getElem?_getD,List.getElem?_eq_none (by omega)];simp[A6]
theorem Zb {a n:Int} {text:ByteArray} (h:A4 ⟨a,n,text⟩=true):1<=a/\a<=10:=by
 unfold A4 at h;simp only at h;split at h
 ·omega
 ·split at h
  ·omega
  ·simp[Be]at h;omega
theorem Ia {c:List Ae} {f:Ae} {i:Ay} (hok:Ar c f i=true) :
  (i.op=1->1<=i.a/\i.a<=10)/\(i.op=7->3<=i.a/\i.a<=10)/\(i.op=2\/i.op=3->0<=i.a/\i.a < f.slots)/\(i.op=5->1<=i.a/\i.a<=3)/\(i.op=6->3<=i.a/\i.a<=18)/\(i.op=8->1<=i.a/\i.a<=12)/\(i.op=9->0<=i.a/\i.a < c.length)/\(i.op=10\/i.op=11->0<=i.a/\i.a<=f.ins.length)/\(i.op=12->(i.a=1/\f.result≠0)\/(i.a=0/\f.result=0)):=by
 obtain⟨g,a,n,d⟩:=i;have b:=G3 hok;unfold Ar at hok;simp only at hok b |-
 split at hok
 ·simp at hok
 ·split at hok
  ·have:=Zb hok;refine⟨fun _=>this, ?_, ?_, ?_, ?_, ?_, ?_, ?_, ?_⟩ <;> (intro h;omega)
  ·split at hok
   ·simp at hok
   ·repeat' (first|(split at hok))
    all_goals simp[At,Cc]at hok
    all_goals (refine⟨?_, ?_, ?_, ?_, ?_, ?_, ?_, ?_, ?_⟩ <;> (intro h;omega))
theorem P2 {c:List Ae} {f:Ae} {i:Ay} {s k:List Int} (hc:Nk c) (hr:0<=f.result/\f.result<=10) (hok:Ar c f i=true) (hl:s.length=f.slots.toNat) (hk:∀ t ∈ k,1<=t/\t<=10):L4 c f i s k:=by
 obtain⟨b,g,d,-,-,-,j,-,a⟩:=Ia hok;refine⟨hok,hk,fun h => ?_,fun h=>(hc.get i.a.toNat).2,fun h => ?_,a,hr⟩
 ·have:=d h;omega
 ·rcases h with h|h
  ·have:=b h;omega
  ·have:=g h;omega
theorem Qcv {o t:Int} (ht:1<=t/\t<=10) (h:Fe o t≠0):1<=Fe o t/\Fe o t<=10:=by
 unfold Fe at h |-
 split <;> rename_i e
 ·rw[if_pos e]at h;split <;> rename_i e2
  ·omega
  ·rw[if_neg e2]at h;omega
 ·rw[if_neg e]at h;split <;> rename_i e2
  ·exact ht
  ·rw[if_neg e2]at h;omega
theorem Qbe {o a b:Int} (ha:1<=a/\a<=10) (h:Cp o a b≠0):1<=Cp o a b/\Cp o a b<=10:=by
 revert h;unfold Cp;repeat' (first|split)
 all_goals (intro h;first|omega|exact ha)
theorem Yx (a:Int):1<=Ci a/\Ci a<=10:=by
 unfold Ci;repeat' (first|split)
 all_goals omega
theorem U7 {c:List Ae} {f:Ae} {i:Ay} {s k:List Int} (hc:Nk c) (h:L4 c f i s k) (hs:∀ t ∈ s,0<=t/\t<=10) (hl:¬ k.length < (Av c f i).length) (h2:(Bi c i s (k.drop (k.length - (Av c f i).length))).2=true) :
  0<=(Bi c i s (k.drop (k.length - (Av c f i).length))).1/\(Bi c i s (k.drop (k.length - (Av c f i).length))).1<=10:=by
 obtain⟨m,o,p,-,-,-,q,-,g⟩:=Ia h.ok;have d:=h.stack;obtain⟨l,a,n,b⟩:=i;simp only at m o p q g;by_cases e5:l=5
 ·subst e5;have j:Av c f ⟨5,a,n,b⟩=[12]:=by simp[Av]
  rw[j]at h2 hl |-
  rw[List.length_singleton]at h2 hl |-
  rw[L6 (by omega)]at h2 |-
  simp[Bi]at h2 |-
  have:=Qcv (Va d (by omega)) h2;omega
 ·by_cases e6:l=6
  ·subst e6;have j:Av c f ⟨6,a,n,b⟩=[12,12]:=(by simp[Av]);rw[j]at h2 hl |-
   have e:([12,12]:List Int).length=2:=rfl;rw[e]at h2 hl |-
   rw[Rh (by omega)]at h2 |-
   simp[Bi]at h2 |-
   have:=Qbe (Pl d (by omega)) h2;omega
  ·generalize (k.drop (k.length - (Av c f ⟨l,a,n,b⟩).length))=tk at h2 |-
   revert h2;unfold Bi;simp only[e5,e6,if_false];repeat' (first|split)
   ·rename_i e;intro _;rcases e with e|e
    ·have:=m e;omega
    ·have:=o e;omega
   ·intro _;by_cases hj:a.toNat < s.length
    ·rw[List.getD_eq_getElem?_getD,List.getElem?_eq_getElem hj];exact hs _ (List.getElem_mem hj)
    ·rw[List.getD_eq_getElem?_getD,List.getElem?_eq_none (by omega)];simp
   ·intro _;have:=Yx a;omega
   ·intro _;exact(hc.get _).1
   ·intro _;simp
theorem Ru {c:List Ae} {f:Ae} {i:Ay} {at':Nat} {s k:List Int} (hc:Nk c) (hat:at' < f.ins.length) (h:L4 c f i s k) (hf:Db (.known s k)):Db (Bj c f i at' s k):=by
 obtain⟨hs,b,g⟩:=hf;rw[<- Rx hat h];unfold Gq;split
 ·trivial
 ·rename_i q1
  split
  ·trivial
  ·split
   ·trivial
   ·split
    ·trivial
    ·rename_i q
     simp only[not_or]at q;have d:(Bi c i s (k.drop (k.length - (Av c f i).length))).2=true:=(by simpa using q.1);have j:=U7 hc h hs q1 d;refine⟨fun t a => ?_,fun t a => ?_,Nat.le_of_not_lt q.2⟩
     ·split at a
      ·simp only[List.mem_append]at a;rcases a with(a|a)|a
       ·exact hs t (List.mem_of_mem_take a)
       ·have:=b t (List.mem_of_mem_drop a);omega
       ·exact hs t (List.mem_of_mem_drop a)
      ·exact hs t a
     ·unfold Cq at a;split at a
      ·exact b t (List.mem_of_mem_take a)
      ·rename_i qp
       simp only[List.mem_append,List.mem_singleton]at a;rcases a with a|a
       ·exact b t (List.mem_of_mem_take a)
       ·rw[a];omega
theorem Pk {s s':List Int} (h:∀ t ∈ s,0<=t/\t<=10):∀ t ∈ Bg s s',0<=t/\t<=10:=by
 intro t a;unfold Bg at a;obtain⟨j,b,rfl⟩:=List.getElem_of_mem a;rw[List.getElem_zipWith];split
 ·exact h _ (List.getElem_mem _)
 ·omega
theorem Wh : ∀ {a b:Ao},Db a->Db b->Db (Bc a b)
 | .none,.none,_,_=>trivial
 | .none,.known _ _,_,h=>h
 | .none,.clash,_,_=>trivial
 | .known _ _,.none,h,_=>h
 | .known _ _,.clash,_,_=>trivial
 | .clash,.none,_,_=>trivial
 | .clash,.known _ _,_,_=>trivial
 | .clash,.clash,_,_=>trivial
 | .known s k,.known s' k',h,_=>by
  rw[Bc]
  by_cases e:k=k'
  ·rw[if_pos e];exact⟨Pk h.1,h.2⟩
  ·rw[if_neg e];trivial
open Go.RowKit
theorem Wn {a b:Bool} (h:a=b):Ending.returned (.bool a) = .returned (.bool b):=by rw[h]
theorem J9 {a b:Int} (h:a=b):Ending.returned (.int .i64 a) = .returned (.int .i64 b):=by rw[h]
theorem Yp (b:Bool) (t:Int) (HB:Hid (At t 1 10=b)) (w:World) :
  Calls Tryz.prog 151 #[.int .i64 t] w fun e w'=>e = .returned (.bool b)/\w=w':=by
 rw[<- HB.out];by_cases h1:1<=t;all_goals
  go_enter Tryz.func151,Tryz.ntmps151;go_wp2;all_goals go_ret
  all_goals exact⟨Wn (by first|(simp[At,h1];done)|(simp[At];omega)),rfl⟩
theorem G4 (b:Bool) (t:Int) (HB:Hid (Cc t=b)) (w:World) :
  Calls Tryz.prog 160 #[.int .i64 t] w fun e w'=>e = .returned (.bool b)/\w=w':=by
 rw[<- HB.out];by_cases h1:3<=t;all_goals
  go_enter Tryz.func160,Tryz.ntmps160;go_wp2;all_goals go_ret
  all_goals exact⟨Wn (by first|(simp[Cc,h1];done)|(simp[Cc];omega)),rfl⟩
theorem Pt (b:Bool) (k h:Int) (HB:Hid (E1 k h=b)) (w:World) :
  Calls Tryz.prog 159 #[.int .i64 k,.int .i64 h] w fun e w'=>e = .returned (.bool b)/\w=w':=by
 by_cases h11:k=11
 ·subst h11;have a:Hid (Cc h=b):=by rw[Hid,<- HB.out,E1,if_pos rfl]
  go_enter Tryz.func159,Tryz.ntmps159;go_wp2_with (first|(go_at_call 160;refine(G4 _ _ a _).mono ?_;rintro e w' ⟨rfl,rfl⟩));go_ret;exact⟨rfl,rfl⟩
 ·by_cases h12:k=12
  ·subst h12;have a:Hid (At h 1 10=b):=(by rw[Hid,<- HB.out,E1,if_neg (by decide),if_pos rfl]);go_enter Tryz.func159,Tryz.ntmps159;go_wp2_with (first|(go_at_call 151;refine(Yp _ _ a _).mono ?_;rintro e w' ⟨rfl,rfl⟩));go_ret;exact⟨rfl,rfl⟩
  ·have c:(k == 11)=false:=(by simp[h11]);have d:(k == 12)=false:=(by simp[h12]);have a:Hid ((h == k)=b):=(by rw[Hid,<- HB.out,E1,if_neg h11,if_neg h12];rfl);clear h11 h12;go_enter Tryz.func159,Tryz.ntmps159;go_wp2;go_ret;exact⟨by rw[<- a.out];rfl,rfl⟩
theorem Um (op t:Int) (h1:1<=op) (h3:op<=3) (w:World) :
  Calls Tryz.prog 130 #[.int .i64 op,.int .i64 t] w fun e w'=>e = .returned (.int .i64 (Fe op t))/\w=w':=by
 obtain⟨b,a⟩:∃ b,Hid (Cc t=b):=⟨_,(rfl:Cc t=_)⟩;have c:op=1\/op=2\/op=3:=by omega
 clear h1 h3;cases b
 all_goals
  rcases c with rfl|rfl|rfl
  all_goals
   go_enter Tryz.func130,Tryz.ntmps130;go_wp2_with (go_at_call 160;refine(G4 _ _ a _).mono ?_;rintro e w' ⟨rfl,rfl⟩);all_goals go_ret
   all_goals exact⟨J9 (by have:=a.out;simp_all [Fe]),rfl⟩
theorem R6 (op a b:Int) (h3:3<=op) (h18:op<=18) (ha:1<=a/\a<=10) (w:World) :
  Calls Tryz.prog 131 #[.int .i64 op,.int .i64 a,.int .i64 b] w fun e w'=>e = .returned (.int .i64 (Cp op a b))/\w=w':=by
 by_cases hab:a=b
 ·subst hab;obtain⟨r,d⟩:∃ r,Hid (Cp op a a=r):=⟨_,(rfl:Cp op a a=_)⟩;rw[d.out];have n:(a != a)=false:=by simp
  obtain⟨x,c⟩:∃ b,Hid (Cc a=b):=⟨_,(rfl:Cc a=_)⟩;have f:op=3\/op=4\/op=5\/op=6\/op=7\/op=8\/op=9\/op=10\/op=11\/op=12\/op=13\/op=14\/op=15\/op=16\/op=17\/op=18:=by omega
  have i:Hid (1<=a/\a<=10):=ha;have o:(a != 0)=true:=by simp;omega
  clear h3 h18 ha;cases x with
  | true =>
   have g:(a == 2)=false:=(by have:=c.out;simp[Cc]at this;simp;omega);have j:Hid (a≠1/\a≠0):=(by have:=c.out;simp[Cc]at this;exact⟨by omega,by omega⟩);rcases f with rfl|rfl|rfl|rfl|rfl|rfl|rfl|rfl|rfl|rfl|rfl|rfl|rfl|rfl|rfl|rfl
   all_goals
    go_enter Tryz.func131,Tryz.ntmps131;go_wp2_with (go_at_call 160;refine(G4 _ _ c _).mono ?_;rintro e w' ⟨rfl,rfl⟩);all_goals go_ret
    all_goals exact⟨J9 (by rw[<- d.out];simp[Cp,j.out,c.out]),rfl⟩
  | false =>
   by_cases g:a=2
   ·subst g;rcases f with rfl|rfl|rfl|rfl|rfl|rfl|rfl|rfl|rfl|rfl|rfl|rfl|rfl|rfl|rfl|rfl
    all_goals
     go_enter Tryz.func131,Tryz.ntmps131;go_wp2_with (go_at_call 160;refine(G4 _ _ c _).mono ?_;rintro e w' ⟨rfl,rfl⟩);all_goals go_ret
     all_goals exact⟨J9 (by rw[<- d.out];simp[Cp,Cc]),rfl⟩
   ·have k:a=1:=(by have h:=c.out;have m:=i.out;simp[Cc]at h;omega);subst k;rcases f with rfl|rfl|rfl|rfl|rfl|rfl|rfl|rfl|rfl|rfl|rfl|rfl|rfl|rfl|rfl|rfl
    all_goals
     go_enter Tryz.func131,Tryz.ntmps131;go_wp2_with (go_at_call 160;refine(G4 _ _ c _).mono ?_;rintro e w' ⟨rfl,rfl⟩);all_goals go_ret
     all_goals exact⟨J9 (by rw[<- d.out];simp[Cp,Cc]),rfl⟩
 ·have l:(a != b)=true:=by simp[hab]
  have d:Hid (0=Cp op a b):=by rw[Hid,Cp,if_pos (.inl hab)]
  go_enter Tryz.func131,Tryz.ntmps131;go_wp2;go_ret;exact⟨J9 d.out,rfl⟩
def Hk (l:List Int) (v k:Int):Prop:=(k = -1/\v ∉ l)\/∃ j:Nat,∃ h:j < l.length,k=(j:Int)/\l[j]=v/\∀ i (hi:i < l.length),i < j->l[i]≠v
theorem Lg (l:List Int) (v:Int) (a:Option Addr) (cap:Nat) (hl:l.length<=1048576) (B:Nat) (w:World) (hL:Ab B w (.slice a l.length cap) l) :
  Calls Tryz.prog 176 #[.slice a l.length cap,.int .i64 v] w fun e w'=>(∃ k:Int,e = .returned (.int .i64 k)/\Hk l v k)/\w=w':=by
 have q:Hid (Ab B w (.slice a l.length cap) l):=hL;clear hL;go_enter Tryz.func176,Tryz.ntmps176;go_wp2_with fail;go_loopw [8] (fun t wr => ∃ i:Nat,i<=l.length/\t = .int .i64 (i:Int)/\w=wr/\∀ j (c:j < l.length),j < i->l[j]≠v) (fun t _=>l.length - (intOf t).toNat);case atStart=>exact⟨0,by omega,rfl,rfl,fun j c h=>by omega⟩
 case round =>
  obtain⟨i,D,rfl,rfl,f⟩:=hrel;have b:Hid (∀ j (c:j < l.length),j < i->l[j]≠v):=f;clear f;by_cases hlt:i < l.length
  ·have d:(i:Int) < (l.length:Int):=(by omega);obtain⟨g,o,rfl,r⟩:∃ g o,a=some ⟨g,o,none⟩/\w.cell? ⟨g,o+i,none⟩=some (.int .i64 l[i]):=by
    obtain⟨A,C,e,y⟩:=q.out;injection e with e1;subst e1;obtain⟨g,o,s,_,u⟩:=y i hlt;exact⟨g,o,s,u⟩
   obtain⟨x,p⟩:∃ x,Hid (l[i]=x):=⟨_,(rfl:l[i]=_)⟩;rw[p.out]at r;by_cases hv:v=x
   ·subst hv;have n:Hid (Hk l v (i:Int)):=.inr ⟨i,hlt,rfl,p.out,b.out⟩;go_wp2_with fail;go_ret;exact⟨⟨_,rfl,n.out⟩,rfl⟩
   ·have z:(v == x)=false:=(by simp[hv]);have m:Hid (∀ j (c:j < l.length),j < i+1->l[j]≠v):=fun j c h=>by
     by_cases e:j=i
     ·subst e;rw[p.out];exact fun e=>hv e.symm
     ·exact b.out j c (by omega)
    go_wp2_with fail;go_roundw;case rel=>exact⟨i+1,by omega,by go_num,by first|rfl|trivial,m.out⟩
    case measure=>simp[intOf];omega
  ·have d:¬ (i:Int) < (l.length:Int):=(by omega);have n:Hid (Hk l v (-1)):=.inl ⟨rfl,fun hm=>by
    obtain⟨j,c,e⟩:=List.getElem_of_mem hm
    exact b.out j c (by omega) e⟩
   go_wp2_with fail;go_ret;exact⟨⟨_,rfl,n.out⟩,rfl⟩
theorem Qm (l:List Int) (v:Int) (a:Option Addr) (cap:Nat) (hl:l.length<=1048576) (B:Nat) (w:World) (hL:Ab B w (.slice a l.length cap) l) (b:Bool) (HB:Hid (decide (v ∈ l)=b)) :
  Calls Tryz.prog 158 #[.slice a l.length cap,.int .i64 v] w fun e w'=>e = .returned (.bool b)/\w=w':=by
 have d:Hid (Calls Tryz.prog 176 #[.slice a l.length cap,.int .i64 v] w fun e w'=>(∃ k:Int,e = .returned (.int .i64 k)/\decide (0<=k)=b)/\w=w'):=(Lg l v a cap hl B w hL).mono (by
  rintro e w' ⟨⟨k,rfl,c⟩,rfl⟩
  refine⟨⟨k,rfl, ?_⟩,rfl⟩
  rw[<- HB.out]
  rcases c with⟨rfl,h⟩|⟨j,g,rfl,f,_⟩
  ·simp[h]
  ·have:v ∈ l:=by rw[<- f];exact List.getElem_mem g
   simp[this])
 clear hL HB;go_enter Tryz.func158,Tryz.ntmps158;go_wp2_with (go_at_call 176;refine d.out.mono ?_;rintro e w' ⟨⟨k,rfl,c⟩,rfl⟩);all_goals go_ret
 all_goals exact⟨Wn (by first|exact c|(simp_all;done)|(rw[<- c];simp;omega)),rfl⟩
def F7 (op:Nat):List Int:=(Bk (op:Int)).map (fun t=>if t=0 then 11 else t)
structure Cs (w:World):Prop where
 lt1:1 < w.heap.size
 lt2:2 < w.heap.size
 kid:∀ m:Nat,1<=m->m<=12->∀ j,j < 3->w.cell? ⟨1,m * 4+j,none⟩=some (.int .i64 ((F7 m).getD j 0))
 gives:∀ m:Nat,1<=m->m<=12->w.cell? ⟨1,m * 4+3,none⟩=some (.int .i64 (Ci (m:Int)))
 kids:∀ m:Nat,1<=m->m<=12->w.cell? ⟨2,m * 2+1,none⟩=some (.int .i64 ((F7 m).length:Int))
theorem Cs.below {w w':World} (h:Cs w) (hb:Below w.heap.size w w'):Cs w' :=
 ⟨Nat.lt_of_lt_of_le h.lt1 hb.size,Nat.lt_of_lt_of_le h.lt2 hb.size,fun m h1 h2 j hj=>(hb.cell (p:=⟨_,_,none⟩) h.lt1).trans (h.kid m h1 h2 j hj),fun m h1 h2=>(hb.cell (p:=⟨_,_,none⟩) h.lt1).trans (h.gives m h1 h2),fun m h1 h2=>(hb.cell (p:=⟨_,_,none⟩) h.lt2).trans (h.kids m h1 h2)⟩
theorem Yr (m:Nat):(F7 m).length<=3:=by
 unfold F7 Bk;rw[List.length_map];repeat' (first|split)
 all_goals simp
structure Fx (g:Nat) (w:World) (cv:Value) (f:Ae) (pv iv lv wv:Value):Prop where
 blk:w.heap[g]? = some (.cells #[cv,.string f.name,pv,.int .i64 f.result,.int .i64 f.slots,iv,lv,wv] 148 (0,0))
theorem Fx.lt {g:Nat} {w:World} {cv:Value} {f:Ae} {pv iv lv wv:Value} (h:Fx g w cv f pv iv lv wv):g < w.heap.size:=(Array.getElem?_eq_some_iff.1 h.blk).1
theorem Fx.below {g:Nat} {w w':World} {cv:Value} {f:Ae} {pv iv lv wv:Value} (h:Fx g w cv f pv iv lv wv) (hb:Below w.heap.size w w'):Fx g w' cv f pv iv lv wv:=⟨(hb.block g h.lt).trans h.blk⟩
theorem Fx.cells {g:Nat} {w:World} {cv:Value} {f:Ae} {pv iv lv wv:Value} (h:Fx g w cv f pv iv lv wv):w.cell? ⟨g,0,none⟩=some cv/\w.cell? ⟨g,1,none⟩=some (.string f.name)/\w.cell? ⟨g,2,none⟩=some pv/\w.cell? ⟨g,3,none⟩=some (.int .i64 f.result)/\w.cell? ⟨g,4,none⟩=some (.int .i64 f.slots)/\w.cell? ⟨g,5,none⟩=some iv/\w.cell? ⟨g,6,none⟩=some lv/\w.cell? ⟨g,7,none⟩=some wv:=by
 refine⟨?_, ?_, ?_, ?_, ?_, ?_, ?_, ?_⟩ <;> (rw[Lib.cell_of_heap h.blk];rfl)
theorem Ma (w:World) (xs:List Int) (t:TypeId) (k cap:Nat) (hk:k<=xs.length) (W:World) (hW:W.heap[w.heap.size]? = some (.cells (As xs).toArray t (0,0))) (hs:w.heap.size < W.heap.size):Ab W.heap.size W (.slice (some ⟨w.heap.size,0,none⟩) k cap) (xs.take k):=by
 refine⟨some ⟨w.heap.size,0,none⟩,cap,by rw[List.length_take,Nat.min_eq_left hk],fun i hi=>⟨w.heap.size,0,rfl,hs, ?_⟩⟩;rw[List.length_take]at hi;rw[Lib.cell_of_heap hW];simp[As,List.getElem_take]
end Go.Proofs.YtahibkjkpmdhgaaGreatDoor
