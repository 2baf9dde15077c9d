import Derived.Test.YtahibkjkpmdhgaaGreatDoorKCeE
set_option maxRecDepth 100000
set_option maxHeartbeats 2000000
namespace Go.Proofs.YtahibkjkpmdhgaaGreatDoor
open Go.RowKit
def B5 (m:Nat):Bool × Int × Int × Int × Int :=
 if m=1 then (true,0,0,16,0) else if m=2 then (true,0,0,17,0) else if m=3 then (true,12,0,0,0) else if m=4 then (false,12,0,0,0)
 else if m=5 then (true,12,0,18,0) else if m=6 then (true,12,12,19,0) else if m=7 then (true,11,0,16,0) else if m=8 then (true,13,0,20,0)
 else if m=9 then (true,14,0,21,0) else if m=10 then (true,0,0,0,1) else if m=11 then (true,1,0,0,2) else if m=12 then (true,15,0,0,3)
 else if m=13 then (false,2,0,0,3) else if m=14 then (false,2,2,0,0) else if m=15 then (false,2,0,0,0) else (false,0,0,0,0)
structure B3 (w:World):Prop where
 lt:0 < w.heap.size
 hasA:∀ m:Nat,1<=m->m<=16->w.cell? (OI 0 (m * 5))=some (.bool (B5 m).1)
 take0:∀ m:Nat,1<=m->m<=16->w.cell? (OI 0 (m * 5+1))=some (.int .i64 (B5 m).2.1)
 take1:∀ m:Nat,1<=m->m<=16->w.cell? (OI 0 (m * 5+2))=some (.int .i64 (B5 m).2.2.1)
 puts:∀ m:Nat,1<=m->m<=16->w.cell? (OI 0 (m * 5+3))=some (.int .i64 (B5 m).2.2.2.1)
 goes:∀ m:Nat,1<=m->m<=16->w.cell? (OI 0 (m * 5+4))=some (.int .i64 (B5 m).2.2.2.2)
theorem B3.below {w w':World} (h:B3 w) (hb:OH w w'):B3 w' :=
 ⟨Nat.lt_of_lt_of_le h.lt hb.size,fun m h1 h2=>(hb.cell (p:=(OI _ _)) h.lt).trans (h.hasA m h1 h2),fun m h1 h2=>(hb.cell (p:=(OI _ _)) h.lt).trans (h.take0 m h1 h2),fun m h1 h2=>(hb.cell (p:=(OI _ _)) h.lt).trans (h.take1 m h1 h2),fun m h1 h2=>(hb.cell (p:=(OI _ _)) h.lt).trans (h.puts m h1 h2),fun m h1 h2=>(hb.cell (p:=(OI _ _)) h.lt).trans (h.goes m h1 h2)⟩
theorem Wv (i:Az) (at':Nat) (h1:1<=i.op) (h16:i.op<=16) (hat:at'<=1048576) (ha:i.op=10\/i.op=11->0<=i.a) (w:World) (hT:B3 w) :
  Calls Tryz.prog 129 #[Aw i,.int .i64 (at':Int)] w fun e w' => ∃ v,e = .returned v/\Ac w'.heap.size w' v (Ct (A5 i at'))/\OH w w':=by
 obtain⟨y,a,n,b⟩:=i;simp only at h1 h16 ha;obtain⟨m,rfl⟩:∃ m:Nat,y=(m:Int):=⟨y.toNat,by omega⟩;have r:1<=m:=Ou
 have o:m<=16:=Ou
 unfold Aw;have A:wrap64 ((at':Int)+1)=(at':Int)+1:=IntWalk.wrap64_in _ Ou;obtain⟨d,j⟩:∃ Y,w.alloc (.cells #[.int .i64 (m:Int),.int .i64 a,.int .i64 n,.string b] 107)=Y:=⟨_,rfl⟩;have f:OH w d:=by rw[<- j];exact Ao w _
 have l:d.heap.size=w.heap.size+1:=by rw[<- j];exact World.size_alloc _ _
 have c:d.heap[w.heap.size]? = some (.cells #[.int .i64 (m:Int),.int .i64 a,.int .i64 n,.string b] 107):=by rw[<- j];exact Ae w _
 have s:d.cell? (OK w 0)=some (.int .i64 (m:Int)):=by rw[Lib.cell_of_heap c];rfl
 have t:d.cell? (OK w 1)=some (.int .i64 a):=by rw[Lib.cell_of_heap c];rfl
 have u:d.cell? (OK w 2)=some (.int .i64 n):=by rw[Lib.cell_of_heap c];rfl
 have x:d.cell? (OK w 3)=some (.string b):=by rw[Lib.cell_of_heap c];rfl
 clear c;have q:d.cell? (OI 0 (m * 5+4))=some (.int .i64 (B5 m).2.2.2.2):=(f.cell (p:=(OI _ _)) hT.lt).trans (hT.goes m r o);clear hT;have z:(m:Int) < 17:=Ou
 by_cases h10:m=10
 ·have g:Hid (A5 ⟨(m:Int),a,n,b⟩ at'=[a.toNat]):=by rw[Hid,h10];simp[A5]
  have e:(B5 m).2.2.2.2=1:=by rw[h10];rfl
  rw[e]at q;obtain⟨k,rfl⟩:∃ k:Nat,a=(k:Int):=⟨a.toNat,by have:=ha (.inl Ou);omega⟩;rw[g.out];clear h10 ha e;go_enter Tryz.func129,Tryz.ntmps129;go_wp2_with fail;go_ret;exact⟨.slice (some (OK d 0)) 1 1,by simp[l],Ac.newZ (Z:=d) (hs:=[(k:Int)]) _ _ rfl,Ab f _⟩
 ·by_cases h11:m=11
  ·have g:Hid (A5 ⟨(m:Int),a,n,b⟩ at'=[a.toNat,at'+1]):=(by rw[Hid,h11];simp[A5]);have e:(B5 m).2.2.2.2=2:=(by rw[h11];rfl);rw[e]at q;obtain⟨k,rfl⟩:∃ k:Nat,a=(k:Int):=⟨a.toNat,by have:=ha (.inr Ou);omega⟩;rw[g.out];clear h10 h11 ha e;go_enter Tryz.func129,Tryz.ntmps129;go_wp2_with fail;go_ret;exact⟨.slice (some (OK d 0)) 2 2,by simp[l],Ac.newZ (Z:=d) (hs:=[(k:Int),(at':Int)+1]) _ _ rfl,Ab f _⟩
  ·by_cases h12:m=12\/m=13
   ·have g:Hid (A5 ⟨(m:Int),a,n,b⟩ at'=[]):=by
     rw[Hid];rcases h12 with h|h <;> (rw[h];simp[A5])
    have e:(B5 m).2.2.2.2=3:=by rcases h12 with h|h <;> (rw[h];rfl)
    rw[e]at q;rw[g.out];clear h10 h11 h12 ha e;go_enter Tryz.func129,Tryz.ntmps129;go_wp2_with fail;go_ret;exact⟨.slice none 0 0,rfl,⟨none,0,rfl,fun i hi=>by simp[Ct]at hi⟩,f⟩
   ·have g:Hid (A5 ⟨(m:Int),a,n,b⟩ at'=[at'+1]):=by
     rw[Hid];unfold A5;rw[if_neg OG,if_neg OG,if_neg OG]
    have e:(B5 m).2.2.2.2=0:=by
     have h:m=1\/m=2\/m=3\/m=4\/m=5\/m=6\/m=7\/m=8\/m=9\/m=14\/m=15\/m=16:=Ou;rcases h with h|h|h|h|h|h|h|h|h|h|h|h <;> (rw[h];rfl)
    rw[e]at q;rw[g.out];clear h10 h11 h12 ha e;go_enter Tryz.func129,Tryz.ntmps129;go_wp2_with fail;go_ret;exact⟨.slice (some (OK d 0)) 1 1,by simp[l],Ac.newZ (Z:=d) (hs:=[(at':Int)+1]) _ _ rfl,Ab f _⟩
end Go.Proofs.YtahibkjkpmdhgaaGreatDoor
namespace Go.Proofs.YtahibkjkpmdhgaaGreatDoor
theorem Dj.one {c:List Af} {r q:Int × Int × Int} (h:Dj c r) (h':Dj c q):r=q:=by
 unfold Dj at h h';by_cases hp:(B8 c).1≠0
 ·rw[if_pos hp]at h h';rw[h,h']
 ·rw[if_neg hp]at h h';obtain⟨y,G,v,I⟩:=h;obtain⟨z,t,l,n⟩:=h';have e:y=z:=by
   apply List.ext_getElem (by rw[G,t]);intro k C D;exact(v k Ou C).one (l k Ou D)
  subst e;rcases I with⟨k,u,F,s,x,b,E,H,rfl⟩|⟨p,rfl⟩
  ·rcases n with⟨o,g,j,d,f,a,i,m,rfl⟩|⟨p,rfl⟩
   ·have A:k=o:=by
     rcases Nat.lt_trichotomy k o with h|h|h
     ·have:=m k h u x;rw[this]at b;simp at b
     ·exact h
     ·have:=H o h g f;rw[this]at a;simp at a
    subst A;have B:u=g:=by
     rcases Nat.lt_trichotomy u g with h|h|h
     ·have:=i u h;rw[this]at b;simp at b
     ·exact h
     ·have:=E g h;rw[this]at a;simp at a
    rw[B]
   ·have:=p k F s u x;rw[this]at b;simp at b
  ·rcases n with⟨o,g,j,d,f,a,i,m,rfl⟩|⟨_,rfl⟩
   ·have:=p o j d g f;rw[this]at a;simp at a
   ·rfl
def Fm (e h:Int):Bool:=if e=11 then Ci h else if e=12 then As h 1 10 else decide (h=e)
def C1 : List Int->List Int->Bool
 | [],[]=>true
 | e::es,h::hs=>Fm e h && C1 es hs
 | _,_=>false
def Ax (c:List Af) (f:Af) (i:Az):List Int :=
 if i.op=3\/i.op=4\/i.op=5 then [12]
 else if i.op=6 then [12,12]
 else if i.op=7 then [11]
 else if i.op=8 then (Bj i.a).map (fun t=>if t=0 then 11 else t)
 else if i.op=9 then (c.getD i.a.toNat A6).params
 else if i.op=11 then [1]
 else if i.op=12 then (if f.result=0 then [] else [f.result])
 else if i.op=13\/i.op=15 then [2]
 else if i.op=14 then [2,2]
 else []
def Bg (c:List Af) (i:Az) (s tk:List Int):Int × Bool :=
 if i.op=1\/i.op=7 then (i.a,decide (i.a≠0))
 else if i.op=2 then (s.getD i.a.toNat 0,decide (s.getD i.a.toNat 0≠0))
 else if i.op=5 then (Fx i.a (tk.getD 0 0),decide (Fx i.a (tk.getD 0 0)≠0))
 else if i.op=6 then (Cy i.a (tk.getD 0 0) (tk.getD 1 0),decide (Cy i.a (tk.getD 0 0) (tk.getD 1 0)≠0))
 else if i.op=8 then (Cm i.a,decide (Cm i.a≠0))
 else if i.op=9 then ((c.getD i.a.toNat A6).result,true)
 else (0,true)
def Cz (k:List Int) (p:Int):List Int:=if p=0 then k else k++[p]
def Hd (c:List Af) (f:Af) (i:Az) (at':Nat) (s k:List Int):Am :=
 if k.length < (Ax c f i).length then .clash
 else if (A5 i at').any (fun v=>decide (v=f.ins.length))=true then .clash
 else if C1 (Ax c f i) (k.drop (k.length - (Ax c f i).length))=false then .clash
 else if (Bg c i s (k.drop (k.length - (Ax c f i).length))).2=false\/600 < (Cz (k.take (k.length - (Ax c f i).length)) (Bg c i s (k.drop (k.length - (Ax c f i).length))).1).length then .clash
 else .known (if i.op=3 then s.take i.a.toNat++k.drop (k.length - (Ax c f i).length)++s.drop (i.a.toNat+1) else s) (Cz (k.take (k.length - (Ax c f i).length)) (Bg c i s (k.drop (k.length - (Ax c f i).length))).1)
theorem Np {k:List Int} (h:1<=k.length):k.drop (k.length - 1)=[A3 k]:=by
 rw[List.drop_eq_getElem_cons Ou,List.drop_eq_nil_of_le Ou];unfold A3;rw[List.getLast?_eq_getElem?,List.getElem?_eq_getElem Ou];rfl
theorem Uf {k:List Int} (h:2<=k.length):k.drop (k.length - 2)=[An k,A3 k]:=by
 rw[List.drop_eq_getElem_cons Ou,show k.length - 2+1=k.length - 1 by omega,Np Ou];unfold An;rw[List.getLast?_eq_getElem?,List.getElem?_eq_getElem OD];simp only[List.length_take,Option.getD_some,List.getElem_take];congr 2;omega
theorem Sn : ∀ (ws hs:List Int),(∀ t ∈ ws,t≠11/\t≠12)->(∀ t ∈ hs,1<=t/\t<=10)->C1 (ws.map (fun t=>if t=0 then 11 else t)) hs=Fo ws hs
 | [],[],_,_=>rfl
 | [],_::_,_,_=>rfl
 | _::_,[],_,_=>rfl
 | w::ws,h::hs,h1,h2=>by
  have c:=Sn ws hs (fun t ht=>h1 t (by simp[ht])) (fun t ht=>h2 t (by simp[ht]))
  simp only[List.map_cons,C1,Fo,c]
  congr 1
  have a:=h1 w OB
  have b:=h2 h OB
  unfold Fm Mm
  by_cases e:w=0
  ·subst e
   have:¬ h=0:=Ou
   simp[this]
  ·simp[e,a.1,a.2]
theorem Sk : ∀ (ps hs:List Int),(∀ t ∈ ps,1<=t/\t<=10)->C1 ps hs=decide (hs=ps)
 | [],[],_=>rfl
 | [],_::_,_=>by simp[C1]
 | _::_,[],_=>by simp[C1]
 | p::ps,h::hs,h1=>by
  have b:=Sk ps hs (fun t ht=>h1 t (by simp[ht]))
  have a:=h1 p OB
  simp only[C1,b,Fm]
  rw[if_neg Ou,if_neg Ou]
  simp
theorem Zk (a:Int):Cm a≠0:=by
 unfold Cm;repeat (first|split|omega)
theorem Qdv (a:Int):∀ t ∈ Bj a,0<=t/\t<=10:=by
 unfold Bj;intro t b;repeat' (first|split at b|(simp at b <;> omega))
theorem Qbj (c:List Af) (f:Af) (i:Az) (at':Nat) (hok:Aq c f i=true) (hat:at' < f.ins.length):(A5 i at').any (fun v=>decide (f.ins.length<=v))=(A5 i at').any (fun v=>decide (v=f.ins.length)):=by
 have a:i.op=10\/i.op=11->i.a.toNat<=f.ins.length:=fun h=>by
  unfold Aq at hok;split at hok
  ·simp at hok
  ·rw[if_neg Ou]at hok;split at hok
   ·simp at hok
   ·rw[if_neg Ou,if_neg Ou,if_neg Ou,if_neg Ou,if_neg Ou,if_neg Ou]at hok;first|(rw[if_pos h]at hok;simp[As]at hok;omega)|(simp[As]at hok;omega)
 unfold A5;split
 ·rfl
 ·split
  ·have:=a Ou;simp;omega
  ·split
   ·have:=a Ou;have b:(f.ins.length<=i.a.toNat) ↔ (i.a.toNat=f.ins.length):=Ou;have d:(f.ins.length<=at'+1) ↔ (at'+1=f.ins.length):=Ou;simp[b,d]
   ·simp;omega
theorem Hs {c:List Af} {f:Af} {i:Az} (hok:Aq c f i=true):1<=i.op/\i.op<=16:=by
 unfold Aq at hok;split at hok
 ·simp at hok
 ·rename_i h
  have:¬ As i.op 1 16=false:=fun e=>h (.inl e)
  simp[As]at this;omega
theorem Zr {s:List Int} {a:Nat} (t:Int) (h:a < s.length):s.take a++[t]++s.drop (a+1)=s.set a t:=by
 rw[List.set_eq_take_append_cons_drop,if_pos h];simp
end Go.Proofs.YtahibkjkpmdhgaaGreatDoor
namespace Go.Proofs.YtahibkjkpmdhgaaGreatDoor
structure Nn (c:List Af) (f:Af) (i:Az) (s k:List Int):Prop where
 ok:Aq c f i=true
 stack:∀ t ∈ k,1<=t/\t<=10
 slot:i.op=2\/i.op=3->i.a.toNat < s.length
 pars:i.op=9->(∀ t ∈ (c.getD i.a.toNat A6).params,1<=t/\t<=10)
 nz:i.op=1\/i.op=7->i.a≠0
 ret:i.op=12->(i.a=1/\f.result≠0)\/(i.a=0/\f.result=0)
 res:0<=f.result/\f.result<=10
theorem Ye {k:List Int} (h:∀ t ∈ k,1<=t/\t<=10) (hk:0 < k.length):1<=A3 k/\A3 k<=10:=by
 apply h;unfold A3;rw[List.getLast?_eq_getElem?,List.getElem?_eq_getElem Ou];exact List.getElem_mem _
theorem Ru {k:List Int} (h:∀ t ∈ k,1<=t/\t<=10) (hk:1 < k.length):1<=An k/\An k<=10:=by
 have e:=Uf (k:=k) Ou;apply h;have:An k ∈ k.drop (k.length - 2):=by rw[e];simp
 exact List.mem_of_mem_drop this
theorem Qes {A B C D A' B' C':Prop} [Decidable A] [Decidable B] [Decidable C] [Decidable D] [Decidable A'] [Decidable B'] [Decidable C'] {x y:Am}
  (h1:(A\/B\/C\/D) ↔ (A'\/B'\/C')) (h2:¬ (A'\/B'\/C')->x=y) :
  (if A then Am.clash else if B then .clash else if C then .clash else if D then .clash else x)=(if A' then Am.clash else if B' then .clash else if C' then .clash else y):=by
 by_cases h:A'\/B'\/C'
 ·have a:=h1.2 h;have b:(if A then Am.clash else if B then .clash else if C then .clash else if D then .clash else x) = .clash:=by
   rcases a with h|h|h|h
   ·rw[if_pos h]
   ·rw[if_pos h];simp
   ·rw[if_pos h];simp
   ·rw[if_pos h];simp
  have c:(if A' then Am.clash else if B' then .clash else if C' then .clash else y) = .clash:=by
   rcases h with h|h|h
   ·rw[if_pos h]
   ·rw[if_pos h];simp
   ·rw[if_pos h];simp
  rw[b,c]
 ·have a:¬ (A\/B\/C\/D):=fun e=>h (h1.1 e)
  simp only[not_or]at h a;rw[if_neg a.1,if_neg a.2.1,if_neg a.2.2.1,if_neg a.2.2.2,if_neg h.1,if_neg h.2.1,if_neg h.2.2,h2 (by simp only[not_or];exact h)]
theorem Xc {c:List Af} {f:Af} {i:Az} {at':Nat} {s k:List Int} (hat:at' < f.ins.length) (hok:Aq c f i=true)
  (h1:(k.length < (Ax c f i).length\/C1 (Ax c f i) (k.drop (k.length - (Ax c f i).length))=false\/(Bg c i s (k.drop (k.length - (Ax c f i).length))).2=false) ↔ ((Ag c f i s k).2.2=false\/k.length < (Ag c f i s k).1))
  (h2:¬ ((Ag c f i s k).2.2=false\/k.length < (Ag c f i s k).1)->Cz (k.take (k.length - (Ax c f i).length)) (Bg c i s (k.drop (k.length - (Ax c f i).length))).1=k.take (k.length - (Ag c f i s k).1)++(Ag c f i s k).2.1)
  (h3:i.op=3->0 < k.length->i.a.toNat < s.length) :
  Hd c f i at' s k=Bi c f i at' s k:=by
 unfold Hd Bi;rw[Qbj c f i at' hok hat];apply Qes
 ·by_cases q:(Ag c f i s k).2.2=false\/k.length < (Ag c f i s k).1
  ·have:=h1.2 q;constructor
   ·intro _;exact .inl q
   ·intro _;rcases this with h|h|h
    ·exact .inl h
    ·exact .inr (.inr (.inl h))
    ·exact .inr (.inr (.inr (.inl h)))
  ·have a:¬ _:=fun e=>q (h1.1 e)
   simp only[not_or]at a;rw[h2 q];constructor
   ·rintro(h|h|h|h|h)
    ·exact(a.1 h).elim
    ·exact .inr (.inl h)
    ·exact(a.2.1 h).elim
    ·exact(a.2.2 h).elim
    ·exact .inr (.inr h)
   ·rintro(h|h|h)
    ·exact(q h).elim
    ·exact .inr (.inl h)
    ·exact .inr (.inr (.inr (.inr h)))
 ·intro g;have q:¬ _:=fun e=>g (.inl e)
  have a:¬ _:=fun e=>q (h1.1 e)
  simp only[not_or]at a;rw[h2 q];by_cases e3:i.op=3
  ·have b:Ax c f i=[12]:=(by unfold Ax;rw[if_pos (.inl e3)]);have d:0 < k.length:=(by have:=a.1;rw[b,List.length_singleton]at this;omega);rw[if_pos e3,if_pos e3,b,List.length_singleton,Np Ou,Zr _ (h3 e3 d)]
  ·rw[if_neg e3,if_neg e3]
def Kn (c:List Af) (f:Af) (i:Az) (s k:List Int):Prop :=
 ((k.length < (Ax c f i).length\/C1 (Ax c f i) (k.drop (k.length - (Ax c f i).length))=false\/(Bg c i s (k.drop (k.length - (Ax c f i).length))).2=false) ↔ ((Ag c f i s k).2.2=false\/k.length < (Ag c f i s k).1)) /\
 (¬ ((Ag c f i s k).2.2=false\/k.length < (Ag c f i s k).1)->Cz (k.take (k.length - (Ax c f i).length)) (Bg c i s (k.drop (k.length - (Ax c f i).length))).1=k.take (k.length - (Ag c f i s k).1)++(Ag c f i s k).2.1)
theorem Qf6 (c:List Af) (f:Af) (a n:Int) (text:ByteArray) (s k:List Int) (hst:∀ t ∈ k,1<=t/\t<=10):Kn c f ⟨8,a,n,text⟩ s k:=by
 have d:Ax c f ⟨8,a,n,text⟩=(Bj a).map (fun t=>if t=0 then 11 else t):=by simp[Ax]
 have i:∀ tk,Bg c ⟨8,a,n,text⟩ s tk=(Cm a,decide (Cm a≠0)):=fun tk=>by simp[Bg]
 have h:=Zk a;have g:=Sn (Bj a) (k.drop (k.length - (Bj a).length)) (fun t ht=>by have:=Qdv a t ht;omega) (fun t ht=>hst t (List.mem_of_mem_drop ht));unfold Kn;rw[d,i,List.length_map,g];by_cases q:k.length < (Bj a).length
 ·have b:Ag c f ⟨8,a,n,text⟩ s k=(0,[],false):=by simp[Ag,q]
  rw[b];simp[q]
 ·have b:Ag c f ⟨8,a,n,text⟩ s k=((Bj a).length,[Da a (k.drop (k.length - (Bj a).length))],decide (Da a (k.drop (k.length - (Bj a).length))≠0)):=by simp[Ag,q]
  rw[b];unfold Da;cases hL:Fo (Bj a) (k.drop (k.length - (Bj a).length))
  ·simp[q]
  ·simp[q,h,Cz]
theorem Qf7 (c:List Af) (f:Af) (a n:Int) (text:ByteArray) (s k:List Int) (hpa:∀ t ∈ (c.getD a.toNat A6).params,1<=t/\t<=10):Kn c f ⟨9,a,n,text⟩ s k:=by
 obtain⟨g,b⟩:∃ g,c.getD a.toNat A6=g:=⟨_,rfl⟩;rw[b]at hpa;have h:Ax c f ⟨9,a,n,text⟩=g.params:=by rw[<- b];simp[Ax]
 have j:∀ tk,Bg c ⟨9,a,n,text⟩ s tk=(g.result,true):=fun tk=>by rw[<- b];simp[Bg]
 have i:=Sk g.params (k.drop (k.length - g.params.length)) hpa;have d:Ag c f ⟨9,a,n,text⟩ s k=(if k.length < g.params.length then (0,[],false) else if k.drop (k.length - g.params.length)=g.params then (g.params.length,if g.result=0 then [] else [g.result],true) else (0,[],false)):=by rw[<- b];simp[Ag]
 unfold Kn;rw[h,j,i,d];by_cases q:k.length < g.params.length
 ·simp[q]
 ·rw[if_neg q];by_cases e:k.drop (k.length - g.params.length)=g.params
  ·rw[if_pos e];simp[q,e,Cz];split <;> simp
  ·rw[if_neg e];simp[e]
theorem Qe5 (c:List Af) (f:Af) (a n:Int) (text:ByteArray) (s k:List Int) (hre:(a=1/\f.result≠0)\/(a=0/\f.result=0)) (hrr:0<=f.result/\f.result<=10):Kn c f ⟨12,a,n,text⟩ s k:=by
 have j:∀ tk,Bg c ⟨12,a,n,text⟩ s tk=(0,true):=fun tk=>by simp[Bg]
 unfold Kn;rcases hre with⟨rfl,i⟩|⟨rfl,i⟩
 ·have h:Ax c f ⟨12,1,n,text⟩=[f.result]:=by simp[Ax,i]
  have b:¬ f.result=11:=Ou
  have d:¬ f.result=12:=Ou
  rw[h,j];by_cases k0:0 < k.length
  ·have g:=Np (k:=k) Ou;have m:¬ k=[]:=(by rintro rfl;simp at k0);have l:¬ k.length < 1:=Ou;rw[List.length_singleton,g];simp[Ag,C1,Fm,b,d,k0,l,Cz]
  ·have:k=[]:=List.length_eq_zero_iff.1 Ou;subst this;simp[Ag]
 ·have h:Ax c f ⟨12,0,n,text⟩=[]:=by simp[Ax,i]
  rw[h,j];simp[Ag,C1,Cz]
theorem Us {c:List Af} {f:Af} {i:Az} {at':Nat} {s k:List Int} (hat:at' < f.ins.length) (h:Nn c f i s k):Hd c f i at' s k=Bi c f i at' s k:=by
 obtain⟨F,C⟩:=Hs h.ok;have l:=h.stack;have u:=h.slot;have r:=h.pars;have g:=h.nz;have t:=h.ret;have D:=h.res;suffices hS:Kn c f i s k from Xc hat h.ok hS.1 hS.2 (fun e _=>u (.inr e))
 obtain⟨b,a,n,m⟩:=i;simp only at F C u r g t;have q:b=8\/b=9\/b=12\/b=1\/b=2\/b=3\/b=4\/b=5\/b=6\/b=7\/b=10\/b=11\/b=13\/b=14\/b=15\/b=16:=Ou
 rcases q with rfl|rfl|rfl|q
 ·exact Qf6 c f a n m s k l
 ·exact Qf7 c f a n m s k (r rfl)
 ·exact Qe5 c f a n m s k (t rfl) D
 ·by_cases k0:0 < k.length
  ·have I:=Ye l k0;have d:=Np (k:=k) Ou;have y:¬ k=[]:=(by rintro rfl;simp at k0);by_cases k1:1 < k.length
   ·have H:=Ru l k1;have j:=Uf (k:=k) Ou;have v:¬ k.length < 2:=Ou;have p:¬ k.length < 1:=Ou;rcases q with rfl|rfl|rfl|rfl|rfl|rfl|rfl|rfl|rfl|rfl|rfl|rfl|rfl
    all_goals
     refine⟨?_, ?_⟩
     ·first
      | (simp[Ax,Ag,Bg,C1,Fm,As,d,j,y,v];done)
      | (simp[Ax,Ag,Bg,C1,Fm,As,d,j,y,v];omega)
     ·first
      | (simp[Ax,Ag,Bg,Cz,d,j,y,v,p];done)
      | (simp[Ax,Ag,Bg,Cz,p,g];done)
      | (simp[Ax,Ag,Bg,Cz,d,j,y,v,p];intro h G;simp[h,G];done)
      | (simp[Ax,Ag,Bg,Cz,d,j,y,v,p];intro h;simp[h];done)
   ·obtain⟨x,rfl⟩:∃ x,k=[x]:=by
     match k,k0,k1 with
     | [x],_,_=>exact⟨x,rfl⟩
     | _::_::_,_,h=>simp at h
    have J:1<=x/\x<=10:=l x OB;obtain⟨K,E⟩:=J;have z:A3 [x]=x:=rfl;have B:An [x]=0:=rfl;have A:∀ o,Cy o 0 x=0:=fun o=>by unfold Cy;rw[if_pos (.inl Ou)]
    have M:¬ x < 1:=Ou;have L:¬ 10 < x:=Ou;clear l I d k0 k1 h;rcases q with rfl|rfl|rfl|rfl|rfl|rfl|rfl|rfl|rfl|rfl|rfl|rfl|rfl
    all_goals
     refine⟨?_, ?_⟩
     ·first
      | (simp[Ax,Ag,Bg,C1,Fm,As,z,B,A,K,E];done)
      | (simp[Ax,Ag,Bg,C1,Fm,z,g];done)
     ·first
      | (simp[Ax,Ag,Bg,Cz,z,B,A];done)
      | (simp[Ax,Ag,Bg,Cz,z,g];done)
      | (simp[Ax,Ag,Bg,Cz,z,B,A];intro h;simp[h];done)
  ·have:k=[]:=List.length_eq_zero_iff.1 Ou;subst this;rcases q with rfl|rfl|rfl|rfl|rfl|rfl|rfl|rfl|rfl|rfl|rfl|rfl|rfl
   all_goals
    refine⟨?_, ?_⟩
    ·first
     | (simp[Ax,Ag,Bg,C1,A3,An,Cy,Fx,Ci];done)
     | (simp[Ax,Ag,Bg,C1,g];done)
    ·first
     | (simp[Ax,Ag,Bg,Cz,A3,An];done)
     | (simp[Ax,Ag,Bg,Cz,g];done)
     | (simp[Ax,Ag,Bg,Cz,A3,An];intro h;simp[h];done)
end Go.Proofs.YtahibkjkpmdhgaaGreatDoor
namespace Go.Proofs.YtahibkjkpmdhgaaGreatDoor
def Dn : Am->Prop
 | .known s k=>(∀ t ∈ s,0<=t/\t<=10)/\(∀ t ∈ k,1<=t/\t<=10)/\k.length<=600
 | _=>True
def Pi (c:List Af):Prop := ∀ g ∈ c,(0<=g.result/\g.result<=10)/\∀ t ∈ g.params,1<=t/\t<=10
theorem Pi.get {c:List Af} (h:Pi c) (j:Nat):(0<=(c.getD j A6).result/\(c.getD j A6).result<=10)/\∀ t ∈ (c.getD j A6).params,1<=t/\t<=10:=by
 by_cases hj:j < c.length
 ·rw[List.getD_eq_getElem?_getD,List.getElem?_eq_getElem hj];exact h _ (List.getElem_mem hj)
 ·rw[List.getD_eq_getElem?_getD,List.getElem?_eq_none Ou];simp[A6]
theorem Qb3 {a n:Int} {text:ByteArray} (h:A4 ⟨a,n,text⟩=true):1<=a/\a<=10:=by
 unfold A4 at h;simp only at h;split at h
 ·omega
 ·split at h
  ·omega
  ·simp[Bc]at h;omega
theorem I4 {c:List Af} {f:Af} {i:Az} (hok:Aq c f i=true) :
  (i.op=1->1<=i.a/\i.a<=10)/\(i.op=7->3<=i.a/\i.a<=10)/\(i.op=2\/i.op=3->0<=i.a/\i.a < f.slots)/\(i.op=5->1<=i.a/\i.a<=3)/\(i.op=6->3<=i.a/\i.a<=18)/\(i.op=8->1<=i.a/\i.a<=12)/\(i.op=9->0<=i.a/\i.a < c.length)/\(i.op=10\/i.op=11->0<=i.a/\i.a<=f.ins.length)/\(i.op=12->(i.a=1/\f.result≠0)\/(i.a=0/\f.result=0)):=by
 obtain⟨g,a,n,d⟩:=i;have b:=Hs hok;unfold Aq at hok;simp only at hok b |-
 split at hok
 ·simp at hok
 ·split at hok
  ·have:=Qb3 hok;refine⟨fun _=>this, ?_, ?_, ?_, ?_, ?_, ?_, ?_, ?_⟩ <;> (intro h;omega)
  ·split at hok
   ·simp at hok
   ·repeat' (first|(split at hok))
    all_goals simp[As,Ci]at hok
    all_goals (refine⟨?_, ?_, ?_, ?_, ?_, ?_, ?_, ?_, ?_⟩ <;> (intro h;omega))
theorem Si {c:List Af} {f:Af} {i:Az} {s k:List Int} (hc:Pi c) (hr:0<=f.result/\f.result<=10) (hok:Aq c f i=true) (hl:s.length=f.slots.toNat) (hk:∀ t ∈ k,1<=t/\t<=10):Nn c f i s k:=by
 obtain⟨b,g,d,-,-,-,j,-,a⟩:=I4 hok;refine⟨hok,hk,fun h => ?_,fun h=>(hc.get i.a.toNat).2,fun h => ?_,a,hr⟩
 ·have:=d h;omega
 ·rcases h with h|h
  ·have:=b h;omega
  ·have:=g h;omega
theorem Qf9 {o t:Int} (ht:1<=t/\t<=10) (h:Fx o t≠0):1<=Fx o t/\Fx o t<=10:=by
 unfold Fx at h |-
 split <;> rename_i e
 ·rw[if_pos e]at h;split <;> rename_i e2
  ·omega
  ·rw[if_neg e2]at h;omega
 ·rw[if_neg e]at h;split <;> rename_i e2
  ·exact ht
  ·rw[if_neg e2]at h;omega
theorem Qer {o a b:Int} (ha:1<=a/\a<=10) (h:Cy o a b≠0):1<=Cy o a b/\Cy o a b<=10:=by
 revert h;unfold Cy;repeat' (first|split)
 all_goals (intro h;first|omega|exact ha)
theorem Qbu (a:Int):1<=Cm a/\Cm a<=10:=by
 unfold Cm;repeat' (first|split)
 all_goals omega
theorem Yb {c:List Af} {f:Af} {i:Az} {s k:List Int} (hc:Pi c) (h:Nn c f i s k) (hs:∀ t ∈ s,0<=t/\t<=10) (hl:¬ k.length < (Ax c f i).length) (h2:(Bg c i s (k.drop (k.length - (Ax c f i).length))).2=true) :
  0<=(Bg c i s (k.drop (k.length - (Ax c f i).length))).1/\(Bg c i s (k.drop (k.length - (Ax c f i).length))).1<=10:=by
 obtain⟨m,o,p,-,-,-,q,-,g⟩:=I4 h.ok;have d:=h.stack;obtain⟨l,a,n,b⟩:=i;simp only at m o p q g;by_cases e5:l=5
 ·subst e5;have j:Ax c f ⟨5,a,n,b⟩=[12]:=by simp[Ax]
  rw[j]at h2 hl |-
  rw[List.length_singleton]at h2 hl |-
  rw[Np Ou]at h2 |-
  simp[Bg]at h2 |-
  have:=Qf9 (Ye d Ou) h2;omega
 ·by_cases e6:l=6
  ·subst e6;have j:Ax c f ⟨6,a,n,b⟩=[12,12]:=(by simp[Ax]);rw[j]at h2 hl |-
   have e:([12,12]:List Int).length=2:=rfl;rw[e]at h2 hl |-
   rw[Uf Ou]at h2 |-
   simp[Bg]at h2 |-
   have:=Qer (Ru d Ou) h2;omega
  ·generalize (k.drop (k.length - (Ax c f ⟨l,a,n,b⟩).length))=tk at h2 |-
   revert h2;unfold Bg;simp only[e5,e6,if_false];repeat' (first|split)
   ·rename_i e;intro _;rcases e with e|e
    ·have:=m e;omega
    ·have:=o e;omega
   ·intro _;by_cases hj:a.toNat < s.length
    ·rw[List.getD_eq_getElem?_getD,List.getElem?_eq_getElem hj];exact hs _ (List.getElem_mem hj)
    ·rw[List.getD_eq_getElem?_getD,List.getElem?_eq_none Ou];simp
   ·intro _;have:=Qbu a;omega
   ·intro _;exact(hc.get _).1
   ·intro _;simp
theorem Uq {c:List Af} {f:Af} {i:Az} {at':Nat} {s k:List Int} (hc:Pi c) (hat:at' < f.ins.length) (h:Nn c f i s k) (hf:Dn (.known s k)):Dn (Bi c f i at' s k):=by
 obtain⟨hs,b,g⟩:=hf;rw[<- Us hat h];unfold Hd;split
 ·trivial
 ·rename_i q1
  split
  ·trivial
  ·split
   ·trivial
   ·split
    ·trivial
    ·rename_i q
     simp only[not_or]at q;have d:(Bg c i s (k.drop (k.length - (Ax c f i).length))).2=true:=(by simpa using q.1);have j:=Yb hc h hs q1 d;refine⟨fun t a => ?_,fun t a => ?_,Nat.le_of_not_lt q.2⟩
     ·split at a
      ·simp only[List.mem_append]at a;rcases a with(a|a)|a
       ·exact hs t (List.mem_of_mem_take a)
       ·have:=b t (List.mem_of_mem_drop a);omega
       ·exact hs t (List.mem_of_mem_drop a)
      ·exact hs t a
     ·unfold Cz at a;split at a
      ·exact b t (List.mem_of_mem_take a)
      ·rename_i qp
       simp only[List.mem_append,List.mem_singleton]at a;rcases a with a|a
       ·exact b t (List.mem_of_mem_take a)
       ·rw[a];omega
theorem Rt {s s':List Int} (h:∀ t ∈ s,0<=t/\t<=10):∀ t ∈ Be s s',0<=t/\t<=10:=by
 intro t a;unfold Be at a;obtain⟨j,b,rfl⟩:=List.getElem_of_mem a;rw[List.getElem_zipWith];split
 ·exact h _ (List.getElem_mem _)
 ·omega
theorem Zj : ∀ {a b:Am},Dn a->Dn b->Dn (Bb a b)
 | .none,.none,_,_=>trivial
 | .none,.known _ _,_,h=>h
 | .none,.clash,_,_=>trivial
 | .known _ _,.none,h,_=>h
 | .known _ _,.clash,_,_=>trivial
 | .clash,.none,_,_=>trivial
 | .clash,.known _ _,_,_=>trivial
 | .clash,.clash,_,_=>trivial
 | .known s k,.known s' k',h,_=>by
  rw[Bb]
  by_cases e:k=k'
  ·rw[if_pos e];exact⟨Rt h.1,h.2⟩
  ·rw[if_neg e];trivial
open Go.RowKit
theorem Zn {a b:Bool} (h:a=b):Ending.returned (.bool a) = .returned (.bool b):=by rw[h]
theorem Lg {a b:Int} (h:a=b):Ending.returned (.int .i64 a) = .returned (.int .i64 b):=by rw[h]
theorem Qbm (b:Bool) (t:Int) (HB:Hid (As t 1 10=b)) (w:World) :
  Calls Tryz.prog 151 #[.int .i64 t] w fun e w'=>e = .returned (.bool b)/\w=w':=by
 rw[<- HB.out];by_cases h1:1<=t;all_goals
  go_enter Tryz.func151,Tryz.ntmps151;go_wp2;all_goals go_ret
  all_goals exact⟨Zn (by first|(simp[As,h1];done)|(simp[As];omega)),rfl⟩
theorem Ht (b:Bool) (t:Int) (HB:Hid (Ci t=b)) (w:World) :
  Calls Tryz.prog 160 #[.int .i64 t] w fun e w'=>e = .returned (.bool b)/\w=w':=by
 rw[<- HB.out];by_cases h1:3<=t;all_goals
  go_enter Tryz.func160,Tryz.ntmps160;go_wp2;all_goals go_ret
  all_goals exact⟨Zn (by first|(simp[Ci,h1];done)|(simp[Ci];omega)),rfl⟩
theorem Sa (b:Bool) (k h:Int) (HB:Hid (Fm k h=b)) (w:World) :
  Calls Tryz.prog 159 #[.int .i64 k,.int .i64 h] w fun e w'=>e = .returned (.bool b)/\w=w':=by
 by_cases h11:k=11
 ·subst h11;have a:Hid (Ci h=b):=by rw[Hid,<- HB.out,Fm,if_pos rfl]
  go_enter Tryz.func159,Tryz.ntmps159;go_wp2_with (first|(go_at_call 160;refine(Ht _ _ a _).mono ?_;rintro e w' ⟨rfl,rfl⟩));go_ret;exact⟨rfl,rfl⟩
 ·by_cases h12:k=12
  ·subst h12;have a:Hid (As h 1 10=b):=(by rw[Hid,<- HB.out,Fm,if_neg Ov,if_pos rfl]);go_enter Tryz.func159,Tryz.ntmps159;go_wp2_with (first|(go_at_call 151;refine(Qbm _ _ a _).mono ?_;rintro e w' ⟨rfl,rfl⟩));go_ret;exact⟨rfl,rfl⟩
  ·have c:(k == 11)=false:=(by simp[h11]);have d:(k == 12)=false:=(by simp[h12]);have a:Hid ((h == k)=b):=(by rw[Hid,<- HB.out,Fm,if_neg h11,if_neg h12];rfl);clear h11 h12;go_enter Tryz.func159,Tryz.ntmps159;go_wp2;go_ret;exact⟨by rw[<- a.out];rfl,rfl⟩
theorem Xp (op t:Int) (h1:1<=op) (h3:op<=3) (w:World) :
  Calls Tryz.prog 130 #[.int .i64 op,.int .i64 t] w fun e w'=>e = .returned (.int .i64 (Fx op t))/\w=w':=by
 obtain⟨b,a⟩:∃ b,Hid (Ci t=b):=⟨_,(rfl:Ci t=_)⟩;have c:op=1\/op=2\/op=3:=Ou
 clear h1 h3;cases b
 all_goals
  rcases c with rfl|rfl|rfl
  all_goals
   go_enter Tryz.func130,Tryz.ntmps130;go_wp2_with (go_at_call 160;refine(Ht _ _ a _).mono ?_;rintro e w' ⟨rfl,rfl⟩);all_goals go_ret
   all_goals exact⟨Lg (by have:=a.out;simp_all [Fx]),rfl⟩
theorem U6 (op a b:Int) (h3:3<=op) (h18:op<=18) (ha:1<=a/\a<=10) (w:World) :
  Calls Tryz.prog 131 #[.int .i64 op,.int .i64 a,.int .i64 b] w fun e w'=>e = .returned (.int .i64 (Cy op a b))/\w=w':=by
 by_cases hab:a=b
 ·subst hab;obtain⟨r,d⟩:∃ r,Hid (Cy op a a=r):=⟨_,(rfl:Cy op a a=_)⟩;rw[d.out];have n:(a != a)=false:=by simp
  obtain⟨x,c⟩:∃ b,Hid (Ci a=b):=⟨_,(rfl:Ci a=_)⟩;have f:op=3\/op=4\/op=5\/op=6\/op=7\/op=8\/op=9\/op=10\/op=11\/op=12\/op=13\/op=14\/op=15\/op=16\/op=17\/op=18:=Ou
  have i:Hid (1<=a/\a<=10):=ha;have o:(a != 0)=true:=by simp;omega
  clear h3 h18 ha;cases x with
  | true =>
   have g:(a == 2)=false:=(by have:=c.out;simp[Ci]at this;simp;omega);have j:Hid (a≠1/\a≠0):=(by have:=c.out;simp[Ci]at this;exact⟨by omega,by omega⟩);rcases f with rfl|rfl|rfl|rfl|rfl|rfl|rfl|rfl|rfl|rfl|rfl|rfl|rfl|rfl|rfl|rfl
   all_goals
    go_enter Tryz.func131,Tryz.ntmps131;go_wp2_with (go_at_call 160;refine(Ht _ _ c _).mono ?_;rintro e w' ⟨rfl,rfl⟩);all_goals go_ret
    all_goals exact⟨Lg (by rw[<- d.out];simp[Cy,j.out,c.out]),rfl⟩
  | false =>
   by_cases g:a=2
   ·subst g;rcases f with rfl|rfl|rfl|rfl|rfl|rfl|rfl|rfl|rfl|rfl|rfl|rfl|rfl|rfl|rfl|rfl
    all_goals
     go_enter Tryz.func131,Tryz.ntmps131;go_wp2_with (go_at_call 160;refine(Ht _ _ c _).mono ?_;rintro e w' ⟨rfl,rfl⟩);all_goals go_ret
     all_goals exact⟨Lg (by rw[<- d.out];simp[Cy,Ci]),rfl⟩
   ·have k:a=1:=(by have h:=c.out;have m:=i.out;simp[Ci]at h;omega);subst k;rcases f with rfl|rfl|rfl|rfl|rfl|rfl|rfl|rfl|rfl|rfl|rfl|rfl|rfl|rfl|rfl|rfl
    all_goals
     go_enter Tryz.func131,Tryz.ntmps131;go_wp2_with (go_at_call 160;refine(Ht _ _ c _).mono ?_;rintro e w' ⟨rfl,rfl⟩);all_goals go_ret
     all_goals exact⟨Lg (by rw[<- d.out];simp[Cy,Ci]),rfl⟩
 ·have l:(a != b)=true:=by simp[hab]
  have d:Hid (0=Cy op a b):=by rw[Hid,Cy,if_pos (.inl hab)]
  go_enter Tryz.func131,Tryz.ntmps131;go_wp2;go_ret;exact⟨Lg d.out,rfl⟩
def H9 (l:List Int) (v k:Int):Prop:=(k = -1/\v ∉ l)\/∃ j:Nat,∃ h:j < l.length,k=(j:Int)/\l[j]=v/\∀ i (hi:i < l.length),i < j->l[i]≠v
theorem Mn (l:List Int) (v:Int) (a:Option Addr) (cap:Nat) (hl:l.length<=1048576) (B:Nat) (w:World) (hL:Ac B w (.slice a l.length cap) l) :
  Calls Tryz.prog 176 #[.slice a l.length cap,.int .i64 v] w fun e w'=>(∃ k:Int,e = .returned (.int .i64 k)/\H9 l v k)/\w=w':=by
 have q:Hid (Ac B w (.slice a l.length cap) l):=hL;clear hL;go_enter Tryz.func176,Tryz.ntmps176;go_wp2_with fail;go_loopw [8] (fun t wr => ∃ i:Nat,i<=l.length/\t = .int .i64 (i:Int)/\w=wr/\∀ j (c:j < l.length),j < i->l[j]≠v) (fun t _=>l.length - (intOf t).toNat);case atStart=>exact⟨0,by omega,rfl,rfl,fun j c h=>Ou⟩
 case round =>
  obtain⟨i,D,rfl,rfl,f⟩:=hrel;have b:Hid (∀ j (c:j < l.length),j < i->l[j]≠v):=f;clear f;by_cases hlt:i < l.length
  ·have d:(i:Int) < (l.length:Int):=Ou;obtain⟨g,o,rfl,r⟩:∃ g o,a=some (OI g o)/\w.cell? (OI g (o+i))=some (.int .i64 l[i]):=by
    obtain⟨A,C,e,y⟩:=q.out;injection e with e1;subst e1;obtain⟨g,o,s,_,u⟩:=y i hlt;exact⟨g,o,s,u⟩
   obtain⟨x,p⟩:∃ x,Hid (l[i]=x):=⟨_,(rfl:l[i]=_)⟩;rw[p.out]at r;by_cases hv:v=x
   ·subst hv;have n:Hid (H9 l v (i:Int)):=.inr ⟨i,hlt,rfl,p.out,b.out⟩;go_wp2_with fail;go_ret;exact⟨⟨_,rfl,n.out⟩,rfl⟩
   ·have z:(v == x)=false:=(by simp[hv]);have m:Hid (∀ j (c:j < l.length),j < i+1->l[j]≠v):=fun j c h=>by
     by_cases e:j=i
     ·subst e;rw[p.out];exact fun e=>hv e.symm
     ·exact b.out j c Ou
    go_wp2_with fail;go_roundw;case rel=>exact⟨i+1,by omega,by go_num,by first|rfl|trivial,m.out⟩
    case measure=>simp[intOf];omega
  ·have d:¬ (i:Int) < (l.length:Int):=Ou;have n:Hid (H9 l v (-1)):=.inl ⟨rfl,fun hm=>by
    obtain⟨j,c,e⟩:=List.getElem_of_mem hm
    exact b.out j c Ou e⟩
   go_wp2_with fail;go_ret;exact⟨⟨_,rfl,n.out⟩,rfl⟩
theorem S9 (l:List Int) (v:Int) (a:Option Addr) (cap:Nat) (hl:l.length<=1048576) (B:Nat) (w:World) (hL:Ac B w (.slice a l.length cap) l) (b:Bool) (HB:Hid (decide (v ∈ l)=b)) :
  Calls Tryz.prog 158 #[.slice a l.length cap,.int .i64 v] w fun e w'=>e = .returned (.bool b)/\w=w':=by
 have d:Hid (Calls Tryz.prog 176 #[.slice a l.length cap,.int .i64 v] w fun e w'=>(∃ k:Int,e = .returned (.int .i64 k)/\decide (0<=k)=b)/\w=w'):=(Mn l v a cap hl B w hL).mono (by
  rintro e w' ⟨⟨k,rfl,c⟩,rfl⟩
  refine⟨⟨k,rfl, ?_⟩,rfl⟩
  rw[<- HB.out]
  rcases c with⟨rfl,h⟩|⟨j,g,rfl,f,_⟩
  ·simp[h]
  ·have:v ∈ l:=by rw[<- f];exact List.getElem_mem g
   simp[this])
 clear hL HB;go_enter Tryz.func158,Tryz.ntmps158;go_wp2_with (go_at_call 176;refine d.out.mono ?_;rintro e w' ⟨⟨k,rfl,c⟩,rfl⟩);all_goals go_ret
 all_goals exact⟨Zn (by first|exact c|(simp_all;done)|(rw[<- c];simp;omega)),rfl⟩
def Gt (op:Nat):List Int:=(Bj (op:Int)).map (fun t=>if t=0 then 11 else t)
structure Cw (w:World):Prop where
 lt1:1 < w.heap.size
 lt2:2 < w.heap.size
 kid:∀ m:Nat,1<=m->m<=12->∀ j,j < 3->w.cell? (OI 1 (m * 4+j))=some (.int .i64 ((Gt m).getD j 0))
 gives:∀ m:Nat,1<=m->m<=12->w.cell? (OI 1 (m * 4+3))=some (.int .i64 (Cm (m:Int)))
 kids:∀ m:Nat,1<=m->m<=12->w.cell? (OI 2 (m * 2+1))=some (.int .i64 ((Gt m).length:Int))
theorem Cw.below {w w':World} (h:Cw w) (hb:OH w w'):Cw w' :=
 ⟨Nat.lt_of_lt_of_le h.lt1 hb.size,Nat.lt_of_lt_of_le h.lt2 hb.size,fun m h1 h2 j hj=>(hb.cell (p:=(OI _ _)) h.lt1).trans (h.kid m h1 h2 j hj),fun m h1 h2=>(hb.cell (p:=(OI _ _)) h.lt1).trans (h.gives m h1 h2),fun m h1 h2=>(hb.cell (p:=(OI _ _)) h.lt2).trans (h.kids m h1 h2)⟩
theorem Qbo (m:Nat):(Gt m).length<=3:=by
 unfold Gt Bj;rw[List.length_map];repeat' (first|split)
 all_goals simp
structure Gh (g:Nat) (w:World) (cv:Value) (f:Af) (pv iv lv wv:Value):Prop where
 blk:w.heap[g]? = some (.cells #[cv,.string f.name,pv,.int .i64 f.result,.int .i64 f.slots,iv,lv,wv] 148 (0,0))
theorem Gh.lt {g:Nat} {w:World} {cv:Value} {f:Af} {pv iv lv wv:Value} (h:Gh g w cv f pv iv lv wv):g < w.heap.size:=(Array.getElem?_eq_some_iff.1 h.blk).1
theorem Gh.below {g:Nat} {w w':World} {cv:Value} {f:Af} {pv iv lv wv:Value} (h:Gh g w cv f pv iv lv wv) (hb:OH w w'):Gh g w' cv f pv iv lv wv:=⟨(hb.block g h.lt).trans h.blk⟩
theorem Gh.cells {g:Nat} {w:World} {cv:Value} {f:Af} {pv iv lv wv:Value} (h:Gh g w cv f pv iv lv wv):w.cell? (OI g 0)=some cv/\w.cell? (OI g 1)=some (.string f.name)/\w.cell? (OI g 2)=some pv/\w.cell? (OI g 3)=some (.int .i64 f.result)/\w.cell? (OI g 4)=some (.int .i64 f.slots)/\w.cell? (OI g 5)=some iv/\w.cell? (OI g 6)=some lv/\w.cell? (OI g 7)=some wv:=by
 refine⟨?_, ?_, ?_, ?_, ?_, ?_, ?_, ?_⟩ <;> (rw[Lib.cell_of_heap h.blk];rfl)
theorem Nt (w:World) (xs:List Int) (t:TypeId) (k cap:Nat) (hk:k<=xs.length) (W:World) (hW:W.heap[w.heap.size]? = some (.cells (Ar xs).toArray t (0,0))) (hs:w.heap.size < W.heap.size):Ac W.heap.size W (.slice (some (OK w 0)) k cap) (xs.take k):=by
 refine⟨some (OK w 0),cap,by rw[List.length_take,Nat.min_eq_left hk],fun i hi=>⟨w.heap.size,0,rfl,hs, ?_⟩⟩;rw[List.length_take]at hi;rw[Lib.cell_of_heap hW];simp[Ar,List.getElem_take]
end Go.Proofs.YtahibkjkpmdhgaaGreatDoor
