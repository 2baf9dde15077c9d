import Derived.Test.YtahibkjkpmdhgaaGreatDoorKTk
import Derived.Test.YtahibkjkpmdhgaaGreatDoorKCdN
set_option maxRecDepth 100000
set_option maxHeartbeats 4000000
namespace Go.Proofs.YtahibkjkpmdhgaaGreatDoor
open Go.RowKit
structure Es (f:Af) (x:Az) (cv pv iv sv kv:Value) (N:Nat) (W:World):Prop where
 cod:W.heap[N]? = some (.cells #[cv] 59)
 fn:W.heap[N+1]? = some (.cells #[.string f.name,pv,.int .i64 f.result,.int .i64 f.slots,iv] 130)
 sh:W.heap[N+2]? = some (.cells #[.int .i64 1,sv,kv] 126)
 res:W.heap[N+3]? = some (.cells #[.int .i64 0,.slice none 0 0,.slice none 0 0] 126)
 ins:W.heap[N+4]? = some (.cells #[.int .i64 x.op,.int .i64 x.a,.int .i64 x.n,.string x.text] 107)
 bad:W.heap[N+5]? = some (.cells #[.int .i64 2,.slice none 0 0,.slice none 0 0] 126)
theorem Es.kept {f:Af} {x:Az} {cv pv iv sv kv:Value} {N:Nat} {W W':World} (h:Es f x cv pv iv sv kv N W) (hb:∀ g,g < N+6->W'.heap[g]? = W.heap[g]?):Es f x cv pv iv sv kv N W' :=
 ⟨(hb _ Ou).trans h.cod,(hb _ Ou).trans h.fn,(hb _ Ou).trans h.sh,(hb _ Ou).trans h.res,(hb _ Ou).trans h.ins,(hb _ Ou).trans h.bad⟩
theorem Es.size {f:Af} {x:Az} {cv pv iv sv kv:Value} {N:Nat} {W:World} (h:Es f x cv pv iv sv kv N W):N+6<=W.heap.size:=(Array.getElem?_eq_some_iff.1 h.bad).1
theorem Es.below {f:Af} {x:Az} {cv pv iv sv kv:Value} {N C:Nat} {W W':World} (h:Es f x cv pv iv sv kv N W) (hb:Below C W W') (hC:N+6<=C):Es f x cv pv iv sv kv N W':=h.kept (fun g hg=>hb.block g Ou)
theorem Es.f4 {f:Af} {x:Az} {cv pv iv sv kv:Value} {N:Nat} {W:World} (h:Es f x cv pv iv sv kv N W):W.cell? (OI (N+1) 4)=some iv:=by rw[Lib.cell_of_heap h.fn];rfl
theorem Es.s1 {f:Af} {x:Az} {cv pv iv sv kv:Value} {N:Nat} {W:World} (h:Es f x cv pv iv sv kv N W):W.cell? (OI (N+2) 1)=some sv:=by rw[Lib.cell_of_heap h.sh];rfl
theorem Es.s2 {f:Af} {x:Az} {cv pv iv sv kv:Value} {N:Nat} {W:World} (h:Es f x cv pv iv sv kv N W):W.cell? (OI (N+2) 2)=some kv:=by rw[Lib.cell_of_heap h.sh];rfl
theorem Es.i0 {f:Af} {x:Az} {cv pv iv sv kv:Value} {N:Nat} {W:World} (h:Es f x cv pv iv sv kv N W):W.cell? (OI (N+4) 0)=some (.int .i64 x.op):=by rw[Lib.cell_of_heap h.ins];rfl
theorem Es.i1 {f:Af} {x:Az} {cv pv iv sv kv:Value} {N:Nat} {W:World} (h:Es f x cv pv iv sv kv N W):W.cell? (OI (N+4) 1)=some (.int .i64 x.a):=by rw[Lib.cell_of_heap h.ins];rfl
theorem Es.i2 {f:Af} {x:Az} {cv pv iv sv kv:Value} {N:Nat} {W:World} (h:Es f x cv pv iv sv kv N W):W.cell? (OI (N+4) 2)=some (.int .i64 x.n):=by rw[Lib.cell_of_heap h.ins];rfl
theorem Es.i3 {f:Af} {x:Az} {cv pv iv sv kv:Value} {N:Nat} {W:World} (h:Es f x cv pv iv sv kv N W):W.cell? (OI (N+4) 3)=some (.string x.text):=by rw[Lib.cell_of_heap h.ins];rfl
theorem Es.b {f:Af} {x:Az} {cv pv iv sv kv:Value} {N:Nat} {W:World} (h:Es f x cv pv iv sv kv N W):W.cell? (OI (N+5) 0)=some (.int .i64 2)/\W.cell? (OI (N+5) 1)=some (.slice none 0 0)/\W.cell? (OI (N+5) 2)=some (.slice none 0 0):=by
 refine⟨?_, ?_, ?_⟩ <;> (rw[Lib.cell_of_heap h.bad];rfl)
theorem Es.r {f:Af} {x:Az} {cv pv iv sv kv:Value} {N:Nat} {W:World} (h:Es f x cv pv iv sv kv N W):(W.cell? (OI (N+3) 0)=some (.int .i64 0)/\W.cell? (OI (N+3) 1)=some (.slice none 0 0)/\W.cell? (OI (N+3) 2)=some (.slice none 0 0))/\W.frozen? (OI (N+3) 0)=false/\W.frozen? (OI (N+3) 1)=false/\W.frozen? (OI (N+3) 2)=false:=by
 refine⟨⟨?_, ?_, ?_⟩, ?_, ?_, ?_⟩
 ·rw[Lib.cell_of_heap h.res];rfl
 ·rw[Lib.cell_of_heap h.res];rfl
 ·rw[Lib.cell_of_heap h.res];rfl
 all_goals simp[World.frozen?,h.res]
theorem Es.c0 {f:Af} {x:Az} {cv pv iv sv kv:Value} {N:Nat} {W:World} (h:Es f x cv pv iv sv kv N W):W.cell? (OI N 0)=some cv:=by rw[Lib.cell_of_heap h.cod];rfl
theorem Es.fs {f:Af} {x:Az} {cv pv iv sv kv:Value} {N:Nat} {W:World} (h:Es f x cv pv iv sv kv N W):W.cell? (OI (N+1) 0)=some (.string f.name)/\W.cell? (OI (N+1) 1)=some pv/\W.cell? (OI (N+1) 2)=some (.int .i64 f.result)/\W.cell? (OI (N+1) 3)=some (.int .i64 f.slots)/\W.cell? (OI (N+1) 4)=some iv:=by
 refine⟨?_, ?_, ?_, ?_, ?_⟩ <;> (rw[Lib.cell_of_heap h.fn];rfl)
theorem Es.s0 {f:Af} {x:Az} {cv pv iv sv kv:Value} {N:Nat} {W:World} (h:Es f x cv pv iv sv kv N W):W.cell? (OI (N+2) 0)=some (.int .i64 1):=by rw[Lib.cell_of_heap h.sh];rfl
theorem Ba.mono {B C:Nat} {w:World} {v:Value} {l:List Az} (h:Ba B w v l) (hb:B<=C):Ba C w v l:=by
 obtain⟨a,c,rfl,f⟩:=h;refine⟨a,c,rfl,fun i hi => ?_⟩;obtain⟨g,d,j,b⟩:=f i hi;exact⟨g,d,by omega,b⟩
theorem Al.mono {B C:Nat} {w:World} {v:Value} {c:List Af} (h:Al B w v c) (hb:B<=C):Al C w v c:=by
 obtain⟨a,d,rfl,i⟩:=h;refine⟨a,d,rfl,fun k hk => ?_⟩;obtain⟨g,n,m,f,o,b,l,j⟩:=i k hk;exact⟨g,n,m,f,by omega,b,l.mono hb,j.mono hb⟩
theorem Lw {c:List Af} {f:Af} {x:Az} (h:Aq c f x=true) (ho:x.op=10\/x.op=11):0<=x.a/\x.a<=(f.ins.length:Int):=by
 obtain⟨d,b⟩:=I5 h Ou;obtain⟨i,a,n,g⟩:=x;simp only at d b ho;subst d;unfold Aq at h;rcases ho with rfl|rfl
 ·simp[Dr,As,b]at h;exact h
 ·simp[Dr,As,b]at h;exact h
theorem O9 {c:List Af} {f:Af} {x:Az} (h:Aq c f x=true) (ho:x.op=3):0<=x.a/\x.a < f.slots:=by
 obtain⟨b,d⟩:=I5 h Ou;obtain⟨i,a,n,g⟩:=x;simp only at b d ho;subst b ho;unfold Aq at h;simp[Dr,As,d]at h;exact⟨h.1,by show a < f.slots;omega⟩
theorem Nq (x:Az) (u:Nat):(A5 x u).length<=2:=by
 unfold A5;split
 ·simp
 ·split
  ·simp
  ·split <;> simp
theorem Kd {c:List Af} {f:Af} {x:Az} {u:Nat} {s k:List Int} {tk:Nat} {ps:List Int} {okb:Bool} (hg:Ag c f x s k=(tk,ps,okb)) (h:okb=false\/k.length < tk):Bi c f x u s k = .clash:=by
 unfold Bi;rw[hg];rw[if_pos h]
theorem Pa {c:List Af} {f:Af} {x:Az} {u:Nat} {s k:List Int} {tk:Nat} {ps:List Int} (hg:Ag c f x s k=(tk,ps,true)) (hk:tk<=k.length) {j:Nat} (hj:j < (A5 x u).length) (h:f.ins.length<=(A5 x u)[j]):Bi c f x u s k = .clash:=by
 unfold Bi;rw[hg,if_neg OD,if_pos];rw[List.any_eq_true];exact⟨_,List.getElem_mem hj,by simpa using h⟩
theorem Qb {c:List Af} {f:Af} {x:Az} {u:Nat} {s k:List Int} {tk:Nat} {ps:List Int} (hg:Ag c f x s k=(tk,ps,true)) (hk:tk<=k.length) (h:∀ j (a:j < (A5 x u).length),(A5 x u)[j] < f.ins.length):Bi c f x u s k=if 600 < (k.take (k.length - tk)++ps).length then .clash else .known (if x.op=3 then s.set x.a.toNat (A3 k) else s) (k.take (k.length - tk)++ps):=by
 unfold Bi;rw[hg,if_neg OD,if_neg];rw[List.any_eq_true];rintro⟨v,d,b⟩;obtain⟨j,a,rfl⟩:=List.getElem_of_mem d;have:=h j a;simp at b;omega
theorem O7 (c:List Af) (f:Af) (x:Az) (s k:List Int):(Ag c f x s k).2.1.length<=1:=by
 unfold Ag;by_cases h1:x.op=1
 ·rw[if_pos h1];exact Nat.le_refl 1
 rw[if_neg h1];by_cases h2:x.op=2
 ·rw[if_pos h2];exact Nat.le_refl 1
 rw[if_neg h2];by_cases h3:x.op=3\/x.op=4
 ·rw[if_pos h3];exact Nat.zero_le 1
 rw[if_neg h3];by_cases h5:x.op=5
 ·rw[if_pos h5];exact Nat.le_refl 1
 rw[if_neg h5];by_cases h6:x.op=6
 ·rw[if_pos h6];exact Nat.le_refl 1
 rw[if_neg h6];by_cases h7:x.op=7
 ·rw[if_pos h7];exact Nat.le_refl 1
 rw[if_neg h7];by_cases h8:x.op=8
 ·rw[if_pos h8];split
  ·exact Nat.zero_le 1
  ·exact Nat.le_refl 1
 rw[if_neg h8];by_cases h9:x.op=9
 ·rw[if_pos h9];split
  ·exact Nat.zero_le 1
  ·split
   ·show (if _ then [] else _:List Int).length<=1
    split
    ·exact Nat.zero_le 1
    ·exact Nat.le_refl 1
   ·exact Nat.zero_le 1
 rw[if_neg h9];by_cases h11:x.op=11
 ·rw[if_pos h11];exact Nat.zero_le 1
 rw[if_neg h11];by_cases h12:x.op=12
 ·rw[if_pos h12];exact Nat.zero_le 1
 rw[if_neg h12];by_cases h13:x.op=13\/x.op=15
 ·rw[if_pos h13];exact Nat.zero_le 1
 rw[if_neg h13];by_cases h14:x.op=14
 ·rw[if_pos h14];exact Nat.zero_le 1
 rw[if_neg h14];exact Nat.zero_le 1
theorem Qf5 {w:World} {B e size n:Nat} {v:Value} {xs:List Value} (h:w.ownsRow B e size v n xs) {g:Nat} (hg:w.heap.size<=g):v.ownBlock≠some g:=by
 rcases h.2 with⟨rfl,f⟩|⟨d,a,b,rfl,i,c,_⟩
 ·simp[Value.ownBlock]
 ·have:=(Array.getElem?_eq_some_iff.1 c).1;simp only[Value.ownBlock,ne_eq,Option.some.injEq];omega
structure Ec (D:World) (O:Nat) (s:List Int) (v1 v2:Value) (W:World):Prop where
 since:OH D W
 le:D.heap.size<=O
 out:W.heap[O]? = some (.cells #[.int .i64 1,v1,v2] 126)
 own:W.ownsRow D.heap.size 3 1 v1 s.length (Ar s)
 low:∀ g,O<=g->v1.ownBlock≠some g
theorem Ec.lt {D:World} {O:Nat} {s:List Int} {v1 v2:Value} {W:World} (h:Ec D O s v1 v2 W):O < W.heap.size:=(Array.getElem?_eq_some_iff.1 h.out).1
theorem Ec.alloc {D:World} {O:Nat} {s:List Int} {v1 v2:Value} {W:World} (h:Ec D O s v1 v2 W) (o:Obj):Ec D O s v1 v2 (W.alloc o) :=
 ⟨Ab h.since o,h.le,Ak o h.out,h.own.alloc o,h.low⟩
theorem Ec.grown {D:World} {O:Nat} {s:List Int} {v1 v2:Value} {W W':World} {row:Option Nat} (h:Ec D O s v1 v2 W) (hg:W.grownBy W' row) (hr:∀ g,g<=O->row≠some g):Ec D O s v1 v2 W' :=
 ⟨C0 h.since hg h.since.size (fun k hk=>hr k (by have:=h.le;omega)),h.le,(hg.block O h.lt (fun e=>hr O (Nat.le_refl _) e.symm)).trans h.out,h.own.kept hg (by
  cases hv:v1.ownBlock with
  | none=>exact .inl rfl
  | some g=>exact .inr (fun e=>hr g (Nat.le_of_lt (Nat.lt_of_not_le (fun hle=>h.low g hle hv))) e.symm)),h.low⟩
theorem Ec.new {D:World} {s:List Int} {v1:Value} {W:World} (h:OH D W) (hown:W.ownsRow D.heap.size 3 1 v1 s.length (Ar s)):Ec D W.heap.size s v1 (.slice none 0 0) (W.alloc (.cells #[.int .i64 1,v1,.slice none 0 0] 126)) :=
 ⟨Ab h _,h.size,Ae _ _,hown.alloc _,fun _g hg=>Qf5 hown hg⟩
theorem Ec.set {D:World} {O:Nat} {s:List Int} {v1 v2:Value} {W:World} (h:Ec D O s v1 v2 W) (v':Value):Ec D O s v1 v' (W.setCell (OI O 2) v') :=
 ⟨h.since.setCell (p:=(OI O 2)) h.le v',h.le,(heap_setCell_same W O 2 _ _ v' h.out).trans rfl,ownsRow_setCell_other (a:=(OI O 2)) h.own (h.low O (Nat.le_refl _)) _,h.low⟩
theorem Ec.o {D:World} {O:Nat} {s:List Int} {v1 v2:Value} {W:World} (h:Ec D O s v1 v2 W):(W.cell? (OI O 0)=some (.int .i64 1)/\W.cell? (OI O 1)=some v1/\W.cell? (OI O 2)=some v2)/\W.frozen? (OI O 0)=false/\W.frozen? (OI O 1)=false/\W.frozen? (OI O 2)=false:=by
 refine⟨⟨?_, ?_, ?_⟩, ?_, ?_, ?_⟩
 ·rw[Lib.cell_of_heap h.out];rfl
 ·rw[Lib.cell_of_heap h.out];rfl
 ·rw[Lib.cell_of_heap h.out];rfl
 all_goals simp[World.frozen?,h.out]
theorem Ac.front {B:Nat} {w:World} {a:Option Addr} {n cap:Nat} {hs:List Int} (h:Ac B w (.slice a n cap) hs) {m:Nat} (hm:m<=hs.length):Ac B w (.slice a m cap) (hs.take m):=by
 obtain⟨j,k,e,d⟩:=h;injection e with e1 e2 e3;subst e1;refine⟨a,cap,by rw[List.length_take,Nat.min_eq_left hm],fun i hi => ?_⟩;obtain⟨g,o,c,f,b⟩:=d i (by rw[List.length_take]at hi;omega);exact⟨g,o,c,f,by rw[b,List.getElem_take]⟩
theorem Qdt {w:World} {B e size n:Nat} {v:Value} {xs:List Value} (h:w.ownsRow B e size v n xs) (hn:0 < n):∃ g a,v = .slice (some (OI g 0)) n a:=by
 rcases h.2 with⟨_,c⟩|⟨g,a,b,rfl,_⟩
 ·omega
 ·exact⟨g,a,rfl⟩
theorem Qbx {w:World} {B e n g cap:Nat} {hs:List Int} (h:w.ownsRow B e 1 (.slice (some (OI g 0)) n cap) hs.length (Ar hs)) (a:Nat) (ha:a < hs.length):w.cell? (OI g a)=some (.int .i64 hs[a])/\w.frozen? (OI g a)=false:=by
 constructor
 ·rcases h.2 with⟨b,_⟩|⟨k,d,f,b,l,i,p,m,o,c⟩
  ·simp at b
  ·injection b with e1 e2 e3;injection e1 with e1;injection e1 with e1
   subst e1;rw[Lib.cell_of_heap i];have j:(f.toList.take (hs.length * 1))[a]? = some (.int .i64 hs[a]):=(by rw[c];simp[Ar,ha]);rw[List.getElem?_take_of_lt Ou]at j;simpa using j
 ·rcases h.2 with⟨b,_⟩|⟨k,d,f,b,l,i,_⟩
  ·simp at b
  ·injection b with e1 e2 e3;injection e1 with e1;injection e1 with e1
   subst e1;simp[World.frozen?,i]
theorem Ec.store {D:World} {O:Nat} {s:List Int} {g n cap:Nat} {v2:Value} {W:World} (h:Ec D O s (.slice (some (OI g 0)) n cap) v2 W) (a:Nat) (t:Int) (hn:n=s.length):Ec D O (s.set a t) (.slice (some (OI g 0)) n cap) v2 (W.setCell (OI g a) (.int .i64 t)):=by
 subst hn;have c:D.heap.size<=g:=Nat.le_of_not_lt (fun hl=>Bu h.own hl rfl);refine⟨h.since.setCell (p:=(OI g a)) c _,h.le,(Below.heap_setCell _ _ _ _ (by intro e;exact h.low O (Nat.le_refl _) (by rw[e];rfl))).trans h.out, ?_,h.low⟩;have b:=(h.own.stored a (.int .i64 t)).1;rw[List.length_set];unfold Ar at b |-
 rw[List.map_set];exact b
theorem Ec.done {D:World} {O:Nat} {s l:List Int} {v1 v2:Value} {W:World} (h:Ec D O s v1 v2 W) (hown:W.ownsRow (O+1) 3 1 v2 l.length (Ar l)) (M:Nat) (hM:M < D.heap.size) (u0 u1 u2:Value):A9 (((W.setCell (OI M 0) u0).setCell (OI M 1) u1).setCell (OI M 2) u2).heap.size (((W.setCell (OI M 0) u0).setCell (OI M 1) u1).setCell (OI M 2) u2) (Ah 1 v1 v2) (.known s l):=by
 have b:∀ g,g≠M->(((W.setCell (OI M 0) u0).setCell (OI M 1) u1).setCell (OI M 2) u2).heap[g]? = W.heap[g]?:=fun g hg=>by
  rw[Below.heap_setCell _ _ _ _ (by exact hg),Below.heap_setCell _ _ _ _ (by exact hg),Below.heap_setCell _ _ _ _ (by exact hg)]
 have hs:(((W.setCell (OI M 0) u0).setCell (OI M 1) u1).setCell (OI M 2) u2).heap.size=W.heap.size:=by simp
 have p:=Ac.own h.own (Nat.le_refl _);have q:=Ac.own hown (Nat.le_refl _);have j:=Ac.keep (C:=W.heap.size) p (fun g hg=>b g (by intro e;subst e;exact Bu h.own hM hg)) (Nat.le_refl _);have k:=Ac.keep (C:=W.heap.size) q (fun g hg=>b g (by intro e;subst e;exact Bu hown (by have:=h.le;omega) hg)) (Nat.le_refl _);have m:=Dq.keep (C:=W.heap.size) (Dq.own h.own (Nat.le_refl _)) (fun g hg=>b g (by intro e;subst e;exact Bu h.own hM hg)) (Nat.le_refl _);have n:=Dq.keep (C:=W.heap.size) (Dq.own hown (Nat.le_refl _)) (fun g hg=>b g (by intro e;subst e;exact Bu hown (by have:=h.le;omega) hg)) (Nat.le_refl _);rw[hs];obtain⟨i,a,rfl⟩:=Cp h.own;rcases hown.2 with⟨rfl,d⟩|⟨g,c,o,rfl,_,_,f,_⟩
 ·refine⟨i,a,none,0, ?_,by omega,.inl ⟨rfl,rfl⟩,j, ?_,m, ?_⟩
  ·rw[d]
  ·rw[d];exact k
  ·rw[d];exact n
 ·exact⟨i,a,some (OI g 0),c,rfl,f,.inr ⟨g,rfl⟩,j,k,m,n⟩
theorem S8 (c:List Af) (f:Af) (at':Nat) (hat:at' < f.ins.length) (s k:List Int) (ca ia sa:Option Addr) (cc ic sc gk kc:Nat) (pv:Value) (hcl:c.length<=60) (hil:f.ins.length<=50000) (hsl:s.length<=200) (hk600:k.length<=600) (hkc:k.length<=kc) (hsf:(s.length:Int)=f.slots) (hpl:∀ g ∈ c,g.params.length<=8) (hok:Aq c f f.ins[at']=true) (w:World) (hC:Al w.heap.size w (.slice ca c.length cc) c) (hI:Ba w.heap.size w (.slice ia f.ins.length ic) f.ins) (hS:Ac w.heap.size w (.slice sa s.length sc) s) (hK:Ac w.heap.size w (.slice (some (OI gk 0)) k.length kc) k) :
  Calls Tryz.prog 85 #[.agg #[.slice ca c.length cc],Bp f pv (.slice ia f.ins.length ic),.int .i64 (at':Int),Ah 1 (.slice sa s.length sc) (.slice (some (OI gk 0)) k.length kc)] w fun e w'=>(∃ v,e = .returned v/\A9 w'.heap.size w' v (Bi c f f.ins[at'] at' s k))/\OH w w':=by
 obtain⟨gi,rfl,bg,J⟩:∃ gi,ia=some (OI gi 0)/\gi < w.heap.size/\∀ j,j < 4->w.cell? (OI gi (at' * 4+j))=(G9 f.ins[at'])[j]?:=by
  obtain⟨a',cp,c6,hc⟩:=hI;injection c6 with e1;subst e1;exact hc at' hat
 obtain⟨x,hx⟩:∃ x,f.ins[at']=x:=⟨_,rfl⟩;rw[hx]at J hok |-
 clear hx;obtain⟨Y1,bw⟩:∃ Y,w.alloc (.cells #[.slice ca c.length cc] 59)=Y:=⟨_,rfl⟩;have b7:OH w Y1:=by rw[<- bw];exact Ao w _
 have cz:Y1.heap.size=w.heap.size+1:=by rw[<- bw];exact World.size_alloc _ _
 have bj:Y1.heap[w.heap.size]? = some (.cells #[.slice ca c.length cc] 59):=by rw[<- bw];exact Ae w _
 obtain⟨Y2,bd⟩:∃ Y,Y1.alloc (.cells #[.string f.name,pv,.int .i64 f.result,.int .i64 f.slots,.slice (some (OI gi 0)) f.ins.length ic] 130)=Y:=⟨_,rfl⟩;have b8:OH w Y2:=by rw[<- bd];exact Ab b7 _
 have c0:Y2.heap.size=w.heap.size+2:=by rw[<- bd,World.size_alloc];omega
 have bk:Y2.heap[w.heap.size]? = some (.cells #[.slice ca c.length cc] 59):=by rw[<- bd];exact Ak _ bj
 have bl:Y2.heap[w.heap.size+1]? = some (.cells #[.string f.name,pv,.int .i64 f.result,.int .i64 f.slots,.slice (some (OI gi 0)) f.ins.length ic] 130):=by rw[<- bd,<- cz];exact Ae _ _
 clear bj;obtain⟨Y3,a2⟩:∃ Y,Y2.alloc (.cells #[.int .i64 1,.slice sa s.length sc,.slice (some (OI gk 0)) k.length kc] 126)=Y:=⟨_,rfl⟩;have b9:OH w Y3:=by rw[<- a2];exact Ab b8 _
 have c1:Y3.heap.size=w.heap.size+3:=by rw[<- a2,World.size_alloc];omega
 have bm:Y3.heap[w.heap.size]? = some (.cells #[.slice ca c.length cc] 59):=by rw[<- a2];exact Ak _ bk
 have bn:Y3.heap[w.heap.size+1]? = some (.cells #[.string f.name,pv,.int .i64 f.result,.int .i64 f.slots,.slice (some (OI gi 0)) f.ins.length ic] 130):=by rw[<- a2];exact Ak _ bl
 have bo:Y3.heap[w.heap.size+2]? = some (.cells #[.int .i64 1,.slice sa s.length sc,.slice (some (OI gk 0)) k.length kc] 126):=by rw[<- a2,<- c0];exact Ae _ _
 clear bk bl;obtain⟨R,au⟩:∃ Y,Y3.alloc (.cells #[.int .i64 0,.slice none 0 0,.slice none 0 0] 126)=Y:=⟨_,rfl⟩;have av:OH w R:=by rw[<- au];exact Ab b9 _
 have c2:R.heap.size=w.heap.size+4:=by rw[<- au,World.size_alloc];omega
 have a9:R.heap[w.heap.size]? = some (.cells #[.slice ca c.length cc] 59):=by rw[<- au];exact Ak _ bm
 have Q:R.heap[w.heap.size+1]? = some (.cells #[.string f.name,pv,.int .i64 f.result,.int .i64 f.slots,.slice (some (OI gi 0)) f.ins.length ic] 130):=by rw[<- au];exact Ak _ bn
 have ak:R.heap[w.heap.size+2]? = some (.cells #[.int .i64 1,.slice sa s.length sc,.slice (some (OI gk 0)) k.length kc] 126):=by rw[<- au];exact Ak _ bo
 have al:R.heap[w.heap.size+3]? = some (.cells #[.int .i64 0,.slice none 0 0,.slice none 0 0] 126):=by rw[<- au,<- c1];exact Ae _ _
 clear bm bn bo;have dp:R.cell? (OK w 0)=some (.slice ca c.length cc):=by rw[Lib.cell_of_heap a9];rfl
 have dq:R.cell? (OJ w 1 0)=some (.string f.name):=by rw[Lib.cell_of_heap Q];rfl
 have dr:R.cell? (OJ w 1 1)=some (pv):=by rw[Lib.cell_of_heap Q];rfl
 have ds:R.cell? (OJ w 1 2)=some (.int .i64 f.result):=by rw[Lib.cell_of_heap Q];rfl
 have dt:R.cell? (OJ w 1 3)=some (.int .i64 f.slots):=by rw[Lib.cell_of_heap Q];rfl
 have du:R.cell? (OJ w 1 4)=some (.slice (some (OI gi 0)) f.ins.length ic):=by rw[Lib.cell_of_heap Q];rfl
 have dv:R.cell? (OJ w 2 0)=some (.int .i64 1):=by rw[Lib.cell_of_heap ak];rfl
 have dw:R.cell? (OJ w 2 1)=some (.slice sa s.length sc):=by rw[Lib.cell_of_heap ak];rfl
 have dx:R.cell? (OJ w 2 2)=some (.slice (some (OI gk 0)) k.length kc):=by rw[Lib.cell_of_heap ak];rfl
 have dy:R.cell? (OJ w 3 0)=some (.int .i64 0):=by rw[Lib.cell_of_heap al];rfl
 have dz:R.cell? (OJ w 3 1)=some (.slice none 0 0):=by rw[Lib.cell_of_heap al];rfl
 have d1:R.cell? (OJ w 3 2)=some (.slice none 0 0):=by rw[Lib.cell_of_heap al];rfl
 clear b7 b8 b9;have i0:=J 0 Ou;have i1:=J 1 Ou;have i2:=J 2 Ou;have i3:=J 3 Ou;simp only[G9,Nat.add_zero,List.getElem?_cons_zero,List.getElem?_cons_succ]at i0 i1 i2 i3;have j0:=(av.cell (p:=(OI gi (at' * 4))) bg).trans i0;have j1:=(av.cell (p:=(OI gi (at' * 4+1))) bg).trans i1;have j2:=(av.cell (p:=(OI gi (at' * 4+2))) bg).trans i2;have j3:=(av.cell (p:=(OI gi (at' * 4+3))) bg).trans i3;obtain⟨Y5,be⟩:∃ Y,R.alloc (.cells #[.int .i64 x.op,.int .i64 x.a,.int .i64 x.n,.string x.text] 107)=Y:=⟨_,rfl⟩;have cb:OH w Y5:=by rw[<- be];exact Ab av _
 have c3:Y5.heap.size=w.heap.size+5:=by rw[<- be,World.size_alloc];omega
 have ci:∀ g,g < w.heap.size+4->Y5.heap[g]? = R.heap[g]?:=fun g hg=>by rw[<- be];exact(Ao R _).block g Ou
 have bp:Y5.heap[w.heap.size+4]? = some (.cells #[.int .i64 x.op,.int .i64 x.a,.int .i64 x.n,.string x.text] 107):=by rw[<- be,<- c2];exact Ae _ _
 obtain⟨Y6,bf⟩:∃ Y,Y5.alloc (.cells #[.int .i64 0,.slice none 0 0,.slice none 0 0] 126)=Y:=⟨_,rfl⟩;have cd:OH w Y6:=by rw[<- bf];exact Ab cb _
 have c4:Y6.heap.size=w.heap.size+6:=by rw[<- bf,World.size_alloc];omega
 have bz:∀ g,g < w.heap.size+5->Y6.heap[g]? = Y5.heap[g]?:=fun g hg=>by rw[<- bf];exact(Ao Y5 _).block g Ou
 have M:Y6.heap[w.heap.size+5]? = some (.cells #[.int .i64 0,.slice none 0 0,.slice none 0 0] 126):=by rw[<- bf,<- c3];exact Ae _ _
 have n0:Y6.cell? (OJ w 5 0)=some (.int .i64 0):=by rw[Lib.cell_of_heap M];rfl
 have n1:Y6.cell? (OJ w 5 1)=some (.slice none 0 0):=by rw[Lib.cell_of_heap M];rfl
 have n2:Y6.cell? (OJ w 5 2)=some (.slice none 0 0):=by rw[Lib.cell_of_heap M];rfl
 have m0:Y6.frozen? (OJ w 5 0)=false:=by simp[World.frozen?,M]
 have m1:Y6.frozen? (OJ w 5 1)=false:=by simp[World.frozen?,M]
 have m2:Y6.frozen? (OJ w 5 2)=false:=by simp[World.frozen?,M]
 obtain⟨W,hW⟩:∃ W,(((Y6.setCell (OJ w 5 0) (.int .i64 2)).setCell (OJ w 5 1) (.slice none 0 0)).setCell (OJ w 5 2) (.slice none 0 0))=W:=⟨_,rfl⟩;have aw:OH w W:=by rw[<- hW];exact Ad (Ad (Ad cd 5 0 _) 5 1 _) 5 2 _
 have en:W.heap.size=w.heap.size+6:=by rw[<- hW];simp[c4]
 have HW:Es f x (.slice ca c.length cc) pv (.slice (some (OI gi 0)) f.ins.length ic) (.slice sa s.length sc) (.slice (some (OI gk 0)) k.length kc) w.heap.size W:=by
  have cj:∀ g,g < w.heap.size+5->W.heap[g]? = Y6.heap[g]?:=fun g hg=>by
   rw[<- hW,Below.heap_setCell _ _ _ _ (by show g≠w.heap.size+5;omega),Below.heap_setCell _ _ _ _ (by show g≠w.heap.size+5;omega),Below.heap_setCell _ _ _ _ (by show g≠w.heap.size+5;omega)]
  have bh:∀ g,g < w.heap.size+4->W.heap[g]? = R.heap[g]?:=fun g hg=>(cj g Ou).trans ((bz g Ou).trans (ci g hg))
  refine⟨(bh _ Ou).trans a9,(bh _ Ou).trans Q,(bh _ Ou).trans ak,(bh _ Ou).trans al,(cj _ Ou).trans ((bz _ Ou).trans bp), ?_⟩;rw[<- hW];exact heap_setCell_same _ _ _ _ _ _ (heap_setCell_same _ _ _ _ _ _ (heap_setCell_same _ _ _ _ _ _ M))
 have cq:Hid (Al W.heap.size W (.slice ca c.length cc) c):=Al.mono (hC.below aw) Ou;have cu:Hid (Ac W.heap.size W (.slice sa s.length sc) s):=(hS.below aw).mono Ou;have cs:Hid (Ac W.heap.size W (.slice (some (OI gk 0)) k.length kc) k):=(hK.below aw).mono Ou;obtain⟨⟨y,A,cl⟩,am⟩:∃ g,Hid (Ag c f x s k=g):=⟨_,(rfl:Ag c f x s k=_)⟩;have br:Hid (Calls Tryz.prog 114 #[.agg #[.slice ca c.length cc],.agg #[.string f.name,pv,.int .i64 f.result,.int .i64 f.slots,.slice (some (OI gi 0)) f.ins.length ic],.agg #[.int .i64 x.op,.int .i64 x.a,.int .i64 x.n,.string x.text],.agg #[.int .i64 1,.slice sa s.length sc,.slice (some (OI gk 0)) k.length kc]] W fun e w'=>(∃ v,e = .returned (.tuple #[.int .i64 (y:Int),v,.bool cl])/\Ac w'.heap.size w' v A)/\OH W w'):=by
  have h:=P7 c f x s k ca (some (OI gi 0)) sa (some (OI gk 0)) cc ic sc kc pv hcl hil hsl hk600 hkc (.inr ⟨gk,rfl⟩) hsf hpl hok W cq.out cu.out cs.out;unfold Au at h;rw[am.out]at h;exact h
 have b3:Hid (Ac w.heap.size w (.slice sa s.length sc) s):=hS;have b2:Hid (Ac w.heap.size w (.slice (some (OI gk 0)) k.length kc) k):=hK;clear hS hK;clear hC hI J i0 i1 i2 i3 cb cd ci bz a9 Q ak al bp M av;have d2:(at':Int) < (f.ins.length:Int):=Ou
 have ec:=HW.c0;obtain⟨dc,dd,de,df,dg⟩:=HW.fs;have dl:=HW.s0;have dm:=HW.s1;have dn:=HW.s2;have dh:=HW.i0;have di:=HW.i1;have dj:=HW.i2;have dk:=HW.i3;unfold Bp Ah;go_enter Tryz.func85,Tryz.ntmps85;have ch:=Lw hok;have bi:=O9 hok;cases cl with
 | false =>
  have HL:Hid (Bi c f x at' s k = .clash):=Kd am.out (.inl rfl);go_wp2_with (first|(go_at_call 114;refine br.out.mono ?_;rintro e w7 ⟨⟨v,rfl,hv⟩,T⟩;have l:=(HW.below T Ou);have N:=aw.trans (T.mono Ou);have s2:=l.s2;have y0:=l.i0;have y1:=l.i1;have y2:=l.i2;have y3:=l.i3;obtain⟨⟨r0,r1,r2⟩,g0,S,g2⟩:=l.r;obtain⟨an,ao,ap⟩:=l.b));exact bodyPost_ret (v:=Ah 2 (.slice none 0 0) (.slice none 0 0)) (by simp[results,Tryz.results85,go_sem,r0,r1,r2,Ah]) rfl ⟨⟨_,rfl,by rw[HL.out];rfl⟩,Ad (Ad (Ad N 3 0 _) 3 1 _) 3 2 _⟩
 | true =>
  by_cases htk:k.length < y
  ·have HL:Hid (Bi c f x at' s k = .clash):=Kd am.out (.inr htk);have ck:(k.length:Int) < (y:Int):=Ou;go_wp2_with (first|(go_at_call 114;refine br.out.mono ?_;rintro e w7 ⟨⟨v,rfl,hv⟩,T⟩;have l:=(HW.below T Ou);have N:=aw.trans (T.mono Ou);have s2:=l.s2;have y0:=l.i0;have y1:=l.i1;have y2:=l.i2;have y3:=l.i3;obtain⟨⟨r0,r1,r2⟩,g0,S,g2⟩:=l.r;obtain⟨an,ao,ap⟩:=l.b));exact bodyPost_ret (v:=Ah 2 (.slice none 0 0) (.slice none 0 0)) (by simp[results,Tryz.results85,go_sem,r0,r1,r2,Ah]) rfl ⟨⟨_,rfl,by rw[HL.out];rfl⟩,Ad (Ad (Ad N 3 0 _) 3 1 _) 3 2 _⟩
  ·have ck:¬ (k.length:Int) < (y:Int):=Ou;have b4:Hid (y<=k.length):=(by omega:y<=k.length);clear htk;go_wp2_with (first|(go_at_call 114;refine br.out.mono ?_;rintro e w7 ⟨⟨v,rfl,hv⟩,T⟩;have l:=(HW.below T Ou);have N:=aw.trans (T.mono Ou);have s2:=l.s2;have y0:=l.i0;have y1:=l.i1;have y2:=l.i2;have y3:=l.i3;obtain⟨⟨r0,r1,r2⟩,g0,S,g2⟩:=l.r;obtain⟨an,ao,ap⟩:=l.b)|(go_at_call 112;refine(Sb x at' Ou (fun h=>(ch h).1) w7).mono ?_;rintro e w8 ⟨gv,rfl,ce,a4⟩));obtain⟨gl,ay⟩:∃ g,Hid (A5 x at'=g):=⟨_,(rfl:A5 x at'=_)⟩;have d4:gl.length<=2:=(by rw[<- ay.out];exact Nq x at');obtain⟨ag,cg,rfl,cr⟩:∃ ag cg,gv = .slice ag gl.length cg/\Hid (∀ j (hj:j < gl.length),∃ g o,ag=some (OI g o)/\w8.cell? (OI g (o+j))=some (.int .i64 ((gl[j]:Nat):Int))):=by
    obtain⟨ag,cg,e,hc⟩:=ce;rw[ay.out]at e hc;refine⟨ag,cg,by rw[e];simp[Ct],fun j hj => ?_⟩;obtain⟨g,o,e1,_,h2⟩:=hc j (by simpa[Ct]using hj);exact⟨g,o,e1,by rw[h2];simp[Ct]⟩
   have co:Hid (Es f x (.slice ca c.length cc) pv (.slice (some (OI gi 0)) f.ins.length ic) (.slice sa s.length sc) (.slice (some (OI gk 0)) k.length kc) w.heap.size w8):=l.below a4 l.size;have ax:Hid (OH w w8):=N.trans (a4.mono N.size);have ct:Hid (Ac w8.heap.size w8 v A):=(hv.below a4).mono a4.size;have ea:Hid (Ac w.heap.size w8 (.slice sa s.length sc) s):=(b3.out).below ax.out;have d9:Hid (Ac w.heap.size w8 (.slice (some (OI gk 0)) k.length kc) k):=(b2.out).below ax.out;clear ce hv l N a4 T s2 y0 y1 y2 y3 r0 r1 r2 g0 S g2 an ao ap;go_loopw [15] (fun t wr => ∃ j q:Nat,j<=gl.length/\t = .int .i64 (j:Int)/\wr=w8.drewN q/\∀ u (hu:u < gl.length),u < j->gl[u] < f.ins.length) (fun t _=>gl.length - (intOf t).toNat);case atStart=>exact⟨0,0,by omega,rfl,rfl,fun u hu h=>Ou⟩
   case round =>
    obtain⟨j,q,hj,rfl,hq,hu⟩:=hrel;have HQ:Hid (wr=w8.drewN q):=hq;have I:Hid (Es f x (.slice ca c.length cc) pv (.slice (some (OI gi 0)) f.ins.length ic) (.slice sa s.length sc) (.slice (some (OI gk 0)) k.length kc) w.heap.size wr):=(by rw[hq];exact co.out.kept (fun g _=>rfl));have B:Hid (OH w wr):=(by rw[hq];exact B9 _ ax.out);clear hq;have z4:=I.out.f4;by_cases hlt:j < gl.length
    ·obtain⟨gg,og,rfl,d8⟩:=cr.out j hlt;have d0:wr.cell? (OI gg (og+j))=some (.int .i64 ((gl[j]:Nat):Int)):=(by rw[HQ.out];exact d8);by_cases hin:gl[j] < f.ins.length
     ·have HU:Hid (∀ u (hu:u < gl.length),u < j+1->gl[u] < f.ins.length):=fun u hul h=>by
       by_cases e:u=j
       ·subst e;exact hin
       ·exact hu u hul Ou
      have cf:((gl[j]:Nat):Int) < (f.ins.length:Int):=Ou;clear hu d8 hin;generalize gl[j]=zz at *;go_wp2_with fail;go_quiet (fail);go_wp2_with fail;go_roundw;case rel=>exact⟨j+1,_,by omega,by go_num,by rw[HQ.out,World.drewN_drewN],HU.out⟩
      case measure=>simp[intOf];omega
     ·have HL:Hid (Bi c f x at' s k = .clash):=Pa (j:=j) am.out b4.out (by rw[ay.out];exact hlt) (by simp only[ay.out];omega);have cf:¬ ((gl[j]:Nat):Int) < (f.ins.length:Int):=Ou;obtain⟨⟨r0,r1,r2⟩,g0,S,g2⟩:=I.out.r;obtain⟨an,ao,ap⟩:=I.out.b;clear hu d8 hin;generalize gl[j]=zz at *;go_wp2_with fail;go_quiet (fail);go_wp2_with fail;exact bodyPost_ret (v:=Ah 2 (.slice none 0 0) (.slice none 0 0)) (by simp[results,Tryz.results85,go_sem,r0,r1,r2,Ah]) rfl ⟨⟨_,rfl,by rw[HL.out];rfl⟩,Ad (Ad (Ad (B9 _ B.out) 3 0 _) 3 1 _) 3 2 _⟩
    ·have cn:Hid (∀ u (hu:u < (A5 x at').length),(A5 x at')[u] < f.ins.length):=fun u hul=>by
      simp only[ay.out]at hul |-
      exact hu u hul Ou
     clear hu;have d3:¬ (j:Int) < (gl.length:Int):=Ou;obtain⟨i0,U,Z,aa,ab⟩:=Jy;have d5:A.length<=1:=(by have h:=O7 c f x s k;rw[am.out]at h;exact h);have HD:Hid (w.heap.size+6<=wr.heap.size):=I.out.size;obtain⟨V1,b5⟩:∃ V,wr.alloc (.cells #[] 3)=V:=⟨_,rfl⟩;have ar:Hid (V1.ownsRow wr.heap.size 3 1 (.slice (some (OK wr 0)) 0 0) 0 (Ar [])):=(by rw[Hid,<- b5];exact In wr _ (Nat.le_refl _) _);have F:OH wr V1:=(by rw[<- b5];exact Ao wr _);have az:Hid (Ac w.heap.size V1 (.slice sa s.length sc) s):=b3.out.below (B.out.trans (F.mono B.out.size));have d6:=(I.out.below F HD.out).s1;have bu:Hid (Ac wr.heap.size wr v A):=(by rw[Hid,HQ.out];exact ct.out);have bb:Hid (Ac wr.heap.size wr (.slice (some (OI gk 0)) k.length kc) k):=Ac.mono (b2.out.below B.out) B.out.size;have b0:(k.length - y)+A.length<=1048576:=Ou;have bt:=(show Hid _ from Qb am.out b4.out cn.out);have O:(k.take (k.length - y)++A).length=k.length - y+A.length:=(by rw[List.length_append,List.length_take,Nat.min_eq_left (Nat.sub_le _ _)]);by_cases h600:600 < k.length - y+A.length
     ·have HL:Hid (Bi c f x at' s k = .clash):=(by rw[Hid,bt.out,if_pos (by rw[O];exact h600)]);have bv:(600:Int) < ((k.length - y+A.length:Nat):Int):=Ou;go_wp2_with (first|(at_builtin;refine Bm rfl _ _ 124 rfl wr.heap.size 3 i0 (.int .i64 0) Tryz.underlying124 U Z aa ab rfl (.slice (some (OK wr 0)) 0 0) 0 [] rfl ar.out w.heap.size (.slice sa s.length sc) rfl s az.out Ou F.size ?_;intro v1 z r a6;rw[Nat.zero_add,List.nil_append]at r;obtain⟨a1,b,a7⟩:=Cp r;subst a7;have a5:=C0 F a6 F.size (fun g hg=>Bu ar.out hg);obtain⟨V2,a0⟩:∃ V,z.alloc (.cells #[.int .i64 1,.slice a1 s.length b,.slice none 0 0] 126)=V:=⟨_,rfl⟩;have ad:=(show Ec wr z.heap.size s (.slice a1 s.length b) (.slice none 0 0) V2 from(by rw[<- a0];exact Ec.new a5 r));obtain⟨⟨t0,t1,t2⟩,u0,u1,u2⟩:=ad.o;obtain⟨C,af⟩:∃ V,V2.setCell (OK z 2) (.slice none 0 0)=V:=⟨_,rfl⟩;have L:=(show Ec wr z.heap.size s (.slice a1 s.length b) (.slice none 0 0) C from(by rw[<- af];exact ad.set _));obtain⟨V3,ah⟩:∃ V,C.alloc (.cells #[] 3)=V:=⟨_,rfl⟩;have H:=(show Ec wr z.heap.size s (.slice a1 s.length b) (.slice none 0 0) V3 from(by rw[<- ah];exact L.alloc _));have bq:=(I.out.below H.since HD.out).s2;have ac:=(show Hid (V3.ownsRow (z.heap.size+1) 3 1 (.slice (some (OK C 0)) 0 0) 0 (Ar [])) from(by rw[Hid,<- ah];exact In C _ L.lt _)))|(at_builtin;refine Bm rfl _ _ 124 rfl (z.heap.size+1) 3 i0 (.int .i64 0) Tryz.underlying124 U Z aa ab rfl (.slice (some (OK C 0)) 0 0) 0 [] rfl ac.out wr.heap.size (.slice (some (OI gk 0)) (k.length - y) kc) rfl (k.take (k.length - y)) (Ac.front (bb.out.below H.since) Ou) (by simp only[List.length_take];omega) H.lt ?_;intro v2 cm d ai;rw[Nat.zero_add,List.nil_append,List.length_take,Nat.min_eq_left (Nat.sub_le _ _)]at d;have E:=H.grown ai (fun g hg=>Bu ac.out Ou))|(at_builtin;refine Bm rfl _ _ 124 rfl (z.heap.size+1) 3 i0 (.int .i64 0) Tryz.underlying124 U Z aa ab rfl v2 (k.length - y) (k.take (k.length - y)) rfl d wr.heap.size v rfl A (bu.out.below E.since) b0 E.lt ?_;intro v3 ba i aj;obtain⟨a3,m,a8⟩:=Cp i;subst a8;have K:=E.grown aj (fun g hg=>Bu d Ou);obtain⟨⟨m0,m1,m2⟩,n0,n1,n2⟩:=K.o;obtain⟨X,hX⟩:∃ V,ba.setCell (OK z 2) (.slice a3 (k.length - y+A.length) m)=V:=⟨_,rfl⟩;have G:=(show Ec wr z.heap.size s (.slice a1 s.length b) (.slice a3 (k.length - y+A.length) m) X from(by rw[<- hX];exact K.set _));have P:=(show X.ownsRow (z.heap.size+1) 3 1 (.slice a3 (k.length - y+A.length) m) (k.length - y+A.length) (Ar (k.take (k.length - y)++A)) from(by rw[<- hX];exact ownsRow_setCell_other (a:=(OK z 2)) i (Bu i (by show z.heap.size < _;omega)) _));obtain⟨⟨x0,x1,x2⟩,-,-,-⟩:=G.o;have D:=I.out.below G.since HD.out;have z0:=D.i0;have z1:=D.i1;have z2:=D.s2;obtain⟨an,ao,ap⟩:=D.b;obtain⟨⟨r0,r1,r2⟩,g0,S,g2⟩:=D.r));exact bodyPost_ret (v:=Ah 2 (.slice none 0 0) (.slice none 0 0)) (by simp[results,Tryz.results85,go_sem,r0,r1,r2,Ah]) rfl ⟨⟨_,rfl,by rw[HL.out];rfl⟩,Ad (Ad (Ad (B.out.trans (G.since.mono B.out.size)) 3 0 _) 3 1 _) 3 2 _⟩
     ·have bv:¬ (600:Int) < ((k.length - y+A.length:Nat):Int):=Ou;by_cases h3:x.op=3
      ·obtain⟨aN,cy,bx⟩:∃ a:Nat,a < s.length/\x.a=(a:Int):=⟨x.a.toNat,by have:=bi h3;omega,by have:=bi h3;omega⟩;have c5:0 < s.length:=Ou;have em:0 < k.length:=by
        have h:=am.out;unfold Ag at h;rw[if_neg Ou,if_neg Ou,if_pos (.inl h3)]at h;simpa using congrArg (fun p=>p.2.2) h
       have HL:Hid (Bi c f x at' s k = .known (s.set aN (A3 k)) (k.take (k.length - y)++A)):=by
        rw[Hid,bt.out,if_neg (by rw[O];exact h600),if_pos h3,bx];rfl
       obtain⟨kl,aq⟩:∃ n,Hid (k.length - 1=n):=⟨_,(rfl:k.length - 1=_)⟩;have bs:Hid (∀ X,OH wr X->X.cell? (OI gk kl)=some (.int .i64 (A3 k))):=fun X hX=>by
        rw[<- aq.out];obtain⟨a',cp,e,hc⟩:=bb.out.below hX;injection e with e1;subst e1;obtain⟨g,o,e2,_,h2⟩:=hc (k.length - 1) Ou;injection e2 with e2;injection e2 with e3 e4
        subst e3 e4;rw[Nat.zero_add]at h2;rw[h2,A3,List.getLast?_eq_getElem?,List.getElem?_eq_getElem Ou];rfl
       have c7:wrap64 ((k.length:Int) - 1)=(kl:Int):=(by have:=aq.out;rw[IntWalk.wrap64_in _ Ou];omega);have ek:(kl:Int) < (k.length:Int):=(by have:=aq.out;omega);have el:kl < k.length:=Ou;have d7:Hid ((k.length:Int) - 1=(kl:Int)):=(by have:=aq.out;rw[Hid];omega);have eb:Hid (wrap64 (kl:Int)=(kl:Int)):=IntWalk.wrap64_in _ Ou;have cw:(x.op == 3)=true:=(by simp[h3]);clear h3;obtain⟨tp,cv⟩:∃ t,Hid (A3 k=t):=⟨_,(rfl:A3 k=_)⟩;rw[cv.out]at HL bs;go_wp2_with (first|(at_builtin;refine Bm rfl _ _ 124 rfl wr.heap.size 3 i0 (.int .i64 0) Tryz.underlying124 U Z aa ab rfl (.slice (some (OK wr 0)) 0 0) 0 [] rfl ar.out w.heap.size (.slice sa s.length sc) rfl s az.out Ou F.size ?_;intro v1 z r a6;rw[Nat.zero_add,List.nil_append]at r;obtain⟨S,b,a7⟩:=Qdt r c5;subst a7;have a5:=C0 F a6 F.size (fun g hg=>Bu ar.out hg);obtain⟨V2,a0⟩:∃ V,z.alloc (.cells #[.int .i64 1,.slice (some (OI S 0)) s.length b,.slice none 0 0] 126)=V:=⟨_,rfl⟩;have ad:=(show Ec wr z.heap.size s (.slice (some (OI S 0)) s.length b) (.slice none 0 0) V2 from(by rw[<- a0];exact Ec.new a5 r));obtain⟨⟨t0,t1,t2⟩,u0,u1,u2⟩:=ad.o;obtain⟨C,af⟩:∃ V,V2.setCell (OK z 2) (.slice none 0 0)=V:=⟨_,rfl⟩;have L:=(show Ec wr z.heap.size s (.slice (some (OI S 0)) s.length b) (.slice none 0 0) C from(by rw[<- af];exact ad.set _));obtain⟨V3,ah⟩:∃ V,C.alloc (.cells #[] 3)=V:=⟨_,rfl⟩;have H:=(show Ec wr z.heap.size s (.slice (some (OI S 0)) s.length b) (.slice none 0 0) V3 from(by rw[<- ah];exact L.alloc _));have bq:=(I.out.below H.since HD.out).s2;have ac:=(show Hid (V3.ownsRow (z.heap.size+1) 3 1 (.slice (some (OK C 0)) 0 0) 0 (Ar [])) from(by rw[Hid,<- ah];exact In C _ L.lt _)))|(at_builtin;refine Bm rfl _ _ 124 rfl (z.heap.size+1) 3 i0 (.int .i64 0) Tryz.underlying124 U Z aa ab rfl (.slice (some (OK C 0)) 0 0) 0 [] rfl ac.out wr.heap.size (.slice (some (OI gk 0)) (k.length - y) kc) rfl (k.take (k.length - y)) (Ac.front (bb.out.below H.since) Ou) (by simp only[List.length_take];omega) H.lt ?_;intro v2 cm d ai;rw[Nat.zero_add,List.nil_append,List.length_take,Nat.min_eq_left (Nat.sub_le _ _)]at d;have E:=H.grown ai (fun g hg=>Bu ac.out Ou))|(at_builtin;refine Bm rfl _ _ 124 rfl (z.heap.size+1) 3 i0 (.int .i64 0) Tryz.underlying124 U Z aa ab rfl v2 (k.length - y) (k.take (k.length - y)) rfl d wr.heap.size v rfl A (bu.out.below E.since) b0 E.lt ?_;intro v3 ba i aj;obtain⟨a3,m,a8⟩:=Cp i;subst a8;have K:=E.grown aj (fun g hg=>Bu d Ou);obtain⟨⟨m0,m1,m2⟩,n0,n1,n2⟩:=K.o;obtain⟨X,hX⟩:∃ V,ba.setCell (OK z 2) (.slice a3 (k.length - y+A.length) m)=V:=⟨_,rfl⟩;have G:=(show Ec wr z.heap.size s (.slice (some (OI S 0)) s.length b) (.slice a3 (k.length - y+A.length) m) X from(by rw[<- hX];exact K.set _));have P:=(show X.ownsRow (z.heap.size+1) 3 1 (.slice a3 (k.length - y+A.length) m) (k.length - y+A.length) (Ar (k.take (k.length - y)++A)) from(by rw[<- hX];exact ownsRow_setCell_other (a:=(OK z 2)) i (Bu i (by show z.heap.size < _;omega)) _));obtain⟨⟨x0,x1,x2⟩,-,-,-⟩:=G.o;have D:=I.out.below G.since HD.out;have z0:=D.i0;have z1:=D.i1;have z2:=D.s2;obtain⟨an,ao,ap⟩:=D.b;obtain⟨⟨r0,r1,r2⟩,eg,eh,ei⟩:=D.r;obtain⟨ep,eq⟩:=Qbx G.own aN cy;have c8:=bs.out X G.since;rw[bx]at z1));have ej:(aN:Int) < (s.length:Int):=Ou;have eo:IntKind.i64.wrap ((k.length:Int) - 1)=(kl:Int):=(IntWalk.i64_left _).trans c7;have ae:=G.store aN tp rfl;obtain⟨⟨y0,y1,y2⟩,-,-,-⟩:=ae.o;have yB:=I.out.below ae.since HD.out;have y3:=yB.i1;rw[bx]at y3;have y4:=yB.s2;have y5:=bs.out _ ae.since;go_region_held (fun w'=>w'.cell? (OK z 1)=some (.slice (some (OI S 0)) s.length b)/\w'.cell? (OJ w 4 1)=some (.int .i64 (aN:Int))/\w'.cell? (OJ w 2 2)=some (.slice (some (OI gk 0)) k.length kc)/\w'.cell? (OI gk kl)=some (.int .i64 tp)) (first|exact⟨x1,z1,z2,c8⟩|exact⟨y1,y3,y4,y5⟩) (fail);all_goals
        obtain⟨Xd,b6⟩:∃ V,(X.setCell (OI S aN) (.int .i64 tp)).drew=V:=⟨_,rfl⟩;have bc:Ec wr z.heap.size (s.set aN tp) (.slice (some (OI S 0)) s.length b) (.slice a3 (k.length - y+A.length) m) Xd:=(by rw[<- b6];exact⟨ae.since.drew,ae.le,ae.out,ae.own.drew,ae.low⟩);have b1:Xd.ownsRow (z.heap.size+1) 3 1 (.slice a3 (k.length - y+A.length) m) (k.length - y+A.length) (Ar (k.take (k.length - y)++A)):=by
         rw[<- b6];exact(ownsRow_setCell_other (a:=(OI S aN)) P (Bu P (by show S < _;exact Nat.lt_succ_of_lt (Nat.lt_of_not_le (fun hle=>G.low S hle rfl)))) _).drew
        obtain⟨⟨q0,q1,q2⟩,-,-,-⟩:=bc.o;have cx:=I.out.below bc.since HD.out;obtain⟨⟨c9,da,db⟩,ed,ee,ef⟩:=cx.r;go_wp2_with fail;refine bodyPost_ret (v:=Ah 1 (.slice (some (OI S 0)) s.length b) (.slice a3 (k.length - y+A.length) m)) (by simp[results,Tryz.results85,go_sem,c9,da,db,Ah]) rfl ⟨⟨_,rfl, ?_⟩,Ad (Ad (Ad (B.out.trans (bc.since.mono B.out.size)) 3 0 _) 3 1 _) 3 2 _⟩;rw[HL.out];exact bc.done (by rw[O];exact b1) (w.heap.size+3) (by have:=HD.out;omega) _ _ _
      ·have cw:(x.op == 3)=false:=(by simp[h3]);have HL:Hid (Bi c f x at' s k = .known s (k.take (k.length - y)++A)):=by
        rw[Hid,bt.out,if_neg (by rw[O];exact h600),if_neg h3]
       clear h3;go_wp2_with (first|(at_builtin;refine Bm rfl _ _ 124 rfl wr.heap.size 3 i0 (.int .i64 0) Tryz.underlying124 U Z aa ab rfl (.slice (some (OK wr 0)) 0 0) 0 [] rfl ar.out w.heap.size (.slice sa s.length sc) rfl s az.out Ou F.size ?_;intro v1 z r a6;rw[Nat.zero_add,List.nil_append]at r;obtain⟨a1,b,a7⟩:=Cp r;subst a7;have a5:=C0 F a6 F.size (fun g hg=>Bu ar.out hg);obtain⟨V2,a0⟩:∃ V,z.alloc (.cells #[.int .i64 1,.slice a1 s.length b,.slice none 0 0] 126)=V:=⟨_,rfl⟩;have ad:=(show Ec wr z.heap.size s (.slice a1 s.length b) (.slice none 0 0) V2 from(by rw[<- a0];exact Ec.new a5 r));obtain⟨⟨t0,t1,t2⟩,u0,u1,u2⟩:=ad.o;obtain⟨C,af⟩:∃ V,V2.setCell (OK z 2) (.slice none 0 0)=V:=⟨_,rfl⟩;have L:=(show Ec wr z.heap.size s (.slice a1 s.length b) (.slice none 0 0) C from(by rw[<- af];exact ad.set _));obtain⟨V3,ah⟩:∃ V,C.alloc (.cells #[] 3)=V:=⟨_,rfl⟩;have H:=(show Ec wr z.heap.size s (.slice a1 s.length b) (.slice none 0 0) V3 from(by rw[<- ah];exact L.alloc _));have bq:=(I.out.below H.since HD.out).s2;have ac:=(show Hid (V3.ownsRow (z.heap.size+1) 3 1 (.slice (some (OK C 0)) 0 0) 0 (Ar [])) from(by rw[Hid,<- ah];exact In C _ L.lt _)))|(at_builtin;refine Bm rfl _ _ 124 rfl (z.heap.size+1) 3 i0 (.int .i64 0) Tryz.underlying124 U Z aa ab rfl (.slice (some (OK C 0)) 0 0) 0 [] rfl ac.out wr.heap.size (.slice (some (OI gk 0)) (k.length - y) kc) rfl (k.take (k.length - y)) (Ac.front (bb.out.below H.since) Ou) (by simp only[List.length_take];omega) H.lt ?_;intro v2 cm d ai;rw[Nat.zero_add,List.nil_append,List.length_take,Nat.min_eq_left (Nat.sub_le _ _)]at d;have E:=H.grown ai (fun g hg=>Bu ac.out Ou))|(at_builtin;refine Bm rfl _ _ 124 rfl (z.heap.size+1) 3 i0 (.int .i64 0) Tryz.underlying124 U Z aa ab rfl v2 (k.length - y) (k.take (k.length - y)) rfl d wr.heap.size v rfl A (bu.out.below E.since) b0 E.lt ?_;intro v3 ba i aj;obtain⟨a3,m,a8⟩:=Cp i;subst a8;have K:=E.grown aj (fun g hg=>Bu d Ou);obtain⟨⟨m0,m1,m2⟩,n0,n1,n2⟩:=K.o;obtain⟨X,hX⟩:∃ V,ba.setCell (OK z 2) (.slice a3 (k.length - y+A.length) m)=V:=⟨_,rfl⟩;have G:=(show Ec wr z.heap.size s (.slice a1 s.length b) (.slice a3 (k.length - y+A.length) m) X from(by rw[<- hX];exact K.set _));have P:=(show X.ownsRow (z.heap.size+1) 3 1 (.slice a3 (k.length - y+A.length) m) (k.length - y+A.length) (Ar (k.take (k.length - y)++A)) from(by rw[<- hX];exact ownsRow_setCell_other (a:=(OK z 2)) i (Bu i (by show z.heap.size < _;omega)) _));obtain⟨⟨x0,x1,x2⟩,-,-,-⟩:=G.o;have D:=I.out.below G.since HD.out;have z0:=D.i0;have z1:=D.i1;have z2:=D.s2;obtain⟨an,ao,ap⟩:=D.b;obtain⟨⟨r0,r1,r2⟩,g0,S,g2⟩:=D.r));refine bodyPost_ret (v:=Ah 1 (.slice a1 s.length b) (.slice a3 (k.length - y+A.length) m)) (by simp[results,Tryz.results85,go_sem,r0,r1,r2,Ah]) rfl ⟨⟨_,rfl, ?_⟩,Ad (Ad (Ad (B.out.trans (G.since.mono B.out.size)) 3 0 _) 3 1 _) 3 2 _⟩;rw[HL.out];exact G.done (by rw[O];exact P) (w.heap.size+3) (by have:=HD.out;omega) _ _ _
end Go.Proofs.YtahibkjkpmdhgaaGreatDoor
