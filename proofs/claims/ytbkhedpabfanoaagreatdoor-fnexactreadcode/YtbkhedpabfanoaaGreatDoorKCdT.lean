import Derived.Test.YtbkhedpabfanoaaGreatDoorKCdN
namespace Go.Proofs.YtbkhedpabfanoaaGreatDoor
open Go.RowKit

structure Cd.Bh (f:Cd.Fn) (x:Cd.Ins) (cv pv iv sv kv:Value) (N:Nat) (W:World):Prop where
  cod:W.heap[N]? = some (.cells #[cv] 24)
  fn:W.heap[N+1]? = some (.cells #[.string f.name,pv,.int .i64 f.result,.int .i64 f.slots,iv] 37)
  sh:W.heap[N+2]? = some (.cells #[.int .i64 1,sv,kv] 110)
  res:W.heap[N+3]? = some (.cells #[.int .i64 0,.slice none 0 0,.slice none 0 0] 110)
  ins:W.heap[N+4]? = some (.cells #[.int .i64 x.op,.int .i64 x.a,.int .i64 x.n,.string x.text] 54)
  bad:W.heap[N+5]? = some (.cells #[.int .i64 2,.slice none 0 0,.slice none 0 0] 110)
theorem Cd.Bh.kept {f:Cd.Fn} {x:Cd.Ins} {cv pv iv sv kv:Value} {N:Nat} {W W':World} (h:Cd.Bh f x cv pv iv sv kv N W) (hb:∀ g,g < N+6→W'.heap[g]? = W.heap[g]?):Cd.Bh f x cv pv iv sv kv N W' :=
  ⟨(hb _ (by omega)).trans h.cod,(hb _ (by omega)).trans h.fn,(hb _ (by omega)).trans h.sh,(hb _ (by omega)).trans h.res,(hb _ (by omega)).trans h.ins,(hb _ (by omega)).trans h.bad⟩
theorem Cd.Bh.size {f:Cd.Fn} {x:Cd.Ins} {cv pv iv sv kv:Value} {N:Nat} {W:World} (h:Cd.Bh f x cv pv iv sv kv N W):N+6≤W.heap.size:=(Array.getElem?_eq_some_iff.1 h.bad).1
theorem Cd.Bh.below {f:Cd.Fn} {x:Cd.Ins} {cv pv iv sv kv:Value} {N C:Nat} {W W':World} (h:Cd.Bh f x cv pv iv sv kv N W) (hb:Below C W W') (hC:N+6≤C):Cd.Bh f x cv pv iv sv kv N W':=h.kept (fun g hg=>hb.block g (by omega))
theorem Cd.Bh.f4 {f:Cd.Fn} {x:Cd.Ins} {cv pv iv sv kv:Value} {N:Nat} {W:World} (h:Cd.Bh f x cv pv iv sv kv N W):W.cell? ⟨N+1,4,none⟩=some iv:=by rw [Lib.cell_of_heap h.fn];rfl
theorem Cd.Bh.s1 {f:Cd.Fn} {x:Cd.Ins} {cv pv iv sv kv:Value} {N:Nat} {W:World} (h:Cd.Bh f x cv pv iv sv kv N W):W.cell? ⟨N+2,1,none⟩=some sv:=by rw [Lib.cell_of_heap h.sh];rfl
theorem Cd.Bh.s2 {f:Cd.Fn} {x:Cd.Ins} {cv pv iv sv kv:Value} {N:Nat} {W:World} (h:Cd.Bh f x cv pv iv sv kv N W):W.cell? ⟨N+2,2,none⟩=some kv:=by rw [Lib.cell_of_heap h.sh];rfl
theorem Cd.Bh.i0 {f:Cd.Fn} {x:Cd.Ins} {cv pv iv sv kv:Value} {N:Nat} {W:World} (h:Cd.Bh f x cv pv iv sv kv N W):W.cell? ⟨N+4,0,none⟩=some (.int .i64 x.op):=by rw [Lib.cell_of_heap h.ins];rfl
theorem Cd.Bh.i1 {f:Cd.Fn} {x:Cd.Ins} {cv pv iv sv kv:Value} {N:Nat} {W:World} (h:Cd.Bh f x cv pv iv sv kv N W):W.cell? ⟨N+4,1,none⟩=some (.int .i64 x.a):=by rw [Lib.cell_of_heap h.ins];rfl
theorem Cd.Bh.i2 {f:Cd.Fn} {x:Cd.Ins} {cv pv iv sv kv:Value} {N:Nat} {W:World} (h:Cd.Bh f x cv pv iv sv kv N W):W.cell? ⟨N+4,2,none⟩=some (.int .i64 x.n):=by rw [Lib.cell_of_heap h.ins];rfl
theorem Cd.Bh.i3 {f:Cd.Fn} {x:Cd.Ins} {cv pv iv sv kv:Value} {N:Nat} {W:World} (h:Cd.Bh f x cv pv iv sv kv N W):W.cell? ⟨N+4,3,none⟩=some (.string x.text):=by rw [Lib.cell_of_heap h.ins];rfl
theorem Cd.Bh.b {f:Cd.Fn} {x:Cd.Ins} {cv pv iv sv kv:Value} {N:Nat} {W:World} (h:Cd.Bh f x cv pv iv sv kv N W):W.cell? ⟨N+5,0,none⟩=some (.int .i64 2)∧W.cell? ⟨N+5,1,none⟩=some (.slice none 0 0)∧W.cell? ⟨N+5,2,none⟩=some (.slice none 0 0):=by
  refine ⟨?_, ?_, ?_⟩ <;> (rw [Lib.cell_of_heap h.bad];rfl)
theorem Cd.Bh.r {f:Cd.Fn} {x:Cd.Ins} {cv pv iv sv kv:Value} {N:Nat} {W:World} (h:Cd.Bh f x cv pv iv sv kv N W):(W.cell? ⟨N+3,0,none⟩=some (.int .i64 0)∧W.cell? ⟨N+3,1,none⟩=some (.slice none 0 0)∧W.cell? ⟨N+3,2,none⟩=some (.slice none 0 0))∧W.frozen? ⟨N+3,0,none⟩=false∧W.frozen? ⟨N+3,1,none⟩=false∧W.frozen? ⟨N+3,2,none⟩=false:=by
  refine ⟨⟨?_, ?_, ?_⟩, ?_, ?_, ?_⟩
  · rw [Lib.cell_of_heap h.res];rfl
  · rw [Lib.cell_of_heap h.res];rfl
  · rw [Lib.cell_of_heap h.res];rfl
  all_goals simp [World.frozen?,h.res]
theorem Cd.Bh.c0 {f:Cd.Fn} {x:Cd.Ins} {cv pv iv sv kv:Value} {N:Nat} {W:World} (h:Cd.Bh f x cv pv iv sv kv N W):W.cell? ⟨N,0,none⟩=some cv:=by rw [Lib.cell_of_heap h.cod];rfl
theorem Cd.Bh.fs {f:Cd.Fn} {x:Cd.Ins} {cv pv iv sv kv:Value} {N:Nat} {W:World} (h:Cd.Bh f x cv pv iv sv kv N W):W.cell? ⟨N+1,0,none⟩=some (.string f.name)∧W.cell? ⟨N+1,1,none⟩=some pv∧W.cell? ⟨N+1,2,none⟩=some (.int .i64 f.result)∧W.cell? ⟨N+1,3,none⟩=some (.int .i64 f.slots)∧W.cell? ⟨N+1,4,none⟩=some iv:=by
  refine ⟨?_, ?_, ?_, ?_, ?_⟩ <;> (rw [Lib.cell_of_heap h.fn];rfl)
theorem Cd.Bh.s0 {f:Cd.Fn} {x:Cd.Ins} {cv pv iv sv kv:Value} {N:Nat} {W:World} (h:Cd.Bh f x cv pv iv sv kv N W):W.cell? ⟨N+2,0,none⟩=some (.int .i64 1):=by rw [Lib.cell_of_heap h.sh];rfl
theorem Cd.InsAt.mono {B C:Nat} {w:World} {v:Value} {l:List Cd.Ins} (h:Cd.InsAt B w v l) (hb:B≤C):Cd.InsAt C w v l:=by
  obtain ⟨a,cap,rfl,hc⟩:=h
  refine ⟨a,cap,rfl,fun i hi => ?_⟩
  obtain ⟨g,ha,hg,hcell⟩:=hc i hi
  exact ⟨g,ha,by omega,hcell⟩
theorem Cd.CodeAt.mono {B C:Nat} {w:World} {v:Value} {c:List Cd.Fn} (h:Cd.CodeAt B w v c) (hb:B≤C):Cd.CodeAt C w v c:=by
  obtain ⟨a,cap,rfl,hc⟩:=h
  refine ⟨a,cap,rfl,fun k hk => ?_⟩
  obtain ⟨g,pv,iv,ha,hg,hcell,hp,hi⟩:=hc k hk
  exact ⟨g,pv,iv,ha,by omega,hcell,hp.mono hb,hi.mono hb⟩
theorem Cd.insOk_jump {c:List Cd.Fn} {f:Cd.Fn} {x:Cd.Ins} (h:Cd.insOk c f x=true) (ho:x.op=10∨x.op=11):0≤x.a∧x.a≤(f.ins.length:Int):=by
  obtain ⟨h1,h2⟩:=Cd.insOk_clean h (by omega)
  obtain ⟨op,a,n,text⟩:=x
  simp only at h1 h2 ho
  subst h1
  unfold Cd.insOk at h
  rcases ho with rfl | rfl
  · simp [Cd.hasA,Cd.inR,h2] at h;exact h
  · simp [Cd.hasA,Cd.inR,h2] at h;exact h
theorem Cd.insOk_slot {c:List Cd.Fn} {f:Cd.Fn} {x:Cd.Ins} (h:Cd.insOk c f x=true) (ho:x.op=3):0≤x.a∧x.a < f.slots:=by
  obtain ⟨h1,h2⟩:=Cd.insOk_clean h (by omega)
  obtain ⟨op,a,n,text⟩:=x
  simp only at h1 h2 ho
  subst h1 ho
  unfold Cd.insOk at h
  simp [Cd.hasA,Cd.inR,h2] at h;exact ⟨h.1,by show a < f.slots;omega⟩
theorem Cd.goes_len (x:Cd.Ins) (u:Nat):(Cd.goes x u).length≤2:=by
  unfold Cd.goes
  split
  · simp
  · split
    · simp
    · split <;> simp
theorem Cd.leaves_no {c:List Cd.Fn} {f:Cd.Fn} {x:Cd.Ins} {u:Nat} {s k:List Int} {tk:Nat} {ps:List Int} {okb:Bool} (hg:Cd.gives c f x s k=(tk,ps,okb)) (h:okb=false∨k.length < tk):Cd.leaves c f x u s k = .clash:=by
  unfold Cd.leaves;rw [hg];rw [if_pos h]
theorem Cd.leaves_out {c:List Cd.Fn} {f:Cd.Fn} {x:Cd.Ins} {u:Nat} {s k:List Int} {tk:Nat} {ps:List Int} (hg:Cd.gives c f x s k=(tk,ps,true)) (hk:tk≤k.length) {j:Nat} (hj:j < (Cd.goes x u).length) (h:f.ins.length≤(Cd.goes x u)[j]):Cd.leaves c f x u s k = .clash:=by
  unfold Cd.leaves;rw [hg,if_neg (by simp;omega),if_pos]
  rw [List.any_eq_true]
  exact ⟨_,List.getElem_mem hj,by simpa using h⟩
theorem Cd.leaves_in {c:List Cd.Fn} {f:Cd.Fn} {x:Cd.Ins} {u:Nat} {s k:List Int} {tk:Nat} {ps:List Int} (hg:Cd.gives c f x s k=(tk,ps,true)) (hk:tk≤k.length) (h:∀ j (hj:j < (Cd.goes x u).length),(Cd.goes x u)[j] < f.ins.length):Cd.leaves c f x u s k=if 600 < (k.take (k.length - tk)++ps).length then .clash else .known (if x.op=3 then s.set x.a.toNat (Cd.top k) else s) (k.take (k.length - tk)++ps):=by
  unfold Cd.leaves;rw [hg,if_neg (by simp;omega),if_neg]
  rw [List.any_eq_true]
  rintro ⟨v,hv,h2⟩
  obtain ⟨j,hj,rfl⟩:=List.getElem_of_mem hv
  have:=h j hj
  simp at h2
  omega
theorem Cd.gives_puts (c:List Cd.Fn) (f:Cd.Fn) (x:Cd.Ins) (s k:List Int):(Cd.gives c f x s k).2.1.length≤1:=by
  unfold Cd.gives
  by_cases h1:x.op=1
  · rw [if_pos h1];exact Nat.le_refl 1
  rw [if_neg h1]
  by_cases h2:x.op=2
  · rw [if_pos h2];exact Nat.le_refl 1
  rw [if_neg h2]
  by_cases h3:x.op=3∨x.op=4
  · rw [if_pos h3];exact Nat.zero_le 1
  rw [if_neg h3]
  by_cases h5:x.op=5
  · rw [if_pos h5];exact Nat.le_refl 1
  rw [if_neg h5]
  by_cases h6:x.op=6
  · rw [if_pos h6];exact Nat.le_refl 1
  rw [if_neg h6]
  by_cases h7:x.op=7
  · rw [if_pos h7];exact Nat.le_refl 1
  rw [if_neg h7]
  by_cases h8:x.op=8
  · rw [if_pos h8]
    split
    · exact Nat.zero_le 1
    · exact Nat.le_refl 1
  rw [if_neg h8]
  by_cases h9:x.op=9
  · rw [if_pos h9]
    split
    · exact Nat.zero_le 1
    · split
      · show (if _ then [] else _:List Int).length≤1
        split
        · exact Nat.zero_le 1
        · exact Nat.le_refl 1
      · exact Nat.zero_le 1
  rw [if_neg h9]
  by_cases h11:x.op=11
  · rw [if_pos h11];exact Nat.zero_le 1
  rw [if_neg h11]
  by_cases h12:x.op=12
  · rw [if_pos h12];exact Nat.zero_le 1
  rw [if_neg h12]
  by_cases h13:x.op=13∨x.op=15
  · rw [if_pos h13];exact Nat.zero_le 1
  rw [if_neg h13]
  by_cases h14:x.op=14
  · rw [if_pos h14];exact Nat.zero_le 1
  rw [if_neg h14];exact Nat.zero_le 1
theorem Cd.rowLt {w:World} {B e size n:Nat} {v:Value} {xs:List Value} (h:w.ownsRow B e size v n xs) {g:Nat} (hg:w.heap.size≤g):v.ownBlock≠some g:=by
  rcases h.2 with ⟨rfl,h0⟩ | ⟨g',cap,cur,rfl,hb,hh,_⟩
  · simp [Value.ownBlock]
  · have:=(Array.getElem?_eq_some_iff.1 hh).1
    simp only [Value.ownBlock,ne_eq,Option.some.injEq];omega
structure Cd.Bo (D:World) (O:Nat) (s:List Int) (v1 v2:Value) (W:World):Prop where
  since:Below D.heap.size D W
  le:D.heap.size≤O
  out:W.heap[O]? = some (.cells #[.int .i64 1,v1,v2] 110)
  own:W.ownsRow D.heap.size 3 1 v1 s.length (Cd.ints s)
  low:∀ g,O≤g→v1.ownBlock≠some g
theorem Cd.Bo.lt {D:World} {O:Nat} {s:List Int} {v1 v2:Value} {W:World} (h:Cd.Bo D O s v1 v2 W):O < W.heap.size:=(Array.getElem?_eq_some_iff.1 h.out).1
theorem Cd.Bo.alloc {D:World} {O:Nat} {s:List Int} {v1 v2:Value} {W:World} (h:Cd.Bo D O s v1 v2 W) (o:Obj):Cd.Bo D O s v1 v2 (W.alloc o) :=
  ⟨Cd.Below.new h.since o,h.le,Cd.keepH o h.out,h.own.alloc o,h.low⟩
theorem Cd.Bo.grown {D:World} {O:Nat} {s:List Int} {v1 v2:Value} {W W':World} {row:Option Nat} (h:Cd.Bo D O s v1 v2 W) (hg:W.grownBy W' row) (hr:∀ g,g≤O→row≠some g):Cd.Bo D O s v1 v2 W' :=
  ⟨Cd.Below.grown h.since hg h.since.size (fun k hk=>hr k (by have:=h.le;omega)),h.le,(hg.block O h.lt (fun e=>hr O (Nat.le_refl _) e.symm)).trans h.out,h.own.kept hg (by
    cases hv:v1.ownBlock with
    | none=>exact .inl rfl
    | some g=>exact .inr (fun e=>hr g (Nat.le_of_lt (Nat.lt_of_not_le (fun hle=>h.low g hle hv))) e.symm)),h.low⟩
theorem Cd.Bo.new {D:World} {s:List Int} {v1:Value} {W:World} (h:Below D.heap.size D W) (hown:W.ownsRow D.heap.size 3 1 v1 s.length (Cd.ints s)):Cd.Bo D W.heap.size s v1 (.slice none 0 0) (W.alloc (.cells #[.int .i64 1,v1,.slice none 0 0] 110)) :=
  ⟨Cd.Below.new h _,h.size,Cd.new_at _ _,hown.alloc _,fun _g hg=>Cd.rowLt hown hg⟩
theorem Cd.Bo.set {D:World} {O:Nat} {s:List Int} {v1 v2:Value} {W:World} (h:Cd.Bo D O s v1 v2 W) (v':Value):Cd.Bo D O s v1 v' (W.setCell ⟨O,2,none⟩ v') :=
  ⟨h.since.setCell (p:=⟨O,2,none⟩) h.le v',h.le,(heap_setCell_same W O 2 _ _ v' h.out).trans rfl,ownsRow_setCell_other (a:=⟨O,2,none⟩) h.own (h.low O (Nat.le_refl _)) _,h.low⟩
theorem Cd.Bo.o {D:World} {O:Nat} {s:List Int} {v1 v2:Value} {W:World} (h:Cd.Bo D O s v1 v2 W):(W.cell? ⟨O,0,none⟩=some (.int .i64 1)∧W.cell? ⟨O,1,none⟩=some v1∧W.cell? ⟨O,2,none⟩=some v2)∧W.frozen? ⟨O,0,none⟩=false∧W.frozen? ⟨O,1,none⟩=false∧W.frozen? ⟨O,2,none⟩=false:=by
  refine ⟨⟨?_, ?_, ?_⟩, ?_, ?_, ?_⟩
  · rw [Lib.cell_of_heap h.out];rfl
  · rw [Lib.cell_of_heap h.out];rfl
  · rw [Lib.cell_of_heap h.out];rfl
  all_goals simp [World.frozen?,h.out]
theorem Cd.IntsAt.front {B:Nat} {w:World} {a:Option Addr} {n cap:Nat} {hs:List Int} (h:Cd.IntsAt B w (.slice a n cap) hs) {m:Nat} (hm:m≤hs.length):Cd.IntsAt B w (.slice a m cap) (hs.take m):=by
  obtain ⟨a',cp,e,hc⟩:=h
  injection e with e1 e2 e3
  subst e1
  refine ⟨a,cap,by rw [List.length_take,Nat.min_eq_left hm],fun i hi => ?_⟩
  obtain ⟨g,o,ha,hg,hcell⟩:=hc i (by rw [List.length_take] at hi;omega)
  exact ⟨g,o,ha,hg,by rw [hcell,List.getElem_take]⟩
theorem Cd.rowForm {w:World} {B e size n:Nat} {v:Value} {xs:List Value} (h:w.ownsRow B e size v n xs) (hn:0 < n):∃ g cap,v = .slice (some ⟨g,0,none⟩) n cap:=by
  rcases h.2 with ⟨_,h0⟩ | ⟨g,cap,cur,rfl,_⟩
  · omega
  · exact ⟨g,cap,rfl⟩
theorem Cd.row_cell {w:World} {B e n g cap:Nat} {hs:List Int} (h:w.ownsRow B e 1 (.slice (some ⟨g,0,none⟩) n cap) hs.length (Cd.ints hs)) (a:Nat) (ha:a < hs.length):w.cell? ⟨g,a,none⟩=some (.int .i64 hs[a])∧w.frozen? ⟨g,a,none⟩=false:=by
  constructor
  · rcases h.2 with ⟨h',_⟩ | ⟨g',cap',cur,h',hb,hg,hnc,hcm,hcs,htake⟩
    · simp at h'
    · injection h' with e1 e2 e3
      injection e1 with e1;injection e1 with e1
      subst e1
      rw [Lib.cell_of_heap hg]
      have h1:(cur.toList.take (hs.length * 1))[a]? = some (.int .i64 hs[a]):=by rw [htake];simp [Cd.ints,ha]
      rw [List.getElem?_take_of_lt (by omega)] at h1
      simpa using h1
  · rcases h.2 with ⟨h',_⟩ | ⟨g',cap',cur,h',hb,hg,_⟩
    · simp at h'
    · injection h' with e1 e2 e3
      injection e1 with e1;injection e1 with e1
      subst e1
      simp [World.frozen?,hg]
theorem Cd.Bo.store {D:World} {O:Nat} {s:List Int} {g n cap:Nat} {v2:Value} {W:World} (h:Cd.Bo D O s (.slice (some ⟨g,0,none⟩) n cap) v2 W) (a:Nat) (t:Int) (hn:n=s.length):Cd.Bo D O (s.set a t) (.slice (some ⟨g,0,none⟩) n cap) v2 (W.setCell ⟨g,a,none⟩ (.int .i64 t)):=by
  subst hn
  have hg:D.heap.size≤g:=Nat.le_of_not_lt (fun hl=>Cd.rowBlk h.own hl rfl)
  refine ⟨h.since.setCell (p:=⟨g,a,none⟩) hg _,h.le,(Below.heap_setCell _ _ _ _ (by intro e;exact h.low O (Nat.le_refl _) (by rw [e];rfl))).trans h.out, ?_,h.low⟩
  have h2:=(h.own.stored a (.int .i64 t)).1
  rw [List.length_set]
  unfold Cd.ints at h2 ⊢
  rw [List.map_set];exact h2
theorem Cd.Bo.done {D:World} {O:Nat} {s l:List Int} {v1 v2:Value} {W:World} (h:Cd.Bo D O s v1 v2 W) (hown:W.ownsRow (O+1) 3 1 v2 l.length (Cd.ints l)) (M:Nat) (hM:M < D.heap.size) (u0 u1 u2:Value):Cd.ShAt (((W.setCell ⟨M,0,none⟩ u0).setCell ⟨M,1,none⟩ u1).setCell ⟨M,2,none⟩ u2).heap.size (((W.setCell ⟨M,0,none⟩ u0).setCell ⟨M,1,none⟩ u1).setCell ⟨M,2,none⟩ u2) (Cd.shV 1 v1 v2) (.known s l):=by
  have h1:∀ g,g≠M→(((W.setCell ⟨M,0,none⟩ u0).setCell ⟨M,1,none⟩ u1).setCell ⟨M,2,none⟩ u2).heap[g]? = W.heap[g]?:=fun g hg=>by
    rw [Below.heap_setCell _ _ _ _ (by exact hg),Below.heap_setCell _ _ _ _ (by exact hg),Below.heap_setCell _ _ _ _ (by exact hg)]
  have hs:(((W.setCell ⟨M,0,none⟩ u0).setCell ⟨M,1,none⟩ u1).setCell ⟨M,2,none⟩ u2).heap.size=W.heap.size:=by simp
  have i1:=Cd.IntsAt.own h.own (Nat.le_refl _)
  have i2:=Cd.IntsAt.own hown (Nat.le_refl _)
  have k1:=Cd.IntsAt.keep (C:=W.heap.size) i1 (fun g hg=>h1 g (by intro e;subst e;exact Cd.rowBlk h.own hM hg)) (Nat.le_refl _)
  have k2:=Cd.IntsAt.keep (C:=W.heap.size) i2 (fun g hg=>h1 g (by intro e;subst e;exact Cd.rowBlk hown (by have:=h.le;omega) hg)) (Nat.le_refl _)
  have y1:=Cd.typed.keep (C:=W.heap.size) (Cd.typed.own h.own (Nat.le_refl _)) (fun g hg=>h1 g (by intro e;subst e;exact Cd.rowBlk h.own hM hg)) (Nat.le_refl _)
  have y2:=Cd.typed.keep (C:=W.heap.size) (Cd.typed.own hown (Nat.le_refl _)) (fun g hg=>h1 g (by intro e;subst e;exact Cd.rowBlk hown (by have:=h.le;omega) hg)) (Nat.le_refl _)
  rw [hs]
  obtain ⟨a1,cap1,rfl⟩:=Cd.rowLen h.own
  rcases hown.2 with ⟨rfl,h0⟩ | ⟨g,cap,cur,rfl,_,_,hnc,_⟩
  · refine ⟨a1,cap1,none,0, ?_,by omega,.inl ⟨rfl,rfl⟩,k1, ?_,y1, ?_⟩
    · rw [h0]
    · rw [h0];exact k2
    · rw [h0];exact y2
  · exact ⟨a1,cap1,some ⟨g,0,none⟩,cap,rfl,hnc,.inr ⟨g,rfl⟩,k1,k2,y1,y2⟩
set_option maxRecDepth 100000 in
set_option maxHeartbeats 4000000 in
theorem Cd.behind_known (c:List Cd.Fn) (f:Cd.Fn) (at':Nat) (hat:at' < f.ins.length) (s k:List Int) (ca ia sa:Option Addr) (cc ic sc gk kc:Nat) (pv:Value) (hcl:c.length≤60) (hil:f.ins.length≤50000) (hsl:s.length≤200) (hk600:k.length≤600) (hkc:k.length≤kc) (hsf:(s.length:Int)=f.slots) (hpl:∀ g ∈ c,g.params.length≤8) (hok:Cd.insOk c f f.ins[at']=true) (w:World) (hC:Cd.CodeAt w.heap.size w (.slice ca c.length cc) c) (hI:Cd.InsAt w.heap.size w (.slice ia f.ins.length ic) f.ins) (hS:Cd.IntsAt w.heap.size w (.slice sa s.length sc) s) (hK:Cd.IntsAt w.heap.size w (.slice (some ⟨gk,0,none⟩) k.length kc) k) :
    Calls Tryz.prog 49 #[.agg #[.slice ca c.length cc],Cd.fnV f pv (.slice ia f.ins.length ic),.int .i64 (at':Int),Cd.shV 1 (.slice sa s.length sc) (.slice (some ⟨gk,0,none⟩) k.length kc)] w fun e w'=>(∃ v,e = .returned v∧Cd.ShAt w'.heap.size w' v (Cd.leaves c f f.ins[at'] at' s k))∧Below w.heap.size w w':=by
  obtain ⟨gi,rfl,hgi,hcell⟩:∃ gi,ia=some ⟨gi,0,none⟩∧gi < w.heap.size∧∀ j,j < 4→w.cell? ⟨gi,at' * 4+j,none⟩=(Cd.insC f.ins[at'])[j]?:=by
    obtain ⟨a',cp,hv2,hc⟩:=hI
    injection hv2 with e1
    subst e1
    exact hc at' hat
  obtain ⟨x,hx⟩:∃ x,f.ins[at']=x:=⟨_,rfl⟩
  rw [hx] at hcell hok ⊢
  clear hx
  obtain ⟨Y1,hY1⟩:∃ Y,w.alloc (.cells #[.slice ca c.length cc] 24)=Y:=⟨_,rfl⟩
  have hb1:Below w.heap.size w Y1:=by rw [← hY1];exact Cd.b1 w _
  have hs1:Y1.heap.size=w.heap.size+1:=by rw [← hY1];exact World.size_alloc _ _
  have p1_0:Y1.heap[w.heap.size]? = some (.cells #[.slice ca c.length cc] 24):=by rw [← hY1];exact Cd.new_at w _
  obtain ⟨Y2,hY2⟩:∃ Y,Y1.alloc (.cells #[.string f.name,pv,.int .i64 f.result,.int .i64 f.slots,.slice (some ⟨gi,0,none⟩) f.ins.length ic] 37)=Y:=⟨_,rfl⟩
  have hb2:Below w.heap.size w Y2:=by rw [← hY2];exact Cd.Below.new hb1 _
  have hs2:Y2.heap.size=w.heap.size+2:=by rw [← hY2,World.size_alloc];omega
  have p2_0:Y2.heap[w.heap.size]? = some (.cells #[.slice ca c.length cc] 24):=by rw [← hY2];exact Cd.keepH _ p1_0
  have p2_1:Y2.heap[w.heap.size+1]? = some (.cells #[.string f.name,pv,.int .i64 f.result,.int .i64 f.slots,.slice (some ⟨gi,0,none⟩) f.ins.length ic] 37):=by rw [← hY2,← hs1];exact Cd.new_at _ _
  clear p1_0
  obtain ⟨Y3,hY3⟩:∃ Y,Y2.alloc (.cells #[.int .i64 1,.slice sa s.length sc,.slice (some ⟨gk,0,none⟩) k.length kc] 110)=Y:=⟨_,rfl⟩
  have hb3:Below w.heap.size w Y3:=by rw [← hY3];exact Cd.Below.new hb2 _
  have hs3:Y3.heap.size=w.heap.size+3:=by rw [← hY3,World.size_alloc];omega
  have p3_0:Y3.heap[w.heap.size]? = some (.cells #[.slice ca c.length cc] 24):=by rw [← hY3];exact Cd.keepH _ p2_0
  have p3_1:Y3.heap[w.heap.size+1]? = some (.cells #[.string f.name,pv,.int .i64 f.result,.int .i64 f.slots,.slice (some ⟨gi,0,none⟩) f.ins.length ic] 37):=by rw [← hY3];exact Cd.keepH _ p2_1
  have p3_2:Y3.heap[w.heap.size+2]? = some (.cells #[.int .i64 1,.slice sa s.length sc,.slice (some ⟨gk,0,none⟩) k.length kc] 110):=by rw [← hY3,← hs2];exact Cd.new_at _ _
  clear p2_0 p2_1
  obtain ⟨Y4,hY4⟩:∃ Y,Y3.alloc (.cells #[.int .i64 0,.slice none 0 0,.slice none 0 0] 110)=Y:=⟨_,rfl⟩
  have hb4:Below w.heap.size w Y4:=by rw [← hY4];exact Cd.Below.new hb3 _
  have hs4:Y4.heap.size=w.heap.size+4:=by rw [← hY4,World.size_alloc];omega
  have p4_0:Y4.heap[w.heap.size]? = some (.cells #[.slice ca c.length cc] 24):=by rw [← hY4];exact Cd.keepH _ p3_0
  have p4_1:Y4.heap[w.heap.size+1]? = some (.cells #[.string f.name,pv,.int .i64 f.result,.int .i64 f.slots,.slice (some ⟨gi,0,none⟩) f.ins.length ic] 37):=by rw [← hY4];exact Cd.keepH _ p3_1
  have p4_2:Y4.heap[w.heap.size+2]? = some (.cells #[.int .i64 1,.slice sa s.length sc,.slice (some ⟨gk,0,none⟩) k.length kc] 110):=by rw [← hY4];exact Cd.keepH _ p3_2
  have p4_3:Y4.heap[w.heap.size+3]? = some (.cells #[.int .i64 0,.slice none 0 0,.slice none 0 0] 110):=by rw [← hY4,← hs3];exact Cd.new_at _ _
  clear p3_0 p3_1 p3_2
  have c0_0:Y4.cell? ⟨w.heap.size,0,none⟩=some (.slice ca c.length cc):=by rw [Lib.cell_of_heap p4_0];rfl
  have c1_0:Y4.cell? ⟨w.heap.size+1,0,none⟩=some (.string f.name):=by rw [Lib.cell_of_heap p4_1];rfl
  have c1_1:Y4.cell? ⟨w.heap.size+1,1,none⟩=some (pv):=by rw [Lib.cell_of_heap p4_1];rfl
  have c1_2:Y4.cell? ⟨w.heap.size+1,2,none⟩=some (.int .i64 f.result):=by rw [Lib.cell_of_heap p4_1];rfl
  have c1_3:Y4.cell? ⟨w.heap.size+1,3,none⟩=some (.int .i64 f.slots):=by rw [Lib.cell_of_heap p4_1];rfl
  have c1_4:Y4.cell? ⟨w.heap.size+1,4,none⟩=some (.slice (some ⟨gi,0,none⟩) f.ins.length ic):=by rw [Lib.cell_of_heap p4_1];rfl
  have c2_0:Y4.cell? ⟨w.heap.size+2,0,none⟩=some (.int .i64 1):=by rw [Lib.cell_of_heap p4_2];rfl
  have c2_1:Y4.cell? ⟨w.heap.size+2,1,none⟩=some (.slice sa s.length sc):=by rw [Lib.cell_of_heap p4_2];rfl
  have c2_2:Y4.cell? ⟨w.heap.size+2,2,none⟩=some (.slice (some ⟨gk,0,none⟩) k.length kc):=by rw [Lib.cell_of_heap p4_2];rfl
  have c3_0:Y4.cell? ⟨w.heap.size+3,0,none⟩=some (.int .i64 0):=by rw [Lib.cell_of_heap p4_3];rfl
  have c3_1:Y4.cell? ⟨w.heap.size+3,1,none⟩=some (.slice none 0 0):=by rw [Lib.cell_of_heap p4_3];rfl
  have c3_2:Y4.cell? ⟨w.heap.size+3,2,none⟩=some (.slice none 0 0):=by rw [Lib.cell_of_heap p4_3];rfl
  clear hb1 hb2 hb3
  have i0:=hcell 0 (by omega);have i1:=hcell 1 (by omega);have i2:=hcell 2 (by omega);have i3:=hcell 3 (by omega)
  simp only [Cd.insC,Nat.add_zero,List.getElem?_cons_zero,List.getElem?_cons_succ] at i0 i1 i2 i3
  have j0:=(hb4.cell (p:=⟨gi,at' * 4,none⟩) hgi).trans i0
  have j1:=(hb4.cell (p:=⟨gi,at' * 4+1,none⟩) hgi).trans i1
  have j2:=(hb4.cell (p:=⟨gi,at' * 4+2,none⟩) hgi).trans i2
  have j3:=(hb4.cell (p:=⟨gi,at' * 4+3,none⟩) hgi).trans i3
  obtain ⟨Y5,hY5⟩:∃ Y,Y4.alloc (.cells #[.int .i64 x.op,.int .i64 x.a,.int .i64 x.n,.string x.text] 54)=Y:=⟨_,rfl⟩
  have hb5:Below w.heap.size w Y5:=by rw [← hY5];exact Cd.Below.new hb4 _
  have hs5:Y5.heap.size=w.heap.size+5:=by rw [← hY5,World.size_alloc];omega
  have hk5:∀ g,g < w.heap.size+4→Y5.heap[g]? = Y4.heap[g]?:=fun g hg=>by rw [← hY5];exact (Cd.b1 Y4 _).block g (by omega)
  have p5_4:Y5.heap[w.heap.size+4]? = some (.cells #[.int .i64 x.op,.int .i64 x.a,.int .i64 x.n,.string x.text] 54):=by rw [← hY5,← hs4];exact Cd.new_at _ _
  obtain ⟨Y6,hY6⟩:∃ Y,Y5.alloc (.cells #[.int .i64 0,.slice none 0 0,.slice none 0 0] 110)=Y:=⟨_,rfl⟩
  have hb6:Below w.heap.size w Y6:=by rw [← hY6];exact Cd.Below.new hb5 _
  have hs6:Y6.heap.size=w.heap.size+6:=by rw [← hY6,World.size_alloc];omega
  have hk6:∀ g,g < w.heap.size+5→Y6.heap[g]? = Y5.heap[g]?:=fun g hg=>by rw [← hY6];exact (Cd.b1 Y5 _).block g (by omega)
  have p6_5:Y6.heap[w.heap.size+5]? = some (.cells #[.int .i64 0,.slice none 0 0,.slice none 0 0] 110):=by rw [← hY6,← hs5];exact Cd.new_at _ _
  have n0:Y6.cell? ⟨w.heap.size+5,0,none⟩=some (.int .i64 0):=by rw [Lib.cell_of_heap p6_5];rfl
  have n1:Y6.cell? ⟨w.heap.size+5,1,none⟩=some (.slice none 0 0):=by rw [Lib.cell_of_heap p6_5];rfl
  have n2:Y6.cell? ⟨w.heap.size+5,2,none⟩=some (.slice none 0 0):=by rw [Lib.cell_of_heap p6_5];rfl
  have m0:Y6.frozen? ⟨w.heap.size+5,0,none⟩=false:=by simp [World.frozen?,p6_5]
  have m1:Y6.frozen? ⟨w.heap.size+5,1,none⟩=false:=by simp [World.frozen?,p6_5]
  have m2:Y6.frozen? ⟨w.heap.size+5,2,none⟩=false:=by simp [World.frozen?,p6_5]
  obtain ⟨W,hW⟩:∃ W,(((Y6.setCell ⟨w.heap.size+5,0,none⟩ (.int .i64 2)).setCell ⟨w.heap.size+5,1,none⟩ (.slice none 0 0)).setCell ⟨w.heap.size+5,2,none⟩ (.slice none 0 0))=W:=⟨_,rfl⟩
  have hbW:Below w.heap.size w W:=by rw [← hW];exact Cd.Below.set (Cd.Below.set (Cd.Below.set hb6 5 0 _) 5 1 _) 5 2 _
  have hsW:W.heap.size=w.heap.size+6:=by rw [← hW];simp [hs6]
  have HW:Cd.Bh f x (.slice ca c.length cc) pv (.slice (some ⟨gi,0,none⟩) f.ins.length ic) (.slice sa s.length sc) (.slice (some ⟨gk,0,none⟩) k.length kc) w.heap.size W:=by
    have hkW:∀ g,g < w.heap.size+5→W.heap[g]? = Y6.heap[g]?:=fun g hg=>by
      rw [← hW,Below.heap_setCell _ _ _ _ (by show g≠w.heap.size+5;omega),Below.heap_setCell _ _ _ _ (by show g≠w.heap.size+5;omega),Below.heap_setCell _ _ _ _ (by show g≠w.heap.size+5;omega)]
    have hk4:∀ g,g < w.heap.size+4→W.heap[g]? = Y4.heap[g]?:=fun g hg=>(hkW g (by omega)).trans ((hk6 g (by omega)).trans (hk5 g hg))
    refine ⟨(hk4 _ (by omega)).trans p4_0,(hk4 _ (by omega)).trans p4_1,(hk4 _ (by omega)).trans p4_2,(hk4 _ (by omega)).trans p4_3,(hkW _ (by omega)).trans ((hk6 _ (by omega)).trans p5_4), ?_⟩
    rw [← hW]
    exact heap_setCell_same _ _ _ _ _ _ (heap_setCell_same _ _ _ _ _ _ (heap_setCell_same _ _ _ _ _ _ p6_5))
  have HC6:Hid (Cd.CodeAt W.heap.size W (.slice ca c.length cc) c):=Cd.CodeAt.mono (hC.below hbW) (by omega)
  have HS6:Hid (Cd.IntsAt W.heap.size W (.slice sa s.length sc) s):=(hS.below hbW).mono (by omega)
  have HK6:Hid (Cd.IntsAt W.heap.size W (.slice (some ⟨gk,0,none⟩) k.length kc) k):=(hK.below hbW).mono (by omega)
  obtain ⟨⟨tk,ps,okb⟩,HGE⟩:∃ g,Hid (Cd.gives c f x s k=g):=⟨_,(rfl:Cd.gives c f x s k=_)⟩
  have HG0:Hid (Calls Tryz.prog 65 #[.agg #[.slice ca c.length cc],.agg #[.string f.name,pv,.int .i64 f.result,.int .i64 f.slots,.slice (some ⟨gi,0,none⟩) f.ins.length ic],.agg #[.int .i64 x.op,.int .i64 x.a,.int .i64 x.n,.string x.text],.agg #[.int .i64 1,.slice sa s.length sc,.slice (some ⟨gk,0,none⟩) k.length kc]] W fun e w'=>(∃ v,e = .returned (.tuple #[.int .i64 (tk:Int),v,.bool okb])∧Cd.IntsAt w'.heap.size w' v ps)∧Below W.heap.size W w'):=by
    have h:=Cd.gives_any c f x s k ca (some ⟨gi,0,none⟩) sa (some ⟨gk,0,none⟩) cc ic sc kc pv hcl hil hsl hk600 hkc (.inr ⟨gk,rfl⟩) hsf hpl hok W HC6.out HS6.out HK6.out
    unfold Cd.GivesIs at h
    rw [HGE.out] at h
    exact h
  have HS0:Hid (Cd.IntsAt w.heap.size w (.slice sa s.length sc) s):=hS
  have HK0:Hid (Cd.IntsAt w.heap.size w (.slice (some ⟨gk,0,none⟩) k.length kc) k):=hK
  clear hS hK
  clear hC hI hcell i0 i1 i2 i3 hb5 hb6 hk5 hk6 p4_0 p4_1 p4_2 p4_3 p5_4 p6_5 hb4
  have hatI:(at':Int) < (f.ins.length:Int):=by omega
  have HWc:=HW.c0;obtain ⟨HWf0,HWf1,HWf2,HWf3,HWf4⟩:=HW.fs;have HWs0:=HW.s0;have HWs1:=HW.s1;have HWs2:=HW.s2;have HWi0:=HW.i0;have HWi1:=HW.i1;have HWi2:=HW.i2;have HWi3:=HW.i3
  unfold Cd.fnV Cd.shV
  go_enter Tryz.func49,Tryz.ntmps49
  have hjmp:=Cd.insOk_jump hok
  have hslt:=Cd.insOk_slot hok
  cases okb with
  | false =>
    have HL:Hid (Cd.leaves c f x at' s k = .clash):=Cd.leaves_no HGE.out (.inl rfl)
    go_wp2_with (first | (go_at_call 65;refine HG0.out.mono ?_;rintro e w7 ⟨⟨v,rfl,hv⟩,hb7⟩;have hB7:=(HW.below hb7 (by omega));have hbw7:=hbW.trans (hb7.mono (by omega));have s2:=hB7.s2;have y0:=hB7.i0;have y1:=hB7.i1;have y2:=hB7.i2;have y3:=hB7.i3;obtain ⟨⟨r0,r1,r2⟩,g0,g1,g2⟩:=hB7.r;obtain ⟨bb0,bb1,bb2⟩:=hB7.b))
    exact bodyPost_ret (v:=Cd.shV 2 (.slice none 0 0) (.slice none 0 0)) (by simp [results,Tryz.results49,go_sem,r0,r1,r2,Cd.shV]) rfl ⟨⟨_,rfl,by rw [HL.out];rfl⟩,Cd.Below.set (Cd.Below.set (Cd.Below.set hbw7 3 0 _) 3 1 _) 3 2 _⟩
  | true =>
    by_cases htk:k.length < tk
    · have HL:Hid (Cd.leaves c f x at' s k = .clash):=Cd.leaves_no HGE.out (.inr htk)
      have htkI:(k.length:Int) < (tk:Int):=by omega
      go_wp2_with (first | (go_at_call 65;refine HG0.out.mono ?_;rintro e w7 ⟨⟨v,rfl,hv⟩,hb7⟩;have hB7:=(HW.below hb7 (by omega));have hbw7:=hbW.trans (hb7.mono (by omega));have s2:=hB7.s2;have y0:=hB7.i0;have y1:=hB7.i1;have y2:=hB7.i2;have y3:=hB7.i3;obtain ⟨⟨r0,r1,r2⟩,g0,g1,g2⟩:=hB7.r;obtain ⟨bb0,bb1,bb2⟩:=hB7.b))
      exact bodyPost_ret (v:=Cd.shV 2 (.slice none 0 0) (.slice none 0 0)) (by simp [results,Tryz.results49,go_sem,r0,r1,r2,Cd.shV]) rfl ⟨⟨_,rfl,by rw [HL.out];rfl⟩,Cd.Below.set (Cd.Below.set (Cd.Below.set hbw7 3 0 _) 3 1 _) 3 2 _⟩
    · have htkI:¬ (k.length:Int) < (tk:Int):=by omega
      have HTK:Hid (tk≤k.length):=(by omega:tk≤k.length)
      clear htk
      go_wp2_with (first | (go_at_call 65;refine HG0.out.mono ?_;rintro e w7 ⟨⟨v,rfl,hv⟩,hb7⟩;have hB7:=(HW.below hb7 (by omega));have hbw7:=hbW.trans (hb7.mono (by omega));have s2:=hB7.s2;have y0:=hB7.i0;have y1:=hB7.i1;have y2:=hB7.i2;have y3:=hB7.i3;obtain ⟨⟨r0,r1,r2⟩,g0,g1,g2⟩:=hB7.r;obtain ⟨bb0,bb1,bb2⟩:=hB7.b) | (go_at_call 63;refine (Cd.goes_any x at' (by omega) (fun h=>(hjmp h).1) w7).mono ?_;rintro e w8 ⟨gv,rfl,hgv,hb8⟩))
      obtain ⟨gl,HGL⟩:∃ g,Hid (Cd.goes x at'=g):=⟨_,(rfl:Cd.goes x at'=_)⟩
      have hgl2:gl.length≤2:=by rw [← HGL.out];exact Cd.goes_len x at'
      obtain ⟨ag,cg,rfl,HGC⟩:∃ ag cg,gv = .slice ag gl.length cg∧Hid (∀ j (hj:j < gl.length),∃ g o,ag=some ⟨g,o,none⟩∧w8.cell? ⟨g,o+j,none⟩=some (.int .i64 ((gl[j]:Nat):Int))):=by
        obtain ⟨ag,cg,e,hc⟩:=hgv
        rw [HGL.out] at e hc
        refine ⟨ag,cg,by rw [e];simp [Cd.nats],fun j hj => ?_⟩
        obtain ⟨g,o,e1,_,h2⟩:=hc j (by simpa [Cd.nats] using hj)
        exact ⟨g,o,e1,by rw [h2];simp [Cd.nats]⟩
      have HB8:Hid (Cd.Bh f x (.slice ca c.length cc) pv (.slice (some ⟨gi,0,none⟩) f.ins.length ic) (.slice sa s.length sc) (.slice (some ⟨gk,0,none⟩) k.length kc) w.heap.size w8):=hB7.below hb8 hB7.size
      have HBW8:Hid (Below w.heap.size w w8):=hbw7.trans (hb8.mono hbw7.size)
      have HPS:Hid (Cd.IntsAt w8.heap.size w8 v ps):=(hv.below hb8).mono hb8.size
      have HS8:Hid (Cd.IntsAt w.heap.size w8 (.slice sa s.length sc) s):=(HS0.out).below HBW8.out
      have HK8:Hid (Cd.IntsAt w.heap.size w8 (.slice (some ⟨gk,0,none⟩) k.length kc) k):=(HK0.out).below HBW8.out
      clear hgv hv hB7 hbw7 hb8 hb7 s2 y0 y1 y2 y3 r0 r1 r2 g0 g1 g2 bb0 bb1 bb2
      go_loopw [15] (fun t wr => ∃ j q:Nat,j≤gl.length∧t = .int .i64 (j:Int)∧wr=w8.drewN q∧∀ u (hu:u < gl.length),u < j→gl[u] < f.ins.length) (fun t _=>gl.length - (intOf t).toNat)
      case atStart=>exact ⟨0,0,by omega,rfl,rfl,fun u hu h=>by omega⟩
      case round =>
        obtain ⟨j,q,hj,rfl,hq,hu⟩:=hrel
        have HQ:Hid (wr=w8.drewN q):=hq
        have HBR:Hid (Cd.Bh f x (.slice ca c.length cc) pv (.slice (some ⟨gi,0,none⟩) f.ins.length ic) (.slice sa s.length sc) (.slice (some ⟨gk,0,none⟩) k.length kc) w.heap.size wr):=by rw [hq];exact HB8.out.kept (fun g _=>rfl)
        have HBWR:Hid (Below w.heap.size w wr):=by rw [hq];exact Cd.belowD _ HBW8.out
        clear hq
        have z4:=HBR.out.f4
        by_cases hlt:j < gl.length
        · obtain ⟨gg,og,rfl,d8⟩:=HGC.out j hlt
          have d0:wr.cell? ⟨gg,og+j,none⟩=some (.int .i64 ((gl[j]:Nat):Int)):=by rw [HQ.out];exact d8
          by_cases hin:gl[j] < f.ins.length
          · have HU:Hid (∀ u (hu:u < gl.length),u < j+1→gl[u] < f.ins.length):=fun u hul h=>by
              by_cases e:u=j
              · subst e;exact hin
              · exact hu u hul (by omega)
            have hinI:((gl[j]:Nat):Int) < (f.ins.length:Int):=by omega
            clear hu d8 hin
            generalize gl[j]=zz at *
            go_wp2_with fail
            go_quiet (fail)
            go_wp2_with fail
            go_roundw
            case rel=>exact ⟨j+1,_,by omega,by go_num,by rw [HQ.out,World.drewN_drewN],HU.out⟩
            case measure=>simp [intOf];omega
          · have HL:Hid (Cd.leaves c f x at' s k = .clash):=Cd.leaves_out (j:=j) HGE.out HTK.out (by rw [HGL.out];exact hlt) (by simp only [HGL.out];omega)
            have hinI:¬ ((gl[j]:Nat):Int) < (f.ins.length:Int):=by omega
            obtain ⟨⟨r0,r1,r2⟩,g0,g1,g2⟩:=HBR.out.r;obtain ⟨bb0,bb1,bb2⟩:=HBR.out.b
            clear hu d8 hin
            generalize gl[j]=zz at *
            go_wp2_with fail
            go_quiet (fail)
            go_wp2_with fail
            exact bodyPost_ret (v:=Cd.shV 2 (.slice none 0 0) (.slice none 0 0)) (by simp [results,Tryz.results49,go_sem,r0,r1,r2,Cd.shV]) rfl ⟨⟨_,rfl,by rw [HL.out];rfl⟩,Cd.Below.set (Cd.Below.set (Cd.Below.set (Cd.belowD _ HBWR.out) 3 0 _) 3 1 _) 3 2 _⟩
        · have HAL:Hid (∀ u (hu:u < (Cd.goes x at').length),(Cd.goes x at')[u] < f.ins.length):=fun u hul=>by
            simp only [HGL.out] at hul ⊢
            exact hu u hul (by omega)
          clear hu
          have hgeI:¬ (j:Int) < (gl.length:Int):=by omega
          obtain ⟨i0,hi0,hz0,hz1,hz2⟩:=Cd.int_info
          have hps1:ps.length≤1:=by have h:=Cd.gives_puts c f x s k;rw [HGE.out] at h;exact h
          have HD:Hid (w.heap.size+6≤wr.heap.size):=HBR.out.size
          obtain ⟨V1,hV1⟩:∃ V,wr.alloc (.cells #[] 3)=V:=⟨_,rfl⟩
          have HO1:Hid (V1.ownsRow wr.heap.size 3 1 (.slice (some ⟨wr.heap.size,0,none⟩) 0 0) 0 (Cd.ints [])):=by rw [Hid,← hV1];exact Cd.own_new wr _ (Nat.le_refl _) _
          have hbV1:Below wr.heap.size wr V1:=by rw [← hV1];exact Cd.b1 wr _
          have HSV1:Hid (Cd.IntsAt w.heap.size V1 (.slice sa s.length sc) s):=HS0.out.below (HBWR.out.trans (hbV1.mono HBWR.out.size))
          have s1V1:=(HBR.out.below hbV1 HD.out).s1
          have HPR:Hid (Cd.IntsAt wr.heap.size wr v ps):=by rw [Hid,HQ.out];exact HPS.out
          have HKR:Hid (Cd.IntsAt wr.heap.size wr (.slice (some ⟨gk,0,none⟩) k.length kc) k):=Cd.IntsAt.mono (HK0.out.below HBWR.out) HBWR.out.size
          have hn3:(k.length - tk)+ps.length≤1048576:=by omega
          have HLI:=(show Hid _ from Cd.leaves_in HGE.out HTK.out HAL.out)
          have hlen3:(k.take (k.length - tk)++ps).length=k.length - tk+ps.length:=by rw [List.length_append,List.length_take,Nat.min_eq_left (Nat.sub_le _ _)]
          by_cases h600:600 < k.length - tk+ps.length
          · have HL:Hid (Cd.leaves c f x at' s k = .clash):=by rw [Hid,HLI.out,if_pos (by rw [hlen3];exact h600)]
            have h600I:(600:Int) < ((k.length - tk+ps.length:Nat):Int):=by omega
            go_wp2_with (first | (at_builtin;refine Cd.wp_append_ints rfl _ _ 34 rfl wr.heap.size 3 i0 (.int .i64 0) Tryz.underlying34 hi0 hz0 hz1 hz2 rfl (.slice (some ⟨wr.heap.size,0,none⟩) 0 0) 0 [] rfl HO1.out w.heap.size (.slice sa s.length sc) rfl s HSV1.out (by omega) hbV1.size ?_;intro v1 w9 hown9 hg9;rw [Nat.zero_add,List.nil_append] at hown9;obtain ⟨a1,cap1,hv1⟩:=Cd.rowLen hown9;subst hv1;have hb9:=Cd.Below.grown hbV1 hg9 hbV1.size (fun g hg=>Cd.rowBlk HO1.out hg);obtain ⟨V2,hV2⟩:∃ V,w9.alloc (.cells #[.int .i64 1,.slice a1 s.length cap1,.slice none 0 0] 110)=V:=⟨_,rfl⟩;have hO2:=(show Cd.Bo wr w9.heap.size s (.slice a1 s.length cap1) (.slice none 0 0) V2 from (by rw [← hV2];exact Cd.Bo.new hb9 hown9));obtain ⟨⟨t0,t1,t2⟩,u0,u1,u2⟩:=hO2.o;obtain ⟨V2s,hV2s⟩:∃ V,V2.setCell ⟨w9.heap.size,2,none⟩ (.slice none 0 0)=V:=⟨_,rfl⟩;have hO2s:=(show Cd.Bo wr w9.heap.size s (.slice a1 s.length cap1) (.slice none 0 0) V2s from (by rw [← hV2s];exact hO2.set _));obtain ⟨V3,hV3⟩:∃ V,V2s.alloc (.cells #[] 3)=V:=⟨_,rfl⟩;have hO3:=(show Cd.Bo wr w9.heap.size s (.slice a1 s.length cap1) (.slice none 0 0) V3 from (by rw [← hV3];exact hO2s.alloc _));have s2V3:=(HBR.out.below hO3.since HD.out).s2;have HO3:=(show Hid (V3.ownsRow (w9.heap.size+1) 3 1 (.slice (some ⟨V2s.heap.size,0,none⟩) 0 0) 0 (Cd.ints [])) from (by rw [Hid,← hV3];exact Cd.own_new V2s _ hO2s.lt _))) | (at_builtin;refine Cd.wp_append_ints rfl _ _ 34 rfl (w9.heap.size+1) 3 i0 (.int .i64 0) Tryz.underlying34 hi0 hz0 hz1 hz2 rfl (.slice (some ⟨V2s.heap.size,0,none⟩) 0 0) 0 [] rfl HO3.out wr.heap.size (.slice (some ⟨gk,0,none⟩) (k.length - tk) kc) rfl (k.take (k.length - tk)) (Cd.IntsAt.front (HKR.out.below hO3.since) (by omega)) (by simp only [List.length_take];omega) hO3.lt ?_;intro v2 w10 hown10 hg10;rw [Nat.zero_add,List.nil_append,List.length_take,Nat.min_eq_left (Nat.sub_le _ _)] at hown10;have hO10:=hO3.grown hg10 (fun g hg=>Cd.rowBlk HO3.out (by omega))) | (at_builtin;refine Cd.wp_append_ints rfl _ _ 34 rfl (w9.heap.size+1) 3 i0 (.int .i64 0) Tryz.underlying34 hi0 hz0 hz1 hz2 rfl v2 (k.length - tk) (k.take (k.length - tk)) rfl hown10 wr.heap.size v rfl ps (HPR.out.below hO10.since) hn3 hO10.lt ?_;intro v3 w11 hown11 hg11;obtain ⟨a3,cap3,hv3⟩:=Cd.rowLen hown11;subst hv3;have hO11:=hO10.grown hg11 (fun g hg=>Cd.rowBlk hown10 (by omega));obtain ⟨⟨m0,m1,m2⟩,n0,n1,n2⟩:=hO11.o;obtain ⟨X,hX⟩:∃ V,w11.setCell ⟨w9.heap.size,2,none⟩ (.slice a3 (k.length - tk+ps.length) cap3)=V:=⟨_,rfl⟩;have hOX:=(show Cd.Bo wr w9.heap.size s (.slice a1 s.length cap1) (.slice a3 (k.length - tk+ps.length) cap3) X from (by rw [← hX];exact hO11.set _));have hownX:=(show X.ownsRow (w9.heap.size+1) 3 1 (.slice a3 (k.length - tk+ps.length) cap3) (k.length - tk+ps.length) (Cd.ints (k.take (k.length - tk)++ps)) from (by rw [← hX];exact ownsRow_setCell_other (a:=⟨w9.heap.size,2,none⟩) hown11 (Cd.rowBlk hown11 (by show w9.heap.size < _;omega)) _));obtain ⟨⟨x0,x1,x2⟩,-,-,-⟩:=hOX.o;have hBX:=HBR.out.below hOX.since HD.out;have z0:=hBX.i0;have z1:=hBX.i1;have z2:=hBX.s2;obtain ⟨bb0,bb1,bb2⟩:=hBX.b;obtain ⟨⟨r0,r1,r2⟩,g0,g1,g2⟩:=hBX.r))
            exact bodyPost_ret (v:=Cd.shV 2 (.slice none 0 0) (.slice none 0 0)) (by simp [results,Tryz.results49,go_sem,r0,r1,r2,Cd.shV]) rfl ⟨⟨_,rfl,by rw [HL.out];rfl⟩,Cd.Below.set (Cd.Below.set (Cd.Below.set (HBWR.out.trans (hOX.since.mono HBWR.out.size)) 3 0 _) 3 1 _) 3 2 _⟩
          · have h600I:¬ (600:Int) < ((k.length - tk+ps.length:Nat):Int):=by omega
            by_cases h3:x.op=3
            · obtain ⟨aN,haN,haE⟩:∃ a:Nat,a < s.length∧x.a=(a:Int):=⟨x.a.toNat,by have:=hslt h3;omega,by have:=hslt h3;omega⟩
              have hsp:0 < s.length:=by omega
              have hkp:0 < k.length:=by
                have h:=HGE.out
                unfold Cd.gives at h
                rw [if_neg (by omega),if_neg (by omega),if_pos (.inl h3)] at h
                simpa using congrArg (fun p=>p.2.2) h
              have HL:Hid (Cd.leaves c f x at' s k = .known (s.set aN (Cd.top k)) (k.take (k.length - tk)++ps)):=by
                rw [Hid,HLI.out,if_neg (by rw [hlen3];exact h600),if_pos h3,haE];rfl
              obtain ⟨kl,HKLE⟩:∃ n,Hid (k.length - 1=n):=⟨_,(rfl:k.length - 1=_)⟩
              have HKL:Hid (∀ X,Below wr.heap.size wr X→X.cell? ⟨gk,kl,none⟩=some (.int .i64 (Cd.top k))):=fun X hX=>by
                rw [← HKLE.out]
                obtain ⟨a',cp,e,hc⟩:=HKR.out.below hX
                injection e with e1
                subst e1
                obtain ⟨g,o,e2,_,h2⟩:=hc (k.length - 1) (by omega)
                injection e2 with e2;injection e2 with e3 e4
                subst e3 e4
                rw [Nat.zero_add] at h2
                rw [h2,Cd.top,List.getLast?_eq_getElem?,List.getElem?_eq_getElem (by omega)];rfl
              have hw1:wrap64 ((k.length:Int) - 1)=(kl:Int):=by have:=HKLE.out;rw [IntWalk.wrap64_in _ (by omega)];omega
              have hkI:(kl:Int) < (k.length:Int):=by have:=HKLE.out;omega
              have hkN:kl < k.length:=by omega
              have HA4:Hid ((k.length:Int) - 1=(kl:Int)):=by have:=HKLE.out;rw [Hid];omega
              have HW2:Hid (wrap64 (kl:Int)=(kl:Int)):=IntWalk.wrap64_in _ (by omega)
              have h3b:(x.op == 3)=true:=by simp [h3]
              clear h3
              obtain ⟨tp,HTP⟩:∃ t,Hid (Cd.top k=t):=⟨_,(rfl:Cd.top k=_)⟩
              rw [HTP.out] at HL HKL
              go_wp2_with (first | (at_builtin;refine Cd.wp_append_ints rfl _ _ 34 rfl wr.heap.size 3 i0 (.int .i64 0) Tryz.underlying34 hi0 hz0 hz1 hz2 rfl (.slice (some ⟨wr.heap.size,0,none⟩) 0 0) 0 [] rfl HO1.out w.heap.size (.slice sa s.length sc) rfl s HSV1.out (by omega) hbV1.size ?_;intro v1 w9 hown9 hg9;rw [Nat.zero_add,List.nil_append] at hown9;obtain ⟨g1,cap1,hv1⟩:=Cd.rowForm hown9 hsp;subst hv1;have hb9:=Cd.Below.grown hbV1 hg9 hbV1.size (fun g hg=>Cd.rowBlk HO1.out hg);obtain ⟨V2,hV2⟩:∃ V,w9.alloc (.cells #[.int .i64 1,.slice (some ⟨g1,0,none⟩) s.length cap1,.slice none 0 0] 110)=V:=⟨_,rfl⟩;have hO2:=(show Cd.Bo wr w9.heap.size s (.slice (some ⟨g1,0,none⟩) s.length cap1) (.slice none 0 0) V2 from (by rw [← hV2];exact Cd.Bo.new hb9 hown9));obtain ⟨⟨t0,t1,t2⟩,u0,u1,u2⟩:=hO2.o;obtain ⟨V2s,hV2s⟩:∃ V,V2.setCell ⟨w9.heap.size,2,none⟩ (.slice none 0 0)=V:=⟨_,rfl⟩;have hO2s:=(show Cd.Bo wr w9.heap.size s (.slice (some ⟨g1,0,none⟩) s.length cap1) (.slice none 0 0) V2s from (by rw [← hV2s];exact hO2.set _));obtain ⟨V3,hV3⟩:∃ V,V2s.alloc (.cells #[] 3)=V:=⟨_,rfl⟩;have hO3:=(show Cd.Bo wr w9.heap.size s (.slice (some ⟨g1,0,none⟩) s.length cap1) (.slice none 0 0) V3 from (by rw [← hV3];exact hO2s.alloc _));have s2V3:=(HBR.out.below hO3.since HD.out).s2;have HO3:=(show Hid (V3.ownsRow (w9.heap.size+1) 3 1 (.slice (some ⟨V2s.heap.size,0,none⟩) 0 0) 0 (Cd.ints [])) from (by rw [Hid,← hV3];exact Cd.own_new V2s _ hO2s.lt _))) | (at_builtin;refine Cd.wp_append_ints rfl _ _ 34 rfl (w9.heap.size+1) 3 i0 (.int .i64 0) Tryz.underlying34 hi0 hz0 hz1 hz2 rfl (.slice (some ⟨V2s.heap.size,0,none⟩) 0 0) 0 [] rfl HO3.out wr.heap.size (.slice (some ⟨gk,0,none⟩) (k.length - tk) kc) rfl (k.take (k.length - tk)) (Cd.IntsAt.front (HKR.out.below hO3.since) (by omega)) (by simp only [List.length_take];omega) hO3.lt ?_;intro v2 w10 hown10 hg10;rw [Nat.zero_add,List.nil_append,List.length_take,Nat.min_eq_left (Nat.sub_le _ _)] at hown10;have hO10:=hO3.grown hg10 (fun g hg=>Cd.rowBlk HO3.out (by omega))) | (at_builtin;refine Cd.wp_append_ints rfl _ _ 34 rfl (w9.heap.size+1) 3 i0 (.int .i64 0) Tryz.underlying34 hi0 hz0 hz1 hz2 rfl v2 (k.length - tk) (k.take (k.length - tk)) rfl hown10 wr.heap.size v rfl ps (HPR.out.below hO10.since) hn3 hO10.lt ?_;intro v3 w11 hown11 hg11;obtain ⟨a3,cap3,hv3⟩:=Cd.rowLen hown11;subst hv3;have hO11:=hO10.grown hg11 (fun g hg=>Cd.rowBlk hown10 (by omega));obtain ⟨⟨m0,m1,m2⟩,n0,n1,n2⟩:=hO11.o;obtain ⟨X,hX⟩:∃ V,w11.setCell ⟨w9.heap.size,2,none⟩ (.slice a3 (k.length - tk+ps.length) cap3)=V:=⟨_,rfl⟩;have hOX:=(show Cd.Bo wr w9.heap.size s (.slice (some ⟨g1,0,none⟩) s.length cap1) (.slice a3 (k.length - tk+ps.length) cap3) X from (by rw [← hX];exact hO11.set _));have hownX:=(show X.ownsRow (w9.heap.size+1) 3 1 (.slice a3 (k.length - tk+ps.length) cap3) (k.length - tk+ps.length) (Cd.ints (k.take (k.length - tk)++ps)) from (by rw [← hX];exact ownsRow_setCell_other (a:=⟨w9.heap.size,2,none⟩) hown11 (Cd.rowBlk hown11 (by show w9.heap.size < _;omega)) _));obtain ⟨⟨x0,x1,x2⟩,-,-,-⟩:=hOX.o;have hBX:=HBR.out.below hOX.since HD.out;have z0:=hBX.i0;have z1:=hBX.i1;have z2:=hBX.s2;obtain ⟨bb0,bb1,bb2⟩:=hBX.b;obtain ⟨⟨r0,r1,r2⟩,fr0,fr1,fr2⟩:=hBX.r;obtain ⟨sc0,sf0⟩:=Cd.row_cell hOX.own aN haN;have kc0:=HKL.out X hOX.since;rw [haE] at z1))
              have haI:(aN:Int) < (s.length:Int):=by omega
              have hwk:IntKind.i64.wrap ((k.length:Int) - 1)=(kl:Int):=(IntWalk.i64_left _).trans hw1
              have hOS:=hOX.store aN tp rfl
              obtain ⟨⟨y0,y1,y2⟩,-,-,-⟩:=hOS.o
              have yB:=HBR.out.below hOS.since HD.out
              have y3:=yB.i1;rw [haE] at y3
              have y4:=yB.s2
              have y5:=HKL.out _ hOS.since
              go_region_held (fun w'=>w'.cell? ⟨w9.heap.size,1,none⟩=some (.slice (some ⟨g1,0,none⟩) s.length cap1)∧w'.cell? ⟨w.heap.size+4,1,none⟩=some (.int .i64 (aN:Int))∧w'.cell? ⟨w.heap.size+2,2,none⟩=some (.slice (some ⟨gk,0,none⟩) k.length kc)∧w'.cell? ⟨gk,kl,none⟩=some (.int .i64 tp)) (first | exact ⟨x1,z1,z2,kc0⟩ | exact ⟨y1,y3,y4,y5⟩) (fail)
              all_goals
                obtain ⟨Xd,hXd⟩:∃ V,(X.setCell ⟨g1,aN,none⟩ (.int .i64 tp)).drew=V:=⟨_,rfl⟩
                have hOd:Cd.Bo wr w9.heap.size (s.set aN tp) (.slice (some ⟨g1,0,none⟩) s.length cap1) (.slice a3 (k.length - tk+ps.length) cap3) Xd:=by rw [← hXd];exact ⟨hOS.since.drew,hOS.le,hOS.out,hOS.own.drew,hOS.low⟩
                have hownd:Xd.ownsRow (w9.heap.size+1) 3 1 (.slice a3 (k.length - tk+ps.length) cap3) (k.length - tk+ps.length) (Cd.ints (k.take (k.length - tk)++ps)):=by
                  rw [← hXd]
                  exact (ownsRow_setCell_other (a:=⟨g1,aN,none⟩) hownX (Cd.rowBlk hownX (by show g1 < _;exact Nat.lt_succ_of_lt (Nat.lt_of_not_le (fun hle=>hOX.low g1 hle rfl)))) _).drew
                obtain ⟨⟨q0,q1,q2⟩,-,-,-⟩:=hOd.o
                have hBd:=HBR.out.below hOd.since HD.out
                obtain ⟨⟨rr0,rr1,rr2⟩,fd0,fd1,fd2⟩:=hBd.r
                go_wp2_with fail
                refine bodyPost_ret (v:=Cd.shV 1 (.slice (some ⟨g1,0,none⟩) s.length cap1) (.slice a3 (k.length - tk+ps.length) cap3)) (by simp [results,Tryz.results49,go_sem,rr0,rr1,rr2,Cd.shV]) rfl ⟨⟨_,rfl, ?_⟩,Cd.Below.set (Cd.Below.set (Cd.Below.set (HBWR.out.trans (hOd.since.mono HBWR.out.size)) 3 0 _) 3 1 _) 3 2 _⟩
                rw [HL.out]
                exact hOd.done (by rw [hlen3];exact hownd) (w.heap.size+3) (by have:=HD.out;omega) _ _ _
            · have h3b:(x.op == 3)=false:=by simp [h3]
              have HL:Hid (Cd.leaves c f x at' s k = .known s (k.take (k.length - tk)++ps)):=by
                rw [Hid,HLI.out,if_neg (by rw [hlen3];exact h600),if_neg h3]
              clear h3
              go_wp2_with (first | (at_builtin;refine Cd.wp_append_ints rfl _ _ 34 rfl wr.heap.size 3 i0 (.int .i64 0) Tryz.underlying34 hi0 hz0 hz1 hz2 rfl (.slice (some ⟨wr.heap.size,0,none⟩) 0 0) 0 [] rfl HO1.out w.heap.size (.slice sa s.length sc) rfl s HSV1.out (by omega) hbV1.size ?_;intro v1 w9 hown9 hg9;rw [Nat.zero_add,List.nil_append] at hown9;obtain ⟨a1,cap1,hv1⟩:=Cd.rowLen hown9;subst hv1;have hb9:=Cd.Below.grown hbV1 hg9 hbV1.size (fun g hg=>Cd.rowBlk HO1.out hg);obtain ⟨V2,hV2⟩:∃ V,w9.alloc (.cells #[.int .i64 1,.slice a1 s.length cap1,.slice none 0 0] 110)=V:=⟨_,rfl⟩;have hO2:=(show Cd.Bo wr w9.heap.size s (.slice a1 s.length cap1) (.slice none 0 0) V2 from (by rw [← hV2];exact Cd.Bo.new hb9 hown9));obtain ⟨⟨t0,t1,t2⟩,u0,u1,u2⟩:=hO2.o;obtain ⟨V2s,hV2s⟩:∃ V,V2.setCell ⟨w9.heap.size,2,none⟩ (.slice none 0 0)=V:=⟨_,rfl⟩;have hO2s:=(show Cd.Bo wr w9.heap.size s (.slice a1 s.length cap1) (.slice none 0 0) V2s from (by rw [← hV2s];exact hO2.set _));obtain ⟨V3,hV3⟩:∃ V,V2s.alloc (.cells #[] 3)=V:=⟨_,rfl⟩;have hO3:=(show Cd.Bo wr w9.heap.size s (.slice a1 s.length cap1) (.slice none 0 0) V3 from (by rw [← hV3];exact hO2s.alloc _));have s2V3:=(HBR.out.below hO3.since HD.out).s2;have HO3:=(show Hid (V3.ownsRow (w9.heap.size+1) 3 1 (.slice (some ⟨V2s.heap.size,0,none⟩) 0 0) 0 (Cd.ints [])) from (by rw [Hid,← hV3];exact Cd.own_new V2s _ hO2s.lt _))) | (at_builtin;refine Cd.wp_append_ints rfl _ _ 34 rfl (w9.heap.size+1) 3 i0 (.int .i64 0) Tryz.underlying34 hi0 hz0 hz1 hz2 rfl (.slice (some ⟨V2s.heap.size,0,none⟩) 0 0) 0 [] rfl HO3.out wr.heap.size (.slice (some ⟨gk,0,none⟩) (k.length - tk) kc) rfl (k.take (k.length - tk)) (Cd.IntsAt.front (HKR.out.below hO3.since) (by omega)) (by simp only [List.length_take];omega) hO3.lt ?_;intro v2 w10 hown10 hg10;rw [Nat.zero_add,List.nil_append,List.length_take,Nat.min_eq_left (Nat.sub_le _ _)] at hown10;have hO10:=hO3.grown hg10 (fun g hg=>Cd.rowBlk HO3.out (by omega))) | (at_builtin;refine Cd.wp_append_ints rfl _ _ 34 rfl (w9.heap.size+1) 3 i0 (.int .i64 0) Tryz.underlying34 hi0 hz0 hz1 hz2 rfl v2 (k.length - tk) (k.take (k.length - tk)) rfl hown10 wr.heap.size v rfl ps (HPR.out.below hO10.since) hn3 hO10.lt ?_;intro v3 w11 hown11 hg11;obtain ⟨a3,cap3,hv3⟩:=Cd.rowLen hown11;subst hv3;have hO11:=hO10.grown hg11 (fun g hg=>Cd.rowBlk hown10 (by omega));obtain ⟨⟨m0,m1,m2⟩,n0,n1,n2⟩:=hO11.o;obtain ⟨X,hX⟩:∃ V,w11.setCell ⟨w9.heap.size,2,none⟩ (.slice a3 (k.length - tk+ps.length) cap3)=V:=⟨_,rfl⟩;have hOX:=(show Cd.Bo wr w9.heap.size s (.slice a1 s.length cap1) (.slice a3 (k.length - tk+ps.length) cap3) X from (by rw [← hX];exact hO11.set _));have hownX:=(show X.ownsRow (w9.heap.size+1) 3 1 (.slice a3 (k.length - tk+ps.length) cap3) (k.length - tk+ps.length) (Cd.ints (k.take (k.length - tk)++ps)) from (by rw [← hX];exact ownsRow_setCell_other (a:=⟨w9.heap.size,2,none⟩) hown11 (Cd.rowBlk hown11 (by show w9.heap.size < _;omega)) _));obtain ⟨⟨x0,x1,x2⟩,-,-,-⟩:=hOX.o;have hBX:=HBR.out.below hOX.since HD.out;have z0:=hBX.i0;have z1:=hBX.i1;have z2:=hBX.s2;obtain ⟨bb0,bb1,bb2⟩:=hBX.b;obtain ⟨⟨r0,r1,r2⟩,g0,g1,g2⟩:=hBX.r))
              refine bodyPost_ret (v:=Cd.shV 1 (.slice a1 s.length cap1) (.slice a3 (k.length - tk+ps.length) cap3)) (by simp [results,Tryz.results49,go_sem,r0,r1,r2,Cd.shV]) rfl ⟨⟨_,rfl, ?_⟩,Cd.Below.set (Cd.Below.set (Cd.Below.set (HBWR.out.trans (hOX.since.mono HBWR.out.size)) 3 0 _) 3 1 _) 3 2 _⟩
              rw [HL.out]
              exact hOX.done (by rw [hlen3];exact hownX) (w.heap.size+3) (by have:=HD.out;omega) _ _ _
end Go.Proofs.YtbkhedpabfanoaaGreatDoor
