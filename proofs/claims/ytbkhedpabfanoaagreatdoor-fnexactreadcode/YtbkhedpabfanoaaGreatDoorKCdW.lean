import Derived.Test.YtbkhedpabfanoaaGreatDoorKCdU
namespace Go.Proofs.YtbkhedpabfanoaaGreatDoor
open Go.RowKit

structure Cd.Rd (Z:Cd.Sys) (X0 X:List Cd.Sh) (ag:Bool) (i:Nat):Prop where
  low:Cd.Low Z X
  stk:∀ u,Cd.stk (Cd.at' X u)
  first:Cd.le Z.first (Cd.at' X 0)
  sum:Cd.sum Z.m X0≤Cd.sum Z.m X
  more:ag=true→Cd.sum Z.m X0 < Cd.sum Z.m X
  same:ag=false→X=X0∧∀ u,u < i→Cd.at' X u ≠ .none→∀ v ∈ Z.goes u,v < Z.n→Cd.le (Z.left u (Cd.at' X u)) (Cd.at' X v)
structure Cd.Rk (Z:Cd.Sys) (X0 X:List Cd.Sh) (ag:Bool) (i:Nat) (b:Cd.Sh) (gl:List Nat) (k:Nat):Prop where
  rd:Cd.Rd Z X0 X ag i
  blow:∀ v ∈ gl,v < Z.n→∀ Y,Cd.Fix Z Y→Cd.le b (Cd.at' Y v)
  blen:Cd.len Z.m b
  bstk:Cd.stk b
  all:ag=false→(Cd.at' X i ≠ .none→b=Z.left i (Cd.at' X i))∧∀ j (hj:j < gl.length),j < k→gl[j] < Z.n→Cd.le b (Cd.at' X gl[j])
theorem Cd.Rk.start {Z:Cd.Sys} {X0 X:List Cd.Sh} {ag:Bool} {i:Nat} (h:Cd.Rd Z X0 X ag i) (hi:i < Z.n) (hn:Cd.at' X i ≠ .none) (hb:Cd.stk (Z.left i (Cd.at' X i))):Cd.Rk Z X0 X ag i (Z.left i (Cd.at' X i)) (Z.goes i) 0 :=
  ⟨h,fun v hv hvn Y hY=>h.low.leaves i hi hn v hvn hv Y hY,Z.keep i _ (h.low.lens i),hb,fun _=>⟨fun _=>rfl,fun j hj hk=>by omega⟩⟩
theorem Cd.set_self (X:List Cd.Sh) (v:Nat) (hv:v < X.length):X.set v (Cd.at' X v)=X:=by
  unfold Cd.at'
  rw [List.getD_eq_getElem?_getD,List.getElem?_eq_getElem hv]
  exact List.set_getElem_self hv
theorem Cd.Rk.step {Z:Cd.Sys} {X0 X:List Cd.Sh} {ag:Bool} {i:Nat} {b:Cd.Sh} {gl:List Nat} {k:Nat} (h:Cd.Rk Z X0 X ag i b gl k) (hk:k < gl.length) (hv:gl[k] < Z.n):Cd.Rk Z X0 (X.set gl[k] (Cd.join (Cd.at' X gl[k]) b)) (ag || decide (Cd.join (Cd.at' X gl[k]) b≠Cd.at' X gl[k])) i b gl (k+1):=by
  have hvl:gl[k] < X.length:=by rw [h.rd.low.size];exact hv
  have hl:=Cd.join_left (h.rd.low.lens gl[k]) h.blen
  have hr:=Cd.join_right (h.rd.low.lens gl[k]) h.blen
  have hlow:=h.rd.low.come gl[k] hv b h.blen (h.blow gl[k] (List.getElem_mem hk) hv)
  have hht:=Cd.height_mono (h.rd.low.lens gl[k]) (Cd.join_len (h.rd.low.lens gl[k]) h.blen) hl
  have hsum:=Cd.sum_set Z.m X gl[k] (Cd.join (Cd.at' X gl[k]) b) hvl
  by_cases he:Cd.join (Cd.at' X gl[k]) b=Cd.at' X gl[k]
  · have hX:X.set gl[k] (Cd.join (Cd.at' X gl[k]) b)=X:=by rw [he];exact Cd.set_self X _ hvl
    have hd:(ag || decide (Cd.join (Cd.at' X gl[k]) b≠Cd.at' X gl[k]))=ag:=by simp [he]
    rw [hX,hd]
    refine ⟨h.rd,h.blow,h.blen,h.bstk,fun ha=>⟨(h.all ha).1,fun j hj hjk hjn => ?_⟩⟩
    by_cases e:j=k
    · subst e;rw [he] at hr;exact hr
    · exact (h.all ha).2 j hj (by omega) hjn
  · have hlt:=hht.2 (fun e=>he e.symm)
    have hd:(ag || decide (Cd.join (Cd.at' X gl[k]) b≠Cd.at' X gl[k]))=true:=by simp [he]
    rw [hd]
    refine ⟨⟨hlow,fun u => ?_, ?_, ?_,fun _ => ?_,fun ha=>by simp at ha⟩,h.blow,h.blen,h.bstk,fun ha=>by simp at ha⟩
    · rw [Cd.at_set _ _ _ _ hvl]
      by_cases e:u=gl[k]
      · rw [if_pos e];exact Cd.join_stk (h.rd.stk _) h.bstk
      · rw [if_neg e];exact h.rd.stk u
    · rw [Cd.at_set _ _ _ _ hvl]
      by_cases e:0=gl[k]
      · rw [if_pos e,← e];rw [← e] at hl;exact h.rd.first.trans hl
      · rw [if_neg e];exact h.rd.first
    · have:=h.rd.sum;omega
    · have:=h.rd.sum;omega
theorem Cd.Rk.skip {Z:Cd.Sys} {X0 X:List Cd.Sh} {ag:Bool} {i:Nat} {b:Cd.Sh} {gl:List Nat} {k:Nat} (h:Cd.Rk Z X0 X ag i b gl k) (hk:k < gl.length) (hv:¬ gl[k] < Z.n):Cd.Rk Z X0 X ag i b gl (k+1) :=
  ⟨h.rd,h.blow,h.blen,h.bstk,fun ha=>⟨(h.all ha).1,fun j hj hjk hjn=>by
    by_cases e:j=k
    · subst e;exact (hv hjn).elim
    · exact (h.all ha).2 j hj (by omega) hjn⟩⟩
theorem Cd.Rk.done {Z:Cd.Sys} {X0 X:List Cd.Sh} {ag:Bool} {i:Nat} {b:Cd.Sh} {k:Nat} (h:Cd.Rk Z X0 X ag i b (Z.goes i) k) (hk:(Z.goes i).length≤k):Cd.Rd Z X0 X ag (i+1) :=
  ⟨h.rd.low,h.rd.stk,h.rd.first,h.rd.sum,h.rd.more,fun ha=>⟨(h.rd.same ha).1,fun u hu hn v hv hvn=>by
    by_cases e:u=i
    · subst e
      rw [← (h.all ha).1 hn]
      obtain ⟨j,hj,rfl⟩:=List.getElem_of_mem hv
      exact (h.all ha).2 j hj (by omega) hvn
    · exact (h.rd.same ha).2 u (by omega) hn v hv hvn⟩⟩
theorem Cd.Rd.none {Z:Cd.Sys} {X0 X:List Cd.Sh} {ag:Bool} {i:Nat} (h:Cd.Rd Z X0 X ag i) (hn:Cd.at' X i = .none):Cd.Rd Z X0 X ag (i+1) :=
  ⟨h.low,h.stk,h.first,h.sum,h.more,fun ha=>⟨(h.same ha).1,fun u hu hx v hv hvn=>by
    by_cases e:u=i
    · subst e;exact (hx hn).elim
    · exact (h.same ha).2 u (by omega) hx v hv hvn⟩⟩
theorem Cd.Rd.fix {Z:Cd.Sys} {X0 X:List Cd.Sh} {i:Nat} (h:Cd.Rd Z X0 X false i) (hi:Z.n≤i):Cd.Fix Z X :=
  ⟨h.low.size,fun u hu hn v hv hvn=>(h.same rfl).2 u (by omega) hn v hv hvn,fun _=>h.first⟩
theorem Cd.Rd.again {Z:Cd.Sys} {X0 X:List Cd.Sh} {ag:Bool} {i:Nat} (h:Cd.Rd Z X0 X ag i):Cd.Rd Z X X false 0 :=
  ⟨h.low,h.stk,h.first,Nat.le_refl _,fun e=>by simp at e,fun _=>⟨rfl,fun u hu=>by omega⟩⟩
theorem Cd.Rd.begin (Z:Cd.Sys) (hn:0 < Z.n) (hs:Cd.stk Z.first):Cd.Rd Z ((List.replicate Z.n Cd.Sh.none).set 0 Z.first) ((List.replicate Z.n Cd.Sh.none).set 0 Z.first) false 0:=by
  have hl:(List.replicate Z.n Cd.Sh.none).length=Z.n:=List.length_replicate
  have h0:∀ u,Cd.at' (List.replicate Z.n Cd.Sh.none) u = .none:=fun u=>by
    unfold Cd.at'
    rw [List.getD_eq_getElem?_getD,List.getElem?_replicate]
    by_cases e:u < Z.n <;> simp [e]
  have hlow:=(Cd.Low.start Z).come 0 hn Z.first Z.flen (fun Y hY=>hY.first hn)
  have hj:Cd.join (Cd.at' (List.replicate Z.n Cd.Sh.none) 0) Z.first=Z.first:=by
    rw [h0]
    cases Z.first <;> rfl
  rw [hj] at hlow
  refine ⟨hlow,fun u => ?_, ?_,Nat.le_refl _,fun e=>by simp at e,fun _=>⟨rfl,fun u hu=>by omega⟩⟩
  · rw [Cd.at_set _ _ _ _ (by omega)]
    by_cases e:u=0
    · rw [if_pos e];exact hs
    · rw [if_neg e,h0];trivial
  · rw [Cd.at_set _ _ _ _ (by omega),if_pos rfl];exact Cd.le.refl _
theorem Cd.Rd.top {Z:Cd.Sys} {X0 X:List Cd.Sh} {ag:Bool} {i:Nat} (h:Cd.Rd Z X0 X ag i):Cd.sum Z.m X≤Z.n * (Z.m+2):=by
  have:=Cd.sum_le Z.m X h.low.lens
  rw [h.low.size] at this;exact this
end Go.Proofs.YtbkhedpabfanoaaGreatDoor
namespace Go.Proofs.YtbkhedpabfanoaaGreatDoor
open Go.RowKit

theorem Cd.ShAt.off {B:Nat} {W:World} {st:Int} {sv kv:Value} {g:Nat} {cur:Array Value} {fr:Nat × Nat} (hg:W.heap[g]? = some (.cells cur 110 fr)):∀ {sh:Cd.Sh},Cd.ShAt B W (Cd.shV st sv kv) sh→∀ k,(sv.ownBlock=some k∨kv.ownBlock=some k)→k≠g
  | .none,h,k,hk=>by
    have h':Cd.shV st sv kv=Cd.shV 0 (.slice none 0 0) (.slice none 0 0):=h
    unfold Cd.shV at h'
    injection h' with h'
    simp at h'
    obtain ⟨_,rfl,rfl⟩:=h'
    simp [Value.ownBlock] at hk
  | .clash,h,k,hk=>by
    have h':Cd.shV st sv kv=Cd.shV 2 (.slice none 0 0) (.slice none 0 0):=h
    unfold Cd.shV at h'
    injection h' with h'
    simp at h'
    obtain ⟨_,rfl,rfl⟩:=h'
    simp [Value.ownBlock] at hk
  | .known s l,h,k,hk=>by
    obtain ⟨sa,sc,ka,kc,e,_,_,_,_,h6,h7⟩:=h
    unfold Cd.shV at e
    injection e with e
    simp at e
    obtain ⟨_,rfl,rfl⟩:=e
    intro ek
    subst ek
    rcases hk with hk | hk
    · obtain ⟨_,c2,f2,h2⟩:=h6 _ hk
      rw [hg] at h2
      injection h2 with h2;injection h2 with _ h2;exact absurd h2 (by decide)
    · obtain ⟨_,c2,f2,h2⟩:=h7 _ hk
      rw [hg] at h2
      injection h2 with h2;injection h2 with _ h2;exact absurd h2 (by decide)
structure Cd.ShsAt (g:Nat) (W:World) (X:List Cd.Sh):Prop where
  row:∃ cur,W.heap[g]? = some (.cells cur 110)∧cur.size=X.length * 3
  each:∀ u (hu:u < X.length),∃ st sa sl sc ka kl kc,W.cell? ⟨g,u * 3,none⟩=some (.int .i64 st)∧W.cell? ⟨g,u * 3+1,none⟩=some (.slice sa sl sc)∧W.cell? ⟨g,u * 3+2,none⟩=some (.slice ka kl kc)∧Cd.ShAt W.heap.size W (Cd.shV st (.slice sa sl sc) (.slice ka kl kc)) X[u]
theorem Cd.ShsAt.lt {g:Nat} {W:World} {X:List Cd.Sh} (h:Cd.ShsAt g W X):g < W.heap.size:=by
  obtain ⟨cur,h1,_⟩:=h.row
  exact (Array.getElem?_eq_some_iff.1 h1).1
theorem Cd.ShsAt.below {g:Nat} {W W':World} {X:List Cd.Sh} (h:Cd.ShsAt g W X) (hb:Below W.heap.size W W'):Cd.ShsAt g W' X:=by
  have hl:=h.lt
  refine ⟨?_,fun u hu => ?_⟩
  · obtain ⟨cur,h1,h2⟩:=h.row
    exact ⟨cur,(hb.block g hl).trans h1,h2⟩
  · obtain ⟨st,sa,sl,sc,ka,kl,kc,h1,h2,h3,h4⟩:=h.each u hu
    exact ⟨st,sa,sl,sc,ka,kl,kc,(hb.cell (p:=⟨g,u * 3,none⟩) hl).trans h1,(hb.cell (p:=⟨g,u * 3+1,none⟩) hl).trans h2,(hb.cell (p:=⟨g,u * 3+2,none⟩) hl).trans h3,(h4.below hb).mono hb.size⟩
theorem Cd.ShsAt.froz {g:Nat} {W:World} {X:List Cd.Sh} (h:Cd.ShsAt g W X) (j:Nat):W.frozen? ⟨g,j,none⟩=false:=by
  obtain ⟨cur,h1,_⟩:=h.row
  simp [World.frozen?,h1]
def Cd.set3 (W:World) (g v:Nat) (a b c:Value):World:=((W.setCell ⟨g,v * 3,none⟩ a).setCell ⟨g,v * 3+1,none⟩ b).setCell ⟨g,v * 3+2,none⟩ c
theorem Cd.ShsAt.store {g:Nat} {W:World} {X:List Cd.Sh} (h:Cd.ShsAt g W X) (v:Nat) (hv:v < X.length) {sh:Cd.Sh} {st:Int} {sa ka:Option Addr} {sl sc kl kc:Nat} (hs:Cd.ShAt W.heap.size W (Cd.shV st (.slice sa sl sc) (.slice ka kl kc)) sh):Cd.ShsAt g (Cd.set3 W g v (.int .i64 st) (.slice sa sl sc) (.slice ka kl kc)) (X.set v sh):=by
  obtain ⟨cur,h1,h2⟩:=h.row
  have hh:(Cd.set3 W g v (.int .i64 st) (.slice sa sl sc) (.slice ka kl kc)).heap[g]? = some (.cells (((cur.setIfInBounds (v * 3) (.int .i64 st)).setIfInBounds (v * 3+1) (.slice sa sl sc)).setIfInBounds (v * 3+2) (.slice ka kl kc)) 110) :=
    heap_setCell_same _ _ _ _ _ _ (heap_setCell_same _ _ _ _ _ _ (heap_setCell_same _ _ _ _ _ _ h1))
  have ho:∀ k,k≠g→(Cd.set3 W g v (.int .i64 st) (.slice sa sl sc) (.slice ka kl kc)).heap[k]? = W.heap[k]?:=fun k hk=>by
    unfold Cd.set3
    rw [Below.heap_setCell _ _ _ _ (by exact hk),Below.heap_setCell _ _ _ _ (by exact hk),Below.heap_setCell _ _ _ _ (by exact hk)]
  have hsz:(Cd.set3 W g v (.int .i64 st) (.slice sa sl sc) (.slice ka kl kc)).heap.size=W.heap.size:=by simp [Cd.set3]
  have hkp:∀ {a:Int} {b c:Value} {s2:Cd.Sh},Cd.ShAt W.heap.size W (Cd.shV a b c) s2→Cd.ShAt (Cd.set3 W g v (.int .i64 st) (.slice sa sl sc) (.slice ka kl kc)).heap.size (Cd.set3 W g v (.int .i64 st) (.slice sa sl sc) (.slice ka kl kc)) (Cd.shV a b c) s2:=fun {a b c s2} hx=>by
    refine hx.keep (Nat.le_of_eq hsz.symm) (fun st' sv' kv' e k hk=>ho k ?_)
    unfold Cd.shV at e
    injection e with e
    simp at e
    obtain ⟨_,rfl,rfl⟩:=e
    exact Cd.ShAt.off h1 hx k hk
  refine ⟨⟨_,hh,by simp [h2]⟩,fun u hu => ?_⟩
  rw [List.length_set] at hu
  by_cases e:u=v
  · subst e
    refine ⟨st,sa,sl,sc,ka,kl,kc, ?_, ?_, ?_, ?_⟩
    · rw [Lib.cell_of_heap hh];simp [Array.getElem?_setIfInBounds];omega
    · rw [Lib.cell_of_heap hh];simp [Array.getElem?_setIfInBounds];omega
    · rw [Lib.cell_of_heap hh];simp [Array.getElem?_setIfInBounds];omega
    · rw [List.getElem_set_self];exact hkp hs
  · obtain ⟨st',sa',sl',sc',ka',kl',kc',c1,c2,c3,c4⟩:=h.each u hu
    refine ⟨st',sa',sl',sc',ka',kl',kc', ?_, ?_, ?_, ?_⟩
    · rw [← c1,Lib.cell_of_heap hh,Lib.cell_of_heap h1,Array.getElem?_setIfInBounds_ne (by omega),Array.getElem?_setIfInBounds_ne (by omega),Array.getElem?_setIfInBounds_ne (by omega)]
    · rw [← c2,Lib.cell_of_heap hh,Lib.cell_of_heap h1,Array.getElem?_setIfInBounds_ne (by omega),Array.getElem?_setIfInBounds_ne (by omega),Array.getElem?_setIfInBounds_ne (by omega)]
    · rw [← c3,Lib.cell_of_heap hh,Lib.cell_of_heap h1,Array.getElem?_setIfInBounds_ne (by omega),Array.getElem?_setIfInBounds_ne (by omega),Array.getElem?_setIfInBounds_ne (by omega)]
    · rw [List.getElem_set_ne (fun h=>e h.symm)];exact hkp c4
theorem Cd.made_at (n u j:Nat) (hu:u < n) (hj:j < 3):(madeCells (Value.agg #[.int .i64 0,.slice none 0 0,.slice none 0 0]).cells (n * 3))[u * 3+j]? = (#[Value.int .i64 0,.slice none 0 0,.slice none 0 0]:Array Value)[j]?:=by
  have h1:u * 3+j < n * 3:=by omega
  have h2:(u * 3+j) % 3=j:=by omega
  have hc:(Value.agg #[.int .i64 0,.slice none 0 0,.slice none 0 0]).cells = #[Value.int .i64 0,.slice none 0 0,.slice none 0 0]:=rfl
  rw [hc]
  unfold madeCells
  simp only [Array.getElem?_map,List.size_toArray,List.length_cons,List.length_nil]
  rw [Array.getElem?_eq_getElem (by simpa using h1)]
  simp only [Array.getElem_range,Option.map_some,h2]
  have hj3:j=0∨j=1∨j=2:=by omega
  rcases hj3 with rfl | rfl | rfl <;> rfl
theorem Cd.ShsAt.made {W:World} {B g n:Nat} (h:W.ownsRow B 110 3 (.slice (some ⟨g,0,none⟩) n n) n (madeCells (Value.agg #[.int .i64 0,.slice none 0 0,.slice none 0 0]).cells (n * 3)).toList):Cd.ShsAt g W (List.replicate n .none):=by
  rcases h.2 with ⟨h',_⟩ | ⟨g',cap',cur,h',hb,hg,hnc,hcm,hcs,htake⟩
  · simp at h'
  · injection h' with e1 e2 e3
    injection e1 with e1;injection e1 with e1
    subst e1 e3
    have hcell:∀ j,j < n * 3→W.cell? ⟨g,j,none⟩=(madeCells (Value.agg #[.int .i64 0,.slice none 0 0,.slice none 0 0]).cells (n * 3))[j]?:=fun j hj=>by
      rw [Lib.cell_of_heap hg,← Array.getElem?_toList,← Array.getElem?_toList,← htake,List.getElem?_take_of_lt hj]
    refine ⟨⟨cur,hg,by rw [List.length_replicate,hcs]⟩,fun u hu => ?_⟩
    rw [List.length_replicate] at hu
    refine ⟨0,none,0,0,none,0,0, ?_, ?_, ?_, ?_⟩
    · have:=hcell (u * 3+0) (by omega);rw [Cd.made_at n u 0 hu (by omega)] at this;exact this
    · rw [hcell (u * 3+1) (by omega),Cd.made_at n u 1 hu (by omega)];rfl
    · rw [hcell (u * 3+2) (by omega),Cd.made_at n u 2 hu (by omega)];rfl
    · rw [List.getElem_replicate];rfl
end Go.Proofs.YtbkhedpabfanoaaGreatDoor
namespace Go.Proofs.YtbkhedpabfanoaaGreatDoor
open Go.RowKit

theorem Cd.IntsAt.uniq {B C:Nat} {W:World} {v:Value} {a b:List Int} (h:Cd.IntsAt B W v a) (k:Cd.IntsAt C W v b):a=b:=by
  obtain ⟨x,p,rfl,h2⟩:=h
  obtain ⟨y,q,e,k2⟩:=k
  injection e with e1 e2 e3
  subst e1
  refine List.ext_getElem e2 (fun i i1 i2 => ?_)
  obtain ⟨g,o,f1,_,c1⟩:=h2 i i1
  obtain ⟨g',o',f2,_,c2⟩:=k2 i i2
  rw [f1] at f2
  injection f2 with f2;injection f2 with f3 f4
  subst f3 f4
  rw [c1] at c2
  injection c2 with c2;injection c2
theorem Cd.shV_inj {a b:Int} {p q r s:Value} (h:Cd.shV a p q=Cd.shV b r s):a=b∧p=r∧q=s:=by
  unfold Cd.shV at h
  injection h with h
  simp at h
  exact h
theorem Cd.ShAt.uniq {B C:Nat} {W:World} {v:Value}:∀ {a b:Cd.Sh},Cd.ShAt B W v a→Cd.ShAt C W v b→a=b
  | .none,.none,_,_=>rfl
  | .clash,.clash,_,_=>rfl
  | .none,.clash,h,k=>by
    have h':v=_:=h
    have k':v=_:=k
    rw [h'] at k'
    exact absurd (Cd.shV_inj k').1 (by decide)
  | .clash,.none,h,k=>by
    have h':v=_:=h
    have k':v=_:=k
    rw [h'] at k'
    exact absurd (Cd.shV_inj k').1 (by decide)
  | .none,.known _ _,h,k=>by
    have h':v=_:=h
    obtain ⟨sa,sc,ka,kc,k',_⟩:=k
    rw [h'] at k'
    exact absurd (Cd.shV_inj k').1 (by decide)
  | .clash,.known _ _,h,k=>by
    have h':v=_:=h
    obtain ⟨sa,sc,ka,kc,k',_⟩:=k
    rw [h'] at k'
    exact absurd (Cd.shV_inj k').1 (by decide)
  | .known _ _,.none,k,h=>by
    have h':v=_:=h
    obtain ⟨sa,sc,ka,kc,k',_⟩:=k
    rw [h'] at k'
    exact absurd (Cd.shV_inj k').1 (by decide)
  | .known _ _,.clash,k,h=>by
    have h':v=_:=h
    obtain ⟨sa,sc,ka,kc,k',_⟩:=k
    rw [h'] at k'
    exact absurd (Cd.shV_inj k').1 (by decide)
  | .known s k,.known s' k',h,h'=>by
    obtain ⟨sa,sc,ka,kc,e,_,_,h4,h5,_,_⟩:=h
    obtain ⟨sa',sc',ka',kc',e',_,_,h4',h5',_,_⟩:=h'
    rw [e] at e'
    obtain ⟨_,e1,e2⟩:=Cd.shV_inj e'
    rw [← e1] at h4'
    rw [← e2] at h5'
    rw [h4.uniq h4',h5.uniq h5']
theorem Cd.ShsAt.uniq {g:Nat} {W:World} {X Y:List Cd.Sh} (h:Cd.ShsAt g W X) (k:Cd.ShsAt g W Y):X=Y:=by
  obtain ⟨c1,h1,h2⟩:=h.row
  obtain ⟨c2,k1,k2⟩:=k.row
  rw [h1] at k1
  injection k1 with k1;injection k1 with k1
  subst k1
  refine List.ext_getElem (by omega) (fun u u1 u2 => ?_)
  obtain ⟨st,sa,sl,sc,ka,kl,kc,a1,a2,a3,a4⟩:=h.each u u1
  obtain ⟨st',sa',sl',sc',ka',kl',kc',b1,b2,b3,b4⟩:=k.each u u2
  rw [a1] at b1
  rw [a2] at b2
  rw [a3] at b3
  injection b1 with b1;injection b1 with _ b1
  injection b2 with b2
  injection b3 with b3
  rw [← b1,← b2,← b3] at b4
  exact a4.uniq b4
theorem Cd.ShsAt.eps {g:Nat} {W:World} {X:List Cd.Sh} (h:Cd.ShsAt g W X):Classical.epsilon (fun Y=>Cd.ShsAt g W Y)=X:=(Classical.epsilon_spec (p:=fun Y=>Cd.ShsAt g W Y) ⟨X,h⟩).uniq h
structure Cd.Sl (w:World) (cC fC:Array Value) (X:List Cd.Sh) (W:World):Prop where
  since:Below w.heap.size w W
  cod:W.heap[w.heap.size]? = some (.cells cC 24)
  fnb:W.heap[w.heap.size+1]? = some (.cells fC 37)
  shs:Cd.ShsAt (w.heap.size+2) W X
theorem Cd.Sl.below {w:World} {cC fC:Array Value} {X:List Cd.Sh} {W W':World} (h:Cd.Sl w cC fC X W) (hb:Below W.heap.size W W'):Cd.Sl w cC fC X W':=by
  have hl:=h.shs.lt
  exact ⟨h.since.trans (hb.mono h.since.size),(hb.block _ (by omega)).trans h.cod,(hb.block _ (by omega)).trans h.fnb,h.shs.below hb⟩
theorem Cd.Sl.alloc {w:World} {cC fC:Array Value} {X:List Cd.Sh} {W:World} (h:Cd.Sl w cC fC X W) (o:Obj):Cd.Sl w cC fC X (W.alloc o):=h.below (Cd.b1 W o)
theorem Cd.Sl.set {w:World} {cC fC:Array Value} {X:List Cd.Sh} {W:World} (h:Cd.Sl w cC fC X W) (O i:Nat) (v:Value) (hO:w.heap.size+2 < O) (hty:∃ cur,W.heap[O]? = some (.cells cur 110)):Cd.Sl w cC fC X (W.setCell ⟨O,i,none⟩ v):=by
  obtain ⟨cur0,hc0⟩:=hty
  have hk:∀ g,g≠O→(W.setCell ⟨O,i,none⟩ v).heap[g]? = W.heap[g]?:=fun g hg=>Below.heap_setCell _ _ _ _ (by exact hg)
  refine ⟨h.since.setCell (p:=⟨O,i,none⟩) (by show w.heap.size≤O;omega) v,(hk _ (by omega)).trans h.cod,(hk _ (by omega)).trans h.fnb, ?_,fun u hu => ?_⟩
  · obtain ⟨cur,h1,h2⟩:=h.shs.row
    exact ⟨cur,(hk _ (by omega)).trans h1,h2⟩
  · obtain ⟨st,sa,sl,sc,ka,kl,kc,a1,a2,a3,a4⟩:=h.shs.each u hu
    have hc:∀ j,(W.setCell ⟨O,i,none⟩ v).cell? ⟨w.heap.size+2,j,none⟩=W.cell? ⟨w.heap.size+2,j,none⟩:=fun j=>World.cell?_of_block (hk _ (by show w.heap.size+2≠O;omega))
    refine ⟨st,sa,sl,sc,ka,kl,kc,(hc _).trans a1,(hc _).trans a2,(hc _).trans a3,a4.keep (by simp) (fun st' sv' kv' e k hk2=>hk k ?_)⟩
    obtain ⟨_,rfl,rfl⟩:=Cd.shV_inj e
    exact Cd.ShAt.off hc0 a4 k hk2
theorem Cd.Sl.store {w:World} {cC fC:Array Value} {X:List Cd.Sh} {W:World} (h:Cd.Sl w cC fC X W) (v:Nat) (hv:v < X.length) {sh:Cd.Sh} {st:Int} {sa ka:Option Addr} {sl sc kl kc:Nat} (hs:Cd.ShAt W.heap.size W (Cd.shV st (.slice sa sl sc) (.slice ka kl kc)) sh):Cd.Sl w cC fC (X.set v sh) (Cd.set3 W (w.heap.size+2) v (.int .i64 st) (.slice sa sl sc) (.slice ka kl kc)):=by
  have hk:∀ g,g≠w.heap.size+2→(Cd.set3 W (w.heap.size+2) v (.int .i64 st) (.slice sa sl sc) (.slice ka kl kc)).heap[g]? = W.heap[g]?:=fun g hg=>by
    unfold Cd.set3
    rw [Below.heap_setCell _ _ _ _ (by exact hg),Below.heap_setCell _ _ _ _ (by exact hg),Below.heap_setCell _ _ _ _ (by exact hg)]
  refine ⟨?_,(hk _ (by omega)).trans h.cod,(hk _ (by omega)).trans h.fnb,h.shs.store v hv hs⟩
  unfold Cd.set3
  exact Cd.Below.set (Cd.Below.set (Cd.Below.set h.since 2 _ _) 2 _ _) 2 _ _
theorem Cd.at_get {X:List Cd.Sh} {u:Nat} (hu:u < X.length):Cd.at' X u=X[u]:=by
  unfold Cd.at'
  rw [List.getD_eq_getElem?_getD,List.getElem?_eq_getElem hu];rfl
theorem Cd.ShAt.state {B:Nat} {W:World} {st:Int} {sv kv:Value}:∀ {sh:Cd.Sh},Cd.ShAt B W (Cd.shV st sv kv) sh→(st=0 ↔ sh = .none)∧(st=2 ↔ sh = .clash)
  | .none,h=>by
    have e:=(Cd.shV_inj (show Cd.shV st sv kv=_ from h)).1
    subst e;simp
  | .clash,h=>by
    have e:=(Cd.shV_inj (show Cd.shV st sv kv=_ from h)).1
    subst e;simp
  | .known s k,h=>by
    obtain ⟨sa,sc,ka,kc,e,_⟩:=h
    have e:=(Cd.shV_inj e).1
    subst e;simp
theorem Cd.firstS_len (f:Cd.Fn) (h:(f.params.length:Int)≤f.slots):(Cd.firstS f).length=f.slots.toNat:=by
  unfold Cd.firstS
  rw [List.length_append,List.length_replicate];omega
set_option maxRecDepth 100000 in
set_option maxHeartbeats 1000000 in
theorem Cd.goes_new (i:Cd.Ins) (at':Nat) (hat:at'≤1048576) (ha:i.op=10∨i.op=11→0≤i.a) (w:World) :
    Calls Tryz.prog 63 #[Cd.insV i,.int .i64 (at':Int)] w fun e w' => ∃ n cap,e = .returned (.slice (some ⟨w.heap.size+1,0,none⟩) n cap)∧Cd.IntsAt w'.heap.size w' (.slice (some ⟨w.heap.size+1,0,none⟩) n cap) (Cd.nats (Cd.goes i at'))∧Below w.heap.size w w'∧w.heap.size+1 < w'.heap.size:=by
  obtain ⟨op,a,n,text⟩:=i
  simp only at ha
  unfold Cd.insV
  have hw1:wrap64 ((at':Int)+1)=(at':Int)+1:=IntWalk.wrap64_in _ (by omega)
  by_cases h12:op=12
  · subst h12
    go_enter Tryz.func63,Tryz.ntmps63
    go_wp2_with fail
    go_ret
    exact ⟨0,0,rfl,Cd.IntsAt.two w _ [] _ _,Cd.b2 w _ _,by simp⟩
  · by_cases h13:op=13
    · subst h13
      go_enter Tryz.func63,Tryz.ntmps63
      go_wp2_with fail
      go_ret
      exact ⟨0,0,rfl,Cd.IntsAt.two w _ [] _ _,Cd.b2 w _ _,by simp⟩
    · by_cases h10:op=10
      · subst h10
        obtain ⟨k,rfl⟩:∃ k:Nat,a=(k:Int):=⟨a.toNat,by have:=ha (.inl rfl);omega⟩
        go_enter Tryz.func63,Tryz.ntmps63
        go_wp2_with fail
        go_ret
        exact ⟨1,1,rfl,Cd.IntsAt.two w _ [(k:Int)] _ _,Cd.b2 w _ _,by simp⟩
      · by_cases h11:op=11
        · subst h11
          obtain ⟨k,rfl⟩:∃ k:Nat,a=(k:Int):=⟨a.toNat,by have:=ha (.inr rfl);omega⟩
          go_enter Tryz.func63,Tryz.ntmps63
          go_wp2_with fail
          go_ret
          exact ⟨2,2,rfl,Cd.IntsAt.two w _ [(k:Int),(at':Int)+1] _ _,Cd.b2 w _ _,by simp⟩
        · have e1:(op == 12)=false:=by simp [h12]
          have e2:(op == 13)=false:=by simp [h13]
          have e3:(op == 10)=false:=by simp [h10]
          have e4:(op == 11)=false:=by simp [h11]
          have HG:Hid (Cd.goes ⟨op,a,n,text⟩ at'=[at'+1]):=by rw [Hid,Cd.goes];simp [h12,h13,h10,h11]
          rw [HG.out]
          clear h12 h13 h10 h11 HG ha
          go_enter Tryz.func63,Tryz.ntmps63
          go_wp2_with fail
          go_ret
          exact ⟨1,1,rfl,Cd.IntsAt.two w _ [(at':Int)+1] _ _,Cd.b2 w _ _,by simp⟩
structure Cd.Kt (w:World) (cC fC:Array Value) (Z:Cd.Sys) (X X3:List Cd.Sh) (ag:Bool) (i:Nat) (b:Cd.Sh) (gl:List Nat) (k:Nat) (Os Og:Nat) (so go:Obj) (bv:Value) (W:World):Prop where
  sl:Cd.Sl w cC fC X3 W
  rk:Cd.Rk Z X X3 ag i b gl k
  os:W.heap[Os]? = some so
  og:W.heap[Og]? = some go
  sb:Cd.ShAt W.heap.size W bv b
theorem Cd.Kt.below {w:World} {cC fC:Array Value} {Z:Cd.Sys} {X X3:List Cd.Sh} {ag:Bool} {i:Nat} {b:Cd.Sh} {gl:List Nat} {k Os Og:Nat} {so go:Obj} {bv:Value} {W W':World} (h:Cd.Kt w cC fC Z X X3 ag i b gl k Os Og so go bv W) (hb:Below W.heap.size W W'):Cd.Kt w cC fC Z X X3 ag i b gl k Os Og so go bv W' :=
  ⟨h.sl.below hb,h.rk,(hb.block _ (Array.getElem?_eq_some_iff.1 h.os).1).trans h.os,(hb.block _ (Array.getElem?_eq_some_iff.1 h.og).1).trans h.og,(h.sb.below hb).mono hb.size⟩
theorem Cd.Kt.skip {w:World} {cC fC:Array Value} {Z:Cd.Sys} {X X3:List Cd.Sh} {ag:Bool} {i:Nat} {b:Cd.Sh} {gl:List Nat} {k Os Og:Nat} {so go:Obj} {bv:Value} {W:World} (h:Cd.Kt w cC fC Z X X3 ag i b gl k Os Og so go bv W) (hk:k < gl.length) (hv:¬ gl[k] < Z.n):Cd.Kt w cC fC Z X X3 ag i b gl (k+1) Os Og so go bv W :=
  ⟨h.sl,h.rk.skip hk hv,h.os,h.og,h.sb⟩
theorem Cd.Kt.set {w:World} {cC fC:Array Value} {Z:Cd.Sys} {X X3:List Cd.Sh} {ag:Bool} {i:Nat} {b:Cd.Sh} {gl:List Nat} {k Os Og:Nat} {so go:Obj} {bv:Value} {W:World} (h:Cd.Kt w cC fC Z X X3 ag i b gl k Os Og so go bv W) (O j:Nat) (v:Value) (hO:w.heap.size+2 < O) (hs:O≠Os) (hg:O≠Og) (hty:∃ cur,W.heap[O]? = some (.cells cur 110)):Cd.Kt w cC fC Z X X3 ag i b gl k Os Og so go bv (W.setCell ⟨O,j,none⟩ v):=by
  refine ⟨h.sl.set O j v hO hty,h.rk,(Below.heap_setCell _ _ _ _ (by show Os≠O;exact fun e=>hs e.symm)).trans h.os,(Below.heap_setCell _ _ _ _ (by show Og≠O;exact fun e=>hg e.symm)).trans h.og,h.sb.keep (by simp) (fun st sv kv e k hk=>Below.heap_setCell _ _ _ _ ?_)⟩
  obtain ⟨cur,hc⟩:=hty
  have hsb:=h.sb
  rw [e] at hsb
  exact Cd.ShAt.off hc hsb k hk
theorem Cd.Kt.step {w:World} {cC fC:Array Value} {Z:Cd.Sys} {X X3:List Cd.Sh} {ag:Bool} {i:Nat} {b:Cd.Sh} {gl:List Nat} {k Os Og:Nat} {so go:Obj} {bv:Value} {W:World} (h:Cd.Kt w cC fC Z X X3 ag i b gl k Os Og so go bv W) (hk:k < gl.length) (hv:gl[k] < Z.n) (hOs:w.heap.size+2 < Os) (hOg:w.heap.size+2 < Og) {st:Int} {sa ka:Option Addr} {sl sc kl kc:Nat} (hs:Cd.ShAt W.heap.size W (Cd.shV st (.slice sa sl sc) (.slice ka kl kc)) (Cd.join (Cd.at' X3 gl[k]) b)):Cd.Kt w cC fC Z X (X3.set gl[k] (Cd.join (Cd.at' X3 gl[k]) b)) (ag || decide (Cd.join (Cd.at' X3 gl[k]) b≠Cd.at' X3 gl[k])) i b gl (k+1) Os Og so go bv (Cd.set3 W (w.heap.size+2) gl[k] (.int .i64 st) (.slice sa sl sc) (.slice ka kl kc)):=by
  have hl:gl[k] < X3.length:=by rw [h.rk.rd.low.size];exact hv
  have hn:∀ g,g≠w.heap.size+2→(Cd.set3 W (w.heap.size+2) gl[k] (.int .i64 st) (.slice sa sl sc) (.slice ka kl kc)).heap[g]? = W.heap[g]?:=fun g hg=>by
    unfold Cd.set3
    rw [Below.heap_setCell _ _ _ _ (by exact hg),Below.heap_setCell _ _ _ _ (by exact hg),Below.heap_setCell _ _ _ _ (by exact hg)]
  refine ⟨h.sl.store gl[k] hl hs,h.rk.step hk hv,(hn _ (by omega)).trans h.os,(hn _ (by omega)).trans h.og,h.sb.keep (by simp [Cd.set3]) (fun st sv kv e k hk=>hn k ?_)⟩
  obtain ⟨cur,hc,_⟩:=h.sl.shs.row
  have hsb:=h.sb
  rw [e] at hsb
  exact Cd.ShAt.off hc hsb k hk
end Go.Proofs.YtbkhedpabfanoaaGreatDoor
