import Derived.Test.YtlcckaffhnjneaaGreatDoorKPcB
import Derived.Test.YtlcckaffhnjneaaGreatDoorKPaA
import Derived.Test.YtlcckaffhnjneaaGreatDoorKTreeR
namespace Go.Proofs.YtlcckaffhnjneaaGreatDoor
open Go.RowKit
mutual
def Pa.flat : Mill.Tr→List Mill.Nd
 | .node d us=>Pa.flats us++[Mill.takenN d us.length]
def Pa.flats : List Mill.Tr→List Mill.Nd
 | []=>[]
 | t::r=>Pa.flat t++Pa.flats r
end
structure Pa.Good (ts:List (Mill.Piece × Nat)):Prop where
 mark:∀ i,Pa.kd ts i=5→Pa.tx ts i ∈ Mill.marks
 word:∀ i,Pa.kd ts i=2→Pa.tx ts i ∉ Mill.marks
 ne:∀ i,Pa.kd ts i=2→Pa.tx ts i≠[]
theorem Pa.Good.m {ts:List (Mill.Piece × Nat)} (hG:Pa.Good ts) {T:List UInt8} (hT:T ∈ Mill.marks) (i:Nat):Pa.is ts T ⟨i,false⟩=Pa.st ts 5 T i:=by
 unfold Pa.is Pa.st
 by_cases h5:Pa.kd ts i=5
 ·simp [h5]
 ·by_cases h2:Pa.kd ts i=2
  ·have:Pa.tx ts i≠T:=fun e=>hG.word i h2 (e ▸ hT)
   simp [h2,this]
  ·have e5:(Pa.kd ts i == 5)=false:=by simpa using h5
   have e2:(Pa.kd ts i == 2)=false:=by simpa using h2
   simp [e5,e2]
theorem Pa.Good.w {ts:List (Mill.Piece × Nat)} (hG:Pa.Good ts) {T:List UInt8} (hT:T ∉ Mill.marks) (i:Nat):Pa.is ts T ⟨i,false⟩=Pa.st ts 2 T i:=by
 unfold Pa.is Pa.st
 by_cases h5:Pa.kd ts i=5
 ·have:Pa.tx ts i≠T:=fun e=>hT (e ▸ hG.mark i h5)
  simp [h5,this]
 ·by_cases h2:Pa.kd ts i=2
  ·simp [h2]
  ·have e5:(Pa.kd ts i == 5)=false:=by simpa using h5
   have e2:(Pa.kd ts i == 2)=false:=by simpa using h2
   simp [e5,e2]
theorem Pa.is_bad (ts:List (Mill.Piece × Nat)) (T:List UInt8) (i:Nat):Pa.is ts T ⟨i,true⟩=false:=rfl
theorem Pa.need_bad (ts:List (Mill.Piece × Nat)) (T:List UInt8) (i:Nat):Pa.need ts T ⟨i,true⟩=⟨i,true⟩:=rfl
theorem Pa.typ_bad (ts:List (Mill.Piece × Nat)) (i:Nat):Pa.typ ts ⟨i,true⟩=⟨i,true⟩:=rfl
theorem Pa.nx_mk (i:Nat) (b:Bool):Pa.nx ⟨i,b⟩=⟨i+1,b⟩:=rfl
theorem Pa.kind_mk (ts:List (Mill.Piece × Nat)) (i:Nat):Pa.kind ts ⟨i,false⟩=Pa.kd ts i:=rfl
theorem Pa.expr_bad (ts:List (Mill.Piece × Nat)) (n r i:Nat):Pa.expr ts (n+1) r ⟨i,true⟩=some ([],⟨i,true⟩):=by rw [Pa.expr];rfl
theorem Pa.exprL_bad (ts:List (Mill.Piece × Nat)) (n r:Nat) (out:Pa.Nds) (i:Nat):Pa.exprL ts (n+1) r out ⟨i,true⟩=some (out,⟨i,true⟩):=by rw [Pa.exprL];rfl
theorem Pa.builtL_bad (ts:List (Mill.Piece × Nat)) (n k j:Nat) (out:Pa.Nds) (i:Nat):Pa.builtL ts (n+1) k j out ⟨i,true⟩=some (out,⟨i,true⟩):=by rw [Pa.builtL];simp
theorem Pa.blockL_bad (ts:List (Mill.Piece × Nat)) (n k:Nat) (out:Pa.Nds) (i:Nat):∃ o,Pa.blockL ts (n+1) k out ⟨i,true⟩=some (o,⟨i,true⟩):=by rw [Pa.blockL];exact ⟨_,rfl⟩
theorem Pa.block_bad (ts:List (Mill.Piece × Nat)) (n i:Nat):∃ o,Pa.block ts (n+2) ⟨i,true⟩=some (o,⟨i,true⟩):=by rw [Pa.block,Pa.need_bad];exact Pa.blockL_bad ..
theorem Pa.Good.need {ts:List (Mill.Piece × Nat)} (hG:Pa.Good ts) {T:List UInt8} (hT:T ∈ Mill.marks) (i:Nat):Pa.need ts T ⟨i,false⟩=if Pa.st ts 5 T i then ⟨i+1,false⟩ else ⟨i,true⟩:=by
 rw [Pa.need,hG.m hT];rfl
theorem Pa.Good.needW {ts:List (Mill.Piece × Nat)} (hG:Pa.Good ts) {T:List UInt8} (hT:T ∉ Mill.marks) (i:Nat):Pa.need ts T ⟨i,false⟩=if Pa.st ts 2 T i then ⟨i+1,false⟩ else ⟨i,true⟩:=by
 rw [Pa.need,hG.w hT];rfl
theorem Pa.Good.mkIs {ts:List (Mill.Piece × Nat)} (hG:Pa.Good ts) (r i:Nat):Pa.mk ts r ⟨i,false⟩=if Pa.rk (Pa.mop ts i)=r then Pa.mop ts i else 0:=by
 have hm:∀ T ∈ Pa.marks2,Pa.is ts T ⟨i,false⟩=Pa.st ts 5 T i:=fun T hT=>hG.m (by revert T;decide) i
 have key:∀ (l:List (List UInt8)) (op:Nat),(∀ T ∈ l,Pa.is ts T ⟨i,false⟩=Pa.st ts 5 T i)→l.Nodup→Pa.mkL ts r ⟨i,false⟩ l op=if Pa.kd ts i=5∧Pa.ix l (Pa.tx ts i)≠0∧Pa.rk (Pa.ix l (Pa.tx ts i)+op - 1)=r then Pa.ix l (Pa.tx ts i)+op - 1 else 0:=by
  intro l
  induction l with
  | nil=>intro op _ _;simp [Pa.mkL,Pa.ix_nil]
  | cons m l ih =>
   intro op h1 h2
   rw [List.nodup_cons] at h2
   rw [Pa.mkL,ih (op+1) (fun T hT=>h1 T (.tail _ hT)) h2.2,h1 m (.head _),Pa.ix_cons,Pa.st]
   by_cases h5:Pa.kd ts i=5
   ·by_cases hx:m=Pa.tx ts i
    ·have:Pa.ix l (Pa.tx ts i)=0:=by rw [← hx,Pa.ix,if_neg h2.1]
     simp [h5,← hx]
     rw [← hx] at this
     simp [this]
    ·have hx':¬ Pa.tx ts i=m:=fun e=>hx e.symm
     by_cases h0:Pa.ix l (Pa.tx ts i)=0
     ·simp [h5,hx,hx',h0]
     ·have e:Pa.ix l (Pa.tx ts i)+(op+1) - 1=Pa.ix l (Pa.tx ts i)+1+op - 1:=by omega
      simp [h5,hx,hx',h0,e]
   ·simp [h5]
 rw [Pa.mk,key Pa.marks2 1 hm (by decide),Pa.mop]
 by_cases h5:Pa.kd ts i=5
 ·by_cases h0:Pa.ix Pa.marks2 (Pa.tx ts i)=0
  ·simp [h5,h0]
  ·simp [h5,h0]
 ·simp [h5]
def Pa.Sm (a:Option (Pa.Nds × Pa.S)) (q:Except Nat (Mill.Tr × Nat)):Prop:=match q with
 | .ok x=>a=some (Pa.flat x.1,⟨x.2,false⟩)
 | .error k => ∃ o,a=some (o,⟨k,true⟩)
def Pa.chain (ts:List (Mill.Piece × Nat)) (f:Nat→Nat) (l:Nat):Nat→Pa.Nds→Pa.S→Option (Pa.Nds × Pa.S)
 | 0,out,s=>some (out,s)
 | r+1,out,s=>if r+1 < l then some (out,s) else match Pa.exprL ts (f (r+1)) (r+1) out s with
  | none=>none
  | some x=>Pa.chain ts f l r x.1 x.2
theorem Pa.expr_up (ts:List (Mill.Piece × Nat)) (n r i:Nat) (h:r≤5):Pa.expr ts (n+1) r ⟨i,false⟩=match Pa.expr ts n (r+1) ⟨i,false⟩ with
  | none=>none
  | some x=>Pa.exprL ts n r x.1 x.2:=by
 rw [Pa.expr];simp only [show ¬ 5 < r by omega,Bool.false_eq_true,if_false];cases Pa.expr ts n (r+1) ⟨i,false⟩ <;> rfl
theorem Pa.expr_six (ts:List (Mill.Piece × Nat)) (n i:Nat):Pa.expr ts (n+1) 6 ⟨i,false⟩=Pa.single ts n ⟨i,false⟩:=by rw [Pa.expr];simp
theorem Pa.chain_split (ts:List (Mill.Piece × Nat)) (f:Nat→Nat) (l:Nat) (hl:1≤l):∀ (r:Nat) (out:Pa.Nds) (s:Pa.S),l≤r→Pa.chain ts f l r out s=match Pa.chain ts f (l+1) r out s with
  | none=>none
  | some x=>Pa.exprL ts (f l) l x.1 x.2:=by
 intro r
 induction r with
 | zero=>intro out s h;omega
 | succ r ih =>
  intro out s h
  rw [Pa.chain,if_neg (by omega)]
  by_cases e:l=r+1
  ·subst e
   rw [Pa.chain,if_pos (by omega)]
   simp only
   cases h2:Pa.exprL ts (f (r+1)) (r+1) out s with
   | none=>rfl
   | some x =>
    cases r with
    | zero=>rfl
    | succ r=>simp [Pa.chain]
  ·rw [Pa.chain,if_neg (by omega)]
   cases h2:Pa.exprL ts (f (r+1)) (r+1) out s with
   | none=>rfl
   | some x=>exact ih _ _ (by omega)
theorem Pa.chain_f (ts:List (Mill.Piece × Nat)) (f f':Nat→Nat) (l:Nat):∀ (r:Nat) (out:Pa.Nds) (s:Pa.S),(∀ k,k≤r→l≤k→f k=f' k)→Pa.chain ts f l r out s=Pa.chain ts f' l r out s:=by
 intro r
 induction r with
 | zero=>intro out s h;rfl
 | succ r ih =>
  intro out s h
  rw [Pa.chain,Pa.chain]
  by_cases e:r+1 < l
  ·rw [if_pos e,if_pos e]
  ·rw [if_neg e,if_neg e,h (r+1) (Nat.le_refl _) (by omega)]
   cases h2:Pa.exprL ts (f' (r+1)) (r+1) out s with
   | none=>rfl
   | some x=>exact ih _ _ (fun k h1 h2=>h k (by omega) h2)
theorem Pa.expr_chain (ts:List (Mill.Piece × Nat)) (i:Nat):∀ (d l n:Nat),l+d=6→1≤l→Pa.expr ts (n+d+1) l ⟨i,false⟩=match Pa.single ts n ⟨i,false⟩ with
  | none=>none
  | some x=>Pa.chain ts (fun r=>n+(6 - r)) l 5 x.1 x.2:=by
 intro d
 induction d with
 | zero =>
  intro l n h h1
  obtain rfl:l=6:=by omega
  rw [Pa.expr_six]
  cases Pa.single ts n ⟨i,false⟩ with
  | none=>rfl
  | some x=>simp [Pa.chain]
 | succ d ih =>
  intro l n h h1
  rw [Pa.expr_up ts _ _ _ (by omega),show n+(d+1)=n+d+1 from rfl,ih (l+1) n (by omega) (by omega)]
  cases Pa.single ts n ⟨i,false⟩ with
  | none=>rfl
  | some x =>
   simp only
   rw [Pa.chain_split ts _ l h1 5 _ _ (by omega),show n+(6 - l)=n+d+1 by omega]
theorem Pa.chain_bad (ts:List (Mill.Piece × Nat)) (f:Nat→Nat) (hf:∀ r,1≤f r) (l:Nat):∀ (r:Nat) (out:Pa.Nds) (i:Nat),Pa.chain ts f l r out ⟨i,true⟩=some (out,⟨i,true⟩):=by
 intro r
 induction r with
 | zero=>intro out i;rfl
 | succ r ih =>
  intro out i
  rw [Pa.chain]
  split
  ·rfl
  ·obtain ⟨k,hk⟩:∃ k,f (r+1)=k+1:=⟨f (r+1) - 1,by have:=hf (r+1);omega⟩
   rw [hk,Pa.exprL_bad]
   exact ih _ _
theorem Pa.Good.skip {ts:List (Mill.Piece × Nat)} (hG:Pa.Good ts) {f r i:Nat} {out:Pa.Nds} (hf:1≤f) (hr:Pa.rk (Pa.mop ts i)≠r):Pa.exprL ts f r out ⟨i,false⟩=some (out,⟨i,false⟩):=by
 obtain ⟨k,rfl⟩:∃ k,f=k+1:=⟨f - 1,by omega⟩
 rw [Pa.exprL,hG.mkIs,if_neg hr]
 simp
theorem Pa.Good.chainOut {ts:List (Mill.Piece × Nat)} (hG:Pa.Good ts) (f:Nat→Nat) (hf:∀ r,1≤f r) (l:Nat) (i:Nat):∀ (r:Nat) (out:Pa.Nds),(Pa.rk (Pa.mop ts i) < l∨r < Pa.rk (Pa.mop ts i))→Pa.chain ts f l r out ⟨i,false⟩=some (out,⟨i,false⟩):=by
 intro r
 induction r with
 | zero=>intro out _;rfl
 | succ r ih =>
  intro out h
  rw [Pa.chain]
  split
  ·rfl
  ·rw [hG.skip (hf _) (by omega)]
   exact ih _ (by omega)
theorem Pa.Good.chainDown {ts:List (Mill.Piece × Nat)} (hG:Pa.Good ts) (f:Nat→Nat) (hf:∀ r,1≤f r) (l:Nat) (i:Nat):∀ (r:Nat) (out:Pa.Nds),l≤Pa.rk (Pa.mop ts i)→Pa.rk (Pa.mop ts i)≤r→Pa.chain ts f l r out ⟨i,false⟩=Pa.chain ts f l (Pa.rk (Pa.mop ts i)) out ⟨i,false⟩:=by
 intro r
 induction r with
 | zero=>intro out h h2;rw [Nat.le_zero.mp h2]
 | succ r ih =>
  intro out h h2
  by_cases e:Pa.rk (Pa.mop ts i)=r+1
  ·rw [e]
  ·rw [Pa.chain,if_neg (by omega),hG.skip (hf _) e]
   exact ih _ h (by omega)
theorem Pa.Good.chainTake {ts:List (Mill.Piece × Nat)} (hG:Pa.Good ts) (f:Nat→Nat) (l i K g:Nat) (out:Pa.Nds) (hl:1≤l) (hK:Pa.rk (Pa.mop ts i)=K) (h1:l≤K) (hg:f K=g+1) (q:Except Nat (Mill.Tr × Nat)) (hq:Pa.Sm (Pa.expr ts g (K+1) ⟨i+1,false⟩) q) :
  Pa.chain ts f l K out ⟨i,false⟩=match q with
   | .ok x=>if K=3 then Pa.chain ts f l 2 (out++Pa.flat x.1++[⟨6,(Pa.mop ts i:Int),0,0,⟨#[]⟩,2⟩]) ⟨x.2,false⟩ else Pa.chain ts (fun r=>if r=K then g else f r) l K (out++Pa.flat x.1++[⟨6,(Pa.mop ts i:Int),0,0,⟨#[]⟩,2⟩]) ⟨x.2,false⟩
   | .error _=>Pa.chain ts f l K out ⟨i,false⟩:=by
 cases q with
 | error k=>rfl
 | ok x =>
  obtain ⟨k,rfl⟩:∃ k,K=k+1:=⟨K - 1,by omega⟩
  have h0:Pa.mop ts i≠0:=by
   intro e;rw [e] at hK;simp [Pa.rk] at hK
  simp only [Pa.Sm] at hq
  rw [Pa.chain,if_neg (by omega),hg,Pa.exprL,hG.mkIs,if_pos hK]
  simp only [Pa.nx_mk,hq,if_neg h0,Bool.false_eq_true,if_false]
  by_cases h3:k+1=3
  ·obtain rfl:k=2:=by omega
   simp
  ·rw [if_neg h3,if_neg h3,Pa.chain,if_neg (by omega)]
   simp only [if_pos]
   cases Pa.exprL ts g (k+1) _ _ with
   | none=>rfl
   | some y =>
    simp only
    exact Pa.chain_f ts _ _ l k _ _ (fun r h _=>by simp [show r≠k+1 by omega])
theorem Pa.Good.chainErr {ts:List (Mill.Piece × Nat)} (hG:Pa.Good ts) (f:Nat→Nat) (hf:∀ r,2≤f r) (l i K g:Nat) (out:Pa.Nds) (hl:1≤l) (hK:Pa.rk (Pa.mop ts i)=K) (h1:l≤K) (hg:f K=g+1) (k:Nat) (hq:Pa.Sm (Pa.expr ts g (K+1) ⟨i+1,false⟩) (.error k)) :
  ∃ o,Pa.chain ts f l K out ⟨i,false⟩=some (o,⟨k,true⟩):=by
 obtain ⟨j,rfl⟩:∃ k,K=k+1:=⟨K - 1,by omega⟩
 have h0:Pa.mop ts i≠0:=by
  intro e;rw [e] at hK;simp [Pa.rk] at hK
 obtain ⟨o,hq⟩:=hq
 obtain ⟨g',rfl⟩:∃ k,g=k+1:=⟨g - 1,by have:=hf (j+1);omega⟩
 rw [Pa.chain,if_neg (by omega),hg,Pa.exprL,hG.mkIs,if_pos hK]
 simp only [Pa.nx_mk,hq,if_neg h0,Bool.false_eq_true,if_false]
 by_cases h3:j+1=3
 ·rw [if_pos h3]
  exact ⟨_,Pa.chain_bad ts f (fun r=>by have:=hf r;omega) l _ _ _⟩
 ·rw [if_neg h3,Pa.exprL_bad]
  exact ⟨_,Pa.chain_bad ts f (fun r=>by have:=hf r;omega) l _ _ _⟩
def Pa.SmL (a:Option (Pa.Nds × Pa.S)) (q:Except Nat (List Mill.Tr × Nat)):Prop:=match q with
 | .ok x=>a=some (Pa.flats x.1,⟨x.2,false⟩)
 | .error k => ∃ o,a=some (o,⟨k,true⟩)
def Pa.SmC (a:Option (Pa.Nds × Nat × Pa.S)) (q:Except Nat (List Mill.Tr × Nat)):Prop:=match q with
 | .ok x=>a=some (Pa.flats x.1,x.1.length,⟨x.2,false⟩)
 | .error k => ∃ o c,a=some (o,c,⟨k,true⟩)
theorem Pa.flats_app (us vs:List Mill.Tr):Pa.flats (us++vs)=Pa.flats us++Pa.flats vs:=by
 induction us with
 | nil=>simp [Pa.flats]
 | cons t us ih=>simp [Pa.flats,ih]
theorem Pa.flats_one (t:Mill.Tr):Pa.flats [t]=Pa.flat t:=by simp [Pa.flats]
theorem Pa.flat_br (k o t:Int) (x:List UInt8) (us:List Mill.Tr):Pa.flat (Pa.br k o t x us)=Pa.flats us++[Mill.takenN ⟨k,o,t,0,Mill.ba x,(us.length:Int)⟩ us.length]:=by
 simp [Pa.br,Pa.flat]
theorem Pa.flat_lf (k o t y:Int) (x:List UInt8):Pa.flat (Pa.lf k o t y x)=[Mill.takenN ⟨k,o,t,y,Mill.ba x,0⟩ 0]:=by
 simp [Pa.lf,Pa.flat,Pa.flats]
theorem Pa.Good.unIs {ts:List (Mill.Piece × Nat)} (hG:Pa.Good ts) (i:Nat):Pa.un ts ⟨i,false⟩=Pa.iun ts i:=by
 rw [Pa.un,hG.m (by decide),hG.m (by decide),hG.m (by decide),Pa.iun]
 simp only [Pa.st,Pa.marks1,Pa.ix_cons,Pa.ix_nil]
 by_cases h5:Pa.kd ts i=5
 ·simp only [h5,beq_self_eq_true,Bool.true_and,beq_iff_eq,if_pos,eq_comm (a:=Pa.tx ts i)]
  split
  ·rfl
  ·split
   ·simp
   ·split <;> simp
 ·have e5:(Pa.kd ts i == 5)=false:=by simpa using h5
  simp [e5,h5]
structure Pa.Tw (ts:List (Mill.Piece × Nat)) (n:Nat):Prop where
 unm:∀ m i q,8 * n≤m→Pa.unm ts n i=some q→Pa.Sm (Pa.single ts m ⟨i,false⟩) q
 word:∀ m i q,8 * n≤m→Pa.kd ts i=2→Pa.iword ts n i=some q→Pa.Sm (Pa.word ts m ⟨i,false⟩) q
 brk:∀ m i q,8 * n≤m→Pa.brk ts n i=some q→Pa.Sm (if (Pa.need ts [40] ⟨i,false⟩).bad then some ([],Pa.need ts [40] ⟨i,false⟩) else (Pa.expr ts m 1 (Pa.need ts [40] ⟨i,false⟩)).map fun r=>(r.1,Pa.need ts [41] r.2)) q
 brk1:∀ m i q,8 * n≤m→Pa.brk ts n i=some q→Pa.Sm (Pa.built ts m 1 ⟨i,false⟩) q
 brest:∀ m k i q,8 * n≤m→Pa.brest ts n k i=some q→Pa.SmL (Pa.built ts m k ⟨i,false⟩) q
 brestL:∀ m k j us i q,8 * n≤m→Pa.brestL ts n k j us i=some q→Pa.SmL (Pa.builtL ts m k j (Pa.flats us) ⟨i,false⟩) q
 call:∀ m i q,8 * n≤m→Pa.call ts n i=some q→(Pa.st ts 5 [40] i=true→Pa.SmC (Pa.exprs ts m ⟨i+1,false⟩) q)∧(Pa.st ts 5 [40] i=false→q = .error i)
 args:∀ m us i q,8 * n≤m→Pa.args ts n us i=some q→Pa.SmC ((Pa.exprsL ts m us.length (Pa.flats us) ⟨i,false⟩).map fun r=>(r.1,r.2.1,Pa.need ts [41] r.2.2)) q
 rank:∀ m l i q,8 * n≤m→1≤l→l≤6→Pa.rank ts n l i=some q→Pa.Sm (Pa.expr ts m l ⟨i,false⟩) q
 rankL:∀ (f:Nat→Nat) l M t i q,(∀ r,8 * n≤f r)→1≤l→M≤5→Pa.rankL ts n l M t i=some q→Pa.Sm (Pa.chain ts f l M (Pa.flat t) ⟨i,false⟩) q
theorem Pa.tw_unm {ts:List (Mill.Piece × Nat)} (hG:Pa.Good ts) (n:Nat) (ih:Pa.Tw ts n) (m i:Nat) (q) (hm:8 * (n+1)≤m) (h:Pa.unm ts (n+1) i=some q):Pa.Sm (Pa.single ts m ⟨i,false⟩) q:=by
 obtain ⟨m,rfl⟩:∃ k,m=k+1:=⟨m - 1,by omega⟩
 rw [Pa.unm] at h
 rw [Pa.single,Pa.kind_mk,hG.unIs]
 split at h
 ·rename_i h0
  have h5:Pa.kd ts i=5:=by
   by_cases e:Pa.kd ts i=5
   ·exact e
   ·simp [Pa.iun,e] at h0
  simp only [h5,if_pos h0,show (5:Int)≠3 from by decide,show (5:Int)≠4 from by decide,show (5:Int)≠1 from by decide,show (5:Int)≠2 from by decide,if_false]
  rcases Pa.bd_some h with ⟨k,h1,rfl⟩ | ⟨x,h1,h2⟩
  ·obtain ⟨o,h3⟩:=ih.unm m (i+1) _ (by omega) h1
   rw [Pa.nx_mk,h3];exact ⟨_,rfl⟩
  ·have h3:=ih.unm m (i+1) _ (by omega) h1
   simp only [Option.some.injEq] at h2
   subst h2
   simp only [Pa.Sm] at h3 ⊢
   rw [Pa.nx_mk,h3,Pa.flat_br,Pa.flats_one];rfl
 ·rename_i h0
  rw [if_neg h0]
  split at h
  ·rename_i h3
   rw [if_pos h3]
   simp only [Option.some.injEq] at h;subst h
   simp only [Pa.Sm];rw [Pa.flat_lf];rfl
  ·rename_i h3
   rw [if_neg h3]
   split at h
   ·rename_i h4
    rw [if_pos h4]
    simp only [Option.some.injEq] at h;subst h
    simp only [Pa.Sm];rw [Pa.flat_lf];rfl
   ·rename_i h4
    rw [if_neg h4]
    split at h
    ·rename_i h1
     rw [if_pos h1,Pa.nx_mk,hG.m (by decide)]
     split at h
     ·rename_i hp
      rw [if_pos hp,Pa.nx_mk]
      rcases Pa.bd_some h with ⟨k,h1,rfl⟩ | ⟨x,h1,h2⟩
      ·obtain ⟨o,c,h3⟩:=(ih.call m (i+1) _ (by omega) h1).1 hp
       rw [h3];exact ⟨_,rfl⟩
      ·have h3:=(ih.call m (i+1) _ (by omega) h1).1 hp
       simp only [Option.some.injEq] at h2
       subst h2
       simp only [Pa.Sm,Pa.SmC] at h3 ⊢
       rw [h3,Pa.flat_br];rfl
     ·rename_i hp
      rw [if_neg hp]
      simp only [Option.some.injEq] at h;subst h
      simp only [Pa.Sm];rw [Pa.flat_lf];rfl
    ·rename_i h1
     rw [if_neg h1]
     split at h
     ·rename_i h2
      rw [if_pos h2]
      exact ih.word m i q (by omega) h2 h
     ·rename_i h2
      rw [if_neg h2]
      exact ih.brk m i q (by omega) h
theorem Pa.brestL_len {ts:List (Mill.Piece × Nat)} (k:Nat):∀ (n j:Nat) (us:List Mill.Tr) (i:Nat) (x),us.length=j→j≤k→Pa.brestL ts n k j us i=some (.ok x)→x.1.length=k:=by
 intro n
 induction n with
 | zero=>intro j us i x _ _ h;simp [Pa.brestL] at h
 | succ n ih =>
  intro j us i x hj hk h
  rw [Pa.brestL] at h
  split at h
  ·obtain ⟨y,_,h⟩:=Pa.bd_ok_some h
   obtain ⟨y,_,h⟩:=Pa.bd_ok_some h
   exact ih (j+1) _ _ _ (by simp [hj]) (by omega) h
  ·simp only [Option.some.injEq,Except.ok.injEq] at h
   subst h
   simp only;omega
theorem Pa.brest_len {ts:List (Mill.Piece × Nat)} {n k i:Nat} {x} (h:Pa.brest ts n k i=some (.ok x)):x.1.length=k:=by
 cases n with
 | zero=>simp [Pa.brest] at h
 | succ n =>
  rw [Pa.brest] at h
  obtain ⟨y,_,h⟩:=Pa.bd_ok_some h
  obtain ⟨y,h1,h⟩:=Pa.bd_ok_some h
  obtain ⟨z,_,h⟩:=Pa.bd_ok_some h
  simp only [Option.some.injEq,Except.ok.injEq] at h
  subst h
  exact Pa.brestL_len k n 0 [] _ y rfl (by omega) h1
theorem Pa.kids_nn (o:Nat):0≤Mill.builtKids (o:Int):=by unfold Mill.builtKids;(repeat' (first | omega | split))
theorem Pa.tw_word {ts:List (Mill.Piece × Nat)} (n:Nat) (ih:Pa.Tw ts n) (m i:Nat) (q) (hm:8 * (n+1)≤m) (h2:Pa.kd ts i=2) (h:Pa.iword ts (n+1) i=some q):Pa.Sm (Pa.word ts m ⟨i,false⟩) q:=by
 obtain ⟨m,rfl⟩:∃ k,m=k+1:=⟨m - 1,by omega⟩
 rw [Pa.iword] at h
 rw [Pa.word]
 simp only [Pa.st,h2,Pa.bop,Pa.wty,beq_self_eq_true,Bool.true_and,beq_iff_eq,if_true] at h ⊢
 split at h
 ·rename_i h3
  rw [if_pos h3]
  simp only [Option.some.injEq] at h;subst h
  simp only [Pa.Sm];rw [Pa.flat_lf];rfl
 ·rename_i h3
  rw [if_neg h3]
  split at h
  ·rename_i h4
   rw [if_pos h4]
   simp only [Option.some.injEq] at h;subst h
   simp only [Pa.Sm];rw [Pa.flat_lf];rfl
  ·rename_i h4
   rw [if_neg h4]
   split at h
   ·rename_i h5
    have h6:¬ 3≤Pa.ix Pa.words (Pa.tx ts i):=by
     intro h6
     have d:∀ x,x ∈ Pa.builts→Pa.ix Pa.words x=0:=by decide
     have hb:Pa.tx ts i ∈ Pa.builts:=by
      by_cases e:Pa.tx ts i ∈ Pa.builts
      ·exact e
      ·simp [Pa.ix,e] at h5
     rw [d _ hb] at h6;omega
    rw [if_neg h6,if_pos h5,Pa.nx_mk]
    rcases Pa.bd_some h with ⟨k,h1,rfl⟩ | ⟨x,h1,h2⟩
    ·obtain ⟨o,h3⟩:=ih.brest m _ (i+1) _ (by omega) h1
     rw [h3];exact ⟨_,rfl⟩
    ·have h3:=ih.brest m _ (i+1) _ (by omega) h1
     simp only [Option.some.injEq] at h2
     subst h2
     simp only [Pa.Sm,Pa.SmL] at h3 ⊢
     rw [h3,Pa.flat_br]
     simp only [Mill.takenN,Pa.brest_len h1,Int.toNat_of_nonneg (Pa.kids_nn _)];rfl
   ·rename_i h5
    split at h
    ·rename_i h6
     rw [if_neg (by omega),if_neg h5]
     simp only [Option.some.injEq] at h;subst h
     exact ⟨_,rfl⟩
    ·rename_i h6
     rw [if_pos (by omega),Pa.nx_mk]
     rcases Pa.bd_some h with ⟨k,h1,rfl⟩ | ⟨x,h1,h2⟩
     ·obtain ⟨o,h3⟩:=ih.brk1 m (i+1) _ (by omega) h1
      rw [h3];exact ⟨_,rfl⟩
     ·have h3:=ih.brk1 m (i+1) _ (by omega) h1
      simp only [Option.some.injEq] at h2
      subst h2
      simp only [Pa.Sm] at h3 ⊢
      rw [h3,Pa.flat_br,Pa.flats_one];rfl
theorem Pa.nd_some {ts:List (Mill.Piece × Nat)} {k:Int} {T:List UInt8} {i:Nat} {β:Type} {f:Unit→Nat→Pa.R β} {y:Except Nat (β × Nat)} (h:Pa.bd (Pa.nd ts k T i) f=some y):(Pa.st ts k T i=false∧y = .error i)∨(Pa.st ts k T i=true∧f () (i+1)=some y):=by
 unfold Pa.nd at h
 split at h
 ·rename_i h1;exact .inr ⟨h1,h⟩
 ·rename_i h1
  simp only [Pa.bd,Option.some.injEq] at h
  exact .inl ⟨by simpa using h1,h.symm⟩
theorem Pa.tw_brk {ts:List (Mill.Piece × Nat)} (hG:Pa.Good ts) (n:Nat) (ih:Pa.Tw ts n) (m i:Nat) (q) (hm:8 * (n+1)≤m+4) (h:Pa.brk ts (n+1) i=some q):Pa.Sm (if (Pa.need ts [40] ⟨i,false⟩).bad then some ([],Pa.need ts [40] ⟨i,false⟩) else (Pa.expr ts m 1 (Pa.need ts [40] ⟨i,false⟩)).map fun r=>(r.1,Pa.need ts [41] r.2)) q:=by
 rw [Pa.brk] at h
 rw [hG.need (by decide)]
 rcases Pa.nd_some h with ⟨h1,rfl⟩ | ⟨h1,h⟩
 ·rw [h1];exact ⟨_,rfl⟩
 ·simp only [h1,if_true,Bool.false_eq_true,if_false]
  rcases Pa.bd_some h with ⟨k,h2,rfl⟩ | ⟨x,h2,h⟩
  ·obtain ⟨o,h3⟩:=ih.rank m 1 (i+1) _ (by omega) (by omega) (by omega) h2
   rw [h3];exact ⟨_,rfl⟩
  ·have h3:=ih.rank m 1 (i+1) _ (by omega) (by omega) (by omega) h2
   simp only [Pa.Sm] at h3
   rw [h3,Option.map_some,hG.need (by decide)]
   rcases Pa.nd_some h with ⟨h1,rfl⟩ | ⟨h1,h⟩
   ·simp only [h1];exact ⟨_,rfl⟩
   ·simp only [Option.some.injEq] at h;subst h
    simp only [h1,if_true,Pa.Sm]
theorem Pa.tw_brk1 {ts:List (Mill.Piece × Nat)} (hG:Pa.Good ts) (n:Nat) (ih:Pa.Tw ts n) (m i:Nat) (q) (hm:8 * (n+1)≤m) (h:Pa.brk ts (n+1) i=some q):Pa.Sm (Pa.built ts m 1 ⟨i,false⟩) q:=by
 obtain ⟨m,rfl⟩:∃ k,m=k+4:=⟨m - 4,by omega⟩
 have h2:=Pa.tw_brk hG n ih (m+2) i q (by omega) h
 rw [Pa.built]
 rw [hG.need (by decide)] at h2 ⊢
 cases h1:Pa.st ts 5 [40] i with
 | false =>
  rw [h1] at h2
  rw [Pa.builtL]
  simpa [Pa.need_bad] using h2
 | true =>
  simp only [h1,if_true,Bool.false_eq_true,if_false] at h2 ⊢
  rw [Pa.builtL]
  simp only [Nat.lt_irrefl,Nat.zero_lt_one,true_and,if_true,if_false]
  cases h3:Pa.expr ts (m+2) 1 ⟨i+1,false⟩ with
  | none=>rw [h3] at h2;simpa using h2
  | some x =>
   rw [h3] at h2
   simp only
   rw [Pa.builtL]
   simpa using h2
theorem Pa.tw_brestL {ts:List (Mill.Piece × Nat)} (hG:Pa.Good ts) (n:Nat) (ih:Pa.Tw ts n) (m k j:Nat) (us:List Mill.Tr) (i:Nat) (q) (hm:8 * (n+1)≤m) (h:Pa.brestL ts (n+1) k j us i=some q):Pa.SmL (Pa.builtL ts m k j (Pa.flats us) ⟨i,false⟩) q:=by
 obtain ⟨m,rfl⟩:∃ k,m=k+2:=⟨m - 2,by omega⟩
 rw [Pa.brestL] at h
 rw [Pa.builtL]
 split at h
 ·rename_i hj
  rw [if_pos ⟨hj,rfl⟩]
  have go:∀ l,(Pa.bd (Pa.rank ts n 1 l) fun t m=>Pa.brestL ts n k (j+1) (us++[t]) m)=some q→Pa.SmL (match Pa.expr ts (m+1) 1 ⟨l,false⟩ with
    | none=>none
    | some r=>Pa.builtL ts (m+1) k (j+1) (Pa.flats us++r.1) r.2) q:=by
   intro l h
   rcases Pa.bd_some h with ⟨k,h2,rfl⟩ | ⟨x,h2,h⟩
   ·obtain ⟨o,h3⟩:=ih.rank (m+1) 1 l _ (by omega) (by omega) (by omega) h2
    rw [h3];simp only;rw [Pa.builtL_bad];exact ⟨_,rfl⟩
   ·have h3:=ih.rank (m+1) 1 l _ (by omega) (by omega) (by omega) h2
    simp only [Pa.Sm] at h3
    rw [h3]
    have h4:=ih.brestL (m+1) k (j+1) _ _ _ (by omega) h
    rw [Pa.flats_app,Pa.flats_one] at h4
    exact h4
  by_cases h0:0 < j
  ·rw [if_pos h0] at h ⊢
   rw [hG.need (by decide)]
   rcases Pa.nd_some h with ⟨h1,rfl⟩ | ⟨h1,h⟩
   ·simp only [h1,Bool.false_eq_true,if_false]
    rw [Pa.expr_bad];simp only
    rw [Pa.builtL_bad];exact ⟨_,rfl⟩
   ·simp only [h1,if_true]
    exact go _ h
  ·rw [if_neg h0] at h ⊢
   exact go _ h
 ·rename_i hj
  rw [if_neg (by simp [hj])]
  simp only [Option.some.injEq] at h;subst h
  rfl
theorem Pa.tw_brest {ts:List (Mill.Piece × Nat)} (hG:Pa.Good ts) (n:Nat) (ih:Pa.Tw ts n) (m k i:Nat) (q) (hm:8 * (n+1)≤m) (h:Pa.brest ts (n+1) k i=some q):Pa.SmL (Pa.built ts m k ⟨i,false⟩) q:=by
 obtain ⟨m,rfl⟩:∃ k,m=k+2:=⟨m - 2,by omega⟩
 rw [Pa.brest] at h
 rw [Pa.built,hG.need (by decide)]
 rcases Pa.nd_some h with ⟨h1,rfl⟩ | ⟨h1,h⟩
 ·simp only [h1,Bool.false_eq_true,if_false]
  rw [Pa.builtL_bad];exact ⟨_,rfl⟩
 ·simp only [h1,if_true]
  rcases Pa.bd_some h with ⟨k,h2,rfl⟩ | ⟨x,h2,h⟩
  ·obtain ⟨o,h3⟩:=ih.brestL (m+1) _ 0 [] (i+1) _ (by omega) h2
   rw [Pa.flats] at h3
   rw [h3];exact ⟨_,rfl⟩
  ·have h3:=ih.brestL (m+1) _ 0 [] (i+1) _ (by omega) h2
   simp only [Pa.SmL,Pa.flats] at h3
   rw [h3,Option.map_some,hG.need (by decide)]
   rcases Pa.nd_some h with ⟨h1,rfl⟩ | ⟨h1,h⟩
   ·simp only [h1];exact ⟨_,rfl⟩
   ·simp only [Option.some.injEq] at h;subst h
    simp only [h1,if_true,Pa.SmL]
theorem Pa.tw_call {ts:List (Mill.Piece × Nat)} (hG:Pa.Good ts) (n:Nat) (ih:Pa.Tw ts n) (m i:Nat) (q) (hm:8 * (n+1)≤m) (h:Pa.call ts (n+1) i=some q):(Pa.st ts 5 [40] i=true→Pa.SmC (Pa.exprs ts m ⟨i+1,false⟩) q)∧(Pa.st ts 5 [40] i=false→q = .error i):=by
 obtain ⟨m,rfl⟩:∃ k,m=k+1:=⟨m - 1,by omega⟩
 rw [Pa.call] at h
 rcases Pa.nd_some h with ⟨h1,rfl⟩ | ⟨h1,h⟩
 ·exact ⟨fun e=>by rw [e] at h1;simp at h1,fun _=>rfl⟩
 ·refine ⟨fun _ => ?_,fun e=>by rw [e] at h1;simp at h1⟩
  rw [Pa.exprs,hG.m (by decide)]
  split at h
  ·rename_i h2
   rw [if_pos h2]
   simp only [Option.some.injEq] at h;subst h
   rfl
  ·rename_i h2
   rw [if_neg h2]
   exact ih.args m [] _ _ (by omega) h
theorem Pa.tw_args {ts:List (Mill.Piece × Nat)} (hG:Pa.Good ts) (n:Nat) (ih:Pa.Tw ts n) (m:Nat) (us:List Mill.Tr) (i:Nat) (q) (hm:8 * (n+1)≤m) (h:Pa.args ts (n+1) us i=some q):Pa.SmC ((Pa.exprsL ts m us.length (Pa.flats us) ⟨i,false⟩).map fun r=>(r.1,r.2.1,Pa.need ts [41] r.2.2)) q:=by
 obtain ⟨m,rfl⟩:∃ k,m=k+1:=⟨m - 1,by omega⟩
 rw [Pa.args] at h
 rw [Pa.exprsL]
 simp only [Bool.false_eq_true,if_false]
 rcases Pa.bd_some h with ⟨k,h2,rfl⟩ | ⟨x,h2,h⟩
 ·obtain ⟨o,h3⟩:=ih.rank m 1 i _ (by omega) (by omega) (by omega) h2
  rw [h3]
  simp only [Pa.is_bad,Bool.false_eq_true,if_false,Option.map_some,Pa.need_bad]
  exact ⟨_,_,rfl⟩
 ·have h3:=ih.rank m 1 i _ (by omega) (by omega) (by omega) h2
  simp only [Pa.Sm] at h3
  rw [h3]
  simp only [hG.m (T:=[44]) (by decide)]
  split at h
  ·rename_i h4
   have h5:Pa.st ts 5 [44] x.2=false:=by
    simp only [Pa.st,Bool.and_eq_true,beq_iff_eq] at h4
    simp [Pa.st,h4.2]
   simp only [h5,Bool.false_eq_true,if_false,Option.map_some,hG.need (T:=[41]) (by decide),h4,if_true]
   simp only [Option.some.injEq] at h;subst h
   simp [Pa.SmC,Pa.flats_app,Pa.flats_one]
  ·rename_i h4
   rcases Pa.nd_some h with ⟨h1,rfl⟩ | ⟨h1,h⟩
   ·simp only [h1,Bool.false_eq_true,if_false,Option.map_some,hG.need (T:=[41]) (by decide),h4]
    exact ⟨_,_,rfl⟩
   ·simp only [h1,if_true,Pa.nx_mk]
    have h5:=ih.args m _ _ _ (by omega) h
    simpa [Pa.flats_app,Pa.flats_one] using h5
theorem Pa.tw_rank {ts:List (Mill.Piece × Nat)} (n:Nat) (ih:Pa.Tw ts n) (m l i:Nat) (q) (hm:8 * (n+1)≤m) (h1:1≤l) (h6:l≤6) (h:Pa.rank ts (n+1) l i=some q):Pa.Sm (Pa.expr ts m l ⟨i,false⟩) q:=by
 obtain ⟨m,rfl⟩:∃ k,m=k+(6 - l)+1:=⟨m - (6 - l) - 1,by omega⟩
 rw [Pa.rank] at h
 rw [Pa.expr_chain ts i (6 - l) l m (by omega) h1]
 rcases Pa.bd_some h with ⟨k,h2,rfl⟩ | ⟨x,h2,h⟩
 ·obtain ⟨o,h3⟩:=ih.unm m i _ (by omega) h2
  rw [h3]
  by_cases h0:n=0
  ·subst h0;simp [Pa.unm] at h2
  ·exact ⟨_,Pa.chain_bad ts _ (fun r=>by omega) l _ _ _⟩
 ·have h3:=ih.unm m i _ (by omega) h2
  simp only [Pa.Sm] at h3
  rw [h3]
  exact ih.rankL _ l 5 _ _ _ (fun r=>by omega) h1 (by omega) h
theorem Pa.tw_rankL {ts:List (Mill.Piece × Nat)} (hG:Pa.Good ts) (n:Nat) (ih:Pa.Tw ts n) (f:Nat→Nat) (l M:Nat) (t:Mill.Tr) (i:Nat) (q) (hf:∀ r,8 * (n+1)≤f r) (h1:1≤l) (h5:M≤5) (h:Pa.rankL ts (n+1) l M t i=some q):Pa.Sm (Pa.chain ts f l M (Pa.flat t) ⟨i,false⟩) q:=by
 have hf1:∀ r,1≤f r:=fun r=>by have:=hf r;omega
 rw [Pa.rankL] at h
 split at h
 ·rename_i ho
  simp only [Option.some.injEq] at h;subst h
  exact hG.chainOut f hf1 l i M _ ho
 ·rename_i ho
  rw [hG.chainDown f hf1 l i M _ (by omega) (by omega)]
  obtain ⟨K,hK⟩:∃ K,Pa.rk (Pa.mop ts i)=K:=⟨_,rfl⟩
  rw [hK] at h ⊢ ho
  obtain ⟨g,hg⟩:∃ g,f K=g+1:=⟨f K - 1,by have:=hf1 K;omega⟩
  have hfK:=hf K
  have h6:K≤5:=by omega
  rcases Pa.bd_some h with ⟨k,h2,rfl⟩ | ⟨x,h2,h⟩
  ·exact hG.chainErr f (fun r=>by have:=hf r;omega) l i K g _ h1 hK (by omega) hg k (ih.rank g _ _ _ (by omega) (by omega) (by omega) h2)
  ·have h3:=ih.rank g _ _ _ (by omega) (by omega) (by omega) h2
   rw [hG.chainTake f l i K g _ h1 hK (by omega) hg _ h3]
   simp only
   have e:Pa.flat t++Pa.flat x.1++[⟨6,(Pa.mop ts i:Int),0,0,⟨#[]⟩,2⟩]=Pa.flat (Pa.br 6 (Pa.mop ts i) 0 [] [t,x.1]):=by
    rw [Pa.flat_br];simp [Pa.flats];rfl
   rw [e]
   by_cases hK3:K=3
   ·rw [if_pos hK3] at h ⊢
    exact ih.rankL f l 2 _ _ _ (fun r=>by have:=hf r;omega) h1 (by omega) h
   ·rw [if_neg hK3] at h ⊢
    exact ih.rankL _ l K _ _ _ (fun r=>by have:=hf r;split <;> omega) h1 (by omega) h
theorem Pa.tw_all {ts:List (Mill.Piece × Nat)} (hG:Pa.Good ts):∀ n,Pa.Tw ts n
 | 0=>by constructor <;> intros <;> rename_i h <;> simp [Pa.unm,Pa.iword,Pa.brk,Pa.brest,Pa.brestL,Pa.call,Pa.args,Pa.rank,Pa.rankL] at h
 | n+1=>by
  have ih:=Pa.tw_all hG n
  exact ⟨Pa.tw_unm hG n ih,Pa.tw_word n ih,fun m i q hm h=>Pa.tw_brk hG n ih m i q (by omega) h,Pa.tw_brk1 hG n ih,Pa.tw_brest hG n ih,Pa.tw_brestL hG n ih,Pa.tw_call hG n ih,Pa.tw_args hG n ih,Pa.tw_rank n ih,Pa.tw_rankL hG n ih⟩
theorem Pa.bd_ok' {α β:Type} {x:α} {j:Nat} {f:α→Nat→Pa.R β}:Pa.bd (some (.ok (x,j))) f=f x j:=rfl
theorem Pa.bd_ok2 {α β:Type} {x:α × Nat} {f:α→Nat→Pa.R β}:Pa.bd (some (.ok x)) f=f x.1 x.2:=rfl
theorem Pa.bd_err' {α β:Type} {k:Nat} {f:α→Nat→Pa.R β}:Pa.bd (some (.error k)) f=some (.error k):=rfl
def Pa.SmB (k:Int) (a:Option (Pa.Nds × Pa.S)) (q:Except Nat (List Mill.Tr × Nat)):Prop:=match q with
 | .ok x=>a=some (Pa.flat (Pa.br k 0 0 [] x.1),⟨x.2,false⟩)
 | .error k => ∃ o,a=some (o,⟨k,true⟩)
structure Pa.Ts (ts:List (Mill.Piece × Nat)) (n:Nat):Prop where
 block:∀ m i q,8 * n≤m→Pa.iblock ts n i=some q→Pa.SmB 21 (Pa.block ts m ⟨i,false⟩) q
 blockL:∀ m us i q,8 * n≤m→Pa.iblockL ts n us i=some q→Pa.SmB 21 (Pa.blockL ts m us.length (Pa.flats us) ⟨i,false⟩) q
 ifr:∀ m i q,8 * n≤m→Pa.ifr ts n i=some q→Pa.SmB 12 (Pa.cond ts m ⟨i,false⟩) q
 stmt:∀ m i q,8 * n≤m→Pa.istmt ts n i=some q→Pa.Sm (Pa.stmt ts m ⟨i,false⟩) q
theorem Pa.ts_block {ts:List (Mill.Piece × Nat)} (hG:Pa.Good ts) (n:Nat) (ih:Pa.Ts ts n) (m i:Nat) (q) (hm:8 * (n+1)≤m) (h:Pa.iblock ts (n+1) i=some q):Pa.SmB 21 (Pa.block ts m ⟨i,false⟩) q:=by
 obtain ⟨m,rfl⟩:∃ k,m=k+2:=⟨m - 2,by omega⟩
 rw [Pa.iblock] at h
 rw [Pa.block,hG.need (by decide)]
 rcases Pa.nd_some h with ⟨h1,rfl⟩ | ⟨h1,h⟩
 ·simp only [h1,Bool.false_eq_true,if_false]
  exact Pa.blockL_bad ..
 ·simp only [h1,if_true]
  exact ih.blockL (m+1) [] _ _ (by omega) h
theorem Pa.ts_blockL {ts:List (Mill.Piece × Nat)} (hG:Pa.Good ts) (n:Nat) (ih:Pa.Ts ts n) (m:Nat) (us:List Mill.Tr) (i:Nat) (q) (hm:8 * (n+1)≤m) (h:Pa.iblockL ts (n+1) us i=some q):Pa.SmB 21 (Pa.blockL ts m us.length (Pa.flats us) ⟨i,false⟩) q:=by
 obtain ⟨m,rfl⟩:∃ k,m=k+2:=⟨m - 2,by omega⟩
 rw [Pa.iblockL] at h
 rw [Pa.blockL,hG.m (by decide)]
 simp only [Bool.false_eq_true,if_false]
 split at h
 ·rename_i h1
  simp only [h1,if_true]
  simp only [Option.some.injEq] at h;subst h
  simp only [Pa.SmB,Pa.flat_br];rfl
 ·rename_i h1
  simp only [h1,Bool.false_eq_true,if_false]
  rcases Pa.bd_some h with ⟨k,h2,rfl⟩ | ⟨x,h2,h⟩
  ·obtain ⟨o,h3⟩:=ih.stmt (m+1) i _ (by omega) h2
   rw [h3]
   exact Pa.blockL_bad ..
  ·have h3:=ih.stmt (m+1) i _ (by omega) h2
   simp only [Pa.Sm] at h3
   rw [h3]
   have h4:=ih.blockL (m+1) _ _ _ (by omega) h
   simpa [Pa.flats_app,Pa.flats_one] using h4
theorem Pa.ts_ifr {ts:List (Mill.Piece × Nat)} (hG:Pa.Good ts) (n:Nat) (ih:Pa.Ts ts n) (m i:Nat) (q) (hm:8 * (n+1)≤m) (h:Pa.ifr ts (n+1) i=some q):Pa.SmB 12 (Pa.cond ts m ⟨i,false⟩) q:=by
 obtain ⟨m,rfl⟩:∃ k,m=k+3:=⟨m - 3,by omega⟩
 rw [Pa.ifr] at h
 rw [Pa.cond]
 rcases Pa.bd_some h with ⟨k,h2,rfl⟩ | ⟨x,h2,h⟩
 ·obtain ⟨o,h3⟩:=(Pa.tw_all hG n).rank (m+2) 1 i _ (by omega) (by omega) (by omega) h2
  obtain ⟨o2,h4⟩:=Pa.block_bad ts m k
  rw [h3]
  simp only [h4,Pa.is_bad,Bool.false_eq_true,if_false]
  exact ⟨_,rfl⟩
 ·have h3:=(Pa.tw_all hG n).rank (m+2) 1 i _ (by omega) (by omega) (by omega) h2
  simp only [Pa.Sm] at h3
  rw [h3]
  simp only
  rcases Pa.bd_some h with ⟨k,h2,rfl⟩ | ⟨y,h2,h⟩
  ·obtain ⟨o,h4⟩:=ih.block (m+2) _ _ (by omega) h2
   simp only [h4,Pa.is_bad,Bool.false_eq_true,if_false]
   exact ⟨_,rfl⟩
  ·have h4:=ih.block (m+2) _ _ (by omega) h2
   simp only [Pa.SmB] at h4
   simp only [h4,hG.w (T:=[101,108,115,101]) (by decide),hG.w (T:=[105,102]) (by decide),Pa.nx_mk]
   split at h
   ·rename_i h5
    simp only [h5,if_true]
    split at h
    ·rename_i h6
     simp only [h6,if_true]
     rcases Pa.bd_some h with ⟨k,h2,rfl⟩ | ⟨z,h2,h⟩
     ·obtain ⟨o,h7⟩:=ih.ifr (m+2) _ _ (by omega) h2
      rw [h7];exact ⟨_,rfl⟩
     ·have h7:=ih.ifr (m+2) _ _ (by omega) h2
      simp only [Pa.SmB] at h7
      simp only [Option.some.injEq] at h;subst h
      simp only [Pa.SmB]
      rw [h7,Pa.flat_br 12 0 0 [] [x.1,_,_]];simp [Pa.flats];rfl
    ·rename_i h6
     simp only [h6,Bool.false_eq_true,if_false]
     rcases Pa.bd_some h with ⟨k,h2,rfl⟩ | ⟨z,h2,h⟩
     ·obtain ⟨o,h7⟩:=ih.block (m+2) _ _ (by omega) h2
      rw [h7];exact ⟨_,rfl⟩
     ·have h7:=ih.block (m+2) _ _ (by omega) h2
      simp only [Pa.SmB] at h7
      simp only [Option.some.injEq] at h;subst h
      simp only [Pa.SmB]
      rw [h7,Pa.flat_br 12 0 0 [] [x.1,_,_]];simp [Pa.flats];rfl
   ·rename_i h5
    simp only [h5,Bool.false_eq_true,if_false]
    simp only [Option.some.injEq] at h;subst h
    simp only [Pa.SmB]
    rw [Pa.flat_br 12 0 0 [] [x.1,_]];simp [Pa.flats];rfl
theorem Pa.st_kd {ts:List (Mill.Piece × Nat)} {k:Int} {T:List UInt8} {i:Nat} (h:Pa.st ts k T i=true):Pa.kd ts i=k∧Pa.tx ts i=T:=by simpa [Pa.st] using h
theorem Pa.st_ne {ts:List (Mill.Piece × Nat)} {k:Int} {T:List UInt8} {i:Nat} (h:Pa.kd ts i≠k):Pa.st ts k T i=false:=by simp [Pa.st,h]
theorem Pa.st_nt {ts:List (Mill.Piece × Nat)} {k:Int} {T U:List UInt8} {i:Nat} (h:Pa.st ts k T i=true) (hT:T≠U):Pa.st ts k U i=false:=by simp [Pa.st,(Pa.st_kd h).2,hT]
theorem Pa.ts_one {ts:List (Mill.Piece × Nat)} (hG:Pa.Good ts) (n m j:Nat) (hm:8 * n≤m) (k:Int) (x:List UInt8) (hk:Mill.takenN ⟨k,0,0,0,Mill.ba x,1⟩ 1=⟨k,0,0,0,Mill.ba x,1⟩) (q:Except Nat (Mill.Tr × Nat)) (h:(Pa.bd (Pa.bd (Pa.rank ts n 1 j) fun t l=>some (.ok (Pa.br k 0 0 x [t],l))) fun t j=>Pa.bd (Pa.nd ts 5 [59] j) fun _ k=>some (.ok (t,k)))=some q):Pa.Sm ((Pa.expr ts m 1 ⟨j,false⟩).map fun r=>(r.1++[⟨k,0,0,0,Mill.ba x,1⟩],Pa.need ts [59] r.2)) q:=by
 rcases Pa.bd_some h with ⟨e,h2,rfl⟩ | ⟨y,h2,h⟩
 ·rcases Pa.bd_some h2 with ⟨e2,h2,h3⟩ | ⟨y,h2,h3⟩
  ·simp only [Except.error.injEq] at h3;subst h3
   obtain ⟨o,h3⟩:=(Pa.tw_all hG n).rank m 1 j _ hm (by omega) (by omega) h2
   rw [h3];exact ⟨_,rfl⟩
  ·simp at h3
 ·obtain ⟨z,h4,h3⟩:=Pa.bd_ok_some h2
  simp only [Option.some.injEq,Except.ok.injEq] at h3;subst h3
  have h3:=(Pa.tw_all hG n).rank m 1 j _ hm (by omega) (by omega) h4
  simp only [Pa.Sm] at h3
  rw [h3,Option.map_some,hG.need (by decide)]
  rcases Pa.nd_some h with ⟨h1,rfl⟩ | ⟨h1,h⟩
  ·simp only [h1];exact ⟨_,rfl⟩
  ·simp only [Option.some.injEq] at h;subst h
   simp only [h1,if_true,Pa.Sm]
   rw [Pa.flat_br,Pa.flats_one]
   have e:(([z.1]:List Mill.Tr).length:Int)=1:=rfl
   rw [e,List.length_singleton,hk]
theorem Pa.ts_leaf {ts:List (Mill.Piece × Nat)} (hG:Pa.Good ts) (j:Nat) (k:Int) (hk:Mill.takenN ⟨k,0,0,0,Mill.ba [],0⟩ 0=⟨k,0,0,0,Mill.ba [],0⟩) (q:Except Nat (Mill.Tr × Nat)) (h:(Pa.bd (some (.ok (Pa.lf k 0 0 0 [],j))) fun t j=>Pa.bd (Pa.nd ts 5 [59] j) fun _ k=>some (.ok (t,k)))=some q):Pa.Sm (some ([⟨k,0,0,0,⟨#[]⟩,0⟩],Pa.need ts [59] ⟨j,false⟩)) q:=by
 rw [hG.need (by decide)]
 rw [Pa.bd] at h
 rcases Pa.nd_some h with ⟨h1,rfl⟩ | ⟨h1,h⟩
 ·rw [h1];exact ⟨_,rfl⟩
 ·simp only [Option.some.injEq] at h;subst h
  simp only at h1
  simp only [h1,if_true,Pa.Sm]
  rw [Pa.flat_lf,hk];rfl
theorem Pa.ts_name {ts:List (Mill.Piece × Nat)} (hG:Pa.Good ts) (n m i:Nat) (hm:8 * n≤m) (q:Except Nat (Mill.Tr × Nat)) (h1:Pa.kd ts i=1) (h:(Pa.bd (Pa.short ts (n+1) i) fun t j=>Pa.bd (Pa.nd ts 5 [59] j) fun _ k=>some (.ok (t,k)))=some q):Pa.Sm (Pa.stmt ts (m+1) ⟨i,false⟩) q:=by
 have hn:∀ T,Pa.st ts 2 T i=false:=fun T=>Pa.st_ne (by rw [h1];decide)
 rw [Pa.short] at h
 simp only [hn,Bool.false_eq_true,if_false,Pa.iname,h1,if_true,Pa.bd_ok'] at h
 rw [Pa.stmt,Pa.kind_mk,if_pos h1,Pa.nx_mk,hG.m (by decide),hG.need (by decide),Pa.nx_mk]
 by_cases h2:Pa.st ts 5 [61] (i+1)=true
 ·rw [if_pos h2] at h ⊢
  exact Pa.ts_one hG n m _ hm 11 _ rfl q h
 ·rw [if_neg h2] at h ⊢
  by_cases h3:Pa.st ts 5 [40] (i+1)=true
  ·rw [if_pos h3]
   simp only [Bool.false_eq_true,if_false]
   rcases Pa.bd_some h with ⟨e,h4,rfl⟩ | ⟨y,h4,h⟩
   ·rcases Pa.bd_some h4 with ⟨e2,h4,h5⟩ | ⟨y,h4,h5⟩
    ·simp only [Except.error.injEq] at h5;subst h5
     obtain ⟨o,c,h6⟩:=((Pa.tw_all hG n).call m (i+1) _ hm h4).1 h3
     rw [h6];exact ⟨_,rfl⟩
    ·simp at h5
   ·obtain ⟨z,h7,h5⟩:=Pa.bd_ok_some h4
    simp only [Option.some.injEq,Except.ok.injEq] at h5;subst h5
    have h6:=((Pa.tw_all hG n).call m (i+1) _ hm h7).1 h3
    simp only [Pa.SmC] at h6
    rw [h6,Option.map_some,hG.need (by decide)]
    rcases Pa.nd_some h with ⟨h1,rfl⟩ | ⟨h1,h⟩
    ·simp only [h1];exact ⟨_,rfl⟩
    ·simp only [Option.some.injEq] at h;subst h
     simp only [h1,if_true,Pa.Sm]
     rw [Pa.flat_br,Pa.flats_one,Pa.flat_br];rfl
  ·rw [if_neg h3]
   rcases Pa.bd_some h with ⟨e,h4,rfl⟩ | ⟨y,h4,h⟩
   ·rcases Pa.bd_some h4 with ⟨e2,h4,h5⟩ | ⟨y,h4,h5⟩
    ·simp only [Except.error.injEq] at h5;subst h5
     have h6:=((Pa.tw_all hG n).call m (i+1) _ hm h4).2 (by simpa using h3)
     simp only [Except.error.injEq] at h6;subst h6
     exact ⟨_,rfl⟩
    ·simp at h5
   ·obtain ⟨z,h4,h5⟩:=Pa.bd_ok_some h4
    have h6:=((Pa.tw_all hG n).call m (i+1) _ hm h4).2 (by simpa using h3)
    simp at h6
theorem Pa.ts_stmt {ts:List (Mill.Piece × Nat)} (hG:Pa.Good ts) (n:Nat) (ih:Pa.Ts ts n) (m i:Nat) (q) (hm:8 * (n+1)≤m) (h:Pa.istmt ts (n+1) i=some q):Pa.Sm (Pa.stmt ts m ⟨i,false⟩) q:=by
 obtain ⟨m,rfl⟩:∃ k,m=k+4:=⟨m - 4,by omega⟩
 rw [Pa.istmt] at h
 by_cases h1:Pa.kd ts i=1
 ·rw [if_neg (by simp [Pa.st,h1]),if_neg (by simp [Pa.st,h1])] at h
  cases n with
  | zero=>simp [Pa.short,Pa.bd] at h
  | succ n=>exact Pa.ts_name hG n (m+3) i (by omega) q h1 h
 rw [Pa.stmt,Pa.kind_mk,if_neg h1,hG.w (by decide),hG.w (by decide),hG.w (by decide),hG.w (by decide),hG.w (by decide),hG.w (by decide),hG.w (by decide),hG.w (by decide),hG.w (by decide)]
 simp only [Pa.nx_mk]
 split at h
 ·rename_i h2
  rw [if_pos h2]
  rcases Pa.bd_some h with ⟨k,h3,rfl⟩ | ⟨y,h3,h⟩
  ·exact ih.ifr (m+3) (i+1) _ (by omega) h3
  ·have h4:=ih.ifr (m+3) (i+1) _ (by omega) h3
   simp only [Option.some.injEq] at h;subst h
   exact h4
 rename_i h2
 rw [if_neg h2]
 split at h
 ·rename_i h3
  rw [if_pos h3]
  rcases Pa.bd_some h with ⟨k,h4,rfl⟩ | ⟨y,h4,h⟩
  ·obtain ⟨o,h5⟩:=(Pa.tw_all hG n).rank (m+3) 1 (i+1) _ (by omega) (by omega) (by omega) h4
   obtain ⟨o2,h6⟩:=Pa.block_bad ts (m+1) k
   rw [h5];simp only [h6];exact ⟨_,rfl⟩
  ·have h5:=(Pa.tw_all hG n).rank (m+3) 1 (i+1) _ (by omega) (by omega) (by omega) h4
   simp only [Pa.Sm] at h5
   rw [h5]
   rcases Pa.bd_some h with ⟨k,h4,rfl⟩ | ⟨z,h4,h⟩
   ·obtain ⟨o,h5⟩:=ih.block (m+3) _ _ (by omega) h4
    simp only [h5];exact ⟨_,rfl⟩
   ·have h5:=ih.block (m+3) _ _ (by omega) h4
    simp only [Pa.SmB] at h5
    simp only [Option.some.injEq] at h;subst h
    simp only [h5,Pa.Sm,Option.map_some]
    rw [Pa.flat_br 13 0 0 [] [y.1,_]];simp [Pa.flats];rfl
 rename_i h3
 rw [if_neg h3]
 cases n with
 | zero=>simp [Pa.short,Pa.bd] at h
 | succ n =>
 rw [Pa.short] at h
 by_cases h4:Pa.st ts 2 [108,101,116] i=true
 ·rw [if_pos h4] at h ⊢
  simp only [Pa.iname] at h
  simp only [Pa.name,Pa.kind_mk,Pa.nx_mk,Pa.nameT]
  by_cases h5:Pa.kd ts (i+1)=1
  ·simp only [h5,if_true,Pa.bd_ok'] at h ⊢
   rw [hG.need (by decide)]
   by_cases h6:Pa.st ts 5 [61] (i+1+1)=true
   ·simp only [Pa.nd,h6,if_true,Pa.bd_ok'] at h ⊢
    exact Pa.ts_one hG n (m+3) _ (by omega) 10 _ rfl q h
   ·simp only [Bool.not_eq_true] at h6
    simp only [Pa.nd,h6,Bool.false_eq_true,if_false,Pa.bd_err'] at h ⊢
    simp only [Option.some.injEq] at h;subst h
    rw [Pa.expr_bad];exact ⟨_,rfl⟩
  ·simp only [h5,if_false,Pa.bd_err'] at h ⊢
   simp only [Option.some.injEq] at h;subst h
   rw [Pa.need_bad,Pa.expr_bad];exact ⟨_,rfl⟩
 rw [if_neg h4] at h ⊢
 by_cases h5:Pa.st ts 2 [98,114,101,97,107] i=true
 ·rw [if_pos h5] at h ⊢
  exact Pa.ts_leaf hG _ 14 rfl q h
 rw [if_neg h5] at h ⊢
 by_cases h6:Pa.st ts 2 [99,111,110,116,105,110,117,101] i=true
 ·rw [if_pos h6] at h ⊢
  exact Pa.ts_leaf hG _ 15 rfl q h
 rw [if_neg h6] at h ⊢
 by_cases h7:Pa.st ts 2 [114,101,116,117,114,110] i=true
 ·rw [if_pos h7] at h ⊢
  have e59:=hG.m (T:=[59]) (by decide) (i+1)
  by_cases h8:Pa.st ts 5 [59] (i+1)=true
  ·rw [h8] at e59
   rw [if_pos h8] at h
   simp only [e59,if_true]
   exact Pa.ts_leaf hG _ 16 rfl q h
  ·rw [if_neg h8] at h
   simp only [e59,h8,Bool.false_eq_true,if_false]
   exact Pa.ts_one hG n (m+3) _ (by omega) 16 [] rfl q h
 rw [if_neg h7] at h ⊢
 by_cases h8:Pa.st ts 2 [102,97,105,108] i=true
 ·rw [if_pos h8] at h ⊢
  exact Pa.ts_one hG n (m+3) _ (by omega) 17 [] rfl q h
 rw [if_neg h8] at h ⊢
 by_cases h9:Pa.st ts 2 [115,97,121] i=true
 ·rw [if_neg (by rw [Pa.st_nt h9 (by decide)];decide),if_pos h9] at h
  rw [if_pos h9]
  exact Pa.ts_one hG n (m+3) _ (by omega) 19 [] rfl q h
 rw [if_neg h9] at h ⊢
 by_cases h10:Pa.st ts 2 [119,114,105,116,101] i=true
 ·rw [if_pos h10] at h ⊢
  cases hr:Pa.rank ts n 1 (i+1) with
  | none=>rw [hr] at h;simp [Pa.bd] at h
  | some r =>
   rw [hr] at h
   have h11:=(Pa.tw_all hG n).rank (m+3) 1 (i+1) _ (by omega) (by omega) (by omega) hr
   cases r with
   | error k =>
    simp only [Pa.bd_err',Option.some.injEq] at h;subst h
    obtain ⟨o,h11⟩:=h11
    rw [h11];simp only [Pa.need_bad]
    rw [Pa.expr_bad];exact ⟨_,rfl⟩
   | ok x =>
    simp only [Pa.Sm] at h11
    rw [h11];simp only [hG.need (T:=[44]) (by decide)]
    simp only [Pa.bd_ok2] at h
    by_cases h12:Pa.st ts 5 [44] x.2=true
    ·simp only [Pa.nd,h12,if_true,Pa.bd_ok'] at h ⊢
     cases hr:Pa.rank ts n 1 (x.2+1) with
     | none=>rw [hr] at h;simp [Pa.bd] at h
     | some r =>
      rw [hr] at h
      have h13:=(Pa.tw_all hG n).rank (m+3) 1 _ _ (by omega) (by omega) (by omega) hr
      cases r with
      | error k =>
       simp only [Pa.bd_err',Option.some.injEq] at h;subst h
       obtain ⟨o,h13⟩:=h13
       rw [h13];exact ⟨_,rfl⟩
      | ok y =>
       simp only [Pa.Sm] at h13
       simp only [Pa.bd_ok2] at h
       rw [h13,Option.map_some,hG.need (by decide)]
       by_cases h14:Pa.st ts 5 [59] y.2=true
       ·simp only [h14,if_true,Pa.bd_ok',Option.some.injEq] at h ⊢;subst h
        simp only [Pa.Sm]
        rw [Pa.flat_br 18 0 0 [] [x.1,y.1]];simp [Pa.flats];rfl
       ·simp only [Bool.not_eq_true] at h14
        simp only [h14,Bool.false_eq_true,if_false,Pa.bd_err',Option.some.injEq] at h ⊢;subst h
        exact ⟨_,rfl⟩
    ·simp only [Bool.not_eq_true] at h12
     simp only [Pa.nd,h12,Bool.false_eq_true,if_false,Pa.bd_err',Option.some.injEq] at h ⊢;subst h
     rw [Pa.expr_bad];exact ⟨_,rfl⟩
 rw [if_neg h10] at h ⊢
 simp only [Pa.iname,h1,if_false,Pa.bd_err',Option.some.injEq] at h;subst h
 exact ⟨_,rfl⟩
theorem Pa.ts_all {ts:List (Mill.Piece × Nat)} (hG:Pa.Good ts):∀ n,Pa.Ts ts n
 | 0=>by constructor <;> intros <;> rename_i h <;> simp [Pa.iblock,Pa.iblockL,Pa.ifr,Pa.istmt] at h
 | n+1=>by
  have ih:=Pa.ts_all hG n
  exact ⟨Pa.ts_block hG n ih,Pa.ts_blockL hG n ih,Pa.ts_ifr hG n ih,Pa.ts_stmt hG n ih⟩
theorem Pa.ts_pars {ts:List (Mill.Piece × Nat)} (hG:Pa.Good ts):∀ (n m:Nat) (us:List Mill.Tr) (i:Nat) (q),n≤m→Pa.ipars ts n us i=some q→Pa.SmL ((Pa.parsL ts m (Pa.flats us) ⟨i,false⟩).map fun r=>(r.1,Pa.need ts [41] r.2)) q:=by
 intro n
 induction n with
 | zero=>intro m us i q _ h;simp [Pa.ipars] at h
 | succ n ih =>
  intro m us i q hm h
  obtain ⟨m,rfl⟩:∃ k,m=k+1:=⟨m - 1,by omega⟩
  rw [Pa.ipars] at h
  rw [Pa.parsL]
  simp only [Bool.false_eq_true,if_false]
  by_cases h1:Pa.kd ts i=1
  ·simp only [Pa.iname,h1,if_true,Pa.bd_ok'] at h
   simp only [Pa.name,Pa.kind_mk,h1,if_true,Pa.nx_mk,Pa.nameT,Pa.typ,Pa.typT]
   simp only [Pa.itype] at h
   have hw:(if Pa.kd ts (i+1)=2 then Pa.ix Pa.words (Pa.tx ts (i+1)) else 0)=Pa.wty ts (i+1):=rfl
   rw [hw]
   by_cases h2:Pa.wty ts (i+1)=0
   ·simp only [h2,if_true,Pa.bd_err',Option.some.injEq] at h ⊢;subst h
    exact ⟨_,rfl⟩
   ·simp only [h2,if_false,Pa.bd_ok'] at h ⊢
    rw [hG.m (by decide)]
    by_cases h3:Pa.st ts 5 [41] (i+1+1)=true
    ·simp only [h3,if_true,Option.some.injEq] at h;subst h
     simp only [Pa.st_nt h3 (by decide:([41]:List UInt8)≠[44]),Bool.false_eq_true,if_false,Option.map_some,hG.need (T:=[41]) (by decide),h3,if_true,Pa.SmL]
     rw [Pa.flats_app,Pa.flats_one,Pa.flat_lf];rfl
    ·simp only [Bool.not_eq_true] at h3
     simp only [h3,Bool.false_eq_true,if_false] at h
     rcases Pa.nd_some h with ⟨h4,rfl⟩ | ⟨h4,h⟩
     ·simp only [h4,Bool.false_eq_true,if_false,Option.map_some,hG.need (T:=[41]) (by decide),h3]
      exact ⟨_,rfl⟩
     ·simp only [h4,if_true]
      have h5:=ih m _ _ q (by omega) h
      rw [Pa.flats_app,Pa.flats_one,Pa.flat_lf] at h5
      exact h5
  ·simp only [Pa.iname,h1,if_false,Pa.bd_err',Option.some.injEq] at h;subst h
   simp only [Pa.name,Pa.kind_mk,h1,if_false,Pa.typ_bad,Pa.is_bad,Bool.false_eq_true]
   exact ⟨_,rfl⟩
theorem Pa.ipars_len {ts:List (Mill.Piece × Nat)}:∀ (n:Nat) (us:List Mill.Tr) (i:Nat) (x),(Pa.flats us).length=us.length→Pa.ipars ts n us i=some (.ok x)→(Pa.flats x.1).length=x.1.length:=by
 intro n
 induction n with
 | zero=>intro us i x _ h;simp [Pa.ipars] at h
 | succ n ih =>
  intro us i x hl h
  rw [Pa.ipars] at h
  obtain ⟨y,_,h⟩:=Pa.bd_ok_some h
  obtain ⟨z,_,h⟩:=Pa.bd_ok_some h
  have e:(Pa.flats (us++[Pa.lf 22 0 (z.1:Int) 0 y.1])).length=(us++[Pa.lf 22 0 (z.1:Int) 0 y.1]).length:=by
   rw [Pa.flats_app,Pa.flats_one,Pa.flat_lf];simp [hl]
  split at h
  ·simp only [Option.some.injEq,Except.ok.injEq] at h;subst h
   exact e
  ·obtain ⟨v,_,h⟩:=Pa.bd_ok_some h
   exact ih _ _ _ e h
theorem Pa.fn_bad {ts:List (Mill.Piece × Nat)} (m i e:Nat) (h:Pa.fnO ts ⟨i,false⟩=⟨e,true⟩):∃ o,Pa.fn ts (m+3) ⟨i,false⟩=some (o,⟨e,true⟩):=by
 rw [Pa.fn,h]
 obtain ⟨o,h2⟩:=Pa.block_bad ts m e
 simp only [if_true,Pa.is_bad,Bool.false_eq_true,if_false,h2]
 exact ⟨_,rfl⟩
theorem Pa.ts_fn {ts:List (Mill.Piece × Nat)} (hG:Pa.Good ts) (n m i:Nat) (q) (hm:8 * (n+1)≤m) (h:Pa.ifn ts (n+1) i=some q):Pa.Sm (Pa.fn ts m ⟨i,false⟩) q:=by
 obtain ⟨m,rfl⟩:∃ k,m=k+3:=⟨m - 3,by omega⟩
 rw [Pa.ifn] at h
 rcases Pa.nd_some h with ⟨h1,rfl⟩ | ⟨h1,h⟩
 ·exact Pa.fn_bad m i i (by rw [Pa.fnO,hG.needW (by decide),h1];rfl)
 by_cases h2:¬ Pa.kd ts (i+1)=1
 ·simp only [Pa.iname,h2,if_false,Pa.bd_err',Option.some.injEq] at h;subst h
  exact Pa.fn_bad m i (i+1) (by rw [Pa.fnO,hG.needW (by decide),h1,if_pos rfl,Pa.name,Pa.kind_mk,if_neg h2,Pa.need_bad])
 replace h2:Pa.kd ts (i+1)=1:=Decidable.not_not.mp h2
 simp only [Pa.iname,h2,if_true,Pa.bd_ok'] at h
 have hO:Pa.fnO ts ⟨i,false⟩=Pa.need ts [40] ⟨i+1+1,false⟩:=by rw [Pa.fnO,hG.needW (by decide),h1,if_pos rfl,Pa.name,Pa.kind_mk,if_pos h2,Pa.nx_mk]
 rw [hG.need (by decide)] at hO
 rcases Pa.nd_some h with ⟨h3,rfl⟩ | ⟨h3,h⟩
 ·exact Pa.fn_bad m i _ (by rw [hO,h3];rfl)
 rw [h3,if_pos rfl] at hO
 have hN:Pa.nameT ts (Pa.need ts [102,110] ⟨i,false⟩)=Pa.tx ts (i+1):=by rw [hG.needW (by decide),h1,if_pos rfl,Pa.nameT,Pa.kind_mk,if_pos h2]
 rw [Pa.fn,hO,hN]
 simp only [Bool.false_eq_true,if_false]
 obtain ⟨pq,hp⟩:∃ pq,(if Pa.st ts 5 [41] (i+1+1+1) then some (.ok ([],i+1+1+1+1)) else Pa.ipars ts n [] (i+1+1+1))=some pq:=by
  rcases Pa.bd_some h with ⟨k,h4,_⟩ | ⟨x,h4,_⟩ <;> exact ⟨_,h4⟩
 rw [hp] at h
 have hP:Pa.SmL (if Pa.is ts [41] ⟨i+1+1+1,false⟩ then some ([],Pa.nx ⟨i+1+1+1,false⟩) else (Pa.parsL ts (m+2) [] ⟨i+1+1+1,false⟩).map fun r=>(r.1,Pa.need ts [41] r.2)) pq:=by
  rw [hG.m (by decide)]
  split at hp
  ·rename_i h4
   rw [if_pos h4]
   simp only [Option.some.injEq] at hp;subst hp
   rfl
  ·rename_i h4
   rw [if_neg h4]
   exact Pa.ts_pars hG n (m+2) [] _ _ (by omega) hp
 cases pq with
 | error k =>
  simp only [Pa.bd_err',Option.some.injEq] at h;subst h
  obtain ⟨o,h5⟩:=hP
  obtain ⟨o2,h6⟩:=Pa.block_bad ts m k
  rw [h5]
  simp only [Pa.is_bad,Bool.false_eq_true,if_false,h6]
  exact ⟨_,rfl⟩
 | ok x =>
  simp only [Pa.SmL] at hP
  rw [hP]
  simp only [Pa.bd_ok2] at h
  have hlen:(Pa.flats x.1).length=x.1.length:=by
   split at hp
   ·simp only [Option.some.injEq,Except.ok.injEq] at hp;subst hp;rfl
   ·exact Pa.ipars_len n [] _ _ rfl hp
  simp only [hG.m (T:=[45,62]) (by decide),Pa.nx_mk,hlen]
  cases h4:Pa.st ts 5 [45,62] x.2 with
  | false =>
   simp only [h4,Bool.false_eq_true,if_false,Pa.bd_ok'] at h ⊢
   rcases Pa.bd_some h with ⟨k,h5,rfl⟩ | ⟨z,h5,h⟩
   ·obtain ⟨o,h6⟩:=(Pa.ts_all hG n).block (m+2) _ _ (by omega) h5
    rw [h6];exact ⟨_,rfl⟩
   ·have h6:=(Pa.ts_all hG n).block (m+2) _ _ (by omega) h5
    simp only [Pa.SmB] at h6
    simp only [Option.some.injEq] at h;subst h
    simp only [Pa.Sm]
    rw [h6,Pa.flat_br 23,Pa.flats_app,Pa.flats_one];simp [Mill.takenN,Mill.uOp,Mill.uType,Mill.uText,Mill.named]
  | true =>
   simp only [h4,if_true,Pa.itype] at h ⊢
   have hw:Pa.typT ts ⟨x.2+1,false⟩=Pa.wty ts (x.2+1):=rfl
   rw [Pa.typ,hw]
   by_cases h5:Pa.wty ts (x.2+1)=0
   ·simp only [h5,if_true,Pa.bd_err',Option.some.injEq] at h ⊢;subst h
    obtain ⟨o,h6⟩:=Pa.block_bad ts m (x.2+1)
    rw [h6];exact ⟨_,rfl⟩
   ·simp only [h5,if_false,Pa.bd_ok',Pa.nx_mk] at h ⊢
    rcases Pa.bd_some h with ⟨k,h5,rfl⟩ | ⟨z,h5,h⟩
    ·obtain ⟨o,h6⟩:=(Pa.ts_all hG n).block (m+2) _ _ (by omega) h5
     rw [h6];exact ⟨_,rfl⟩
    ·have h6:=(Pa.ts_all hG n).block (m+2) _ _ (by omega) h5
     simp only [Pa.SmB] at h6
     simp only [Option.some.injEq] at h;subst h
     simp only [Pa.Sm]
     rw [h6,Pa.flat_br 23,Pa.flats_app,Pa.flats_one];simp [Mill.takenN,Mill.uOp,Mill.uType,Mill.uText,Mill.named]
theorem Pa.ts_prog {ts:List (Mill.Piece × Nat)} (hG:Pa.Good ts):∀ (n m:Nat) (us:List Mill.Tr) (i:Nat) (q),8 * n≤m→Pa.iprog ts n us i=some q→Pa.SmC (Pa.progL ts m us.length (Pa.flats us) ⟨i,false⟩) q:=by
 intro n
 induction n with
 | zero=>intro m us i q _ h;simp [Pa.iprog] at h
 | succ n ih =>
  intro m us i q hm h
  obtain ⟨m,rfl⟩:∃ k,m=k+2:=⟨m - 2,by omega⟩
  rw [Pa.iprog] at h
  rw [Pa.progL]
  split at h
  ·rename_i h1
   rw [if_pos ⟨rfl,h1⟩]
   have hf:∀ q,Pa.ifn ts n i=some q→Pa.Sm (Pa.fn ts (m+1) ⟨i,false⟩) q:=by
    intro q hq
    cases n with
    | zero=>simp [Pa.ifn] at hq
    | succ n=>exact Pa.ts_fn hG n (m+1) i q (by omega) hq
   rcases Pa.bd_some h with ⟨k,h2,rfl⟩ | ⟨x,h2,h⟩
   ·obtain ⟨o,h3⟩:=hf _ h2
    rw [h3];simp only
    rw [Pa.progL];simp only [Bool.true_eq_false,false_and,if_false]
    exact ⟨_,_,rfl⟩
   ·have h3:=hf _ h2
    simp only [Pa.Sm] at h3
    rw [h3]
    have h4:=ih (m+1) _ _ _ (by omega) h
    simpa [Pa.flats_app,Pa.flats_one] using h4
  ·rename_i h1
   rw [if_neg (by simp [h1])]
   simp only [Option.some.injEq] at h;subst h
   rfl
structure Pa.Ls (ts:List (Mill.Piece × Nat)) (n:Nat):Prop where
 block:∀ i x,Pa.iblock ts n i=some (.ok x)→i < x.2
 blockL:∀ us i x,Pa.iblockL ts n us i=some (.ok x)→i < x.2
 ifr:∀ i x,Pa.ifr ts n i=some (.ok x)→i < x.2
 stmt:∀ i x,Pa.istmt ts n i=some (.ok x)→i < x.2
 short:∀ i x,Pa.short ts n i=some (.ok x)→i < x.2
theorem Pa.iname_lt {ts:List (Mill.Piece × Nat)} {i:Nat} {x} (h:Pa.iname ts i=some (.ok x)):x.2=i+1:=by
 unfold Pa.iname at h;split at h
 ·simp at h;rw [← h]
 ·simp at h
theorem Pa.itype_lt {ts:List (Mill.Piece × Nat)} {i:Nat} {x} (h:Pa.itype ts i=some (.ok x)):x.2=i+1:=by
 unfold Pa.itype at h;split at h
 ·simp at h
 ·simp at h;rw [← h]
theorem Pa.short_lt {ts:List (Mill.Piece × Nat)} (n i:Nat) (x) (h:Pa.short ts (n+1) i=some (.ok x)):i < x.2:=by
 have ih:=Pa.lt_all ts n
 rw [Pa.short] at h
 split at h
 ·obtain ⟨y,h1,h⟩:=Pa.bd_ok_some h
  obtain ⟨z,h2,h⟩:=Pa.bd_ok_some h
  obtain ⟨u,h3,h⟩:=Pa.bd_ok_some h
  have:=Pa.iname_lt h1;have:=Pa.nd_ok h2;have:=ih.rank _ _ _ h3
  simp at h;rw [← h];simp;omega
 split at h
 ·simp at h;rw [← h];simp
 split at h
 ·simp at h;rw [← h];simp
 split at h
 ·split at h
  ·simp at h;rw [← h];simp
  ·obtain ⟨u,h3,h⟩:=Pa.bd_ok_some h
   have:=ih.rank _ _ _ h3
   simp at h;rw [← h];simp;omega
 split at h
 ·obtain ⟨u,h3,h⟩:=Pa.bd_ok_some h
  have:=ih.rank _ _ _ h3
  simp at h;rw [← h];simp;omega
 split at h
 ·obtain ⟨u,h3,h⟩:=Pa.bd_ok_some h
  obtain ⟨z,h2,h⟩:=Pa.bd_ok_some h
  obtain ⟨v,h4,h⟩:=Pa.bd_ok_some h
  have:=ih.rank _ _ _ h3;have:=Pa.nd_ok h2;have:=ih.rank _ _ _ h4
  simp at h;rw [← h];simp;omega
 split at h
 ·obtain ⟨u,h3,h⟩:=Pa.bd_ok_some h
  have:=ih.rank _ _ _ h3
  simp at h;rw [← h];simp;omega
 obtain ⟨y,h1,h⟩:=Pa.bd_ok_some h
 have:=Pa.iname_lt h1
 split at h
 ·obtain ⟨u,h3,h⟩:=Pa.bd_ok_some h
  have:=ih.rank _ _ _ h3
  simp at h;rw [← h];simp;omega
 ·obtain ⟨u,h3,h⟩:=Pa.bd_ok_some h
  have:=ih.call _ _ h3
  simp at h;rw [← h];simp;omega
theorem Pa.ls_all (ts:List (Mill.Piece × Nat)):∀ n,Pa.Ls ts n
 | 0=>by constructor <;> intros <;> rename_i h <;> simp [Pa.iblock,Pa.iblockL,Pa.ifr,Pa.istmt,Pa.short] at h
 | n+1=>by
  have ih:=Pa.ls_all ts n
  have il:=Pa.lt_all ts n
  constructor
  ·intro i x h
   rw [Pa.iblock] at h
   obtain ⟨z,h2,h⟩:=Pa.bd_ok_some h
   have:=Pa.nd_ok h2;have:=ih.blockL _ _ _ h
   omega
  ·intro us i x h
   rw [Pa.iblockL] at h
   split at h
   ·simp at h;rw [← h];simp
   ·obtain ⟨z,h2,h⟩:=Pa.bd_ok_some h
    have:=ih.stmt _ _ h2;have:=ih.blockL _ _ _ h
    omega
  ·intro i x h
   rw [Pa.ifr] at h
   obtain ⟨y,h1,h⟩:=Pa.bd_ok_some h
   obtain ⟨z,h2,h⟩:=Pa.bd_ok_some h
   have:=il.rank _ _ _ h1;have:=ih.block _ _ h2
   split at h
   ·split at h
    ·obtain ⟨u,h3,h⟩:=Pa.bd_ok_some h
     have:=ih.ifr _ _ h3
     simp at h;rw [← h];simp;omega
    ·obtain ⟨u,h3,h⟩:=Pa.bd_ok_some h
     have:=ih.block _ _ h3
     simp at h;rw [← h];simp;omega
   ·simp at h;rw [← h];simp;omega
  ·intro i x h
   rw [Pa.istmt] at h
   split at h
   ·obtain ⟨u,h3,h⟩:=Pa.bd_ok_some h
    have:=ih.ifr _ _ h3
    simp at h;rw [← h];simp;omega
   split at h
   ·obtain ⟨y,h1,h⟩:=Pa.bd_ok_some h
    obtain ⟨z,h2,h⟩:=Pa.bd_ok_some h
    have:=il.rank _ _ _ h1;have:=ih.block _ _ h2
    simp at h;rw [← h];simp;omega
   ·obtain ⟨y,h1,h⟩:=Pa.bd_ok_some h
    obtain ⟨z,h2,h⟩:=Pa.bd_ok_some h
    have:=ih.short _ _ h1;have:=Pa.nd_ok h2
    simp at h;rw [← h];simp;omega
  ·exact fun i x h=>Pa.short_lt n i x h
theorem Pa.ipars_lt {ts:List (Mill.Piece × Nat)}:∀ (n:Nat) (us:List Mill.Tr) (i:Nat) (x),Pa.ipars ts n us i=some (.ok x)→i < x.2:=by
 intro n
 induction n with
 | zero=>intro us i x h;simp [Pa.ipars] at h
 | succ n ih =>
  intro us i x h
  rw [Pa.ipars] at h
  obtain ⟨y,h1,h⟩:=Pa.bd_ok_some h
  obtain ⟨z,h2,h⟩:=Pa.bd_ok_some h
  have:=Pa.iname_lt h1;have:=Pa.itype_lt h2
  split at h
  ·simp at h;rw [← h];simp;omega
  ·obtain ⟨v,h3,h⟩:=Pa.bd_ok_some h
   have:=Pa.nd_ok h3;have:=ih _ _ _ h
   omega
theorem Pa.ifn_lt {ts:List (Mill.Piece × Nat)} (n:Nat) (i:Nat) (x) (h:Pa.ifn ts n i=some (.ok x)):i < x.2:=by
 cases n with
 | zero=>simp [Pa.ifn] at h
 | succ n =>
  rw [Pa.ifn] at h
  obtain ⟨y,h1,h⟩:=Pa.bd_ok_some h
  obtain ⟨z,h2,h⟩:=Pa.bd_ok_some h
  obtain ⟨u,h3,h⟩:=Pa.bd_ok_some h
  obtain ⟨v,h4,h⟩:=Pa.bd_ok_some h
  obtain ⟨k,h5,h⟩:=Pa.bd_ok_some h
  obtain ⟨l,h6,h⟩:=Pa.bd_ok_some h
  have:=Pa.nd_ok h1;have:=Pa.iname_lt h2;have:=Pa.nd_ok h3;have:=(Pa.ls_all ts n).block _ _ h6
  have:u.2 < v.2:=by
   split at h4
   ·simp at h4;rw [← h4];simp
   ·exact Pa.ipars_lt _ _ _ _ h4
  have:v.2≤k.2:=by
   split at h5
   ·have:=Pa.itype_lt h5;omega
   ·simp at h5;rw [← h5];simp
  simp at h;rw [← h];simp;omega
theorem Pa.kd_lt {ts:List (Mill.Piece × Nat)} {i:Nat} (h:Pa.kd ts i≠0):i < ts.length:=by
 by_cases hp:i < ts.length
 ·exact hp
 ·simp [Pa.kd,List.getElem?_eq_none (Nat.le_of_not_lt hp)] at h
theorem Pa.st_lt' {ts:List (Mill.Piece × Nat)} {k:Int} {T:List UInt8} {i:Nat} (hk:k≠0) (h:Pa.st ts k T i=true):i < ts.length:=Pa.kd_lt (by rw [(Pa.st_kd h).1];exact hk)
theorem Pa.unm_lt {ts:List (Mill.Piece × Nat)} {n i:Nat} {x} (h:Pa.unm ts n i=some (.ok x)):i < ts.length:=by
 apply Pa.kd_lt
 intro h0
 cases n with
 | zero=>simp [Pa.unm] at h
 | succ n =>
  rw [Pa.unm] at h
  simp [Pa.iun,h0] at h
  cases n with
  | zero=>simp [Pa.brk] at h
  | succ n =>
   rw [Pa.brk] at h
   obtain ⟨y,h1,h⟩:=Pa.bd_ok_some h
   simp [Pa.nd,Pa.st,h0] at h1
theorem Pa.rank_lt {ts:List (Mill.Piece × Nat)} {n l i:Nat} {x} (h:Pa.rank ts n l i=some (.ok x)):i < ts.length:=by
 cases n with
 | zero=>simp [Pa.rank] at h
 | succ n =>
  rw [Pa.rank] at h
  obtain ⟨y,h1,h⟩:=Pa.bd_ok_some h
  exact Pa.unm_lt h1
theorem Pa.stmt_lt {ts:List (Mill.Piece × Nat)} {n i:Nat} {x} (h:Pa.istmt ts n i=some (.ok x)):i < ts.length:=by
 apply Pa.kd_lt
 intro h0
 cases n with
 | zero=>simp [Pa.istmt] at h
 | succ n =>
  rw [Pa.istmt] at h
  simp only [Pa.st,h0] at h
  cases n with
  | zero=>simp [Pa.short,Pa.bd] at h
  | succ n=>simp [Pa.short,Pa.st,h0,Pa.iname,Pa.bd] at h
def Pa.En (L c n i:Nat):Prop:=c < n∧4 * L+c < n+4 * i
theorem Pa.bd_in {α β:Type} {m:Pa.R α} {f:α→Nat→Pa.R β} (h:∃ q,m=some q) (hf:∀ x,m=some (.ok x)→∃ q,f x.1 x.2=some q):∃ q,Pa.bd m f=some q:=by
 obtain ⟨q,h⟩:=h
 cases q with
 | error k=>exact ⟨_,by rw [h];rfl⟩
 | ok x =>
  obtain ⟨q,h2⟩:=hf x h
  exact ⟨q,by rw [h];exact h2⟩
theorem Pa.nd_in {ts:List (Mill.Piece × Nat)} {k:Int} {T:List UInt8} {i:Nat} {β:Type} {f:Unit→Nat→Pa.R β} (hk:k≠0) (hf:i < ts.length→∃ q,f () (i+1)=some q):∃ q,Pa.bd (Pa.nd ts k T i) f=some q:=by
 unfold Pa.nd
 split
 ·rename_i h;exact hf (Pa.st_lt' hk h)
 ·exact ⟨_,rfl⟩
theorem Pa.iname_in {ts:List (Mill.Piece × Nat)} {i:Nat} {β:Type} {f:List UInt8→Nat→Pa.R β} (hf:i < ts.length→∃ q,f (Pa.tx ts i) (i+1)=some q):∃ q,Pa.bd (Pa.iname ts i) f=some q:=by
 unfold Pa.iname
 split
 ·rename_i h;exact hf (Pa.kd_lt (by rw [h];decide))
 ·exact ⟨_,rfl⟩
theorem Pa.itype_in {ts:List (Mill.Piece × Nat)} {i:Nat} {β:Type} {f:Nat→Nat→Pa.R β} (hf:i < ts.length→∃ q,f (Pa.wty ts i) (i+1)=some q):∃ q,Pa.bd (Pa.itype ts i) f=some q:=by
 unfold Pa.itype
 split
 ·exact ⟨_,rfl⟩
 ·rename_i h
  refine hf (Pa.kd_lt fun h0=>h ?_)
  simp [Pa.wty,h0]
structure Pa.Fu (ts:List (Mill.Piece × Nat)) (n:Nat):Prop where
 unm:∀ i,Pa.En ts.length 2 n i→∃ q,Pa.unm ts n i=some q
 word:∀ i,Pa.En ts.length 1 n i→∃ q,Pa.iword ts n i=some q
 brk:∀ i,Pa.En ts.length 1 n i→∃ q,Pa.brk ts n i=some q
 brest:∀ k i,Pa.En ts.length 1 n i→∃ q,Pa.brest ts n k i=some q
 brestL:∀ k j us i,Pa.En ts.length 4 n i→∃ q,Pa.brestL ts n k j us i=some q
 call:∀ i,Pa.En ts.length 1 n i→∃ q,Pa.call ts n i=some q
 args:∀ us i,Pa.En ts.length 4 n i→∃ q,Pa.args ts n us i=some q
 rank:∀ l i,1≤l→Pa.En ts.length 3 n i→∃ q,Pa.rank ts n l i=some q
 rankL:∀ l M t i,1≤l→Pa.En ts.length 3 n i→∃ q,Pa.rankL ts n l M t i=some q
theorem Pa.fu_all (ts:List (Mill.Piece × Nat)):∀ n,Pa.Fu ts n
 | 0=>by constructor <;> intros <;> rename_i h <;> exact absurd h.1 (by omega)
 | n+1=>by
  have ih:=Pa.fu_all ts n
  have il:=Pa.lt_all ts n
  constructor
  ·intro i ⟨h1,h2⟩
   rw [Pa.unm]
   split
   ·rename_i h
    have:i < ts.length:=Pa.kd_lt fun h0=>h (by simp [Pa.iun,h0])
    exact Pa.bd_in (ih.unm _ ⟨by omega,by omega⟩) fun x _=>⟨_,rfl⟩
   split
   ·exact ⟨_,rfl⟩
   split
   ·exact ⟨_,rfl⟩
   split
   ·rename_i h
    have:i < ts.length:=Pa.kd_lt (by rw [h];decide)
    split
    ·exact Pa.bd_in (ih.call _ ⟨by omega,by omega⟩) fun x _=>⟨_,rfl⟩
    ·exact ⟨_,rfl⟩
   split
   ·exact ih.word _ ⟨by omega,by omega⟩
   ·exact ih.brk _ ⟨by omega,by omega⟩
  ·intro i ⟨h1,h2⟩
   rw [Pa.iword]
   split
   ·exact ⟨_,rfl⟩
   split
   ·exact ⟨_,rfl⟩
   split
   ·rename_i h
    have:i < ts.length:=Pa.kd_lt fun h0=>h (by simp [Pa.bop,h0])
    exact Pa.bd_in (ih.brest _ _ ⟨by omega,by omega⟩) fun x _=>⟨_,rfl⟩
   split
   ·exact ⟨_,rfl⟩
   ·rename_i h
    have:i < ts.length:=Pa.kd_lt fun h0=>h (by simp [Pa.wty,h0])
    exact Pa.bd_in (ih.brk _ ⟨by omega,by omega⟩) fun x _=>⟨_,rfl⟩
  ·intro i ⟨h1,h2⟩
   rw [Pa.brk]
   exact Pa.nd_in (by decide) fun _=>Pa.bd_in (ih.rank _ _ (by omega) ⟨by omega,by omega⟩) fun x _=>Pa.nd_in (by decide) fun _=>⟨_,rfl⟩
  ·intro k i ⟨h1,h2⟩
   rw [Pa.brest]
   exact Pa.nd_in (by decide) fun _=>Pa.bd_in (ih.brestL _ _ _ _ ⟨by omega,by omega⟩) fun x _=>Pa.nd_in (by decide) fun _=>⟨_,rfl⟩
  ·intro k j us i ⟨h1,h2⟩
   rw [Pa.brestL]
   split
   ·have go:∀ l,i≤l→∃ q,(Pa.bd (Pa.rank ts n 1 l) fun t m=>Pa.brestL ts n k (j+1) (us++[t]) m)=some q:=fun l hl =>
     Pa.bd_in (ih.rank _ _ (by omega) ⟨by omega,by omega⟩) fun x hx=>by
      have:=il.rank _ _ _ hx
      have:=Pa.rank_lt hx
      exact ih.brestL _ _ _ _ ⟨by omega,by omega⟩
    split
    ·exact Pa.nd_in (by decide) fun _=>go _ (by omega)
    ·exact go i (Nat.le_refl _)
   ·exact ⟨_,rfl⟩
  ·intro i ⟨h1,h2⟩
   rw [Pa.call]
   refine Pa.nd_in (by decide) fun _ => ?_
   split
   ·exact ⟨_,rfl⟩
   ·exact ih.args _ _ ⟨by omega,by omega⟩
  ·intro us i ⟨h1,h2⟩
   rw [Pa.args]
   refine Pa.bd_in (ih.rank _ _ (by omega) ⟨by omega,by omega⟩) fun x hx => ?_
   have:=il.rank _ _ _ hx
   have:=Pa.rank_lt hx
   split
   ·exact ⟨_,rfl⟩
   ·exact Pa.nd_in (by decide) fun _=>ih.args _ _ ⟨by omega,by omega⟩
  ·intro l i hl ⟨h1,h2⟩
   rw [Pa.rank]
   refine Pa.bd_in (ih.unm _ ⟨by omega,by omega⟩) fun x hx => ?_
   have:=il.unm _ _ hx
   have:=Pa.unm_lt hx
   exact ih.rankL _ _ _ _ hl ⟨by omega,by omega⟩
  ·intro l M t i hl ⟨h1,h2⟩
   rw [Pa.rankL]
   split
   ·exact ⟨_,rfl⟩
   ·rename_i h
    have:i < ts.length:=Pa.kd_lt fun h0=>h (by left;simp [Pa.mop,h0,Pa.rk];omega)
    refine Pa.bd_in (ih.rank _ _ (by omega) ⟨by omega,by omega⟩) fun x hx => ?_
    have:=il.rank _ _ _ hx
    exact ih.rankL _ _ _ _ hl ⟨by omega,by omega⟩
structure Pa.Fs (ts:List (Mill.Piece × Nat)) (n:Nat):Prop where
 block:∀ i,Pa.En ts.length 1 n i→∃ q,Pa.iblock ts n i=some q
 blockL:∀ us i,Pa.En ts.length 3 n i→∃ q,Pa.iblockL ts n us i=some q
 ifr:∀ i,Pa.En ts.length 4 n i→∃ q,Pa.ifr ts n i=some q
 stmt:∀ i,Pa.En ts.length 2 n i→∃ q,Pa.istmt ts n i=some q
 short:∀ i,Pa.En ts.length 1 n i→∃ q,Pa.short ts n i=some q
theorem Pa.fs_all (ts:List (Mill.Piece × Nat)):∀ n,Pa.Fs ts n
 | 0=>by constructor <;> intros <;> rename_i h <;> exact absurd h.1 (by omega)
 | n+1=>by
  have ih:=Pa.fs_all ts n
  have iu:=Pa.fu_all ts n
  have il:=Pa.lt_all ts n
  have is:=Pa.ls_all ts n
  constructor
  ·intro i ⟨h1,h2⟩
   rw [Pa.iblock]
   exact Pa.nd_in (by decide) fun _=>ih.blockL _ _ ⟨by omega,by omega⟩
  ·intro us i ⟨h1,h2⟩
   rw [Pa.iblockL]
   split
   ·exact ⟨_,rfl⟩
   ·refine Pa.bd_in (ih.stmt _ ⟨by omega,by omega⟩) fun x hx => ?_
    have:=is.stmt _ _ hx
    have:=Pa.stmt_lt hx
    exact ih.blockL _ _ ⟨by omega,by omega⟩
  ·intro i ⟨h1,h2⟩
   rw [Pa.ifr]
   refine Pa.bd_in (iu.rank _ _ (by omega) ⟨by omega,by omega⟩) fun x hx => ?_
   have:=il.rank _ _ _ hx
   have:=Pa.rank_lt hx
   refine Pa.bd_in (ih.block _ ⟨by omega,by omega⟩) fun y hy => ?_
   have:=is.block _ _ hy
   split
   ·split
    ·exact Pa.bd_in (ih.ifr _ ⟨by omega,by omega⟩) fun z hz=>⟨_,rfl⟩
    ·exact Pa.bd_in (ih.block _ ⟨by omega,by omega⟩) fun z hz=>⟨_,rfl⟩
   ·exact ⟨_,rfl⟩
  ·intro i ⟨h1,h2⟩
   rw [Pa.istmt]
   split
   ·rename_i h
    have:=Pa.st_lt' (by decide) h
    exact Pa.bd_in (ih.ifr _ ⟨by omega,by omega⟩) fun z hz=>⟨_,rfl⟩
   split
   ·rename_i h
    have:=Pa.st_lt' (by decide) h
    refine Pa.bd_in (iu.rank _ _ (by omega) ⟨by omega,by omega⟩) fun x hx => ?_
    have:=il.rank _ _ _ hx
    exact Pa.bd_in (ih.block _ ⟨by omega,by omega⟩) fun y hy=>⟨_,rfl⟩
   ·exact Pa.bd_in (ih.short _ ⟨by omega,by omega⟩) fun x hx=>Pa.nd_in (by decide) fun _=>⟨_,rfl⟩
  ·intro i ⟨h1,h2⟩
   have one:∀ k,i < ts.length→i < k→∃ q,Pa.rank ts n 1 k=some q:=fun k _ hk=>iu.rank _ _ (by omega) ⟨by omega,by omega⟩
   rw [Pa.short]
   split
   ·rename_i h
    have:=Pa.st_lt' (by decide) h
    exact Pa.iname_in fun _=>Pa.nd_in (by decide) fun _=>Pa.bd_in (one _ this (by omega)) fun x hx=>⟨_,rfl⟩
   split
   ·exact ⟨_,rfl⟩
   split
   ·exact ⟨_,rfl⟩
   split
   ·rename_i h
    have:=Pa.st_lt' (by decide) h
    split
    ·exact ⟨_,rfl⟩
    ·exact Pa.bd_in (one _ this (by omega)) fun x hx=>⟨_,rfl⟩
   split
   ·rename_i h
    have:=Pa.st_lt' (by decide) h
    exact Pa.bd_in (one _ this (by omega)) fun x hx=>⟨_,rfl⟩
   split
   ·rename_i h
    have:=Pa.st_lt' (by decide) h
    refine Pa.bd_in (one _ this (by omega)) fun x hx=>Pa.nd_in (by decide) fun _ => ?_
    have h3:=il.rank _ _ _ hx
    exact Pa.bd_in (one _ this (by omega)) fun x hx=>⟨_,rfl⟩
   split
   ·rename_i h
    have:=Pa.st_lt' (by decide) h
    exact Pa.bd_in (one _ this (by omega)) fun x hx=>⟨_,rfl⟩
   refine Pa.iname_in fun this => ?_
   split
   ·exact Pa.bd_in (one _ this (by omega)) fun x hx=>⟨_,rfl⟩
   ·exact Pa.bd_in (iu.call _ ⟨by omega,by omega⟩) fun x hx=>⟨_,rfl⟩
theorem Pa.pars_in (ts:List (Mill.Piece × Nat)):∀ (n:Nat) (us:List Mill.Tr) (i:Nat),Pa.En ts.length 1 n i→∃ q,Pa.ipars ts n us i=some q:=by
 intro n
 induction n with
 | zero=>intro us i h;exact absurd h.1 (by omega)
 | succ n ih =>
  intro us i ⟨h1,h2⟩
  rw [Pa.ipars]
  refine Pa.iname_in fun _=>Pa.itype_in fun _ => ?_
  split
  ·exact ⟨_,rfl⟩
  ·exact Pa.nd_in (by decide) fun _=>ih _ _ ⟨by omega,by omega⟩
theorem Pa.fn_in (ts:List (Mill.Piece × Nat)) (n i:Nat) (h:Pa.En ts.length 1 n i):∃ q,Pa.ifn ts n i=some q:=by
 obtain ⟨h1,h2⟩:=h
 obtain ⟨n,rfl⟩:∃ k,n=k+1:=⟨n - 1,by omega⟩
 rw [Pa.ifn]
 refine Pa.nd_in (by decide) fun _=>Pa.iname_in fun _=>Pa.nd_in (by decide) fun _=>Pa.bd_in ?_ fun x hx=>Pa.bd_in ?_ fun y hy=>Pa.bd_in ((Pa.fs_all ts n).block _ ?_) fun z hz=>⟨_,rfl⟩
 ·split
  ·exact ⟨_,rfl⟩
  ·exact Pa.pars_in ts n _ _ ⟨by omega,by omega⟩
 ·split
  ·rw [Pa.itype];split <;> exact ⟨_,rfl⟩
  ·exact ⟨_,rfl⟩
 ·have:i < x.2:=by
   split at hx
   ·simp at hx;rw [← hx];simp;omega
   ·have:=Pa.ipars_lt _ _ _ _ hx;omega
  have:x.2≤y.2:=by
   split at hy
   ·have:=Pa.itype_lt hy;omega
   ·simp at hy;rw [← hy];simp
  exact ⟨by omega,by omega⟩
theorem Pa.prog_in (ts:List (Mill.Piece × Nat)):∀ (n:Nat) (us:List Mill.Tr) (i:Nat),Pa.En ts.length 2 n i→∃ q,Pa.iprog ts n us i=some q:=by
 intro n
 induction n with
 | zero=>intro us i h;exact absurd h.1 (by omega)
 | succ n ih =>
  intro us i ⟨h1,h2⟩
  rw [Pa.iprog]
  split
  ·refine Pa.bd_in (Pa.fn_in ts n i ⟨by omega,by omega⟩) fun x hx => ?_
   have:=Pa.ifn_lt _ _ _ hx
   exact ih _ _ ⟨by omega,by omega⟩
  ·exact ⟨_,rfl⟩
theorem Pa.args_len {ts:List (Mill.Piece × Nat)}:∀ (n:Nat) (us:List Mill.Tr) (i:Nat) (x),Pa.args ts n us i=some (.ok x)→x.1.length+i≤us.length+x.2:=by
 intro n
 induction n with
 | zero=>intro us i x h;simp [Pa.args] at h
 | succ n ih =>
  intro us i x h
  rw [Pa.args] at h
  obtain ⟨y,h1,h⟩:=Pa.bd_ok_some h
  have:=(Pa.lt_all ts n).rank _ _ _ h1
  split at h
  ·simp only [Option.some.injEq,Except.ok.injEq] at h;subst h
   simp;omega
  ·obtain ⟨z,h2,h⟩:=Pa.bd_ok_some h
   have:=Pa.nd_ok h2
   have:=ih _ _ _ h
   simp at this;omega
theorem Pa.call_len {ts:List (Mill.Piece × Nat)} {n i:Nat} {x} (h:Pa.call ts n i=some (.ok x)):x.1.length≤x.2:=by
 cases n with
 | zero=>simp [Pa.call] at h
 | succ n =>
  rw [Pa.call] at h
  obtain ⟨y,h1,h⟩:=Pa.bd_ok_some h
  split at h
  ·simp only [Option.some.injEq,Except.ok.injEq] at h;subst h;simp
  ·have:=Pa.args_len _ _ _ _ h
   simp at this;omega
theorem Pa.iblockL_len {ts:List (Mill.Piece × Nat)}:∀ (n:Nat) (us:List Mill.Tr) (i:Nat) (x),Pa.iblockL ts n us i=some (.ok x)→x.1.length+i≤us.length+x.2:=by
 intro n
 induction n with
 | zero=>intro us i x h;simp [Pa.iblockL] at h
 | succ n ih =>
  intro us i x h
  rw [Pa.iblockL] at h
  split at h
  ·simp only [Option.some.injEq,Except.ok.injEq] at h;subst h
   simp
  ·obtain ⟨z,h2,h⟩:=Pa.bd_ok_some h
   have:=(Pa.ls_all ts n).stmt _ _ h2
   have:=ih _ _ _ h
   simp at this;omega
theorem Pa.iblock_len {ts:List (Mill.Piece × Nat)} {n i:Nat} {x} (h:Pa.iblock ts n i=some (.ok x)):x.1.length≤x.2:=by
 cases n with
 | zero=>simp [Pa.iblock] at h
 | succ n =>
  rw [Pa.iblock] at h
  obtain ⟨y,h1,h⟩:=Pa.bd_ok_some h
  have:=Pa.iblockL_len _ _ _ _ h
  simp at this;omega
theorem Pa.ipars_len2 {ts:List (Mill.Piece × Nat)}:∀ (n:Nat) (us:List Mill.Tr) (i:Nat) (x),Pa.ipars ts n us i=some (.ok x)→x.1.length+i≤us.length+x.2:=by
 intro n
 induction n with
 | zero=>intro us i x h;simp [Pa.ipars] at h
 | succ n ih =>
  intro us i x h
  rw [Pa.ipars] at h
  obtain ⟨y,h1,h⟩:=Pa.bd_ok_some h
  obtain ⟨z,h2,h⟩:=Pa.bd_ok_some h
  have:=Pa.iname_lt h1;have:=Pa.itype_lt h2
  split at h
  ·simp only [Option.some.injEq,Except.ok.injEq] at h;subst h
   simp;omega
  ·obtain ⟨v,h3,h⟩:=Pa.bd_ok_some h
   have:=Pa.nd_ok h3
   have:=ih _ _ _ h
   simp at this;omega
end Go.Proofs.YtlcckaffhnjneaaGreatDoor
