import Derived.Test.YtlcckaffhnjneaaGreatDoorKPdA
import Derived.Test.YtlcckaffhnjneaaGreatDoorKScanG
namespace Go.Proofs.YtlcckaffhnjneaaGreatDoor
open Go.RowKit
def Pa.Up (L:Nat) (s s':Pa.S):Prop:=s.p≤s'.p∧(s.p≤L→s'.p≤L)
theorem Pa.Up.refl (L:Nat) (s:Pa.S):Pa.Up L s s:=⟨Nat.le_refl _,id⟩
theorem Pa.Up.trans {L:Nat} {s t u:Pa.S} (h:Pa.Up L s t) (h2:Pa.Up L t u):Pa.Up L s u:=⟨Nat.le_trans h.1 h2.1,fun x=>h2.2 (h.2 x)⟩
theorem Pa.Up.bad (L:Nat) (s:Pa.S):Pa.Up L s ⟨s.p,true⟩:=⟨Nat.le_refl _,id⟩
theorem Pa.kind_up {ts:List (Mill.Piece × Nat)} {s:Pa.S} (h:Pa.kind ts s≠0):Pa.Up ts.length s (Pa.nx s):=by
 refine ⟨by simp [Pa.nx],fun _ => ?_⟩
 have:s.p < ts.length:=Pa.kd_lt (by unfold Pa.kind at h;split at h <;> simp_all)
 simp [Pa.nx];omega
theorem Pa.is_up {ts:List (Mill.Piece × Nat)} {T:List UInt8} {s:Pa.S} (h:Pa.is ts T s=true):Pa.Up ts.length s (Pa.nx s):=by
 apply Pa.kind_up
 unfold Pa.is at h
 unfold Pa.kind
 simp only [Bool.and_eq_true,Bool.not_eq_true',Bool.or_eq_true,beq_iff_eq] at h
 rw [h.1.1]
 rcases h.1.2 with h | h <;> simp [h]
theorem Pa.need_up (ts:List (Mill.Piece × Nat)) (T:List UInt8) (s:Pa.S):Pa.Up ts.length s (Pa.need ts T s):=by
 unfold Pa.need
 split
 ·rename_i h;exact Pa.is_up h
 ·exact Pa.Up.bad _ _
theorem Pa.name_up (ts:List (Mill.Piece × Nat)) (s:Pa.S):Pa.Up ts.length s (Pa.name ts s):=by
 unfold Pa.name
 split
 ·rename_i h;exact Pa.kind_up (by rw [h];decide)
 ·exact Pa.Up.bad _ _
theorem Pa.typ_up (ts:List (Mill.Piece × Nat)) (s:Pa.S):Pa.Up ts.length s (Pa.typ ts s):=by
 unfold Pa.typ
 split
 ·exact Pa.Up.bad _ _
 ·rename_i h
  refine Pa.kind_up fun h0=>h ?_
  simp [Pa.typT,h0]
theorem Pa.nx_p (s:Pa.S):(Pa.nx s).p=s.p+1:=rfl
theorem Pa.mk_up {ts:List (Mill.Piece × Nat)} {r:Nat} {s:Pa.S} (h:Pa.mk ts r s≠0):Pa.Up ts.length s (Pa.nx s):=by
 have key:∀ (l:List (List UInt8)) (op:Nat),Pa.mkL ts r s l op≠0→Pa.Up ts.length s (Pa.nx s):=by
  intro l
  induction l with
  | nil=>intro op h;simp [Pa.mkL] at h
  | cons m l ih =>
   intro op h
   rw [Pa.mkL] at h
   split at h
   ·rename_i h2
    simp only [Bool.and_eq_true] at h2
    exact Pa.is_up h2.2
   ·exact ih _ h
 exact key _ _ h
theorem Pa.un_up {ts:List (Mill.Piece × Nat)} {s:Pa.S} (h:Pa.un ts s≠0):Pa.Up ts.length s (Pa.nx s):=by
 unfold Pa.un at h
 split at h
 ·rename_i hh;exact Pa.is_up hh
 split at h
 ·rename_i hh;exact Pa.is_up hh
 split at h
 ·rename_i hh;exact Pa.is_up hh
 ·simp at h
theorem Pa.map_some_iff {α β:Type} {a:Option α} {f:α→β} {y:β} (h:a.map f=some y):∃ x,a=some x∧f x=y:=by simpa using h
structure Pa.Ln (ts:List (Mill.Piece × Nat)) (n:Nat):Prop where
 single:∀ s r,Pa.single ts n s=some r→Pa.Up ts.length s r.2∧r.1.length+s.p≤r.2.p
 word:∀ s r,Pa.kind ts s=2→Pa.word ts n s=some r→Pa.Up ts.length s r.2∧r.1.length+s.p≤r.2.p
 built:∀ k s r,Pa.built ts n k s=some r→Pa.Up ts.length s r.2∧r.1.length+s.p≤r.2.p
 builtL:∀ k j o s r,Pa.builtL ts n k j o s=some r→Pa.Up ts.length s r.2∧r.1.length+s.p≤o.length+r.2.p
 exprs:∀ s r,Pa.exprs ts n s=some r→Pa.Up ts.length s r.2.2∧r.1.length+s.p≤r.2.2.p
 exprsL:∀ k o s r,Pa.exprsL ts n k o s=some r→Pa.Up ts.length s r.2.2∧r.1.length+s.p≤o.length+r.2.2.p
 expr:∀ l s r,Pa.expr ts n l s=some r→Pa.Up ts.length s r.2∧r.1.length+s.p≤r.2.p
 exprL:∀ l o s r,Pa.exprL ts n l o s=some r→Pa.Up ts.length s r.2∧r.1.length+s.p≤o.length+r.2.p
theorem Pa.ln_all (ts:List (Mill.Piece × Nat)):∀ n,Pa.Ln ts n
 | 0=>by constructor <;> intros <;> rename_i h <;> simp [Pa.single,Pa.word,Pa.built,Pa.builtL,Pa.exprs,Pa.exprsL,Pa.expr,Pa.exprL] at h
 | n+1=>by
  have ih:=Pa.ln_all ts n
  constructor
  ·intro s r h
   rw [Pa.single] at h
   split at h
   ·rename_i hk
    have hu:=Pa.kind_up (ts:=ts) (s:=s) (by rw [hk];decide)
    simp only [Option.some.injEq] at h;subst h
    exact ⟨hu,by simp [Pa.nx];omega⟩
   split at h
   ·rename_i hk
    have hu:=Pa.kind_up (ts:=ts) (s:=s) (by rw [hk];decide)
    simp only [Option.some.injEq] at h;subst h
    exact ⟨hu,by simp [Pa.nx];omega⟩
   split at h
   ·rename_i hk
    have hu:=Pa.kind_up (ts:=ts) (s:=s) (by rw [hk];decide)
    split at h
    ·rename_i hi
     obtain ⟨x,hx,rfl⟩:=Pa.map_some_iff h
     obtain ⟨h1,h2⟩:=ih.exprs _ _ hx
     exact ⟨(hu.trans (Pa.is_up hi)).trans h1,by simp [Pa.nx] at h2 ⊢;omega⟩
    ·simp only [Option.some.injEq] at h;subst h
     exact ⟨hu,by simp [Pa.nx];omega⟩
   split at h
   ·rename_i hk
    exact ih.word _ _ hk h
   split at h
   ·rename_i hk
    obtain ⟨x,hx,rfl⟩:=Pa.map_some_iff h
    obtain ⟨h1,h2⟩:=ih.single _ _ hx
    exact ⟨(Pa.un_up hk).trans h1,by simp [Pa.nx] at h2 ⊢;omega⟩
   have hu:=Pa.need_up ts [40] s
   split at h
   ·simp only [Option.some.injEq] at h;subst h
    exact ⟨hu,by have:=hu.1;simpa using this⟩
   ·obtain ⟨x,hx,rfl⟩:=Pa.map_some_iff h
    obtain ⟨h1,h2⟩:=ih.expr _ _ _ hx
    have h3:=Pa.need_up ts [41] x.2
    exact ⟨(hu.trans h1).trans h3,by have:=hu.1;have:=h3.1;simp only;omega⟩
  ·intro s r hk h
   have hu:=Pa.kind_up (ts:=ts) (s:=s) (by rw [hk];decide)
   rw [Pa.word] at h
   split at h
   ·simp only [Option.some.injEq] at h;subst h
    exact ⟨hu,by simp [Pa.nx];omega⟩
   split at h
   ·simp only [Option.some.injEq] at h;subst h
    exact ⟨hu,by simp [Pa.nx];omega⟩
   split at h
   ·obtain ⟨x,hx,rfl⟩:=Pa.map_some_iff h
    obtain ⟨h1,h2⟩:=ih.built _ _ _ hx
    exact ⟨hu.trans h1,by simp [Pa.nx] at h2 ⊢;omega⟩
   split at h
   ·obtain ⟨x,hx,rfl⟩:=Pa.map_some_iff h
    obtain ⟨h1,h2⟩:=ih.built _ _ _ hx
    exact ⟨hu.trans h1,by simp [Pa.nx] at h2 ⊢;omega⟩
   ·simp only [Option.some.injEq] at h;subst h
    exact ⟨Pa.Up.bad _ _,by simp⟩
  ·intro k s r h
   rw [Pa.built] at h
   have hu:=Pa.need_up ts [40] s
   obtain ⟨x,hx,rfl⟩:=Pa.map_some_iff h
   obtain ⟨h1,h2⟩:=ih.builtL _ _ _ _ _ hx
   have h3:=Pa.need_up ts [41] x.2
   exact ⟨(hu.trans h1).trans h3,by have:=hu.1;have:=h3.1;simp at h2 ⊢;omega⟩
  ·intro k j o s r h
   rw [Pa.builtL] at h
   split at h
   ·split at h
    ·simp at h
    ·rename_i x hx
     obtain ⟨h1,h2⟩:=ih.expr _ _ _ hx
     obtain ⟨h3,h4⟩:=ih.builtL _ _ _ _ _ h
     have hu:Pa.Up ts.length s (if 0 < j then Pa.need ts [44] s else s):=by
      split
      ·exact Pa.need_up ..
      ·exact Pa.Up.refl _ _
     exact ⟨(hu.trans h1).trans h3,by have:=hu.1;simp at h4;omega⟩
   ·simp only [Option.some.injEq] at h;subst h
    exact ⟨Pa.Up.refl _ _,by simp⟩
  ·intro s r h
   rw [Pa.exprs] at h
   split at h
   ·rename_i hi
    simp only [Option.some.injEq] at h;subst h
    exact ⟨Pa.is_up hi,by simp [Pa.nx]⟩
   ·obtain ⟨x,hx,rfl⟩:=Pa.map_some_iff h
    obtain ⟨h1,h2⟩:=ih.exprsL _ _ _ _ hx
    have h3:=Pa.need_up ts [41] x.2.2
    exact ⟨h1.trans h3,by have:=h3.1;simp at h2 ⊢;omega⟩
  ·intro k o s r h
   rw [Pa.exprsL] at h
   split at h
   ·simp only [Option.some.injEq] at h;subst h
    exact ⟨Pa.Up.refl _ _,by simp⟩
   ·split at h
    ·simp at h
    ·rename_i x hx
     obtain ⟨h1,h2⟩:=ih.expr _ _ _ hx
     split at h
     ·rename_i hi
      obtain ⟨h3,h4⟩:=ih.exprsL _ _ _ _ h
      exact ⟨(h1.trans (Pa.is_up hi)).trans h3,by simp [Pa.nx] at h4;omega⟩
     ·simp only [Option.some.injEq] at h;subst h
      exact ⟨h1,by simp;omega⟩
  ·intro l s r h
   rw [Pa.expr] at h
   split at h
   ·simp only [Option.some.injEq] at h;subst h
    exact ⟨Pa.Up.refl _ _,by simp⟩
   split at h
   ·exact ih.single _ _ h
   ·split at h
    ·simp at h
    ·rename_i x hx
     obtain ⟨h1,h2⟩:=ih.expr _ _ _ hx
     obtain ⟨h3,h4⟩:=ih.exprL _ _ _ _ h
     exact ⟨h1.trans h3,by omega⟩
  ·intro l o s r h
   rw [Pa.exprL] at h
   split at h
   ·simp only [Option.some.injEq] at h;subst h
    exact ⟨Pa.Up.refl _ _,by simp⟩
   split at h
   ·simp only [Option.some.injEq] at h;subst h
    exact ⟨Pa.Up.refl _ _,by simp⟩
   ·rename_i hm
    split at h
    ·simp at h
    ·rename_i x hx
     obtain ⟨h1,h2⟩:=ih.expr _ _ _ hx
     have hu:=Pa.mk_up hm
     split at h
     ·simp only [Option.some.injEq] at h;subst h
      exact ⟨hu.trans h1,by simp [Pa.nx] at h2 ⊢;omega⟩
     ·obtain ⟨h3,h4⟩:=ih.exprL _ _ _ _ h
      exact ⟨(hu.trans h1).trans h3,by simp [Pa.nx] at h2 h4;omega⟩
structure Pa.Sn (ts:List (Mill.Piece × Nat)) (n:Nat):Prop where
 block:∀ s r,Pa.block ts n s=some r→Pa.Up ts.length s r.2∧r.1.length+4 * s.p≤4 * r.2.p+2∧(r.2.bad=false→r.1.length+4 * s.p≤4 * r.2.p)
 blockL:∀ k o s r,Pa.blockL ts n k o s=some r→Pa.Up ts.length s r.2∧r.1.length+4 * s.p≤o.length+4 * r.2.p+2∧(r.2.bad=false→r.1.length+4 * s.p≤o.length+4 * r.2.p)
 cond:∀ s r,Pa.cond ts n s=some r→Pa.Up ts.length s r.2∧r.1.length+4 * s.p≤4 * r.2.p+3∧(r.2.bad=false→r.1.length+4 * s.p≤4 * r.2.p+1)
 stmt:∀ s r,Pa.stmt ts n s=some r→Pa.Up ts.length s r.2∧r.1.length+4 * s.p≤4 * r.2.p+1∧(r.2.bad=false→r.1.length+4 * s.p≤4 * r.2.p)
theorem Pa.need_good {ts:List (Mill.Piece × Nat)} {T:List UInt8} {s:Pa.S} (h:(Pa.need ts T s).bad=false):(Pa.need ts T s).p=s.p+1∧s.bad=false:=by
 unfold Pa.need at h ⊢
 split at h
 ·rename_i hi
  simp [hi,Pa.nx]
  exact h
 ·simp at h
theorem Pa.block_stop {ts:List (Mill.Piece × Nat)} {n:Nat} {s:Pa.S} {r} (hb:s.bad=true) (h:Pa.block ts n s=some r):r.1.length=1∧r.2=s:=by
 obtain ⟨p,b⟩:=s
 simp only at hb;subst hb
 cases n with
 | zero=>simp [Pa.block] at h
 | succ n =>
  rw [Pa.block,Pa.need_bad] at h
  cases n with
  | zero=>simp [Pa.blockL] at h
  | succ n=>rw [Pa.blockL] at h;simp at h;rw [← h];simp
theorem Pa.blockL_stop {ts:List (Mill.Piece × Nat)} {n k:Nat} {o:Pa.Nds} {s:Pa.S} {r} (hb:s.bad=true) (h:Pa.blockL ts n k o s=some r):r.1.length=o.length+1∧r.2=s:=by
 cases n with
 | zero=>simp [Pa.blockL] at h
 | succ n=>rw [Pa.blockL,hb] at h;simp at h;rw [← h];simp
theorem Pa.sn_cond {ts:List (Mill.Piece × Nat)} (n:Nat) (ih:Pa.Sn ts n) (s:Pa.S) (r) (h:Pa.cond ts (n+1) s=some r):Pa.Up ts.length s r.2∧r.1.length+4 * s.p≤4 * r.2.p+3∧(r.2.bad=false→r.1.length+4 * s.p≤4 * r.2.p+1):=by
 rw [Pa.cond] at h
 split at h
 ·simp at h
 rename_i a ha
 obtain ⟨a1,a2⟩:=(Pa.ln_all ts n).expr _ _ _ ha
 split at h
 ·simp at h
 rename_i b hb
 obtain ⟨b1,b2,b3⟩:=ih.block _ _ hb
 have hbb:a.2.bad=true→b.1.length=1∧b.2=a.2:=fun e=>Pa.block_stop e hb
 have h0:=a1.1
 have h1:=b1.1
 split at h
 ·rename_i hi
  have hg:b.2.bad=false:=by
   cases e:b.2.bad with
   | false=>rfl
   | true=>simp [Pa.is,e] at hi
  have b4:=b3 hg
  split at h
  ·rename_i hi2
   obtain ⟨c,hc,rfl⟩:=Pa.map_some_iff h
   obtain ⟨c1,c2,c3⟩:=ih.cond _ _ hc
   refine ⟨(((a1.trans b1).trans (Pa.is_up hi)).trans (Pa.is_up hi2)).trans c1, ?_,fun e => ?_⟩
   ·simp [Pa.nx] at c2 ⊢;omega
   ·simp [Pa.nx] at c2 ⊢;omega
  ·obtain ⟨c,hc,rfl⟩:=Pa.map_some_iff h
   obtain ⟨c1,c2,c3⟩:=ih.block _ _ hc
   refine ⟨((a1.trans b1).trans (Pa.is_up hi)).trans c1, ?_,fun e => ?_⟩
   ·simp [Pa.nx] at c2 ⊢;omega
   ·simp [Pa.nx] at c2 ⊢;omega
 ·simp only [Option.some.injEq] at h;subst h
  refine ⟨a1.trans b1, ?_,fun e => ?_⟩
  ·simp;omega
  ·have:=b3 e;simp;omega
theorem Pa.sn_stmt {ts:List (Mill.Piece × Nat)} (n:Nat) (ih:Pa.Sn ts n) (s:Pa.S) (r) (h:Pa.stmt ts (n+1) s=some r):Pa.Up ts.length s r.2∧r.1.length+4 * s.p≤4 * r.2.p+1∧(r.2.bad=false→r.1.length+4 * s.p≤4 * r.2.p):=by
 have il:=Pa.ln_all ts n
 have one:∀ (s':Pa.S) (d:Mill.Nd) r,Pa.Up ts.length s s'→s.p < s'.p→((Pa.expr ts n 1 s').map fun r=>(r.1++[d],Pa.need ts [59] r.2))=some r→Pa.Up ts.length s r.2∧r.1.length+4 * s.p≤4 * r.2.p+1∧(r.2.bad=false→r.1.length+4 * s.p≤4 * r.2.p):=by
  intro s' d r hu hs h
  obtain ⟨x,hx,rfl⟩:=Pa.map_some_iff h
  obtain ⟨h1,h2⟩:=il.expr _ _ _ hx
  have h3:=Pa.need_up ts [59] x.2
  have h4:=h3.1
  have h5:=h1.1
  exact ⟨(hu.trans h1).trans h3,by simp;omega,fun _=>by simp;omega⟩
 have lf:∀ d:Mill.Nd,Pa.Up ts.length s (Pa.nx s)→some ([d],Pa.need ts [59] (Pa.nx s))=some r→Pa.Up ts.length s r.2∧r.1.length+4 * s.p≤4 * r.2.p+1∧(r.2.bad=false→r.1.length+4 * s.p≤4 * r.2.p):=by
  intro d hu h
  simp only [Option.some.injEq] at h;subst h
  have h3:=Pa.need_up ts [59] (Pa.nx s)
  have h4:=h3.1
  rw [Pa.nx_p] at h4
  exact ⟨hu.trans h3,by simp;omega,fun _=>by simp;omega⟩
 rw [Pa.stmt] at h
 by_cases hk:Pa.kind ts s=1
 ·rw [if_pos hk] at h
  have hu:=Pa.kind_up (ts:=ts) (s:=s) (by rw [hk];decide)
  split at h
  ·rename_i hi
   exact one _ _ _ (hu.trans (Pa.is_up hi)) (by simp [Pa.nx];omega) h
  split at h
  ·simp only [Option.some.injEq] at h;subst h
   have h3:=Pa.need_up ts [40] (Pa.nx s)
   have h4:=h3.1
   rw [Pa.nx_p] at h4
   exact ⟨hu.trans h3,by simp;omega,fun _=>by simp;omega⟩
  ·rename_i hb
   obtain ⟨x,hx,rfl⟩:=Pa.map_some_iff h
   obtain ⟨h1,h2⟩:=il.exprs _ _ hx
   have h3:=Pa.need_up ts [59] x.2.2
   have h4:=h3.1
   have h5:=(Pa.need_good (by simpa using hb)).1
   have h6:=h1.1
   rw [Pa.nx_p] at h5
   exact ⟨((hu.trans (Pa.need_up ..)).trans h1).trans h3,by simp;omega,fun _=>by simp;omega⟩
 rw [if_neg hk] at h
 by_cases hi:Pa.is ts [105,102] s=true
 ·rw [if_pos hi] at h
  obtain ⟨h1,h2,h3⟩:=ih.cond _ _ h
  rw [Pa.nx_p] at h2 h3
  exact ⟨(Pa.is_up hi).trans h1,by omega,fun e=>by have:=h3 e;omega⟩
 rw [if_neg hi] at h
 by_cases hi:Pa.is ts [119,104,105,108,101] s=true
 ·rw [if_pos hi] at h
  split at h
  ·simp at h
  rename_i a ha
  obtain ⟨a1,a2⟩:=il.expr _ _ _ ha
  obtain ⟨x,hx,rfl⟩:=Pa.map_some_iff h
  obtain ⟨h1,h2,h3⟩:=ih.block _ _ hx
  have h5:=h1.1
  have h6:=a1.1
  rw [Pa.nx_p] at a2 h6
  exact ⟨((Pa.is_up hi).trans a1).trans h1,by simp;omega,fun e=>by simp;omega⟩
 rw [if_neg hi] at h
 by_cases hi:Pa.is ts [108,101,116] s=true
 ·rw [if_pos hi] at h
  have h1:=Pa.name_up ts (Pa.nx s)
  have h2:=Pa.need_up ts [61] (Pa.name ts (Pa.nx s))
  have h3:=h1.1
  have h4:=h2.1
  rw [Pa.nx_p] at h3
  exact one _ _ _ (((Pa.is_up hi).trans h1).trans h2) (by omega) h
 rw [if_neg hi] at h
 by_cases hi:Pa.is ts [98,114,101,97,107] s=true
 ·rw [if_pos hi] at h
  exact lf _ (Pa.is_up hi) h
 rw [if_neg hi] at h
 by_cases hi:Pa.is ts [99,111,110,116,105,110,117,101] s=true
 ·rw [if_pos hi] at h
  exact lf _ (Pa.is_up hi) h
 rw [if_neg hi] at h
 by_cases hi:Pa.is ts [114,101,116,117,114,110] s=true
 ·rw [if_pos hi] at h
  split at h
  ·exact lf _ (Pa.is_up hi) h
  ·exact one _ _ _ (Pa.is_up hi) (by simp [Pa.nx]) h
 rw [if_neg hi] at h
 by_cases hi:Pa.is ts [102,97,105,108] s=true
 ·rw [if_pos hi] at h
  exact one _ _ _ (Pa.is_up hi) (by simp [Pa.nx]) h
 rw [if_neg hi] at h
 by_cases hi:Pa.is ts [115,97,121] s=true
 ·rw [if_pos hi] at h
  exact one _ _ _ (Pa.is_up hi) (by simp [Pa.nx]) h
 rw [if_neg hi] at h
 by_cases hi:Pa.is ts [119,114,105,116,101] s=true
 ·rw [if_pos hi] at h
  split at h
  ·simp at h
  rename_i a ha
  obtain ⟨a1,a2⟩:=il.expr _ _ _ ha
  obtain ⟨x,hx,rfl⟩:=Pa.map_some_iff h
  obtain ⟨h1,h2⟩:=il.expr _ _ _ hx
  have h3:=Pa.need_up ts [44] a.2
  have h4:=Pa.need_up ts [59] x.2
  have h5:=h1.1
  have h6:=a1.1
  have h7:=h3.1
  have h8:=h4.1
  rw [Pa.nx_p] at a2 h6
  exact ⟨((((Pa.is_up hi).trans a1).trans h3).trans h1).trans h4,by simp;omega,fun e=>by simp;omega⟩
 rw [if_neg hi] at h
 ·simp only [Option.some.injEq] at h;subst h
  exact ⟨Pa.Up.bad _ _,by simp;omega,fun e=>by simp at e⟩
theorem Pa.sn_all (ts:List (Mill.Piece × Nat)):∀ n,Pa.Sn ts n
 | 0=>by constructor <;> intros <;> rename_i h <;> simp [Pa.block,Pa.blockL,Pa.cond,Pa.stmt] at h
 | n+1=>by
  have ih:=Pa.sn_all ts n
  refine ⟨?_, ?_,Pa.sn_cond n ih,Pa.sn_stmt n ih⟩
  ·intro s r h
   rw [Pa.block] at h
   obtain ⟨h1,h2,h3⟩:=ih.blockL _ _ _ _ h
   have hu:=Pa.need_up ts [123] s
   have:=hu.1
   refine ⟨hu.trans h1,by simp at h2;omega,fun e=>by have:=h3 e;simp at this;omega⟩
  ·intro k o s r h
   rw [Pa.blockL] at h
   split at h
   ·rename_i hb
    simp only [Option.some.injEq] at h;subst h
    exact ⟨Pa.Up.refl _ _,by simp;omega,fun e=>by simp [hb] at e⟩
   split at h
   ·rename_i hi
    simp only [Option.some.injEq] at h;subst h
    exact ⟨Pa.is_up hi,by simp [Pa.nx];omega,fun e=>by simp [Pa.nx];omega⟩
   split at h
   ·simp at h
   rename_i x hx
   obtain ⟨h1,h2,h3⟩:=ih.stmt _ _ hx
   obtain ⟨h4,h5,h6⟩:=ih.blockL _ _ _ _ h
   cases e:x.2.bad with
   | false =>
    have:=h3 e
    exact ⟨h1.trans h4,by simp at h5;omega,fun e=>by have:=h6 e;simp at this;omega⟩
   | true =>
    obtain ⟨g1,g2⟩:=Pa.blockL_stop e h
    rw [g2]
    refine ⟨h1,by rw [g1];simp;omega,fun e2=>by rw [e] at e2;simp at e2⟩
theorem Pa.pars_ln (ts:List (Mill.Piece × Nat)):∀ (n:Nat) (o:Pa.Nds) (s:Pa.S) (r),Pa.parsL ts n o s=some r→Pa.Up ts.length s r.2∧r.1.length+4 * s.p≤o.length+4 * r.2.p+1:=by
 intro n
 induction n with
 | zero=>intro o s r h;simp [Pa.parsL] at h
 | succ n ih =>
  intro o s r h
  rw [Pa.parsL] at h
  have h1:=Pa.name_up ts s
  have h2:=Pa.typ_up ts (Pa.name ts s)
  have h3:=h1.1
  have h4:=h2.1
  split at h
  ·simp only [Option.some.injEq] at h;subst h
   exact ⟨Pa.Up.refl _ _,by simp⟩
  split at h
  ·rename_i hi
   obtain ⟨h5,h6⟩:=ih _ _ _ h
   rw [Pa.nx_p] at h6
   exact ⟨((h1.trans h2).trans (Pa.is_up hi)).trans h5,by simp at h6;omega⟩
  ·simp only [Option.some.injEq] at h;subst h
   exact ⟨h1.trans h2,by simp;omega⟩
theorem Pa.fn_ln {ts:List (Mill.Piece × Nat)} (n:Nat) (s:Pa.S) (r) (h:Pa.fn ts n s=some r):Pa.Up ts.length s r.2∧r.1.length+4 * s.p≤4 * r.2.p+4∧(r.2.bad=false→r.1.length+4 * s.p≤4 * r.2.p):=by
 cases n with
 | zero=>simp [Pa.fn] at h
 | succ n =>
  rw [Pa.fn] at h
  have u1:=Pa.need_up ts [102,110] s
  have u2:=Pa.name_up ts (Pa.need ts [102,110] s)
  have u3:=Pa.need_up ts [40] (Pa.name ts (Pa.need ts [102,110] s))
  have u4:Pa.Up ts.length s (Pa.fnO ts s):=(u1.trans u2).trans u3
  have u5:=u4.1
  have u6:(Pa.fnO ts s).bad=false→s.p+1≤(Pa.fnO ts s).p:=fun e=>by
   have h1:=(Pa.need_good (ts:=ts) (T:=[40]) (s:=Pa.name ts (Pa.need ts [102,110] s)) e).1
   have:=u1.1;have:=u2.1
   rw [Pa.fnO,h1];omega
  split at h
  ·simp at h
  rename_i a ha
  obtain ⟨x,hx,rfl⟩:=Pa.map_some_iff h
  have ha2:Pa.Up ts.length (Pa.fnO ts s) a.2∧a.1.length+4 * (Pa.fnO ts s).p≤4 * a.2.p+1∧((Pa.fnO ts s).bad=true→a.1.length=0∧a.2.bad=true):=by
   split at ha
   ·rename_i hb
    simp only [Option.some.injEq] at ha;subst ha
    exact ⟨Pa.Up.refl _ _,by simp,fun _=>⟨rfl,hb⟩⟩
   split at ha
   ·rename_i hb hi
    simp only [Option.some.injEq] at ha;subst ha
    exact ⟨Pa.is_up hi,by simp [Pa.nx];omega,fun e=>absurd e hb⟩
   ·rename_i hb hi
    obtain ⟨y,hy,rfl⟩:=Pa.map_some_iff ha
    obtain ⟨h1,h2⟩:=Pa.pars_ln ts _ _ _ _ hy
    have h3:=Pa.need_up ts [41] y.2
    have h4:=h3.1
    exact ⟨h1.trans h3,by simp at h2 ⊢;omega,fun e=>absurd e hb⟩
  obtain ⟨a1,a2,a3⟩:=ha2
  have hu:Pa.Up ts.length a.2 (if Pa.is ts [45,62] a.2 then Pa.typ ts (Pa.nx a.2) else a.2):=by
   split
   ·rename_i hi;exact (Pa.is_up hi).trans (Pa.typ_up ..)
   ·exact Pa.Up.refl _ _
  obtain ⟨h1,h2,h3⟩:=(Pa.sn_all ts n).block _ _ hx
  have h5:=hu.1
  have h6:=a1.1
  refine ⟨((u4.trans a1).trans hu).trans h1,by simp;omega,fun e => ?_⟩
  have h7:=h3 e
  cases eb:(Pa.fnO ts s).bad with
  | false=>have:=u6 eb;simp;omega
  | true =>
   obtain ⟨g1,g2⟩:=a3 eb
   have:Pa.is ts [45,62] a.2=false:=by simp [Pa.is,g2]
   rw [this] at hx
   simp only [Bool.false_eq_true,if_false] at hx
   have:=(Pa.block_stop g2 hx).2
   rw [this,g2] at e
   simp at e
theorem Pa.prog_ln (ts:List (Mill.Piece × Nat)):∀ (n k:Nat) (o:Pa.Nds) (s:Pa.S) (r),Pa.progL ts n k o s=some r→Pa.Up ts.length s r.2.2∧r.1.length+4 * s.p≤o.length+4 * r.2.2.p+4:=by
 intro n
 induction n with
 | zero=>intro k o s r h;simp [Pa.progL] at h
 | succ n ih =>
  intro k o s r h
  rw [Pa.progL] at h
  split at h
  ·split at h
   ·simp at h
   rename_i x hx
   obtain ⟨h1,h2,h3⟩:=Pa.fn_ln n _ _ hx
   obtain ⟨h4,h5⟩:=ih _ _ _ _ h
   cases e:x.2.bad with
   | false=>have:=h3 e;exact ⟨h1.trans h4,by simp at h5;omega⟩
   | true =>
    cases n with
    | zero=>simp [Pa.progL] at h
    | succ n =>
     rw [Pa.progL,e] at h
     simp only [Bool.true_eq_false,false_and,if_false,Option.some.injEq] at h;subst h
     exact ⟨h1,by simp;omega⟩
  ·simp only [Option.some.injEq] at h;subst h
   exact ⟨Pa.Up.refl _ _,by simp⟩
def Pa.Sz (M:Nat) (l:List Mill.Nd):Prop := ∀ d ∈ l,d.text.size≤M
theorem Pa.sz_nil (M:Nat):Pa.Sz M []:=fun d h=>by simp at h
theorem Pa.sz_app {M:Nat} {l m:List Mill.Nd} (h:Pa.Sz M l) (k:Pa.Sz M m):Pa.Sz M (l++m):=fun d hd=>by
 rw [List.mem_append] at hd
 rcases hd with hd | hd
 ·exact h d hd
 ·exact k d hd
theorem Pa.sz_put {M:Nat} {l:List Mill.Nd} {d:Mill.Nd} (h:Pa.Sz M l) (hd:d.text.size≤M):Pa.Sz M (l++[d]):=Pa.sz_app h fun e he=>by rw [List.mem_singleton] at he;rw [he];exact hd
theorem Pa.sz_one {M:Nat} {d:Mill.Nd} (hd:d.text.size≤M):Pa.Sz M [d]:=Pa.sz_put (Pa.sz_nil M) hd
theorem Pa.e_sz (M:Nat):(⟨#[]⟩:ByteArray).size≤M:=Nat.zero_le _
theorem Pa.ba_sz (l:List UInt8):(Mill.ba l).size=l.length:=by simp [Mill.ba,ByteArray.size]
structure Pa.Zn (ts:List (Mill.Piece × Nat)) (M n:Nat):Prop where
 single:∀ s r,Pa.single ts n s=some r→Pa.Sz M r.1
 word:∀ s r,Pa.word ts n s=some r→Pa.Sz M r.1
 built:∀ k s r,Pa.built ts n k s=some r→Pa.Sz M r.1
 builtL:∀ k j o s r,Pa.Sz M o→Pa.builtL ts n k j o s=some r→Pa.Sz M r.1
 exprs:∀ s r,Pa.exprs ts n s=some r→Pa.Sz M r.1
 exprsL:∀ k o s r,Pa.Sz M o→Pa.exprsL ts n k o s=some r→Pa.Sz M r.1
 expr:∀ l s r,Pa.expr ts n l s=some r→Pa.Sz M r.1
 exprL:∀ l o s r,Pa.Sz M o→Pa.exprL ts n l o s=some r→Pa.Sz M r.1
theorem Pa.zn_all (ts:List (Mill.Piece × Nat)) (M:Nat) (hM:∀ i,(Mill.ba (Pa.tx ts i)).size≤M):∀ n,Pa.Zn ts M n
 | 0=>by constructor <;> intros <;> rename_i h <;> simp [Pa.single,Pa.word,Pa.built,Pa.builtL,Pa.exprs,Pa.exprsL,Pa.expr,Pa.exprL] at h
 | n+1=>by
  have ih:=Pa.zn_all ts M hM n
  have hE:=Pa.e_sz M
  constructor
  ·intro s r h
   rw [Pa.single] at h
   split at h
   ·simp only [Option.some.injEq] at h;subst h;exact Pa.sz_one hE
   split at h
   ·simp only [Option.some.injEq] at h;subst h;exact Pa.sz_one (hM _)
   split at h
   ·split at h
    ·obtain ⟨x,hx,rfl⟩:=Pa.map_some_iff h
     exact Pa.sz_put (ih.exprs _ _ hx) (hM _)
    ·simp only [Option.some.injEq] at h;subst h;exact Pa.sz_one (hM _)
   split at h
   ·exact ih.word _ _ h
   split at h
   ·obtain ⟨x,hx,rfl⟩:=Pa.map_some_iff h
    exact Pa.sz_put (ih.single _ _ hx) hE
   split at h
   ·simp only [Option.some.injEq] at h;subst h;exact Pa.sz_nil M
   ·obtain ⟨x,hx,rfl⟩:=Pa.map_some_iff h
    exact ih.expr _ _ x hx
  ·intro s r h
   rw [Pa.word] at h
   split at h
   ·simp only [Option.some.injEq] at h;subst h;exact Pa.sz_one hE
   split at h
   ·simp only [Option.some.injEq] at h;subst h;exact Pa.sz_one hE
   split at h
   ·obtain ⟨x,hx,rfl⟩:=Pa.map_some_iff h
    exact Pa.sz_put (ih.built _ _ _ hx) hE
   split at h
   ·obtain ⟨x,hx,rfl⟩:=Pa.map_some_iff h
    exact Pa.sz_put (ih.built _ _ _ hx) hE
   ·simp only [Option.some.injEq] at h;subst h;exact Pa.sz_nil M
  ·intro k s r h
   rw [Pa.built] at h
   obtain ⟨x,hx,rfl⟩:=Pa.map_some_iff h
   exact ih.builtL _ _ _ _ x (Pa.sz_nil M) hx
  ·intro k j o s r ho h
   rw [Pa.builtL] at h
   split at h
   ·split at h
    ·simp at h
    ·rename_i x hx
     exact ih.builtL _ _ _ _ _ (Pa.sz_app ho (ih.expr _ _ _ hx)) h
   ·simp only [Option.some.injEq] at h;subst h;exact ho
  ·intro s r h
   rw [Pa.exprs] at h
   split at h
   ·simp only [Option.some.injEq] at h;subst h;exact Pa.sz_nil M
   ·obtain ⟨x,hx,rfl⟩:=Pa.map_some_iff h
    exact ih.exprsL _ _ _ x (Pa.sz_nil M) hx
  ·intro k o s r ho h
   rw [Pa.exprsL] at h
   split at h
   ·simp only [Option.some.injEq] at h;subst h;exact ho
   ·split at h
    ·simp at h
    ·rename_i x hx
     split at h
     ·exact ih.exprsL _ _ _ _ (Pa.sz_app ho (ih.expr _ _ _ hx)) h
     ·simp only [Option.some.injEq] at h;subst h;exact Pa.sz_app ho (ih.expr _ _ _ hx)
  ·intro l s r h
   rw [Pa.expr] at h
   split at h
   ·simp only [Option.some.injEq] at h;subst h;exact Pa.sz_nil M
   split at h
   ·exact ih.single _ _ h
   ·split at h
    ·simp at h
    ·rename_i x hx
     exact ih.exprL _ _ _ _ (ih.expr _ _ _ hx) h
  ·intro l o s r ho h
   rw [Pa.exprL] at h
   split at h
   ·simp only [Option.some.injEq] at h;subst h;exact ho
   split at h
   ·simp only [Option.some.injEq] at h;subst h;exact ho
   ·split at h
    ·simp at h
    ·rename_i x hx
     split at h
     ·simp only [Option.some.injEq] at h;subst h;exact Pa.sz_put (Pa.sz_app ho (ih.expr _ _ _ hx)) hE
     ·exact ih.exprL _ _ _ _ (Pa.sz_put (Pa.sz_app ho (ih.expr _ _ _ hx)) hE) h
structure Pa.Zs (ts:List (Mill.Piece × Nat)) (M n:Nat):Prop where
 block:∀ s r,Pa.block ts n s=some r→Pa.Sz M r.1
 blockL:∀ k o s r,Pa.Sz M o→Pa.blockL ts n k o s=some r→Pa.Sz M r.1
 cond:∀ s r,Pa.cond ts n s=some r→Pa.Sz M r.1
 stmt:∀ s r,Pa.stmt ts n s=some r→Pa.Sz M r.1
theorem Pa.nameT_sz {ts:List (Mill.Piece × Nat)} {M:Nat} (hM:∀ i,(Mill.ba (Pa.tx ts i)).size≤M) (s:Pa.S):(Mill.ba (Pa.nameT ts s)).size≤M:=by
 unfold Pa.nameT
 split
 ·exact hM _
 ·exact Pa.e_sz M
theorem Pa.zs_stmt {ts:List (Mill.Piece × Nat)} {M:Nat} (hM:∀ i,(Mill.ba (Pa.tx ts i)).size≤M) (n:Nat) (ih:Pa.Zs ts M n) (s:Pa.S) (r) (h:Pa.stmt ts (n+1) s=some r):Pa.Sz M r.1:=by
 have il:=Pa.zn_all ts M hM n
 have hE:=Pa.e_sz M
 have one:∀ (s':Pa.S) (d:Mill.Nd) r,d.text.size≤M→((Pa.expr ts n 1 s').map fun r=>(r.1++[d],Pa.need ts [59] r.2))=some r→Pa.Sz M r.1:=by
  intro s' d r hd h
  obtain ⟨x,hx,rfl⟩:=Pa.map_some_iff h
  exact Pa.sz_put (il.expr _ _ _ hx) hd
 rw [Pa.stmt] at h
 by_cases c0:Pa.kind ts s=1
 ·rw [if_pos c0] at h
  split at h
  ·exact one _ _ _ (hM _) h
  split at h
  ·simp only [Option.some.injEq] at h;subst h;exact Pa.sz_nil M
  ·obtain ⟨x,hx,rfl⟩:=Pa.map_some_iff h
   exact Pa.sz_put (Pa.sz_put (il.exprs _ _ hx) (hM _)) hE
 rw [if_neg c0] at h
 by_cases c1:Pa.is ts [105,102] s=true
 ·rw [if_pos c1] at h;exact ih.cond _ _ h
 rw [if_neg c1] at h
 by_cases c2:Pa.is ts [119,104,105,108,101] s=true
 ·rw [if_pos c2] at h
  split at h
  ·simp at h
  rename_i a ha
  obtain ⟨x,hx,rfl⟩:=Pa.map_some_iff h
  exact Pa.sz_put (Pa.sz_app (il.expr _ _ _ ha) (ih.block _ _ hx)) hE
 rw [if_neg c2] at h
 by_cases c3:Pa.is ts [108,101,116] s=true
 ·rw [if_pos c3] at h;exact one _ _ _ (Pa.nameT_sz hM _) h
 rw [if_neg c3] at h
 by_cases c4:Pa.is ts [98,114,101,97,107] s=true
 ·rw [if_pos c4] at h;simp only [Option.some.injEq] at h;subst h;exact Pa.sz_one hE
 rw [if_neg c4] at h
 by_cases c5:Pa.is ts [99,111,110,116,105,110,117,101] s=true
 ·rw [if_pos c5] at h;simp only [Option.some.injEq] at h;subst h;exact Pa.sz_one hE
 rw [if_neg c5] at h
 by_cases c6:Pa.is ts [114,101,116,117,114,110] s=true
 ·rw [if_pos c6] at h
  split at h
  ·simp only [Option.some.injEq] at h;subst h;exact Pa.sz_one hE
  ·exact one _ _ _ hE h
 rw [if_neg c6] at h
 by_cases c7:Pa.is ts [102,97,105,108] s=true
 ·rw [if_pos c7] at h;exact one _ _ _ hE h
 rw [if_neg c7] at h
 by_cases c8:Pa.is ts [115,97,121] s=true
 ·rw [if_pos c8] at h;exact one _ _ _ hE h
 rw [if_neg c8] at h
 by_cases c9:Pa.is ts [119,114,105,116,101] s=true
 ·rw [if_pos c9] at h
  split at h
  ·simp at h
  rename_i a ha
  obtain ⟨x,hx,rfl⟩:=Pa.map_some_iff h
  exact Pa.sz_put (Pa.sz_app (il.expr _ _ _ ha) (il.expr _ _ _ hx)) hE
 rw [if_neg c9] at h
 simp only [Option.some.injEq] at h;subst h;exact Pa.sz_one hE
theorem Pa.zs_all (ts:List (Mill.Piece × Nat)) (M:Nat) (hM:∀ i,(Mill.ba (Pa.tx ts i)).size≤M):∀ n,Pa.Zs ts M n
 | 0=>by constructor <;> intros <;> rename_i h <;> simp [Pa.block,Pa.blockL,Pa.cond,Pa.stmt] at h
 | n+1=>by
  have ih:=Pa.zs_all ts M hM n
  have il:=Pa.zn_all ts M hM n
  have hE:=Pa.e_sz M
  refine ⟨?_, ?_, ?_,Pa.zs_stmt hM n ih⟩
  ·intro s r h
   rw [Pa.block] at h
   exact ih.blockL _ _ _ _ (Pa.sz_nil M) h
  ·intro k o s r ho h
   rw [Pa.blockL] at h
   split at h
   ·simp only [Option.some.injEq] at h;subst h;exact Pa.sz_put ho hE
   split at h
   ·simp only [Option.some.injEq] at h;subst h;exact Pa.sz_put ho hE
   split at h
   ·simp at h
   rename_i x hx
   exact ih.blockL _ _ _ _ (Pa.sz_app ho (ih.stmt _ _ hx)) h
  ·intro s r h
   rw [Pa.cond] at h
   split at h
   ·simp at h
   rename_i a ha
   split at h
   ·simp at h
   rename_i b hb
   have hab:=Pa.sz_app (il.expr _ _ _ ha) (ih.block _ _ hb)
   split at h
   ·split at h
    ·obtain ⟨x,hx,rfl⟩:=Pa.map_some_iff h
     exact Pa.sz_put (Pa.sz_app hab (ih.cond _ _ hx)) hE
    ·obtain ⟨x,hx,rfl⟩:=Pa.map_some_iff h
     exact Pa.sz_put (Pa.sz_app hab (ih.block _ _ hx)) hE
   ·simp only [Option.some.injEq] at h;subst h;exact Pa.sz_put hab hE
theorem Pa.pars_sz {ts:List (Mill.Piece × Nat)} {M:Nat} (hM:∀ i,(Mill.ba (Pa.tx ts i)).size≤M):∀ (n:Nat) (o:Pa.Nds) (s:Pa.S) (r),Pa.Sz M o→Pa.parsL ts n o s=some r→Pa.Sz M r.1:=by
 intro n
 induction n with
 | zero=>intro o s r _ h;simp [Pa.parsL] at h
 | succ n ih =>
  intro o s r ho h
  rw [Pa.parsL] at h
  split at h
  ·simp only [Option.some.injEq] at h;subst h;exact ho
  split at h
  ·exact ih _ _ _ (Pa.sz_put ho (Pa.nameT_sz hM _)) h
  ·simp only [Option.some.injEq] at h;subst h;exact Pa.sz_put ho (Pa.nameT_sz hM _)
theorem Pa.fn_sz {ts:List (Mill.Piece × Nat)} {M:Nat} (hM:∀ i,(Mill.ba (Pa.tx ts i)).size≤M) (n:Nat) (s:Pa.S) (r) (h:Pa.fn ts n s=some r):Pa.Sz M r.1:=by
 cases n with
 | zero=>simp [Pa.fn] at h
 | succ n =>
  rw [Pa.fn] at h
  split at h
  ·simp at h
  rename_i a ha
  obtain ⟨x,hx,rfl⟩:=Pa.map_some_iff h
  refine Pa.sz_put (Pa.sz_app ?_ ((Pa.zs_all ts M hM n).block _ _ hx)) (Pa.nameT_sz hM _)
  split at ha
  ·simp only [Option.some.injEq] at ha;subst ha;exact Pa.sz_nil M
  split at ha
  ·simp only [Option.some.injEq] at ha;subst ha;exact Pa.sz_nil M
  ·obtain ⟨y,hy,rfl⟩:=Pa.map_some_iff ha
   exact Pa.pars_sz hM _ _ _ y (Pa.sz_nil M) hy
theorem Pa.prog_sz {ts:List (Mill.Piece × Nat)} {M:Nat} (hM:∀ i,(Mill.ba (Pa.tx ts i)).size≤M):∀ (n k:Nat) (o:Pa.Nds) (s:Pa.S) (r),Pa.Sz M o→Pa.progL ts n k o s=some r→Pa.Sz M r.1:=by
 intro n
 induction n with
 | zero=>intro k o s r _ h;simp [Pa.progL] at h
 | succ n ih =>
  intro k o s r ho h
  rw [Pa.progL] at h
  split at h
  ·split at h
   ·simp at h
   rename_i x hx
   exact ih _ _ _ _ (Pa.sz_app ho (Pa.fn_sz hM n _ _ hx)) h
  ·simp only [Option.some.injEq] at h;subst h;exact ho
def Pa.GoodP (p:Mill.Piece):Prop:=(p.kind=5→p.text ∈ Mill.marks)∧(p.kind=2→p.text ∉ Mill.marks∧p.text≠[])
theorem Pa.mark_no : ∀ m ∈ Mill.marks,∀ b ∈ m.head?,Mill.letter (b.toNat:Int)=false:=by decide
theorem Pa.good_one (l:List UInt8):Pa.GoodP (Mill.one l):=by
 unfold Mill.one
 split
 ·exact ⟨fun h=>by simp [Mill.bad] at h,fun h=>by simp [Mill.bad] at h⟩
 split
 ·rename_i b r hl
  unfold Mill.nameP
  split
  ·refine ⟨fun h=>by simp at h,fun _=>⟨fun hm => ?_,by simp [Mill.wordOf,Mill.isTail,Mill.tail,hl]⟩⟩
   have h2:=Pa.mark_no _ hm b (by simp [Mill.wordOf,Mill.isTail,Mill.tail,hl])
   rw [h2] at hl
   simp at hl
  split
  ·exact ⟨fun h=>by simp [Mill.bad] at h,fun h=>by simp [Mill.bad] at h⟩
  ·exact ⟨fun h=>by simp at h,fun h=>by simp at h⟩
 split
 ·unfold Mill.intP
  split
  ·exact ⟨fun h=>by simp [Mill.bad] at h,fun h=>by simp [Mill.bad] at h⟩
  ·exact ⟨fun h=>by simp at h,fun h=>by simp at h⟩
 split
 ·unfold Mill.textP
  split
  ·exact ⟨fun h=>by simp [Mill.bad] at h,fun h=>by simp [Mill.bad] at h⟩
  split
  ·exact ⟨fun h=>by simp [Mill.bad] at h,fun h=>by simp [Mill.bad] at h⟩
  ·exact ⟨fun h=>by simp at h,fun h=>by simp at h⟩
 ·unfold Mill.markP
  split
  ·rename_i m hm
   exact ⟨fun _=>List.mem_of_find?_eq_some hm,fun h=>by simp at h⟩
  ·exact ⟨fun h=>by simp [Mill.bad] at h,fun h=>by simp [Mill.bad] at h⟩
theorem Pa.scanL_good : ∀ (f:Nat) (l:List UInt8) (i:Nat) (acc:List (Mill.Piece × Nat)),(∀ p ∈ acc,Pa.GoodP p.1)→(∀ p ∈ (Mill.scanL f l i acc).1,Pa.GoodP p.1)∧(Mill.scanL f l i acc).1.length≤acc.length+l.length:=by
 intro f
 induction f with
 | zero=>intro l i acc h;rw [Mill.scanL];exact ⟨h,by simp⟩
 | succ f ih =>
  intro l i acc h
  cases l with
  | nil=>rw [Mill.scanL];exact ⟨h,by simp⟩
  | cons b r =>
   rw [Mill.scanL]
   split
   ·have:=ih r (i+1) acc h
    exact ⟨this.1,by simp;omega⟩
   split
   ·have:=ih ((b::r).drop (Mill.rem (b::r))) (i+Mill.rem (b::r)) acc h
    refine ⟨this.1, ?_⟩
    have h2:=this.2
    rw [List.length_drop] at h2
    omega
   split
   ·exact ⟨by simp,by simp⟩
   ·rename_i h0
    have hs:=(Mill.one_size b r (by simpa using h0)).1
    have:=ih ((b::r).drop (Mill.one (b::r)).size) (i+(Mill.one (b::r)).size) (acc++[(Mill.one (b::r),i)]) (by
     intro p hp
     rw [List.mem_append,List.mem_singleton] at hp
     rcases hp with hp | rfl
     ·exact h p hp
     ·exact Pa.good_one _)
    refine ⟨this.1, ?_⟩
    have h2:=this.2
    rw [List.length_drop,List.length_append] at h2
    simp only [List.length_cons,List.length_nil] at h2 ⊢
    omega
theorem Pa.scan_good {src:ByteArray} {ts:List (Mill.Piece × Nat)} {c:Int} {P:Nat} (h:Mill.scan src=(ts,c,P)):Pa.Good ts∧ts.length≤12000:=by
 unfold Mill.scan at h
 split at h
 ·simp only [Prod.mk.injEq] at h
  rw [← h.1]
  exact ⟨⟨fun i h=>by simp [Pa.kd] at h,fun i h=>by simp [Pa.kd] at h,fun i h=>by simp [Pa.kd] at h⟩,by simp⟩
 ·rename_i hs
  obtain ⟨h1,h2⟩:=Pa.scanL_good (src.size+1) src.data.toList 0 [] (by simp)
  rw [h] at h1 h2
  simp only at h1 h2
  have hz:src.data.toList.length=src.size:=by rw [Array.length_toList];rfl
  refine ⟨⟨fun i h => ?_,fun i h => ?_,fun i h => ?_⟩,by simp only [List.length_nil] at h2;omega⟩
  ·unfold Pa.kd at h
   unfold Pa.tx
   split at h
   ·rename_i p hp
    exact (h1 p (List.mem_of_getElem? hp)).1 h
   ·simp at h
  ·unfold Pa.kd at h
   unfold Pa.tx
   split at h
   ·rename_i p hp
    exact ((h1 p (List.mem_of_getElem? hp)).2 h).1
   ·simp at h
  ·unfold Pa.kd at h
   unfold Pa.tx
   split at h
   ·rename_i p hp
    exact ((h1 p (List.mem_of_getElem? hp)).2 h).2
   ·simp at h
theorem Pa.one_tx (l:List UInt8) (h:l.length≤12000):(Mill.one l).text.length≤12000:=by
 have hw:=Mill.word_le l
 unfold Mill.one
 split
 ·simp [Mill.bad]
 split
 ·unfold Mill.nameP
  split
  ·simp only;omega
  split
  ·simp [Mill.bad]
  ·simp only;omega
 split
 ·unfold Mill.intP
  split <;> simp [Mill.bad]
 split
 ·unfold Mill.textP
  split
  ·simp [Mill.bad]
  split
  ·simp [Mill.bad]
  ·simp only;omega
 ·unfold Mill.markP
  split
  ·rename_i m hm
   have h2:∀ x ∈ Mill.marks,x.length≤12000:=by decide
   exact h2 m (List.mem_of_find?_eq_some hm)
  ·simp [Mill.bad]
theorem Pa.scanL_tx : ∀ (f:Nat) (l:List UInt8) (i:Nat) (acc:List (Mill.Piece × Nat)),l.length≤12000→(∀ p ∈ acc,p.1.text.length≤12000)→∀ p ∈ (Mill.scanL f l i acc).1,p.1.text.length≤12000:=by
 intro f
 induction f with
 | zero=>intro l i acc _ h;rw [Mill.scanL];exact h
 | succ f ih =>
  intro l i acc hl h
  cases l with
  | nil=>rw [Mill.scanL];exact h
  | cons b r =>
   rw [Mill.scanL]
   split
   ·exact ih r (i+1) acc (by simp at hl;omega) h
   split
   ·exact ih _ _ acc (by rw [List.length_drop];omega) h
   split
   ·simp
   ·refine ih _ _ _ (by rw [List.length_drop];omega) fun p hp => ?_
    rw [List.mem_append,List.mem_singleton] at hp
    rcases hp with hp | rfl
    ·exact h p hp
    ·exact Pa.one_tx _ hl
theorem Pa.scan_tx {src:ByteArray} {ts:List (Mill.Piece × Nat)} {c:Int} {P:Nat} (h:Mill.scan src=(ts,c,P)) (i:Nat):(Mill.ba (Pa.tx ts i)).size≤12000:=by
 rw [Pa.ba_sz]
 unfold Pa.tx
 split
 ·rename_i p hp
  have hm:=List.mem_of_getElem? hp
  unfold Mill.scan at h
  split at h
  ·simp only [Prod.mk.injEq] at h;rw [← h.1] at hm;simp at hm
  ·rename_i hs
   have hz:src.data.toList.length=src.size:=by rw [Array.length_toList];rfl
   have h1:=Pa.scanL_tx (src.size+1) src.data.toList 0 [] (by omega) (by simp)
   rw [h] at h1
   exact h1 p hm
 ·simp
theorem Pa.same (src:ByteArray) (ts:List (Mill.Piece × Nat)) (c:Int) (P:Nat) (h:Mill.scan src=(ts,c,P)):∃ q R,Pa.iprog ts 50000 [] 0=some q∧Pa.progL ts 400000 0 [] ⟨0,false⟩=some R∧Pa.SmC (some R) q∧R.1.length+1≤1000000∧∀ d ∈ R.1,d.text.size≤12000:=by
 obtain ⟨hG,hl⟩:=Pa.scan_good h
 obtain ⟨q,hq⟩:=Pa.prog_in ts 50000 [] 0 ⟨by omega,by omega⟩
 have h2:=Pa.ts_prog hG 50000 400000 [] 0 q (by omega) hq
 have hR:∃ R,Pa.progL ts 400000 0 [] ⟨0,false⟩=some R:=by
  cases q with
  | ok x=>exact ⟨_,h2⟩
  | error k=>obtain ⟨o,c,h2⟩:=h2;exact ⟨_,h2⟩
 obtain ⟨R,hR⟩:=hR
 have e:Pa.progL ts 400000 ([]:List Mill.Tr).length (Pa.flats []) ⟨0,false⟩=Pa.progL ts 400000 0 [] ⟨0,false⟩:=rfl
 rw [e,hR] at h2
 refine ⟨q,R,hq,hR,h2, ?_,Pa.prog_sz (Pa.scan_tx h) _ _ _ _ _ (Pa.sz_nil _) hR⟩
 obtain ⟨h3,h4⟩:=Pa.prog_ln ts _ _ _ _ _ hR
 have:=h3.2 (Nat.zero_le _)
 simp at h4
 omega
end Go.Proofs.YtlcckaffhnjneaaGreatDoor
