import Derived.Test.YtkaoeoeloihigaaGreatDoorVTreeY
namespace Go.Proofs.YtkaoeoeloihigaaGreatDoor
open Go.RowKit

mutual
def Mill.Rep (P : Nat → Prop) (w : World) : Mill.Tr → Value → Prop
  | .node d ks, v => ∃ us, Mill.Shape P w d us v ∧ Mill.Kinded us (ks.map (fun t => t.nd.kind)) ∧ (23 ≤ d.kind → us.length ≤ 100000) ∧ us.length ≤ 100000 ∧ Mill.Reps P w ks us
def Mill.Reps (P : Nat → Prop) (w : World) : List Mill.Tr → List Value → Prop
  | [], us => us = []
  | t :: r, us => ∃ u us', us = u :: us' ∧ Mill.Rep P w t u ∧ Mill.Reps P w r us'
end
theorem Mill.Reps.len {P : Nat → Prop} {w : World} : ∀ (ts : List Mill.Tr) (us : List Value), Mill.Reps P w ts us → us.length = ts.length
  | [], us, h => by rw [Mill.Reps] at h; rw [h]; rfl
  | t :: r, us, h => by
    rw [Mill.Reps] at h
    obtain ⟨u, us', rfl, _, h2⟩ := h
    have := Mill.Reps.len r us' h2
    simp [this]
theorem Mill.Reps.at {P : Nat → Prop} {w : World} : ∀ (ts : List Mill.Tr) (us : List Value), Mill.Reps P w ts us → ∀ i (h : i < ts.length), ∃ u, us[i]? = some u ∧ Mill.Rep P w ts[i] u
  | [], us, h, i, hi => by simp at hi
  | t :: r, us, h, i, hi => by
    rw [Mill.Reps] at h
    obtain ⟨u, us', rfl, h1, h2⟩ := h
    cases i with
    | zero => exact ⟨u, rfl, h1⟩
    | succ i => exact Mill.Reps.at r us' h2 i (by simpa using hi)
theorem Mill.highs_at : ∀ (ts : List Mill.Tr) (i : Nat) (h : i < ts.length), ts[i].high + 1 ≤ Mill.Tr.highs ts
  | t :: r, 0, _ => by rw [Mill.Tr.highs]; simp only [List.getElem_cons_zero]; omega
  | t :: r, i + 1, h => by
    rw [Mill.Tr.highs]
    have := Mill.highs_at r i (by simpa using h)
    simp only [List.getElem_cons_succ]
    omega
theorem Mill.highs_app : ∀ (a b : List Mill.Tr), Mill.Tr.highs (a ++ b) = max (Mill.Tr.highs a) (Mill.Tr.highs b)
  | [], b => by simp [Mill.Tr.highs]
  | t :: r, b => by
    rw [List.cons_append, Mill.Tr.highs, Mill.Tr.highs, Mill.highs_app r b]; omega
mutual
theorem Mill.Rep.below {P Q : Nat → Prop} {w w' : World} (hQ : ∀ g, P g → Q g) (hc : ∀ g, P g → w'.heap[g]? = w.heap[g]?) : ∀ (t : Mill.Tr) (v : Value), Mill.Rep P w t v → Mill.Rep Q w' t v
  | .node d ks, v, h => by
    rw [Mill.Rep] at h ⊢
    obtain ⟨us, h1, h2, h3, h4, h5⟩ := h
    exact ⟨us, h1.below hQ hc, h2, h3, h4, Mill.Reps.below hQ hc ks us h5⟩
theorem Mill.Reps.below {P Q : Nat → Prop} {w w' : World} (hQ : ∀ g, P g → Q g) (hc : ∀ g, P g → w'.heap[g]? = w.heap[g]?) : ∀ (ts : List Mill.Tr) (us : List Value), Mill.Reps P w ts us → Mill.Reps Q w' ts us
  | [], us, h => by rw [Mill.Reps] at h ⊢; exact h
  | t :: r, us, h => by
    rw [Mill.Reps] at h ⊢
    obtain ⟨u, us', h1, h2, h3⟩ := h
    exact ⟨u, us', h1, Mill.Rep.below hQ hc t u h2, Mill.Reps.below hQ hc r us' h3⟩
end

end Go.Proofs.YtkaoeoeloihigaaGreatDoor
