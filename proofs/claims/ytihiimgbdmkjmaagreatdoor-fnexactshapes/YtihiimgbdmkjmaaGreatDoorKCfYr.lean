import Derived.Test.YtihiimgbdmkjmaaGreatDoorKCfY
import Derived.Test.YtihiimgbdmkjmaaGreatDoorKCfN
import Derived.Test.YtihiimgbdmkjmaaGreatDoorKCdYA
namespace Go.Proofs.YtihiimgbdmkjmaaGreatDoor
open Go.RowKit

theorem Cd.Sound.right {c : List Cd.Fn} (h : Cd.Sound c) (k : Nat) (hk : k < c.length) : Cd.Right c c[k] := by
  obtain ⟨b1, b2, b3, b4, b5, b6, b7, b8, b9⟩ := Cd.fnOk_bd (h.fns k hk)
  refine ⟨h.len, b3, h.pl, fun g hg => ?_, ⟨b7, b8⟩, ⟨b1, b2⟩, h.ins k hk⟩
  obtain ⟨j, hj, rfl⟩ := List.getElem_of_mem hg
  obtain ⟨-, -, -, -, -, -, d7, d8, d9⟩ := Cd.fnOk_bd (h.fns j hj)
  exact ⟨⟨d7, d8⟩, d9⟩
theorem Cd.plain_zero {c : List Cd.Fn} (h : (Cd.plain c).1 = 0) : Cd.plain c = (0, 0, 0) := by
  unfold Cd.plain at h ⊢
  by_cases h1 : c.length = 0 ∨ 60 < c.length
  · rw [if_pos h1] at h; simp at h
  · rw [if_neg h1] at h ⊢
    cases h2 : Cd.badFn c c 0 with
    | some k => rw [h2] at h; simp at h
    | none =>
      rw [h2] at h
      cases h3 : Cd.badCode c c 0 with
      | some p => rw [h3] at h; simp at h
      | none =>
        rw [h3] at h
        by_cases h4 : c.any Cd.isMain = true
        · simp only [if_pos h4]
        · simp only [if_neg h4] at h; simp at h
end Go.Proofs.YtihiimgbdmkjmaaGreatDoor
