import Derived.Test.YtkijfehdgiiejaaDoorWalE
import Derived.Deep.RegionHeld3
namespace Go.Proofs.YtkijfehdgiiejaaDoor
open Go.RowKit

theorem Val.set3c {w : World} {g h : Nat} {v x y z : Value} (hgh : g < h) (hv : w.cell? ⟨g, 0, none⟩ = some v) :
    (((w.setCell ⟨h, 0, none⟩ x).setCell ⟨h, 1, none⟩ y).setCell ⟨h, 2, none⟩ z).cell? ⟨g, 0, none⟩ = some v := by
  have hb : Below (g + 1) w (((w.setCell ⟨h, 0, none⟩ x).setCell ⟨h, 1, none⟩ y).setCell ⟨h, 2, none⟩ z) :=
    (((Below.refl _ w).setCell (p := ⟨h, 0, none⟩) hgh _).setCell (p := ⟨h, 1, none⟩) hgh _).setCell (p := ⟨h, 2, none⟩) hgh _
  rw [hb.cell (p := ⟨g, 0, none⟩) (Nat.lt_succ_self g)]; exact hv
end Go.Proofs.YtkijfehdgiiejaaDoor
