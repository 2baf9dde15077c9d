import Derived.Test.YtkijfehdgiiejaaDoorWalF
namespace Go.Proofs.YtkijfehdgiiejaaDoor
open Go.RowKit

theorem Val.on2 {w w1 w2 : World} {o1 o2 : Obj} (hb1 : Below (w.heap.size + 1 + 1) ((w.alloc o1).alloc o2) w1) (hb2 : Below w1.drew.heap.size w1.drew w2) : Below (w.heap.size + 1 + 1) ((w.alloc o1).alloc o2) w2 :=
  hb1.drew.trans (hb2.mono (by have := hb1.size; simpa using this))
theorem Val.set3d {w : World} {g h k : Nat} {v x y z : Value} (hgh : g < h) (hv : w.cell? ⟨g, k, none⟩ = some v) :
    (((w.setCell ⟨h, 0, none⟩ x).setCell ⟨h, 1, none⟩ y).setCell ⟨h, 2, none⟩ z).cell? ⟨g, k, none⟩ = some v := by
  have hb : Below (g + 1) w (((w.setCell ⟨h, 0, none⟩ x).setCell ⟨h, 1, none⟩ y).setCell ⟨h, 2, none⟩ z) :=
    (((Below.refl _ w).setCell (p := ⟨h, 0, none⟩) hgh _).setCell (p := ⟨h, 1, none⟩) hgh _).setCell (p := ⟨h, 2, none⟩) hgh _
  rw [hb.cell (p := ⟨g, k, none⟩) (Nat.lt_succ_self g)]; exact hv
end Go.Proofs.YtkijfehdgiiejaaDoor
