import Derived.Test.YtkijfehdgiiejaaDoorScanB
namespace Go.Proofs.YtkijfehdgiiejaaDoor
open Go.RowKit

theorem Mill.plain_cell (w : World) (k : Nat) (p : List UInt8) (h : Mill.plainWords[k]? = some p) : (w.alloc (.cells Mill.plainCells 9)).cell? ⟨w.heap.size, k, none⟩ = some (Mill.strOf p) := by
  rw [cell_of_row _ _ _ Mill.plainCells 9 (0, 0) (heap_alloc_new w _)]
  simp [Mill.plainCells, h]

end Go.Proofs.YtkijfehdgiiejaaDoor
