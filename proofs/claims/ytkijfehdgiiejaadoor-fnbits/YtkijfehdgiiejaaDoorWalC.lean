import Derived.Test.YtkijfehdgiiejaaDoorWalB
namespace Go.Proofs.YtkijfehdgiiejaaDoor
open Go.RowKit

theorem Val.keep1 {w w' : World} {a0 a1 a2 : Value} {t : TypeId} (hb : Below (w.heap.size + 1) (w.alloc (.cells #[a0, a1, a2] t)) w') :
    Below (w.heap.size + 1) (w.alloc (.cells #[a0, a1, a2] t)) w' ∧ w'.cell? ⟨w.heap.size, 0, none⟩ = some a0 ∧ w'.cell? ⟨w.heap.size, 1, none⟩ = some a1 ∧ w'.cell? ⟨w.heap.size, 2, none⟩ = some a2 :=
  ⟨hb, (Val.row3' hb).1⟩
theorem Val.keep2 {w w0 w' : World} {a0 a1 a2 : Value} {t : TypeId} {p : Prop} (h : Below (w.heap.size + 1) (w.alloc (.cells #[a0, a1, a2] t)) w0 ∧ p) (hb : Below w0.heap.size w0 w') :
    Below (w.heap.size + 1) (w.alloc (.cells #[a0, a1, a2] t)) w' ∧ w'.cell? ⟨w.heap.size, 0, none⟩ = some a0 ∧ w'.cell? ⟨w.heap.size, 1, none⟩ = some a1 ∧ w'.cell? ⟨w.heap.size, 2, none⟩ = some a2 :=
  Val.keep1 (h.1.trans (hb.mono (by have := h.1.size; simpa using this)))
theorem Val.keep0 {w w' : World} {a0 a1 a2 : Value} {t : TypeId} {p : Prop} (h : Below (w.heap.size + 1) (w.alloc (.cells #[a0, a1, a2] t)) w' ∧ p) : Below w.heap.size w w' :=
  ((Below.refl _ w).alloc (Nat.le_refl _) _).trans (h.1.mono (by omega))
theorem Val.drew1 (w : World) (o : Obj) : Below (w.heap.size + 1) (w.alloc o) (w.alloc o).drew := (Below.refl _ _).drew
theorem Val.kindOf_uint8 (w : World) : Calls Tryd.prog 15 #[.int .i64 3] w fun e w' => e = .returned (.iface 54 (.agg #[])) ∧ w = w' := Val.kindOf_any 3 w
theorem Val.kindOf_uint16 (w : World) : Calls Tryd.prog 15 #[.int .i64 4] w fun e w' => e = .returned (.iface 55 (.agg #[])) ∧ w = w' := Val.kindOf_any 4 w
theorem Val.kindOf_uint32 (w : World) : Calls Tryd.prog 15 #[.int .i64 5] w fun e w' => e = .returned (.iface 56 (.agg #[])) ∧ w = w' := Val.kindOf_any 5 w
theorem Val.kindOf_uint64 (w : World) : Calls Tryd.prog 15 #[.int .i64 6] w fun e w' => e = .returned (.iface 57 (.agg #[])) ∧ w = w' := Val.kindOf_any 6 w
theorem Val.kindOf_int8 (w : World) : Calls Tryd.prog 15 #[.int .i64 7] w fun e w' => e = .returned (.iface 58 (.agg #[])) ∧ w = w' := Val.kindOf_any 7 w
theorem Val.kindOf_int16 (w : World) : Calls Tryd.prog 15 #[.int .i64 8] w fun e w' => e = .returned (.iface 59 (.agg #[])) ∧ w = w' := Val.kindOf_any 8 w
theorem Val.kindOf_int32 (w : World) : Calls Tryd.prog 15 #[.int .i64 9] w fun e w' => e = .returned (.iface 60 (.agg #[])) ∧ w = w' := Val.kindOf_any 9 w
theorem Val.kindOf_int64 (w : World) : Calls Tryd.prog 15 #[.int .i64 10] w fun e w' => e = .returned (.iface 61 (.agg #[])) ∧ w = w' := Val.kindOf_any 10 w
end Go.Proofs.YtkijfehdgiiejaaDoor
