import Derived.Test.YtkijfehdgiiejaaDoorDrawI
import Derived.Test.YtkijfehdgiiejaaDoorBitF
namespace Go.Proofs.YtkijfehdgiiejaaDoor
open Go.RowKit

def Val.Is (g : Nat) (X : Val.V) (w : World) : Prop := w.heap[g]? = some (.cells #[.int .i64 X.type, .int .i64 X.n, .string X.text] 24 (0, 0))
theorem Val.Is.lt {g : Nat} {X : Val.V} {w : World} (h : Val.Is g X w) : g < w.heap.size := (Array.getElem?_eq_some_iff.1 h).1
theorem Val.Is.below {g : Nat} {X : Val.V} {w w' : World} (h : Val.Is g X w) (hb : Below w.heap.size w w') : Val.Is g X w' := (hb.block g h.lt).trans h
theorem Val.Is.alloc {g : Nat} {X : Val.V} {w : World} (h : Val.Is g X w) (o : Obj) : Val.Is g X (w.alloc o) := h.below ((Below.refl _ w).alloc (Nat.le_refl _) o)
theorem Val.Is.fresh (X : Val.V) (w : World) : Val.Is w.heap.size X (w.alloc (.cells #[.int .i64 X.type, .int .i64 X.n, .string X.text] 24)) := World.alloc_heap_new w _
theorem Val.Is.cells {g : Nat} {X : Val.V} {w : World} (h : Val.Is g X w) : (w.cell? ⟨g, 0, none⟩ = some (.int .i64 X.type) ∧ w.cell? ⟨g, 1, none⟩ = some (.int .i64 X.n) ∧ w.cell? ⟨g, 2, none⟩ = some (.string X.text)) ∧ w.frozen? ⟨g, 0, none⟩ = false ∧ w.frozen? ⟨g, 1, none⟩ = false ∧ w.frozen? ⟨g, 2, none⟩ = false := by
  simp only [Val.Is] at h
  simp [World.cell?, World.frozen?, h]
theorem drawBinary_v (w : World) (v : Value) (n : Nat) (hB : Mill.Bytes w w.heap.size v n) (hc : ∀ a m c, v = .slice a m c → m ≤ c) (hn : n ≤ 1048576) :
    Calls Tryd.prog 4 #[v] w fun e w' => ∃ (op : Int) (x y : Val.V), e = .returned (.tuple #[.int .i64 op, .agg #[.int .i64 x.type, .int .i64 x.n, .string x.text], .agg #[.int .i64 y.type, .int .i64 y.n, .string y.text]]) ∧ Val.Fine x ∧ Val.Fine y ∧ Below w.heap.size w w' := drawBinary_any w v n hB hc hn
theorem Val.specValid_b (b : Bool) (X : Val.V) (h : Hid (Val.valid X = b)) (w : World) :
    Calls Tryd.prog 5 #[.agg #[.int .i64 X.type, .int .i64 X.n, .string X.text]] w fun e w' => e = .returned (.bool b) ∧ Below w.heap.size w w' := by
  rw [← h.out]; exact Val.valid_any X.type X.n X.text w
theorem Val.implValid_b (b : Bool) (X : Val.V) (hX : Val.Fine X) (h : Hid (Val.valid X = b)) (w : World) :
    Calls Tryd.prog 6 #[.agg #[.int .i64 X.type, .int .i64 X.n, .string X.text]] w fun e w' => e = .returned (.bool b) ∧ Below w.heap.size w w' := by
  rw [← h.out]; exact Val.implValid_any X.type X.n X.text hX.2.1 w
end Go.Proofs.YtkijfehdgiiejaaDoor
