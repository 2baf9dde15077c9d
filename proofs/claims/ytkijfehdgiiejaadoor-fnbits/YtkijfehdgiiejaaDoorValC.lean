import Derived.Test.YtkijfehdgiiejaaDoorValB
namespace Go.Proofs.YtkijfehdgiiejaaDoor
open Go.RowKit

def Val.un (op t : Int) : Int := if op = 2 then (if t = 1 then 1 else 0) else if Val.isInt t = true then t else 0
def Val.zero : Val.V := ⟨0, 0, ⟨#[]⟩⟩
def Val.typeW : ByteArray := ⟨#[116, 121, 112, 101]⟩
def Val.num (t b : Int) : Val.V := ⟨t, Val.into t (Val.u b), ⟨#[]⟩⟩
def Val.bool (b : Bool) : Val.V := ⟨1, if b = true then 1 else 0, ⟨#[]⟩⟩
def Val.unary (op : Int) (x : Val.V) : Val.V × ByteArray :=
  if Val.valid x = true ∧ 1 ≤ op ∧ op ≤ 3 ∧ Val.un op x.type ≠ 0 then
    (if op = 1 then Val.num x.type (-x.n) else if op = 2 then Val.bool (decide (x.n = 0)) else Val.num x.type (-x.n - 1), ⟨#[]⟩)
  else (Val.zero, Val.typeW)
def Val.ansV (r : Val.V × ByteArray) : Value := .tuple #[Val.v r.1, .string r.2]

theorem Val.row3 {W w1 : World} {B g : Nat} {a0 a1 a2 : Value} {t : TypeId} (hb : Below B W w1) (hg : g < B) (h : W.heap[g]? = some (.cells #[a0, a1, a2] t (0, 0))) :
    (w1.cell? ⟨g, 0, none⟩ = some a0 ∧ w1.cell? ⟨g, 1, none⟩ = some a1 ∧ w1.cell? ⟨g, 2, none⟩ = some a2) ∧ w1.frozen? ⟨g, 0, none⟩ = false ∧ w1.frozen? ⟨g, 1, none⟩ = false ∧ w1.frozen? ⟨g, 2, none⟩ = false := by
  have h1 := hb.block g hg
  rw [h] at h1
  simp [World.cell?, World.frozen?, h1]
theorem Val.new_at (w : World) (o : Obj) : (w.alloc o).heap[w.heap.size]? = some o := (MapKept.heap_alloc w o).1
theorem Val.new_past (w : World) (o : Obj) (g : Nat) (h : g < w.heap.size) : (w.alloc o).heap[g]? = w.heap[g]? := ((Below.refl w.heap.size w).alloc (Nat.le_refl _) o).block g h
theorem Val.spill2 {w w1 : World} {a0 a1 a2 b0 b1 b2 : Value} {t u : TypeId} (hb : Below (w.heap.size + 1 + 1) ((w.alloc (.cells #[a0, a1, a2] t)).alloc (.cells #[b0, b1, b2] u)) w1) :
    ((w1.cell? ⟨w.heap.size, 0, none⟩ = some a0 ∧ w1.cell? ⟨w.heap.size, 1, none⟩ = some a1 ∧ w1.cell? ⟨w.heap.size, 2, none⟩ = some a2) ∧ w1.frozen? ⟨w.heap.size, 0, none⟩ = false ∧ w1.frozen? ⟨w.heap.size, 1, none⟩ = false ∧ w1.frozen? ⟨w.heap.size, 2, none⟩ = false) ∧
    ((w1.cell? ⟨w.heap.size + 1, 0, none⟩ = some b0 ∧ w1.cell? ⟨w.heap.size + 1, 1, none⟩ = some b1 ∧ w1.cell? ⟨w.heap.size + 1, 2, none⟩ = some b2) ∧ w1.frozen? ⟨w.heap.size + 1, 0, none⟩ = false ∧ w1.frozen? ⟨w.heap.size + 1, 1, none⟩ = false ∧ w1.frozen? ⟨w.heap.size + 1, 2, none⟩ = false) := by
  have e1 : (w.alloc (.cells #[a0, a1, a2] t)).heap.size = w.heap.size + 1 := World.size_alloc ..
  refine ⟨Val.row3 (t := t) hb (by omega) ?_, Val.row3 (t := u) hb (by omega) ?_⟩
  · rw [Val.new_past _ _ _ (by omega), Val.new_at]
  · rw [← e1, Val.new_at]
theorem Val.alloc2 {w w1 : World} {o1 o2 : Obj} (hb : Below (w.heap.size + 1 + 1) ((w.alloc o1).alloc o2) w1) : Below w.heap.size w w1 :=
  (((Below.refl _ w).alloc (Nat.le_refl _) _).alloc (by rw [World.size_alloc]; omega) _).trans (hb.mono (by omega))
theorem Val.set3 {w w1 : World} (hb : Below w.heap.size w w1) (x y z : Value) : Below w.heap.size w (((w1.setCell ⟨w.heap.size + 1, 0, none⟩ x).setCell ⟨w.heap.size + 1, 1, none⟩ y).setCell ⟨w.heap.size + 1, 2, none⟩ z) :=
  ((hb.setCell (p := ⟨w.heap.size + 1, 0, none⟩) (by simp only; omega) _).setCell (p := ⟨w.heap.size + 1, 1, none⟩) (by simp only; omega) _).setCell (p := ⟨w.heap.size + 1, 2, none⟩) (by simp only; omega) _
theorem Val.l4Num_w (t b : Int) (w : World) :
    Calls Tryd.prog 31 #[.int .i64 t, .int .u64 (IntKind.u64.wrap b)] w fun e w' => e = .returned (.agg #[.int .i64 t, .int .i64 (Val.into t (Val.u b)), .string ⟨#[]⟩]) ∧ Below w.heap.size w w' := Val.l4Num_any t (IntKind.u64.wrap b) (Val.u_bd b).1 (Val.u_bd b).2 w
theorem Val.l4Bool_w (b : Bool) (w : World) :
    Calls Tryd.prog 27 #[.bool b] w fun e w' => e = .returned (.agg #[.int .i64 1, .int .i64 (if b = true then 1 else 0), .string ⟨#[]⟩]) ∧ Below w.heap.size w w' := Val.l4Bool_any b w
theorem Val.u_neg (n : Int) : Val.u (-IntKind.u64.wrap n) = Val.u (-n) := by rw [Val.wrap_u]; unfold Val.u; omega
theorem Val.toNat_w (n : Int) : ((BitVec.ofInt 64 (IntKind.u64.wrap n)).toNat : Int) = Val.u n := by
  rw [Val.wrap_u, BitVec.toNat_ofInt]
  unfold Val.u
  have e : ((2 : Nat) ^ 64 : Nat) = 18446744073709551616 := by decide
  rw [e]
  omega
theorem Val.u_inv (n : Int) : Val.u ((BitVec.ofInt 64 IntKind.u64.max ^^^ BitVec.ofInt 64 (IntKind.u64.wrap n)).toNat : Int) = Val.u (-n - 1) := by
  have h1 : BitVec.ofInt 64 IntKind.u64.max = BitVec.allOnes 64 := by decide
  have h2 := Val.toNat_w n
  have hlt := (BitVec.ofInt 64 (IntKind.u64.wrap n)).isLt
  rw [h1, BitVec.allOnes_xor, BitVec.toNat_not]
  have e : ((2 : Nat) ^ 64 : Nat) = 18446744073709551616 := by decide
  rw [e] at hlt ⊢
  unfold Val.u at h2 ⊢
  omega
theorem Val.valid_is (b : Bool) (x : Val.V) (h : Hid (Val.valid x = b)) (w : World) :
    Calls Tryd.prog 5 #[Val.v x] w fun e w' => e = .returned (.bool b) ∧ Below w.heap.size w w' := by
  rw [← h.out]; exact Val.valid_any x.type x.n x.text w

end Go.Proofs.YtkijfehdgiiejaaDoor
