import Derived.Test.YtkijfehdgiiejaaDoorBitC
import Derived.Test.YtkijfehdgiiejaaDoorWalG
namespace Go.Proofs.YtkijfehdgiiejaaDoor
open Go.RowKit


theorem Val.typeOfBin_is (op t : Int) (hop : op = 9 ∨ op = 11 ∨ op = 12 ∨ op = 16 ∨ op = 17 ∨ op = 18) (HT : Hid (Val.isInt t = true)) (w : World) :
    Calls Tryd.prog 23 #[.int .i64 op, .int .i64 t, .int .i64 t] w fun e w' => e = .returned (.int .i64 t) ∧ w = w' := by
  have h1 : (t != t) = false := by simp
  rcases hop with rfl | rfl | rfl | rfl | rfl | rfl
  all_goals
    go_enter Tryd.func23, Tryd.ntmps23
    go_wp2_with (go_at_call 14; refine (Val.isIntType_any _ _).mono ?_; rintro e w' ⟨rfl, rfl⟩; rw [HT.out])
    go_ret
    exact ⟨rfl, rfl⟩
theorem Val.new3 {w : World} {a0 a1 a2 b0 b1 b2 c0 c1 c2 : Value} {t : TypeId} :
    (((w.alloc (.cells #[a0, a1, a2] t)).alloc (.cells #[b0, b1, b2] t)).alloc (.cells #[c0, c1, c2] t)).heap[w.heap.size]? = some (.cells #[a0, a1, a2] t (0, 0)) ∧ (((w.alloc (.cells #[a0, a1, a2] t)).alloc (.cells #[b0, b1, b2] t)).alloc (.cells #[c0, c1, c2] t)).heap[w.heap.size + 1]? = some (.cells #[b0, b1, b2] t (0, 0)) ∧ (((w.alloc (.cells #[a0, a1, a2] t)).alloc (.cells #[b0, b1, b2] t)).alloc (.cells #[c0, c1, c2] t)).heap[w.heap.size + 1 + 1]? = some (.cells #[c0, c1, c2] t (0, 0)) := by
  have s1 : (w.alloc (.cells #[a0, a1, a2] t)).heap.size = w.heap.size + 1 := World.size_alloc ..
  have s2 : ((w.alloc (.cells #[a0, a1, a2] t)).alloc (.cells #[b0, b1, b2] t)).heap.size = w.heap.size + 1 + 1 := by rw [World.size_alloc, s1]
  refine ⟨?_, ?_, ?_⟩
  · rw [Val.new_past _ _ _ (by omega), Val.new_past _ _ _ (by omega), Val.new_at]
  · rw [Val.new_past _ _ _ (by omega), ← s1, Val.new_at]
  · rw [← s2, Val.new_at]
theorem Val.spill3 {w w1 : World} {a0 a1 a2 b0 b1 b2 c0 c1 c2 : Value} {t : TypeId} (hb : Below (w.heap.size + 1 + 1 + 1) (((w.alloc (.cells #[a0, a1, a2] t)).alloc (.cells #[b0, b1, b2] t)).alloc (.cells #[c0, c1, c2] t)) w1) :
    ((w1.cell? ⟨w.heap.size, 0, none⟩ = some a0 ∧ w1.cell? ⟨w.heap.size, 1, none⟩ = some a1 ∧ w1.cell? ⟨w.heap.size, 2, none⟩ = some a2) ∧ w1.frozen? ⟨w.heap.size, 0, none⟩ = false ∧ w1.frozen? ⟨w.heap.size, 1, none⟩ = false ∧ w1.frozen? ⟨w.heap.size, 2, none⟩ = false) ∧
    ((w1.cell? ⟨w.heap.size + 1, 0, none⟩ = some b0 ∧ w1.cell? ⟨w.heap.size + 1, 1, none⟩ = some b1 ∧ w1.cell? ⟨w.heap.size + 1, 2, none⟩ = some b2) ∧ w1.frozen? ⟨w.heap.size + 1, 0, none⟩ = false ∧ w1.frozen? ⟨w.heap.size + 1, 1, none⟩ = false ∧ w1.frozen? ⟨w.heap.size + 1, 2, none⟩ = false) ∧
    ((w1.cell? ⟨w.heap.size + 1 + 1, 0, none⟩ = some c0 ∧ w1.cell? ⟨w.heap.size + 1 + 1, 1, none⟩ = some c1 ∧ w1.cell? ⟨w.heap.size + 1 + 1, 2, none⟩ = some c2) ∧ w1.frozen? ⟨w.heap.size + 1 + 1, 0, none⟩ = false ∧ w1.frozen? ⟨w.heap.size + 1 + 1, 1, none⟩ = false ∧ w1.frozen? ⟨w.heap.size + 1 + 1, 2, none⟩ = false) := by
  obtain ⟨n1, n2, n3⟩ := Val.new3 (w := w) (a0 := a0) (a1 := a1) (a2 := a2) (b0 := b0) (b1 := b1) (b2 := b2) (c0 := c0) (c1 := c1) (c2 := c2) (t := t)
  exact ⟨Val.row3 (t := t) hb (by omega) n1, Val.row3 (t := t) hb (by omega) n2, Val.row3 (t := t) hb (by omega) n3⟩
theorem Val.on3 {w w1 w2 : World} {o1 o2 o3 : Obj} (hb1 : Below (w.heap.size + 1 + 1 + 1) (((w.alloc o1).alloc o2).alloc o3) w1) (hb2 : Below w1.heap.size w1 w2) : Below (w.heap.size + 1 + 1 + 1) (((w.alloc o1).alloc o2).alloc o3) w2 :=
  hb1.trans (hb2.mono (by have := hb1.size; simpa using this))
theorem Val.on3d {w w1 w2 : World} {o1 o2 o3 : Obj} (hb1 : Below (w.heap.size + 1 + 1 + 1) (((w.alloc o1).alloc o2).alloc o3) w1) (hb2 : Below w1.drew.heap.size w1.drew w2) : Below (w.heap.size + 1 + 1 + 1) (((w.alloc o1).alloc o2).alloc o3) w2 :=
  hb1.drew.trans (hb2.mono (by have := hb1.size; simpa using this))
theorem Val.alloc3 {w w1 : World} {o1 o2 o3 : Obj} (hb : Below (w.heap.size + 1 + 1 + 1) (((w.alloc o1).alloc o2).alloc o3) w1) : Below w.heap.size w w1 :=
  ((((Below.refl _ w).alloc (Nat.le_refl _) _).alloc (by rw [World.size_alloc]; omega) _).alloc (by rw [World.size_alloc, World.size_alloc]; omega) _).trans (hb.mono (by omega))
theorem Val.set33 {w w1 : World} (hb : Below w.heap.size w w1) (x y z : Value) : Below w.heap.size w (((w1.setCell ⟨w.heap.size + 1 + 1, 0, none⟩ x).setCell ⟨w.heap.size + 1 + 1, 1, none⟩ y).setCell ⟨w.heap.size + 1 + 1, 2, none⟩ z) :=
  ((hb.setCell (p := ⟨w.heap.size + 1 + 1, 0, none⟩) (by simp only; omega) _).setCell (p := ⟨w.heap.size + 1 + 1, 1, none⟩) (by simp only; omega) _).setCell (p := ⟨w.heap.size + 1 + 1, 2, none⟩) (by simp only; omega) _

theorem Tryd.rk_uint8 (v : Value) (w : World) : (method 221 54 v "loop.example/kilnmill/impl.reckoned").run Tryd.prog w = .ok (53, v) w := by kernel_rfl
theorem Tryd.rk_uint16 (v : Value) (w : World) : (method 221 55 v "loop.example/kilnmill/impl.reckoned").run Tryd.prog w = .ok (59, v) w := by kernel_rfl
theorem Tryd.rk_uint32 (v : Value) (w : World) : (method 221 56 v "loop.example/kilnmill/impl.reckoned").run Tryd.prog w = .ok (65, v) w := by kernel_rfl
theorem Tryd.rk_uint64 (v : Value) (w : World) : (method 221 57 v "loop.example/kilnmill/impl.reckoned").run Tryd.prog w = .ok (71, v) w := by kernel_rfl
theorem Tryd.rk_int8 (v : Value) (w : World) : (method 221 58 v "loop.example/kilnmill/impl.reckoned").run Tryd.prog w = .ok (77, v) w := by kernel_rfl
theorem Tryd.rk_int16 (v : Value) (w : World) : (method 221 59 v "loop.example/kilnmill/impl.reckoned").run Tryd.prog w = .ok (83, v) w := by kernel_rfl
theorem Tryd.rk_int32 (v : Value) (w : World) : (method 221 60 v "loop.example/kilnmill/impl.reckoned").run Tryd.prog w = .ok (89, v) w := by kernel_rfl
theorem Tryd.rk_int64 (v : Value) (w : World) : (method 221 61 v "loop.example/kilnmill/impl.reckoned").run Tryd.prog w = .ok (95, v) w := by kernel_rfl
end Go.Proofs.YtkijfehdgiiejaaDoor
