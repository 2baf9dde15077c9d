import Derived.Test.YtkijfehdgiiejaaDoorWalD
import Derived.Test.YtkijfehdgiiejaaDoorValG
namespace Go.Proofs.YtkijfehdgiiejaaDoor
open Go.RowKit

def Val.Err (g : Nat) (y : ByteArray) (w : World) : Prop := ∃ b o : Nat, w.cell? ⟨g, 0, none⟩ = some (.iface 77 (.pointer (some ⟨b, o, none⟩))) ∧ w.cell? ⟨b, o, none⟩ = some (.string y) ∧ g < w.heap.size ∧ b < w.heap.size
theorem Val.Err.next {g : Nat} {y : ByteArray} {w w' : World} (h : Val.Err g y w) (hb : Below w.heap.size w w') : Val.Err g y w' := by
  obtain ⟨b, o, h1, h2, h3, h4⟩ := h
  have hs := hb.size
  exact ⟨b, o, by rw [hb.cell (p := ⟨g, 0, none⟩) h3]; exact h1, by rw [hb.cell (p := ⟨b, o, none⟩) h4]; exact h2, by omega, by omega⟩
theorem Tryd.meth_err (v : Value) (w : World) : (method 221 77 v "Error").run Tryd.prog w = .ok (99, v) w := by kernel_rfl
theorem Val.error_any (b o : Nat) (y : ByteArray) (w : World) (h : w.cell? ⟨b, o, none⟩ = some (.string y)) :
    Calls Tryd.prog 99 #[.pointer (some ⟨b, o, none⟩)] w fun e w' => e = .returned (.string y) ∧ w = w' := by
  go_enter Tryd.func99, Tryd.ntmps99
  go_wp2
  go_ret
  exact ⟨rfl, rfl⟩
theorem Val.cell2 {w : World} {b o : Nat} {o1 o2 : Obj} (hb : b < w.heap.size) : ((w.alloc o1).alloc o2).cell? ⟨b, o, none⟩ = w.cell? ⟨b, o, none⟩ :=
  (Val.alloc2 (w := w) (o1 := o1) (o2 := o2) (Below.refl _ _)).cell (p := ⟨b, o, none⟩) hb
theorem Val.cloneE (w : World) : Calls Tryd.prog 22 #[.string ⟨#[]⟩] w fun e w' => e = .returned (.string ⟨#[]⟩) ∧ w = w' := by
  go_enter Tryd.func22, Tryd.ntmps22
  go_wp2
  go_ret
  exact ⟨rfl, rfl⟩
set_option maxRecDepth 100000 in
set_option maxHeartbeats 1000000 in
theorem Val.told_err (t n : Int) (x : ByteArray) (b o : Nat) (y : ByteArray) (w : World) (hb : b < w.heap.size) (h : w.cell? ⟨b, o, none⟩ = some (.string y)) :
    Calls Tryd.prog 16 #[.agg #[.int .i64 t, .int .i64 n, .string x], .iface 77 (.pointer (some ⟨b, o, none⟩))] w fun e w' => e = .returned (.tuple #[.agg #[.int .i64 0, .int .i64 0, .string ⟨#[]⟩], .string y]) ∧ Below w.heap.size w w' := by
  have hm := Tryd.meth_err
  have h2 : ∀ o1 o2 : Obj, ((w.alloc o1).alloc o2).cell? ⟨b, o, none⟩ = some (.string y) := fun o1 o2 => by rw [Val.cell2 hb]; exact h
  go_enter Tryd.func16, Tryd.ntmps16
  go_wp2_with (go_at_call 99; refine (Val.error_any b o y _ (h2 _ _)).mono ?_; rintro e w' ⟨rfl, rfl⟩)
  exact bodyPost_ret (v := .tuple #[.agg #[.int .i64 0, .int .i64 0, .string ⟨#[]⟩], .string y]) (by simp [results, Tryd.results16, go_sem]) rfl ⟨rfl, Val.alloc2 (Below.refl _ _)⟩
set_option maxRecDepth 100000 in
set_option maxHeartbeats 1000000 in
theorem Val.told_ok (t n : Int) (w : World) :
    Calls Tryd.prog 16 #[.agg #[.int .i64 t, .int .i64 n, .string ⟨#[]⟩], .nilIface] w fun e w' => e = .returned (.tuple #[.agg #[.int .i64 t, .int .i64 n, .string ⟨#[]⟩], .string ⟨#[]⟩]) ∧ Below w.heap.size w w' := by
  go_enter Tryd.func16, Tryd.ntmps16
  go_wp2_with (go_at_call 22; refine (Val.cloneE _).mono ?_; rintro e w' ⟨rfl, rfl⟩)
  exact bodyPost_ret (v := .tuple #[.agg #[.int .i64 t, .int .i64 n, .string ⟨#[]⟩], .string ⟨#[]⟩]) (by simp [results, Tryd.results16, go_sem]) rfl ⟨rfl, Val.alloc2 (Below.refl _ _)⟩
def Val.convT (to t : Int) : Int := if Val.isInt to = true ∧ Val.isInt t = true then to else 0
def Val.unT (op t : Int) : Int := if op = 1 ∨ op = 3 then (if Val.isInt t = true then t else 0) else if op = 2 then (if t = 1 then 1 else 0) else 0
end Go.Proofs.YtkijfehdgiiejaaDoor
