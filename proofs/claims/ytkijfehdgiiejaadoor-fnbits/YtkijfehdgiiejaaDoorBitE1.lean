import Derived.Test.YtkijfehdgiiejaaDoorBitD
import Derived.Deep.RegionHeld3
namespace Go.Proofs.YtkijfehdgiiejaaDoor
open Go.RowKit


set_option maxRecDepth 100000 in
set_option maxHeartbeats 1000000 in
theorem Val.binary_uint8 (op n m r : Int) (hop : op = 9 ∨ op = 11 ∨ op = 12 ∨ op = 16 ∨ op = 17 ∨ op = 18) (hn : -9223372036854775808 ≤ n ∧ n ≤ 9223372036854775807) (hm : -9223372036854775808 ≤ m ∧ m ≤ 9223372036854775807) (w : World) (HV : Hid (Val.valid ⟨3, n, ⟨#[]⟩⟩ = true)) (HW : Hid (Val.valid ⟨3, m, ⟨#[]⟩⟩ = true))
    (HI : Hid (∀ w1, Calls Tryd.prog 53 #[.agg #[], .int .i64 op, .int .i64 n, .int .i64 m] w1 fun e w' => e = .returned (.tuple #[.int .i64 r, .nilIface]) ∧ Below w1.heap.size w1 w')) :
    Calls Tryd.prog 17 #[.int .i64 op, .agg #[.int .i64 3, .int .i64 n, .string ⟨#[]⟩], .agg #[.int .i64 3, .int .i64 m, .string ⟨#[]⟩]] w fun e w' => e = .returned (.tuple #[.agg #[.int .i64 3, .int .i64 r, .string ⟨#[]⟩], .nilIface]) ∧ Below w.heap.size w w' := by
  have HT : Hid (Val.isInt 3 = true) := (by decide : Val.isInt 3 = true)
  have h8 : 8 < op := by omega
  have hd8 : decide (op ≤ 8) = false := decide_eq_false (by omega)
  have HO : Hid (op = 9 ∨ op = 11 ∨ op = 12 ∨ op = 16 ∨ op = 17 ∨ op = 18) := hop
  clear hop
  have hm' := Tryd.rk_uint8 (.agg #[])
  have hbc := Below.refl (w.heap.size + 1 + 1 + 1) (((w.alloc (.cells #[.int .i64 3, .int .i64 n, .string ⟨#[]⟩] 24)).alloc (.cells #[.int .i64 3, .int .i64 m, .string ⟨#[]⟩] 24)).alloc (.cells #[.int .i64 0, .int .i64 0, .string ⟨#[]⟩] 24))
  go_enter Tryd.func17, Tryd.ntmps17
  go_wp2_with (first
    | (go_at_call 6; refine (Val.implValid_is true _ _ _ (by assumption) (by assumption) _).mono ?_; rintro e w1 ⟨rfl, hb1⟩
       have hbc := Val.on3 hbc hb1
       obtain ⟨⟨⟨a0, a1, a2⟩, f0, f1, f2⟩, ⟨⟨b0, b1, b2⟩, k0, k1, k2⟩, ⟨c0, c1, c2⟩, l0, l1, l2⟩ := Val.spill3 hbc)
    | (go_at_call 23; refine (Val.typeOfBin_is _ _ HO.out HT _).mono ?_; rintro e w' ⟨rfl, rfl⟩))
  go_region_held3 (fun w' => w'.cell? ⟨w.heap.size, 0, none⟩ = some (.int .i64 3) ∧ w'.cell? ⟨w.heap.size, 1, none⟩ = some (.int .i64 n) ∧ w'.cell? ⟨w.heap.size + 1, 1, none⟩ = some (.int .i64 m)) (first | exact ⟨a0, a1, b1⟩ | exact ⟨p0, p1, q1⟩) (first | (go_at_call 15; refine (Val.kindOf_uint8 _).mono ?_; rintro e w' ⟨rfl, rfl⟩) | (go_at_call 53; refine (HI.out _).mono ?_; rintro e w2 ⟨rfl, hb2⟩; have hbd := Val.on3d hbc hb2; obtain ⟨⟨⟨p0, p1, p2⟩, u0, u1, u2⟩, ⟨⟨q0, q1, q2⟩, v0, v1, v2⟩, ⟨d0, d1, d2⟩, y0, y1, y2⟩ := Val.spill3 hbd))
  go_wp2
  exact bodyPost_ret (v := .tuple #[.agg #[.int .i64 3, .int .i64 r, .string ⟨#[]⟩], .nilIface]) (by simp [results, Tryd.results17, go_sem, d0, d1, d2]) rfl ⟨rfl, Val.set33 (Val.alloc3 hbd) _ _ _⟩

set_option maxRecDepth 100000 in
set_option maxHeartbeats 1000000 in
theorem Val.binary_uint16 (op n m r : Int) (hop : op = 9 ∨ op = 11 ∨ op = 12 ∨ op = 16 ∨ op = 17 ∨ op = 18) (hn : -9223372036854775808 ≤ n ∧ n ≤ 9223372036854775807) (hm : -9223372036854775808 ≤ m ∧ m ≤ 9223372036854775807) (w : World) (HV : Hid (Val.valid ⟨4, n, ⟨#[]⟩⟩ = true)) (HW : Hid (Val.valid ⟨4, m, ⟨#[]⟩⟩ = true))
    (HI : Hid (∀ w1, Calls Tryd.prog 59 #[.agg #[], .int .i64 op, .int .i64 n, .int .i64 m] w1 fun e w' => e = .returned (.tuple #[.int .i64 r, .nilIface]) ∧ Below w1.heap.size w1 w')) :
    Calls Tryd.prog 17 #[.int .i64 op, .agg #[.int .i64 4, .int .i64 n, .string ⟨#[]⟩], .agg #[.int .i64 4, .int .i64 m, .string ⟨#[]⟩]] w fun e w' => e = .returned (.tuple #[.agg #[.int .i64 4, .int .i64 r, .string ⟨#[]⟩], .nilIface]) ∧ Below w.heap.size w w' := by
  have HT : Hid (Val.isInt 4 = true) := (by decide : Val.isInt 4 = true)
  have h8 : 8 < op := by omega
  have hd8 : decide (op ≤ 8) = false := decide_eq_false (by omega)
  have HO : Hid (op = 9 ∨ op = 11 ∨ op = 12 ∨ op = 16 ∨ op = 17 ∨ op = 18) := hop
  clear hop
  have hm' := Tryd.rk_uint16 (.agg #[])
  have hbc := Below.refl (w.heap.size + 1 + 1 + 1) (((w.alloc (.cells #[.int .i64 4, .int .i64 n, .string ⟨#[]⟩] 24)).alloc (.cells #[.int .i64 4, .int .i64 m, .string ⟨#[]⟩] 24)).alloc (.cells #[.int .i64 0, .int .i64 0, .string ⟨#[]⟩] 24))
  go_enter Tryd.func17, Tryd.ntmps17
  go_wp2_with (first
    | (go_at_call 6; refine (Val.implValid_is true _ _ _ (by assumption) (by assumption) _).mono ?_; rintro e w1 ⟨rfl, hb1⟩
       have hbc := Val.on3 hbc hb1
       obtain ⟨⟨⟨a0, a1, a2⟩, f0, f1, f2⟩, ⟨⟨b0, b1, b2⟩, k0, k1, k2⟩, ⟨c0, c1, c2⟩, l0, l1, l2⟩ := Val.spill3 hbc)
    | (go_at_call 23; refine (Val.typeOfBin_is _ _ HO.out HT _).mono ?_; rintro e w' ⟨rfl, rfl⟩))
  go_region_held3 (fun w' => w'.cell? ⟨w.heap.size, 0, none⟩ = some (.int .i64 4) ∧ w'.cell? ⟨w.heap.size, 1, none⟩ = some (.int .i64 n) ∧ w'.cell? ⟨w.heap.size + 1, 1, none⟩ = some (.int .i64 m)) (first | exact ⟨a0, a1, b1⟩ | exact ⟨p0, p1, q1⟩) (first | (go_at_call 15; refine (Val.kindOf_uint16 _).mono ?_; rintro e w' ⟨rfl, rfl⟩) | (go_at_call 59; refine (HI.out _).mono ?_; rintro e w2 ⟨rfl, hb2⟩; have hbd := Val.on3d hbc hb2; obtain ⟨⟨⟨p0, p1, p2⟩, u0, u1, u2⟩, ⟨⟨q0, q1, q2⟩, v0, v1, v2⟩, ⟨d0, d1, d2⟩, y0, y1, y2⟩ := Val.spill3 hbd))
  go_wp2
  exact bodyPost_ret (v := .tuple #[.agg #[.int .i64 4, .int .i64 r, .string ⟨#[]⟩], .nilIface]) (by simp [results, Tryd.results17, go_sem, d0, d1, d2]) rfl ⟨rfl, Val.set33 (Val.alloc3 hbd) _ _ _⟩

end Go.Proofs.YtkijfehdgiiejaaDoor
