import Derived.Test.YtgoigbegahlfaaaDoorWalI
namespace Go.Proofs.YtgoigbegahlfaaaDoor
open Go.RowKit

set_option maxRecDepth 100000 in
set_option maxHeartbeats 1000000 in
theorem Val.unary1_int8 (n : Int) (x : ByteArray) (hn : -9223372036854775808 ≤ n ∧ n ≤ 9223372036854775807) (w : World) (HV : Hid (Val.valid ⟨7, n, x⟩ = true)) :
    Calls Tryd.prog 17 #[.int .i64 1, .agg #[.int .i64 7, .int .i64 n, .string x]] w fun e w' => e = .returned (.tuple #[.agg #[.int .i64 7, .int .i64 (Val.into 7 (Val.u (-n))), .string ⟨#[]⟩], .nilIface]) ∧ Below w.heap.size w w' := by
  have HT : Hid (Val.unT 1 7 = 7) := (by decide : Val.unT 1 7 = 7)
  have hm := Tryd.tu_int8 (.agg #[])
  go_enter Tryd.func17, Tryd.ntmps17
  go_wp2_with (first | (go_at_call 22; (refine (Val.implValid_is true 7 n x hn HV _).mono ?_; rintro e w1 ⟨rfl, hb1⟩; simp only [World.size_alloc] at hb1; obtain ⟨⟨⟨a0, a1, a2⟩, f0, f1, f2⟩, ⟨b0, b1, b2⟩, k0, k1, k2⟩ := Val.spill2 hb1)) | (go_at_call 23; refine (Val.typeOfUn_any _ _ _).mono ?_; rintro e w' ⟨rfl, rfl⟩; rw [HT.out]))
  go_region_held3 (fun w' => w'.cell? ⟨w.heap.size, 0, none⟩ = some (.int .i64 7) ∧ w'.cell? ⟨w.heap.size, 1, none⟩ = some (.int .i64 n)) (first | exact ⟨a0, a1⟩ | exact ⟨c0, c1⟩ | exact ⟨Val.set3d (by omega) c0, Val.set3d (by omega) c1⟩) (first | (go_at_call 25; refine (Val.kindOf_int8 _).mono ?_; rintro e w' ⟨rfl, rfl⟩) | (go_at_call 69; refine (Val.turned1_int8 _ _).mono ?_; rintro e w2 ⟨rfl, hb2⟩; have hb3 := Val.on2 hb1 hb2; obtain ⟨⟨⟨c0, c1, c2⟩, _, _, _⟩, ⟨d0, d1, d2⟩, l0, l1, l2⟩ := Val.spill2 hb3))
  go_wp2
  exact bodyPost_ret (v := .tuple #[.agg #[.int .i64 7, .int .i64 (Val.into 7 (Val.u (-n))), .string ⟨#[]⟩], .nilIface]) (by simp [results, Tryd.results17, go_sem, d0, d1, d2]) rfl ⟨rfl, Val.set3 (Val.alloc2 hb3) _ _ _⟩
set_option maxRecDepth 100000 in
set_option maxHeartbeats 1000000 in
theorem Val.unary3_int8 (n : Int) (x : ByteArray) (hn : -9223372036854775808 ≤ n ∧ n ≤ 9223372036854775807) (w : World) (HV : Hid (Val.valid ⟨7, n, x⟩ = true)) :
    Calls Tryd.prog 17 #[.int .i64 3, .agg #[.int .i64 7, .int .i64 n, .string x]] w fun e w' => e = .returned (.tuple #[.agg #[.int .i64 7, .int .i64 (Val.into 7 (Val.u (-n - 1))), .string ⟨#[]⟩], .nilIface]) ∧ Below w.heap.size w w' := by
  have HT : Hid (Val.unT 3 7 = 7) := (by decide : Val.unT 3 7 = 7)
  have hm := Tryd.tu_int8 (.agg #[])
  go_enter Tryd.func17, Tryd.ntmps17
  go_wp2_with (first | (go_at_call 22; (refine (Val.implValid_is true 7 n x hn HV _).mono ?_; rintro e w1 ⟨rfl, hb1⟩; simp only [World.size_alloc] at hb1; obtain ⟨⟨⟨a0, a1, a2⟩, f0, f1, f2⟩, ⟨b0, b1, b2⟩, k0, k1, k2⟩ := Val.spill2 hb1)) | (go_at_call 23; refine (Val.typeOfUn_any _ _ _).mono ?_; rintro e w' ⟨rfl, rfl⟩; rw [HT.out]))
  go_region_held3 (fun w' => w'.cell? ⟨w.heap.size, 0, none⟩ = some (.int .i64 7) ∧ w'.cell? ⟨w.heap.size, 1, none⟩ = some (.int .i64 n)) (first | exact ⟨a0, a1⟩ | exact ⟨c0, c1⟩ | exact ⟨Val.set3d (by omega) c0, Val.set3d (by omega) c1⟩) (first | (go_at_call 25; refine (Val.kindOf_int8 _).mono ?_; rintro e w' ⟨rfl, rfl⟩) | (go_at_call 69; refine (Val.turned3_int8 _ _).mono ?_; rintro e w2 ⟨rfl, hb2⟩; have hb3 := Val.on2 hb1 hb2; obtain ⟨⟨⟨c0, c1, c2⟩, _, _, _⟩, ⟨d0, d1, d2⟩, l0, l1, l2⟩ := Val.spill2 hb3))
  go_wp2
  exact bodyPost_ret (v := .tuple #[.agg #[.int .i64 7, .int .i64 (Val.into 7 (Val.u (-n - 1))), .string ⟨#[]⟩], .nilIface]) (by simp [results, Tryd.results17, go_sem, d0, d1, d2]) rfl ⟨rfl, Val.set3 (Val.alloc2 hb3) _ _ _⟩
set_option maxRecDepth 100000 in
set_option maxHeartbeats 1000000 in
theorem Val.unary1_int16 (n : Int) (x : ByteArray) (hn : -9223372036854775808 ≤ n ∧ n ≤ 9223372036854775807) (w : World) (HV : Hid (Val.valid ⟨8, n, x⟩ = true)) :
    Calls Tryd.prog 17 #[.int .i64 1, .agg #[.int .i64 8, .int .i64 n, .string x]] w fun e w' => e = .returned (.tuple #[.agg #[.int .i64 8, .int .i64 (Val.into 8 (Val.u (-n))), .string ⟨#[]⟩], .nilIface]) ∧ Below w.heap.size w w' := by
  have HT : Hid (Val.unT 1 8 = 8) := (by decide : Val.unT 1 8 = 8)
  have hm := Tryd.tu_int16 (.agg #[])
  go_enter Tryd.func17, Tryd.ntmps17
  go_wp2_with (first | (go_at_call 22; (refine (Val.implValid_is true 8 n x hn HV _).mono ?_; rintro e w1 ⟨rfl, hb1⟩; simp only [World.size_alloc] at hb1; obtain ⟨⟨⟨a0, a1, a2⟩, f0, f1, f2⟩, ⟨b0, b1, b2⟩, k0, k1, k2⟩ := Val.spill2 hb1)) | (go_at_call 23; refine (Val.typeOfUn_any _ _ _).mono ?_; rintro e w' ⟨rfl, rfl⟩; rw [HT.out]))
  go_region_held3 (fun w' => w'.cell? ⟨w.heap.size, 0, none⟩ = some (.int .i64 8) ∧ w'.cell? ⟨w.heap.size, 1, none⟩ = some (.int .i64 n)) (first | exact ⟨a0, a1⟩ | exact ⟨c0, c1⟩ | exact ⟨Val.set3d (by omega) c0, Val.set3d (by omega) c1⟩) (first | (go_at_call 25; refine (Val.kindOf_int16 _).mono ?_; rintro e w' ⟨rfl, rfl⟩) | (go_at_call 74; refine (Val.turned1_int16 _ _).mono ?_; rintro e w2 ⟨rfl, hb2⟩; have hb3 := Val.on2 hb1 hb2; obtain ⟨⟨⟨c0, c1, c2⟩, _, _, _⟩, ⟨d0, d1, d2⟩, l0, l1, l2⟩ := Val.spill2 hb3))
  go_wp2
  exact bodyPost_ret (v := .tuple #[.agg #[.int .i64 8, .int .i64 (Val.into 8 (Val.u (-n))), .string ⟨#[]⟩], .nilIface]) (by simp [results, Tryd.results17, go_sem, d0, d1, d2]) rfl ⟨rfl, Val.set3 (Val.alloc2 hb3) _ _ _⟩
set_option maxRecDepth 100000 in
set_option maxHeartbeats 1000000 in
theorem Val.unary3_int16 (n : Int) (x : ByteArray) (hn : -9223372036854775808 ≤ n ∧ n ≤ 9223372036854775807) (w : World) (HV : Hid (Val.valid ⟨8, n, x⟩ = true)) :
    Calls Tryd.prog 17 #[.int .i64 3, .agg #[.int .i64 8, .int .i64 n, .string x]] w fun e w' => e = .returned (.tuple #[.agg #[.int .i64 8, .int .i64 (Val.into 8 (Val.u (-n - 1))), .string ⟨#[]⟩], .nilIface]) ∧ Below w.heap.size w w' := by
  have HT : Hid (Val.unT 3 8 = 8) := (by decide : Val.unT 3 8 = 8)
  have hm := Tryd.tu_int16 (.agg #[])
  go_enter Tryd.func17, Tryd.ntmps17
  go_wp2_with (first | (go_at_call 22; (refine (Val.implValid_is true 8 n x hn HV _).mono ?_; rintro e w1 ⟨rfl, hb1⟩; simp only [World.size_alloc] at hb1; obtain ⟨⟨⟨a0, a1, a2⟩, f0, f1, f2⟩, ⟨b0, b1, b2⟩, k0, k1, k2⟩ := Val.spill2 hb1)) | (go_at_call 23; refine (Val.typeOfUn_any _ _ _).mono ?_; rintro e w' ⟨rfl, rfl⟩; rw [HT.out]))
  go_region_held3 (fun w' => w'.cell? ⟨w.heap.size, 0, none⟩ = some (.int .i64 8) ∧ w'.cell? ⟨w.heap.size, 1, none⟩ = some (.int .i64 n)) (first | exact ⟨a0, a1⟩ | exact ⟨c0, c1⟩ | exact ⟨Val.set3d (by omega) c0, Val.set3d (by omega) c1⟩) (first | (go_at_call 25; refine (Val.kindOf_int16 _).mono ?_; rintro e w' ⟨rfl, rfl⟩) | (go_at_call 74; refine (Val.turned3_int16 _ _).mono ?_; rintro e w2 ⟨rfl, hb2⟩; have hb3 := Val.on2 hb1 hb2; obtain ⟨⟨⟨c0, c1, c2⟩, _, _, _⟩, ⟨d0, d1, d2⟩, l0, l1, l2⟩ := Val.spill2 hb3))
  go_wp2
  exact bodyPost_ret (v := .tuple #[.agg #[.int .i64 8, .int .i64 (Val.into 8 (Val.u (-n - 1))), .string ⟨#[]⟩], .nilIface]) (by simp [results, Tryd.results17, go_sem, d0, d1, d2]) rfl ⟨rfl, Val.set3 (Val.alloc2 hb3) _ _ _⟩
end Go.Proofs.YtgoigbegahlfaaaDoor
