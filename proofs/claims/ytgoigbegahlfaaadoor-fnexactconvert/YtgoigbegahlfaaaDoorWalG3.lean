import Derived.Test.YtgoigbegahlfaaaDoorWalG
namespace Go.Proofs.YtgoigbegahlfaaaDoor
open Go.RowKit

set_option maxRecDepth 100000 in
set_option maxHeartbeats 1000000 in
theorem Val.converted_int32 (t n : Int) (x : ByteArray) (hn : -9223372036854775808 ≤ n ∧ n ≤ 9223372036854775807) (w : World) (HV : Hid (Val.valid ⟨t, n, x⟩ = true)) (HT : Hid (Val.convT 9 t = 9)) :
    Calls Tryd.prog 19 #[.agg #[.int .i64 t, .int .i64 n, .string x], .int .i64 9] w fun e w' => e = .returned (.tuple #[.agg #[.int .i64 9, .int .i64 (Val.into 9 (Val.u n)), .string ⟨#[]⟩], .nilIface]) ∧ Below w.heap.size w w' := by
  have hm := Tryd.tk_int32 (.agg #[])
  go_enter Tryd.func19, Tryd.ntmps19
  go_wp2_with (first | (go_at_call 22; (refine (Val.implValid_is true t n x hn HV _).mono ?_; rintro e w1 ⟨rfl, hb1⟩; simp only [World.size_alloc] at hb1; obtain ⟨⟨⟨a0, a1, a2⟩, f0, f1, f2⟩, ⟨b0, b1, b2⟩, k0, k1, k2⟩ := Val.spill2 hb1)) | (go_at_call 26; refine (Val.typeOfConv_any _ _ _).mono ?_; rintro e w' ⟨rfl, rfl⟩; rw [HT.out]))
  go_region_held3 (fun w' => w'.cell? ⟨w.heap.size, 1, none⟩ = some (.int .i64 n)) (first | exact a1 | exact c1 | exact Val.set3d (by omega) c1) (first | (go_at_call 25; refine (Val.kindOf_int32 _).mono ?_; rintro e w' ⟨rfl, rfl⟩) | (go_at_call 78; refine (Val.taken_int32 _ hn _).mono ?_; rintro e w2 ⟨rfl, hb2⟩; have hb3 := Val.on2 hb1 hb2; obtain ⟨⟨⟨c0, c1, c2⟩, _, _, _⟩, ⟨d0, d1, d2⟩, l0, l1, l2⟩ := Val.spill2 hb3))
  go_wp2
  exact bodyPost_ret (v := .tuple #[.agg #[.int .i64 9, .int .i64 (Val.into 9 (Val.u n)), .string ⟨#[]⟩], .nilIface]) (by simp [results, Tryd.results19, go_sem, d0, d1, d2]) rfl ⟨rfl, Val.set3 (Val.alloc2 hb3) _ _ _⟩
set_option maxRecDepth 100000 in
set_option maxHeartbeats 1000000 in
theorem Val.converted_int64 (t n : Int) (x : ByteArray) (hn : -9223372036854775808 ≤ n ∧ n ≤ 9223372036854775807) (w : World) (HV : Hid (Val.valid ⟨t, n, x⟩ = true)) (HT : Hid (Val.convT 10 t = 10)) :
    Calls Tryd.prog 19 #[.agg #[.int .i64 t, .int .i64 n, .string x], .int .i64 10] w fun e w' => e = .returned (.tuple #[.agg #[.int .i64 10, .int .i64 (Val.into 10 (Val.u n)), .string ⟨#[]⟩], .nilIface]) ∧ Below w.heap.size w w' := by
  have hm := Tryd.tk_int64 (.agg #[])
  go_enter Tryd.func19, Tryd.ntmps19
  go_wp2_with (first | (go_at_call 22; (refine (Val.implValid_is true t n x hn HV _).mono ?_; rintro e w1 ⟨rfl, hb1⟩; simp only [World.size_alloc] at hb1; obtain ⟨⟨⟨a0, a1, a2⟩, f0, f1, f2⟩, ⟨b0, b1, b2⟩, k0, k1, k2⟩ := Val.spill2 hb1)) | (go_at_call 26; refine (Val.typeOfConv_any _ _ _).mono ?_; rintro e w' ⟨rfl, rfl⟩; rw [HT.out]))
  go_region_held3 (fun w' => w'.cell? ⟨w.heap.size, 1, none⟩ = some (.int .i64 n)) (first | exact a1 | exact c1 | exact Val.set3d (by omega) c1) (first | (go_at_call 25; refine (Val.kindOf_int64 _).mono ?_; rintro e w' ⟨rfl, rfl⟩) | (go_at_call 83; refine (Val.taken_int64 _ hn _).mono ?_; rintro e w2 ⟨rfl, hb2⟩; have hb3 := Val.on2 hb1 hb2; obtain ⟨⟨⟨c0, c1, c2⟩, _, _, _⟩, ⟨d0, d1, d2⟩, l0, l1, l2⟩ := Val.spill2 hb3))
  go_wp2
  exact bodyPost_ret (v := .tuple #[.agg #[.int .i64 10, .int .i64 (Val.into 10 (Val.u n)), .string ⟨#[]⟩], .nilIface]) (by simp [results, Tryd.results19, go_sem, d0, d1, d2]) rfl ⟨rfl, Val.set3 (Val.alloc2 hb3) _ _ _⟩
end Go.Proofs.YtgoigbegahlfaaaDoor
