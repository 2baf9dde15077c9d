import Derived.Test.YtgoigbegahlfaaaDoorWalH
namespace Go.Proofs.YtgoigbegahlfaaaDoor
open Go.RowKit

set_option maxRecDepth 100000 in
set_option maxHeartbeats 1000000 in
theorem Val.boolValue_any (b : Bool) (w : World) :
    Calls Tryd.prog 24 #[.bool b] w fun e w' => e = .returned (.agg #[.int .i64 1, .int .i64 (if b = true then 1 else 0), .string ⟨#[]⟩]) ∧ Below w.heap.size w w' := by
  cases b
  all_goals
    go_enter Tryd.func24, Tryd.ntmps24
    go_wp2
    first
    | exact bodyPost_ret (v := .agg #[.int .i64 1, .int .i64 0, .string ⟨#[]⟩]) (by simp [results, Tryd.results24, go_sem]) rfl ⟨rfl, (Below.refl _ w).alloc (Nat.le_refl _) _⟩
    | exact bodyPost_ret (v := .agg #[.int .i64 1, .int .i64 1, .string ⟨#[]⟩]) (by simp [results, Tryd.results24, go_sem]) rfl ⟨rfl, (Below.refl _ w).alloc (Nat.le_refl _) _⟩
set_option maxRecDepth 100000 in
set_option maxHeartbeats 1000000 in
theorem Val.unary_inv (op t n : Int) (x : ByteArray) (hn : -9223372036854775808 ≤ n ∧ n ≤ 9223372036854775807) (b o : Nat) (w : World) (hG : w.cell? ⟨0, 0, none⟩ = some (.iface 66 (.pointer (some ⟨b, o, none⟩)))) (hg : 0 < w.heap.size) (HV : Hid (Val.valid ⟨t, n, x⟩ = false)) :
    Calls Tryd.prog 17 #[.int .i64 op, .agg #[.int .i64 t, .int .i64 n, .string x]] w fun e w' => e = .returned (.tuple #[.agg #[.int .i64 0, .int .i64 0, .string ⟨#[]⟩], .iface 66 (.pointer (some ⟨b, o, none⟩))]) ∧ Below w.heap.size w w' := by
  go_enter Tryd.func17, Tryd.ntmps17
  go_wp2_with ((go_at_call 22; (refine (Val.implValid_is false t n x hn HV _).mono ?_; rintro e w1 ⟨rfl, hb1⟩; simp only [World.size_alloc] at hb1; obtain ⟨⟨⟨a0, a1, a2⟩, f0, f1, f2⟩, ⟨b0, b1, b2⟩, k0, k1, k2⟩ := Val.spill2 hb1; have hc1 := (Val.alloc2 hb1).cell (p := ⟨0, 0, none⟩) hg; rw [hG] at hc1)))
  go_region_held3 (fun w' => w'.cell? ⟨0, 0, none⟩ = some (.iface 66 (.pointer (some ⟨b, o, none⟩)))) (first | exact hc1 | exact Val.set3c (by omega) hc1) (fail)
  go_wp2
  exact bodyPost_ret (v := .tuple #[.agg #[.int .i64 0, .int .i64 0, .string ⟨#[]⟩], .iface 66 (.pointer (some ⟨b, o, none⟩))]) (by simp [results, Tryd.results17, go_sem, b0, b1, b2]) rfl ⟨rfl, (Val.set3 (Val.alloc2 hb1) _ _ _).drew⟩
set_option maxRecDepth 100000 in
set_option maxHeartbeats 1000000 in
theorem Val.unary_no (op t n : Int) (x : ByteArray) (hn : -9223372036854775808 ≤ n ∧ n ≤ 9223372036854775807) (b o : Nat) (w : World) (hG : w.cell? ⟨0, 0, none⟩ = some (.iface 66 (.pointer (some ⟨b, o, none⟩)))) (hg : 0 < w.heap.size) (HV : Hid (Val.valid ⟨t, n, x⟩ = true)) (HT : Hid (Val.unT op t = 0)) :
    Calls Tryd.prog 17 #[.int .i64 op, .agg #[.int .i64 t, .int .i64 n, .string x]] w fun e w' => e = .returned (.tuple #[.agg #[.int .i64 0, .int .i64 0, .string ⟨#[]⟩], .iface 66 (.pointer (some ⟨b, o, none⟩))]) ∧ Below w.heap.size w w' := by
  go_enter Tryd.func17, Tryd.ntmps17
  go_wp2_with (first | (go_at_call 22; (refine (Val.implValid_is true t n x hn HV _).mono ?_; rintro e w1 ⟨rfl, hb1⟩; simp only [World.size_alloc] at hb1; obtain ⟨⟨⟨a0, a1, a2⟩, f0, f1, f2⟩, ⟨b0, b1, b2⟩, k0, k1, k2⟩ := Val.spill2 hb1; have hc1 := (Val.alloc2 hb1).cell (p := ⟨0, 0, none⟩) hg; rw [hG] at hc1)) | (go_at_call 23; refine (Val.typeOfUn_any _ _ _).mono ?_; rintro e w' ⟨rfl, rfl⟩; rw [HT.out]))
  go_region_held3 (fun w' => w'.cell? ⟨0, 0, none⟩ = some (.iface 66 (.pointer (some ⟨b, o, none⟩)))) (first | exact hc1 | exact Val.set3c (by omega) hc1) (fail)
  go_wp2
  exact bodyPost_ret (v := .tuple #[.agg #[.int .i64 0, .int .i64 0, .string ⟨#[]⟩], .iface 66 (.pointer (some ⟨b, o, none⟩))]) (by simp [results, Tryd.results17, go_sem, b0, b1, b2]) rfl ⟨rfl, (Val.set3 (Val.alloc2 hb1) _ _ _).drew⟩
set_option maxRecDepth 100000 in
set_option maxHeartbeats 1000000 in
theorem Val.unary_not_z (t : Int) (x : ByteArray) (hn : -9223372036854775808 ≤ (0 : Int) ∧ (0 : Int) ≤ 9223372036854775807) (w : World) (HV : Hid (Val.valid ⟨t, 0, x⟩ = true)) (HT : Hid (Val.unT 2 t = 1)) :
    Calls Tryd.prog 17 #[.int .i64 2, .agg #[.int .i64 t, .int .i64 0, .string x]] w fun e w' => e = .returned (.tuple #[.agg #[.int .i64 1, .int .i64 1, .string ⟨#[]⟩], .nilIface]) ∧ Below w.heap.size w w' := by
  have h1 : (((0) : Int) == 0) = true := by simp
  go_enter Tryd.func17, Tryd.ntmps17
  go_wp2_with (first | (go_at_call 22; (refine (Val.implValid_is true t 0 x hn HV _).mono ?_; rintro e w1 ⟨rfl, hb1⟩; simp only [World.size_alloc] at hb1; obtain ⟨⟨⟨a0, a1, a2⟩, f0, f1, f2⟩, ⟨b0, b1, b2⟩, k0, k1, k2⟩ := Val.spill2 hb1)) | (go_at_call 23; refine (Val.typeOfUn_any _ _ _).mono ?_; rintro e w' ⟨rfl, rfl⟩; rw [HT.out]) | (go_at_call 24; (refine (Val.boolValue_any _ _).mono ?_; rintro e w2 ⟨rfl, hb2⟩; obtain ⟨⟨⟨c0, c1, c2⟩, _, _, _⟩, ⟨d0, d1, d2⟩, l0, l1, l2⟩ := Val.spill2 (hb1.trans (hb2.mono (by have := hb1.size; simpa using this))))))
  exact bodyPost_ret (v := .tuple #[.agg #[.int .i64 1, .int .i64 1, .string ⟨#[]⟩], .nilIface]) (by simp [results, Tryd.results17, go_sem, d0, d1, d2]) rfl ⟨rfl, Val.set3 (Val.alloc2 (hb1.trans (hb2.mono (by have := hb1.size; simpa using this)))) _ _ _⟩
set_option maxRecDepth 100000 in
set_option maxHeartbeats 1000000 in
theorem Val.unary_not_nz (t : Int) (n : Int) (x : ByteArray) (hn : -9223372036854775808 ≤ (n : Int) ∧ (n : Int) ≤ 9223372036854775807) (w : World) (HV : Hid (Val.valid ⟨t, n, x⟩ = true)) (HT : Hid (Val.unT 2 t = 1)) (h0 : ¬ n = 0) :
    Calls Tryd.prog 17 #[.int .i64 2, .agg #[.int .i64 t, .int .i64 n, .string x]] w fun e w' => e = .returned (.tuple #[.agg #[.int .i64 1, .int .i64 0, .string ⟨#[]⟩], .nilIface]) ∧ Below w.heap.size w w' := by
  have h1 : (((n) : Int) == 0) = false := by simp [h0]
  go_enter Tryd.func17, Tryd.ntmps17
  go_wp2_with (first | (go_at_call 22; (refine (Val.implValid_is true t n x hn HV _).mono ?_; rintro e w1 ⟨rfl, hb1⟩; simp only [World.size_alloc] at hb1; obtain ⟨⟨⟨a0, a1, a2⟩, f0, f1, f2⟩, ⟨b0, b1, b2⟩, k0, k1, k2⟩ := Val.spill2 hb1)) | (go_at_call 23; refine (Val.typeOfUn_any _ _ _).mono ?_; rintro e w' ⟨rfl, rfl⟩; rw [HT.out]) | (go_at_call 24; (refine (Val.boolValue_any _ _).mono ?_; rintro e w2 ⟨rfl, hb2⟩; obtain ⟨⟨⟨c0, c1, c2⟩, _, _, _⟩, ⟨d0, d1, d2⟩, l0, l1, l2⟩ := Val.spill2 (hb1.trans (hb2.mono (by have := hb1.size; simpa using this))))))
  exact bodyPost_ret (v := .tuple #[.agg #[.int .i64 1, .int .i64 0, .string ⟨#[]⟩], .nilIface]) (by simp [results, Tryd.results17, go_sem, d0, d1, d2]) rfl ⟨rfl, Val.set3 (Val.alloc2 (hb1.trans (hb2.mono (by have := hb1.size; simpa using this)))) _ _ _⟩
end Go.Proofs.YtgoigbegahlfaaaDoor
