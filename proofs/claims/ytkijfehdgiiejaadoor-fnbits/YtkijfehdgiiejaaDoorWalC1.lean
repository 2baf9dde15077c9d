import Derived.Test.YtkijfehdgiiejaaDoorWalC
import Derived.Deep.RegionHeld3
namespace Go.Proofs.YtkijfehdgiiejaaDoor
open Go.RowKit

set_option maxRecDepth 100000 in
set_option maxHeartbeats 1000000 in
theorem Val.iv_yes_uint8 (n : Int) (x : ByteArray) (hn : -9223372036854775808 ≤ n ∧ n ≤ 9223372036854775807) (m : Int) (HM : Hid (Val.into 3 (Val.u n) = m)) (he : m = n) (w : World) :
    Calls Tryd.prog 6 #[.agg #[.int .i64 3, .int .i64 n, .string x]] w fun e w' => e = .returned (.bool x.toList.isEmpty) ∧ Below w.heap.size w w' := by
  have HI : Hid (Val.isInt 3 = true) := (by decide : Val.isInt 3 = true)
  have hm := Tryd.tk_uint8 (.agg #[])
  go_enter Tryd.func6, Tryd.ntmps6
  go_wp2_with (first | (go_at_call 14; refine (Val.isIntType_any _ _).mono ?_; rintro e w' ⟨rfl, rfl⟩; rw [HI.out]))
  go_region_held3 (fun w' => Below (w.heap.size + 1) (w.alloc (.cells #[.int .i64 3, .int .i64 n, .string x] 24)) w' ∧ w'.cell? ⟨w.heap.size, 0, none⟩ = some (.int .i64 3) ∧ w'.cell? ⟨w.heap.size, 1, none⟩ = some (.int .i64 n) ∧ w'.cell? ⟨w.heap.size, 2, none⟩ = some (.string x)) (first | assumption | exact Val.keep1 (Val.drew1 _ _) | exact Val.keep2 (by assumption) (by assumption)) (first | (go_at_call 15; refine (Val.kindOf_uint8 _).mono ?_; rintro e w' ⟨rfl, rfl⟩) | (go_at_call 54; refine (Val.taken_uint8 _ hn _).mono ?_; rintro e w' ⟨rfl, hb⟩; rw [HM.out]))
  go_wp2
  go_ret
  exact ⟨rfl, Val.keep0 (by assumption)⟩
set_option maxRecDepth 100000 in
set_option maxHeartbeats 1000000 in
theorem Val.iv_no_uint8 (n : Int) (x : ByteArray) (hn : -9223372036854775808 ≤ n ∧ n ≤ 9223372036854775807) (m : Int) (HM : Hid (Val.into 3 (Val.u n) = m)) (he : ¬ m = n) (w : World) :
    Calls Tryd.prog 6 #[.agg #[.int .i64 3, .int .i64 n, .string x]] w fun e w' => e = .returned (.bool false) ∧ Below w.heap.size w w' := by
  have HI : Hid (Val.isInt 3 = true) := (by decide : Val.isInt 3 = true)
  have hm := Tryd.tk_uint8 (.agg #[])
  have he2 : (m == n) = false := by simp [he]
  go_enter Tryd.func6, Tryd.ntmps6
  go_wp2_with (first | (go_at_call 14; refine (Val.isIntType_any _ _).mono ?_; rintro e w' ⟨rfl, rfl⟩; rw [HI.out]))
  refine wp_region_held_drew (S := (fun w' => Below (w.heap.size + 1) (w.alloc (.cells #[.int .i64 3, .int .i64 n, .string x] 24)) w' ∧ w'.cell? ⟨w.heap.size, 0, none⟩ = some (.int .i64 3) ∧ w'.cell? ⟨w.heap.size, 1, none⟩ = some (.int .i64 n) ∧ w'.cell? ⟨w.heap.size, 2, none⟩ = some (.string x))) (by kernel_rfl) (Val.keep1 (Val.drew1 _ _)) (fun hHeld => ?_)
  refine wpAnyH_take (i := 0) (v := .pointer (some ⟨w.heap.size, 0, none⟩)) rfl (by kernel_rfl) (by kernel_rfl) (by kernel_rfl) (fun _ _ _ h => h) (Or.inl ⟨by rfl, by intro w hSw; go_simp⟩) (by assumption) ?_
  try dsimp only [Act.put]
  refine wpAnyH_take (i := 1) (v := .int .i64 3) rfl (by kernel_rfl) (by kernel_rfl) (by kernel_rfl) (fun _ _ _ h => h) (Or.inl ⟨by rfl, by intro w hSw; go_simp⟩) (by assumption) ?_
  try dsimp only [Act.put]
  refine wpAnyH_take (i := 3) (v := .pointer (some ⟨w.heap.size, 1, none⟩)) rfl (by kernel_rfl) (by kernel_rfl) (by kernel_rfl) (fun _ _ _ h => h) (Or.inl ⟨by rfl, by intro w hSw; go_simp⟩) (by assumption) ?_
  try dsimp only [Act.put]
  refine wpAnyH_take (i := 4) (v := .int .i64 n) rfl (by kernel_rfl) (by kernel_rfl) (by kernel_rfl) (fun _ _ _ h => h) (Or.inl ⟨by rfl, by intro w hSw; go_simp⟩) (by assumption) ?_
  try dsimp only [Act.put]
  refine wpAnyH_take (i := 6) (v := .pointer (some ⟨w.heap.size, 1, none⟩)) rfl (by kernel_rfl) (by kernel_rfl) (by kernel_rfl) (fun _ _ _ h => h) (Or.inl ⟨by rfl, by intro w hSw; go_simp⟩) (by assumption) ?_
  try dsimp only [Act.put]
  refine wpAnyH_take (i := 7) (v := .int .i64 n) rfl (by kernel_rfl) (by kernel_rfl) (by kernel_rfl) (fun _ _ _ h => h) (Or.inl ⟨by rfl, by intro w hSw; go_simp⟩) (by assumption) ?_
  try dsimp only [Act.put]
  refine wpAnyH_ready (rs := [2]) (by kernel_rfl) (by simp) ?_
  refine AllReadyH.cons rfl (fun K hK => ?_) AllReadyH.nil
  go_simp
  (go_at_call 15; refine (Val.kindOf_uint8 _).mono ?_; rintro e w' ⟨rfl, rfl⟩)
  go_wp2
  refine hK.out _ _ (by assumption) (fun hHeld => ?_)
  clear hK
  try dsimp only [Act.put]
  refine wpAnyH_ready (rs := [5]) (by kernel_rfl) (by simp) ?_
  refine AllReadyH.cons rfl (fun K hK => ?_) AllReadyH.nil
  go_simp
  (go_at_call 54; refine (Val.taken_uint8 _ hn _).mono ?_; rintro e w' ⟨rfl, hb⟩; rw [HM.out])
  go_wp2
  refine hK.out _ _ (Val.keep2 (by assumption) hb) (fun hHeld => ?_)
  clear hK
  try dsimp only [Act.put]
  refine wpAnyH_take (i := 8) (v := .bool false) rfl (by kernel_rfl) (by kernel_rfl) (by kernel_rfl) (fun _ _ _ h => h) (Or.inl ⟨by rfl, by intro w hSw; go_simp⟩) (by assumption) ?_
  try dsimp only [Act.put]
  refine wpAnyH_take (i := 9) (v := .bool false) rfl (by kernel_rfl) (by kernel_rfl) (by kernel_rfl) (fun _ _ _ h => h) (Or.inl ⟨by rfl, by intro w hSw; go_simp⟩) (by assumption) ?_
  try dsimp only [Act.put]
  refine wpAnyH_take (i := 10) (v := undef) rfl (by kernel_rfl) (by kernel_rfl) (by kernel_rfl) (fun _ _ _ h => h) (Or.inr ⟨by rfl, rfl⟩) (by assumption) ?_
  try dsimp only [Act.put]
  refine wpAnyH_take (i := 11) (v := undef) rfl (by kernel_rfl) (by kernel_rfl) (by kernel_rfl) (fun _ _ _ h => h) (Or.inr ⟨by rfl, rfl⟩) (by assumption) ?_
  try dsimp only [Act.put]
  refine wpAnyH_take (i := 12) (v := undef) rfl (by kernel_rfl) (by kernel_rfl) (by kernel_rfl) (fun _ _ _ h => h) (Or.inr ⟨by rfl, rfl⟩) (by assumption) ?_
  try dsimp only [Act.put]
  refine wpAnyH_take (i := 13) (v := .bool false) rfl (by kernel_rfl) (by kernel_rfl) (by kernel_rfl) (fun _ _ _ h => h) (Or.inl ⟨by rfl, by intro w hSw; go_simp⟩) (by assumption) ?_
  simp [Act.put]
  refine wpAnyH_take (i := 14) (v := .bool false) rfl (by kernel_rfl) (by kernel_rfl) (by kernel_rfl) (fun _ _ _ h => h) (Or.inl ⟨by rfl, by intro w hSw; go_simp⟩) (by assumption) ?_
  simp [Act.put]
  refine wpAnyH_done (by kernel_rfl) ?_ _
  go_wp2
  go_ret
  exact ⟨rfl, Val.keep0 (by assumption)⟩
theorem Val.iv_uint8 (n : Int) (x : ByteArray) (hn : -9223372036854775808 ≤ n ∧ n ≤ 9223372036854775807) (w : World) :
    Calls Tryd.prog 6 #[.agg #[.int .i64 3, .int .i64 n, .string x]] w fun e w' => e = .returned (.bool (x.toList.isEmpty && decide (n = Val.into 3 (Val.u n)))) ∧ Below w.heap.size w w' := by
  by_cases he : Val.into 3 (Val.u n) = n
  · have := Val.iv_yes_uint8 n x hn _ rfl he w
    rw [he]; simpa using this
  · have h2 : ¬ n = Val.into 3 (Val.u n) := fun h => he h.symm
    have := Val.iv_no_uint8 n x hn _ rfl he w
    simpa [h2] using this
set_option maxRecDepth 100000 in
set_option maxHeartbeats 1000000 in
theorem Val.iv_yes_uint16 (n : Int) (x : ByteArray) (hn : -9223372036854775808 ≤ n ∧ n ≤ 9223372036854775807) (m : Int) (HM : Hid (Val.into 4 (Val.u n) = m)) (he : m = n) (w : World) :
    Calls Tryd.prog 6 #[.agg #[.int .i64 4, .int .i64 n, .string x]] w fun e w' => e = .returned (.bool x.toList.isEmpty) ∧ Below w.heap.size w w' := by
  have HI : Hid (Val.isInt 4 = true) := (by decide : Val.isInt 4 = true)
  have hm := Tryd.tk_uint16 (.agg #[])
  go_enter Tryd.func6, Tryd.ntmps6
  go_wp2_with (first | (go_at_call 14; refine (Val.isIntType_any _ _).mono ?_; rintro e w' ⟨rfl, rfl⟩; rw [HI.out]))
  go_region_held3 (fun w' => Below (w.heap.size + 1) (w.alloc (.cells #[.int .i64 4, .int .i64 n, .string x] 24)) w' ∧ w'.cell? ⟨w.heap.size, 0, none⟩ = some (.int .i64 4) ∧ w'.cell? ⟨w.heap.size, 1, none⟩ = some (.int .i64 n) ∧ w'.cell? ⟨w.heap.size, 2, none⟩ = some (.string x)) (first | assumption | exact Val.keep1 (Val.drew1 _ _) | exact Val.keep2 (by assumption) (by assumption)) (first | (go_at_call 15; refine (Val.kindOf_uint16 _).mono ?_; rintro e w' ⟨rfl, rfl⟩) | (go_at_call 60; refine (Val.taken_uint16 _ hn _).mono ?_; rintro e w' ⟨rfl, hb⟩; rw [HM.out]))
  go_wp2
  go_ret
  exact ⟨rfl, Val.keep0 (by assumption)⟩
set_option maxRecDepth 100000 in
set_option maxHeartbeats 1000000 in
theorem Val.iv_no_uint16 (n : Int) (x : ByteArray) (hn : -9223372036854775808 ≤ n ∧ n ≤ 9223372036854775807) (m : Int) (HM : Hid (Val.into 4 (Val.u n) = m)) (he : ¬ m = n) (w : World) :
    Calls Tryd.prog 6 #[.agg #[.int .i64 4, .int .i64 n, .string x]] w fun e w' => e = .returned (.bool false) ∧ Below w.heap.size w w' := by
  have HI : Hid (Val.isInt 4 = true) := (by decide : Val.isInt 4 = true)
  have hm := Tryd.tk_uint16 (.agg #[])
  have he2 : (m == n) = false := by simp [he]
  go_enter Tryd.func6, Tryd.ntmps6
  go_wp2_with (first | (go_at_call 14; refine (Val.isIntType_any _ _).mono ?_; rintro e w' ⟨rfl, rfl⟩; rw [HI.out]))
  refine wp_region_held_drew (S := (fun w' => Below (w.heap.size + 1) (w.alloc (.cells #[.int .i64 4, .int .i64 n, .string x] 24)) w' ∧ w'.cell? ⟨w.heap.size, 0, none⟩ = some (.int .i64 4) ∧ w'.cell? ⟨w.heap.size, 1, none⟩ = some (.int .i64 n) ∧ w'.cell? ⟨w.heap.size, 2, none⟩ = some (.string x))) (by kernel_rfl) (Val.keep1 (Val.drew1 _ _)) (fun hHeld => ?_)
  refine wpAnyH_take (i := 0) (v := .pointer (some ⟨w.heap.size, 0, none⟩)) rfl (by kernel_rfl) (by kernel_rfl) (by kernel_rfl) (fun _ _ _ h => h) (Or.inl ⟨by rfl, by intro w hSw; go_simp⟩) (by assumption) ?_
  try dsimp only [Act.put]
  refine wpAnyH_take (i := 1) (v := .int .i64 4) rfl (by kernel_rfl) (by kernel_rfl) (by kernel_rfl) (fun _ _ _ h => h) (Or.inl ⟨by rfl, by intro w hSw; go_simp⟩) (by assumption) ?_
  try dsimp only [Act.put]
  refine wpAnyH_take (i := 3) (v := .pointer (some ⟨w.heap.size, 1, none⟩)) rfl (by kernel_rfl) (by kernel_rfl) (by kernel_rfl) (fun _ _ _ h => h) (Or.inl ⟨by rfl, by intro w hSw; go_simp⟩) (by assumption) ?_
  try dsimp only [Act.put]
  refine wpAnyH_take (i := 4) (v := .int .i64 n) rfl (by kernel_rfl) (by kernel_rfl) (by kernel_rfl) (fun _ _ _ h => h) (Or.inl ⟨by rfl, by intro w hSw; go_simp⟩) (by assumption) ?_
  try dsimp only [Act.put]
  refine wpAnyH_take (i := 6) (v := .pointer (some ⟨w.heap.size, 1, none⟩)) rfl (by kernel_rfl) (by kernel_rfl) (by kernel_rfl) (fun _ _ _ h => h) (Or.inl ⟨by rfl, by intro w hSw; go_simp⟩) (by assumption) ?_
  try dsimp only [Act.put]
  refine wpAnyH_take (i := 7) (v := .int .i64 n) rfl (by kernel_rfl) (by kernel_rfl) (by kernel_rfl) (fun _ _ _ h => h) (Or.inl ⟨by rfl, by intro w hSw; go_simp⟩) (by assumption) ?_
  try dsimp only [Act.put]
  refine wpAnyH_ready (rs := [2]) (by kernel_rfl) (by simp) ?_
  refine AllReadyH.cons rfl (fun K hK => ?_) AllReadyH.nil
  go_simp
  (go_at_call 15; refine (Val.kindOf_uint16 _).mono ?_; rintro e w' ⟨rfl, rfl⟩)
  go_wp2
  refine hK.out _ _ (by assumption) (fun hHeld => ?_)
  clear hK
  try dsimp only [Act.put]
  refine wpAnyH_ready (rs := [5]) (by kernel_rfl) (by simp) ?_
  refine AllReadyH.cons rfl (fun K hK => ?_) AllReadyH.nil
  go_simp
  (go_at_call 60; refine (Val.taken_uint16 _ hn _).mono ?_; rintro e w' ⟨rfl, hb⟩; rw [HM.out])
  go_wp2
  refine hK.out _ _ (Val.keep2 (by assumption) hb) (fun hHeld => ?_)
  clear hK
  try dsimp only [Act.put]
  refine wpAnyH_take (i := 8) (v := .bool false) rfl (by kernel_rfl) (by kernel_rfl) (by kernel_rfl) (fun _ _ _ h => h) (Or.inl ⟨by rfl, by intro w hSw; go_simp⟩) (by assumption) ?_
  try dsimp only [Act.put]
  refine wpAnyH_take (i := 9) (v := .bool false) rfl (by kernel_rfl) (by kernel_rfl) (by kernel_rfl) (fun _ _ _ h => h) (Or.inl ⟨by rfl, by intro w hSw; go_simp⟩) (by assumption) ?_
  try dsimp only [Act.put]
  refine wpAnyH_take (i := 10) (v := undef) rfl (by kernel_rfl) (by kernel_rfl) (by kernel_rfl) (fun _ _ _ h => h) (Or.inr ⟨by rfl, rfl⟩) (by assumption) ?_
  try dsimp only [Act.put]
  refine wpAnyH_take (i := 11) (v := undef) rfl (by kernel_rfl) (by kernel_rfl) (by kernel_rfl) (fun _ _ _ h => h) (Or.inr ⟨by rfl, rfl⟩) (by assumption) ?_
  try dsimp only [Act.put]
  refine wpAnyH_take (i := 12) (v := undef) rfl (by kernel_rfl) (by kernel_rfl) (by kernel_rfl) (fun _ _ _ h => h) (Or.inr ⟨by rfl, rfl⟩) (by assumption) ?_
  try dsimp only [Act.put]
  refine wpAnyH_take (i := 13) (v := .bool false) rfl (by kernel_rfl) (by kernel_rfl) (by kernel_rfl) (fun _ _ _ h => h) (Or.inl ⟨by rfl, by intro w hSw; go_simp⟩) (by assumption) ?_
  simp [Act.put]
  refine wpAnyH_take (i := 14) (v := .bool false) rfl (by kernel_rfl) (by kernel_rfl) (by kernel_rfl) (fun _ _ _ h => h) (Or.inl ⟨by rfl, by intro w hSw; go_simp⟩) (by assumption) ?_
  simp [Act.put]
  refine wpAnyH_done (by kernel_rfl) ?_ _
  go_wp2
  go_ret
  exact ⟨rfl, Val.keep0 (by assumption)⟩
theorem Val.iv_uint16 (n : Int) (x : ByteArray) (hn : -9223372036854775808 ≤ n ∧ n ≤ 9223372036854775807) (w : World) :
    Calls Tryd.prog 6 #[.agg #[.int .i64 4, .int .i64 n, .string x]] w fun e w' => e = .returned (.bool (x.toList.isEmpty && decide (n = Val.into 4 (Val.u n)))) ∧ Below w.heap.size w w' := by
  by_cases he : Val.into 4 (Val.u n) = n
  · have := Val.iv_yes_uint16 n x hn _ rfl he w
    rw [he]; simpa using this
  · have h2 : ¬ n = Val.into 4 (Val.u n) := fun h => he h.symm
    have := Val.iv_no_uint16 n x hn _ rfl he w
    simpa [h2] using this
end Go.Proofs.YtkijfehdgiiejaaDoor
