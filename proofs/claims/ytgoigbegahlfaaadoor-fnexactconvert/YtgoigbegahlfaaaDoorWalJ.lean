import Derived.Test.YtgoigbegahlfaaaDoorWalG1
import Derived.Test.YtgoigbegahlfaaaDoorWalG2
import Derived.Test.YtgoigbegahlfaaaDoorWalG3
import Derived.Test.YtgoigbegahlfaaaDoorWalI1
import Derived.Test.YtgoigbegahlfaaaDoorWalI2
import Derived.Test.YtgoigbegahlfaaaDoorWalI3
import Derived.Test.YtgoigbegahlfaaaDoorWalI4
namespace Go.Proofs.YtgoigbegahlfaaaDoor
open Go.RowKit

theorem Val.on2b {w w1 w2 : World} {o1 o2 : Obj} (hb1 : Below (w.heap.size + 1 + 1) ((w.alloc o1).alloc o2) w1) (hb2 : Below w1.heap.size w1 w2) : Below (w.heap.size + 1 + 1) ((w.alloc o1).alloc o2) w2 :=
  hb1.trans (hb2.mono (by have := hb1.size; simpa using this))
set_option maxRecDepth 100000 in
set_option maxHeartbeats 1000000 in
theorem Val.implConvert_err (op t n : Int) (x : ByteArray) (y : ByteArray) (b o : Nat) (w : World) (hb : b < w.heap.size) (hy : w.cell? ⟨b, o, none⟩ = some (.string y))
    (hI : Hid (∀ w1, Below w.heap.size w w1 → Calls Tryd.prog 19 #[.agg #[.int .i64 t, .int .i64 n, .string x], .int .i64 op] w1 fun e w' => e = .returned (.tuple #[.agg #[.int .i64 0, .int .i64 0, .string ⟨#[]⟩], .iface 66 (.pointer (some ⟨b, o, none⟩))]) ∧ Below w1.heap.size w1 w')) :
    Calls Tryd.prog 11 #[.agg #[.int .i64 t, .int .i64 n, .string x], .int .i64 op] w fun e w' => e = .returned (.tuple #[.agg #[.int .i64 0, .int .i64 0, .string ⟨#[]⟩], .string y]) ∧ Below w.heap.size w w' := by
  go_enter Tryd.func11, Tryd.ntmps11
  go_wp2_with (first
    | (go_at_call 19; (refine (hI.out _ (Val.alloc2 (Below.refl _ _))).mono ?_; rintro e w1 ⟨rfl, hb1⟩; simp only [World.size_alloc] at hb1; obtain ⟨_, ⟨b0, b1, b2⟩, k0, k1, k2⟩ := Val.spill2 hb1))
    | (go_at_call 16; (refine (Val.told_err _ _ _ b o y w1 (by have := (Val.alloc2 hb1).size; omega) (by rw [(Val.alloc2 hb1).cell (p := ⟨b, o, none⟩) hb]; exact hy)).mono ?_; rintro e w2 ⟨rfl, hb2⟩; have hb3 := Val.on2b hb1 hb2; obtain ⟨_, ⟨d0, d1, d2⟩, l0, l1, l2⟩ := Val.spill2 hb3)))
  exact bodyPost_ret (v := .tuple #[.agg #[.int .i64 0, .int .i64 0, .string ⟨#[]⟩], .string y]) (by simp [results, Tryd.results11, go_sem, d0, d1, d2]) rfl ⟨rfl, Val.set3 (Val.alloc2 hb3) _ _ _⟩
set_option maxRecDepth 100000 in
set_option maxHeartbeats 1000000 in
theorem Val.implConvert_ok (op t n : Int) (x : ByteArray) (rt rn : Int) (w : World)
    (hI : Hid (∀ w1, Below w.heap.size w w1 → Calls Tryd.prog 19 #[.agg #[.int .i64 t, .int .i64 n, .string x], .int .i64 op] w1 fun e w' => e = .returned (.tuple #[.agg #[.int .i64 rt, .int .i64 rn, .string ⟨#[]⟩], .nilIface]) ∧ Below w1.heap.size w1 w')) :
    Calls Tryd.prog 11 #[.agg #[.int .i64 t, .int .i64 n, .string x], .int .i64 op] w fun e w' => e = .returned (.tuple #[.agg #[.int .i64 rt, .int .i64 rn, .string ⟨#[]⟩], .string ⟨#[]⟩]) ∧ Below w.heap.size w w' := by
  go_enter Tryd.func11, Tryd.ntmps11
  go_wp2_with (first
    | (go_at_call 19; (refine (hI.out _ (Val.alloc2 (Below.refl _ _))).mono ?_; rintro e w1 ⟨rfl, hb1⟩; simp only [World.size_alloc] at hb1; obtain ⟨_, ⟨b0, b1, b2⟩, k0, k1, k2⟩ := Val.spill2 hb1))
    | (go_at_call 16; (refine (Val.told_ok _ _ w1).mono ?_; rintro e w2 ⟨rfl, hb2⟩; have hb3 := Val.on2b hb1 hb2; obtain ⟨_, ⟨d0, d1, d2⟩, l0, l1, l2⟩ := Val.spill2 hb3)))
  exact bodyPost_ret (v := .tuple #[.agg #[.int .i64 rt, .int .i64 rn, .string ⟨#[]⟩], .string ⟨#[]⟩]) (by simp [results, Tryd.results11, go_sem, d0, d1, d2]) rfl ⟨rfl, Val.set3 (Val.alloc2 hb3) _ _ _⟩
set_option maxRecDepth 100000 in
set_option maxHeartbeats 1000000 in
theorem Val.implUnary_err (op t n : Int) (x : ByteArray) (y : ByteArray) (b o : Nat) (w : World) (hb : b < w.heap.size) (hy : w.cell? ⟨b, o, none⟩ = some (.string y))
    (hI : Hid (∀ w1, Below w.heap.size w w1 → Calls Tryd.prog 17 #[.int .i64 op, .agg #[.int .i64 t, .int .i64 n, .string x]] w1 fun e w' => e = .returned (.tuple #[.agg #[.int .i64 0, .int .i64 0, .string ⟨#[]⟩], .iface 66 (.pointer (some ⟨b, o, none⟩))]) ∧ Below w1.heap.size w1 w')) :
    Calls Tryd.prog 8 #[.int .i64 op, .agg #[.int .i64 t, .int .i64 n, .string x]] w fun e w' => e = .returned (.tuple #[.agg #[.int .i64 0, .int .i64 0, .string ⟨#[]⟩], .string y]) ∧ Below w.heap.size w w' := by
  go_enter Tryd.func8, Tryd.ntmps8
  go_wp2_with (first
    | (go_at_call 17; (refine (hI.out _ (Val.alloc2 (Below.refl _ _))).mono ?_; rintro e w1 ⟨rfl, hb1⟩; simp only [World.size_alloc] at hb1; obtain ⟨_, ⟨b0, b1, b2⟩, k0, k1, k2⟩ := Val.spill2 hb1))
    | (go_at_call 16; (refine (Val.told_err _ _ _ b o y w1 (by have := (Val.alloc2 hb1).size; omega) (by rw [(Val.alloc2 hb1).cell (p := ⟨b, o, none⟩) hb]; exact hy)).mono ?_; rintro e w2 ⟨rfl, hb2⟩; have hb3 := Val.on2b hb1 hb2; obtain ⟨_, ⟨d0, d1, d2⟩, l0, l1, l2⟩ := Val.spill2 hb3)))
  exact bodyPost_ret (v := .tuple #[.agg #[.int .i64 0, .int .i64 0, .string ⟨#[]⟩], .string y]) (by simp [results, Tryd.results8, go_sem, d0, d1, d2]) rfl ⟨rfl, Val.set3 (Val.alloc2 hb3) _ _ _⟩
set_option maxRecDepth 100000 in
set_option maxHeartbeats 1000000 in
theorem Val.implUnary_ok (op t n : Int) (x : ByteArray) (rt rn : Int) (w : World)
    (hI : Hid (∀ w1, Below w.heap.size w w1 → Calls Tryd.prog 17 #[.int .i64 op, .agg #[.int .i64 t, .int .i64 n, .string x]] w1 fun e w' => e = .returned (.tuple #[.agg #[.int .i64 rt, .int .i64 rn, .string ⟨#[]⟩], .nilIface]) ∧ Below w1.heap.size w1 w')) :
    Calls Tryd.prog 8 #[.int .i64 op, .agg #[.int .i64 t, .int .i64 n, .string x]] w fun e w' => e = .returned (.tuple #[.agg #[.int .i64 rt, .int .i64 rn, .string ⟨#[]⟩], .string ⟨#[]⟩]) ∧ Below w.heap.size w w' := by
  go_enter Tryd.func8, Tryd.ntmps8
  go_wp2_with (first
    | (go_at_call 17; (refine (hI.out _ (Val.alloc2 (Below.refl _ _))).mono ?_; rintro e w1 ⟨rfl, hb1⟩; simp only [World.size_alloc] at hb1; obtain ⟨_, ⟨b0, b1, b2⟩, k0, k1, k2⟩ := Val.spill2 hb1))
    | (go_at_call 16; (refine (Val.told_ok _ _ w1).mono ?_; rintro e w2 ⟨rfl, hb2⟩; have hb3 := Val.on2b hb1 hb2; obtain ⟨_, ⟨d0, d1, d2⟩, l0, l1, l2⟩ := Val.spill2 hb3)))
  exact bodyPost_ret (v := .tuple #[.agg #[.int .i64 rt, .int .i64 rn, .string ⟨#[]⟩], .string ⟨#[]⟩]) (by simp [results, Tryd.results8, go_sem, d0, d1, d2]) rfl ⟨rfl, Val.set3 (Val.alloc2 hb3) _ _ _⟩
theorem Val.implConvert_any (op t n : Int) (x : ByteArray) (hn : -9223372036854775808 ≤ n ∧ n ≤ 9223372036854775807) (w : World) (hE : Val.Err 0 Val.typeW w) :
    Calls Tryd.prog 11 #[.agg #[.int .i64 t, .int .i64 n, .string x], .int .i64 op] w fun e w' => e = .returned (Val.ansV (Val.convert ⟨t, n, x⟩ op)) ∧ Below w.heap.size w w' := by
  cases hv : Val.valid ⟨t, n, x⟩ with
  | false =>
    have e : Val.convert ⟨t, n, x⟩ op = (Val.zero, Val.typeW) := by rw [Val.convert, if_neg (by rw [hv]; simp)]
    rw [e]
    obtain ⟨b, o, h1, h2, h3, h4⟩ := hE
    exact Val.implConvert_err op t n x Val.typeW b o w h4 h2 (fun w1 hb => Val.converted_inv t n x hn op b o w1 (by rw [hb.cell (p := ⟨0, 0, none⟩) h3]; exact h1) (by have := hb.size; omega) hv)
  | true =>
    by_cases hi : Val.isInt op = true ∧ Val.isInt t = true
    · have e : Val.convert ⟨t, n, x⟩ op = (Val.num op n, ⟨#[]⟩) := by rw [Val.convert, if_pos ⟨hv, hi.2, hi.1⟩]
      rw [e]
      have h3 : op = 3 ∨ op = 4 ∨ op = 5 ∨ op = 6 ∨ op = 7 ∨ op = 8 ∨ op = 9 ∨ op = 10 := by have := hi.1; simp [Val.isInt] at this; omega
      replace hi := hi.2
      rcases h3 with rfl | rfl | rfl | rfl | rfl | rfl | rfl | rfl
      · exact Val.implConvert_ok 3 t n x 3 _ w (fun w1 _ => Val.converted_uint8 t n x hn w1 hv (by rw [Hid, Val.convT, if_pos ⟨by decide, hi⟩]))
      · exact Val.implConvert_ok 4 t n x 4 _ w (fun w1 _ => Val.converted_uint16 t n x hn w1 hv (by rw [Hid, Val.convT, if_pos ⟨by decide, hi⟩]))
      · exact Val.implConvert_ok 5 t n x 5 _ w (fun w1 _ => Val.converted_uint32 t n x hn w1 hv (by rw [Hid, Val.convT, if_pos ⟨by decide, hi⟩]))
      · exact Val.implConvert_ok 6 t n x 6 _ w (fun w1 _ => Val.converted_uint64 t n x hn w1 hv (by rw [Hid, Val.convT, if_pos ⟨by decide, hi⟩]))
      · exact Val.implConvert_ok 7 t n x 7 _ w (fun w1 _ => Val.converted_int8 t n x hn w1 hv (by rw [Hid, Val.convT, if_pos ⟨by decide, hi⟩]))
      · exact Val.implConvert_ok 8 t n x 8 _ w (fun w1 _ => Val.converted_int16 t n x hn w1 hv (by rw [Hid, Val.convT, if_pos ⟨by decide, hi⟩]))
      · exact Val.implConvert_ok 9 t n x 9 _ w (fun w1 _ => Val.converted_int32 t n x hn w1 hv (by rw [Hid, Val.convT, if_pos ⟨by decide, hi⟩]))
      · exact Val.implConvert_ok 10 t n x 10 _ w (fun w1 _ => Val.converted_int64 t n x hn w1 hv (by rw [Hid, Val.convT, if_pos ⟨by decide, hi⟩]))
    · have e : Val.convert ⟨t, n, x⟩ op = (Val.zero, Val.typeW) := by rw [Val.convert, if_neg (fun h => hi ⟨h.2.2, h.2.1⟩)]
      rw [e]
      obtain ⟨b, o, h1, h2, h3, h4⟩ := hE
      exact Val.implConvert_err op t n x Val.typeW b o w h4 h2 (fun w1 hb => Val.converted_no t n x hn op b o w1 (by rw [hb.cell (p := ⟨0, 0, none⟩) h3]; exact h1) (by have := hb.size; omega) hv (by rw [Hid, Val.convT, if_neg hi]))
theorem Val.implUnary_any (op t n : Int) (x : ByteArray) (hn : -9223372036854775808 ≤ n ∧ n ≤ 9223372036854775807) (w : World) (hE : Val.Err 0 Val.typeW w) :
    Calls Tryd.prog 8 #[.int .i64 op, .agg #[.int .i64 t, .int .i64 n, .string x]] w fun e w' => e = .returned (Val.ansV (Val.unary op ⟨t, n, x⟩)) ∧ Below w.heap.size w w' := by
  cases hv : Val.valid ⟨t, n, x⟩ with
  | false =>
    have e : Val.unary op ⟨t, n, x⟩ = (Val.zero, Val.typeW) := by rw [Val.unary, if_neg (by rw [hv]; simp)]
    rw [e]
    obtain ⟨b, o, h1, h2, h3, h4⟩ := hE
    exact Val.implUnary_err op t n x Val.typeW b o w h4 h2 (fun w1 hb => Val.unary_inv op t n x hn b o w1 (by rw [hb.cell (p := ⟨0, 0, none⟩) h3]; exact h1) (by have := hb.size; omega) hv)
  | true =>
    by_cases h0 : Val.unT op t = 0
    · have e : Val.unary op ⟨t, n, x⟩ = (Val.zero, Val.typeW) := by
        rw [Val.unary, if_neg]
        rintro ⟨_, h1, h2, h3⟩
        have h123 : op = 1 ∨ op = 2 ∨ op = 3 := by omega
        apply h3
        rcases h123 with rfl | rfl | rfl
        · simpa [Val.unT, Val.un] using h0
        · simpa [Val.unT, Val.un] using h0
        · simpa [Val.unT, Val.un] using h0
      rw [e]
      obtain ⟨b, o, h1, h2, h3, h4⟩ := hE
      exact Val.implUnary_err op t n x Val.typeW b o w h4 h2 (fun w1 hb => Val.unary_no op t n x hn b o w1 (by rw [hb.cell (p := ⟨0, 0, none⟩) h3]; exact h1) (by have := hb.size; omega) hv h0)
    · have h123 : op = 1 ∨ op = 2 ∨ op = 3 := by
        by_cases h : op = 1 ∨ op = 2 ∨ op = 3
        · exact h
        · exact absurd (by rw [Val.unT, if_neg (by omega), if_neg (by omega)]) h0
      have hun : Val.un op t ≠ 0 := by
        rcases h123 with rfl | rfl | rfl
        · simpa [Val.unT, Val.un] using h0
        · simpa [Val.unT, Val.un] using h0
        · simpa [Val.unT, Val.un] using h0
      have e : Val.unary op ⟨t, n, x⟩ = (if op = 1 then Val.num t (-n) else if op = 2 then Val.bool (decide (n = 0)) else Val.num t (-n - 1), ⟨#[]⟩) := by rw [Val.unary, if_pos ⟨hv, by omega, by omega, hun⟩]
      rw [e]
      rcases h123 with rfl | rfl | rfl
      · have h3 : t = 3 ∨ t = 4 ∨ t = 5 ∨ t = 6 ∨ t = 7 ∨ t = 8 ∨ t = 9 ∨ t = 10 := by
          have : Val.isInt t = true := by
            cases h : Val.isInt t with
            | true => rfl
            | false => exact absurd (by simp [Val.unT, h]) h0
          simp [Val.isInt] at this; omega
        rcases h3 with rfl | rfl | rfl | rfl | rfl | rfl | rfl | rfl
        · exact Val.implUnary_ok 1 3 n x 3 _ w (fun w1 _ => Val.unary1_uint8 n x hn w1 hv)
        · exact Val.implUnary_ok 1 4 n x 4 _ w (fun w1 _ => Val.unary1_uint16 n x hn w1 hv)
        · exact Val.implUnary_ok 1 5 n x 5 _ w (fun w1 _ => Val.unary1_uint32 n x hn w1 hv)
        · exact Val.implUnary_ok 1 6 n x 6 _ w (fun w1 _ => Val.unary1_uint64 n x hn w1 hv)
        · exact Val.implUnary_ok 1 7 n x 7 _ w (fun w1 _ => Val.unary1_int8 n x hn w1 hv)
        · exact Val.implUnary_ok 1 8 n x 8 _ w (fun w1 _ => Val.unary1_int16 n x hn w1 hv)
        · exact Val.implUnary_ok 1 9 n x 9 _ w (fun w1 _ => Val.unary1_int32 n x hn w1 hv)
        · exact Val.implUnary_ok 1 10 n x 10 _ w (fun w1 _ => Val.unary1_int64 n x hn w1 hv)
      · have ht : t = 1 := by
          by_cases h : t = 1
          · exact h
          · exact absurd (by simp [Val.unT, h]) h0
        subst ht
        by_cases hz : n = 0
        · subst hz
          exact Val.implUnary_ok 2 1 0 x 1 1 w (fun w1 _ => Val.unary_not_z 1 x (by omega) w1 hv (by decide : Val.unT 2 1 = 1))
        · have := Val.implUnary_ok 2 1 n x 1 0 w (fun w1 _ => Val.unary_not_nz 1 n x hn w1 hv (by decide : Val.unT 2 1 = 1) hz)
          simpa [Val.ansV, Val.v, Val.bool, hz] using this
      · have h3 : t = 3 ∨ t = 4 ∨ t = 5 ∨ t = 6 ∨ t = 7 ∨ t = 8 ∨ t = 9 ∨ t = 10 := by
          have : Val.isInt t = true := by
            cases h : Val.isInt t with
            | true => rfl
            | false => exact absurd (by simp [Val.unT, h]) h0
          simp [Val.isInt] at this; omega
        rcases h3 with rfl | rfl | rfl | rfl | rfl | rfl | rfl | rfl
        · exact Val.implUnary_ok 3 3 n x 3 _ w (fun w1 _ => Val.unary3_uint8 n x hn w1 hv)
        · exact Val.implUnary_ok 3 4 n x 4 _ w (fun w1 _ => Val.unary3_uint16 n x hn w1 hv)
        · exact Val.implUnary_ok 3 5 n x 5 _ w (fun w1 _ => Val.unary3_uint32 n x hn w1 hv)
        · exact Val.implUnary_ok 3 6 n x 6 _ w (fun w1 _ => Val.unary3_uint64 n x hn w1 hv)
        · exact Val.implUnary_ok 3 7 n x 7 _ w (fun w1 _ => Val.unary3_int8 n x hn w1 hv)
        · exact Val.implUnary_ok 3 8 n x 8 _ w (fun w1 _ => Val.unary3_int16 n x hn w1 hv)
        · exact Val.implUnary_ok 3 9 n x 9 _ w (fun w1 _ => Val.unary3_int32 n x hn w1 hv)
        · exact Val.implUnary_ok 3 10 n x 10 _ w (fun w1 _ => Val.unary3_int64 n x hn w1 hv)
end Go.Proofs.YtgoigbegahlfaaaDoor
