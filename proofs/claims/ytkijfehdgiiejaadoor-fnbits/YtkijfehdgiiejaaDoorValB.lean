import Derived.Test.YtkijfehdgiiejaaDoorValA
import Derived.Deep.QuietTactic
import Derived.BigQuiet
namespace Go.Proofs.YtkijfehdgiiejaaDoor
open Go.RowKit

structure Val.V where
  type : Int
  n : Int
  text : ByteArray
def Val.v (x : Val.V) : Value := .agg #[.int .i64 x.type, .int .i64 x.n, .string x.text]
def Val.u (n : Int) : Int := n % 18446744073709551616
def Val.valid (x : Val.V) : Bool :=
  if x.type = 1 then (decide (x.n = 0) || decide (x.n = 1)) && x.text.toList.isEmpty
  else if x.type = 2 then decide (x.n = 0) && decide (x.text.size ≤ 3000)
  else Val.isInt x.type && x.text.toList.isEmpty && decide (x.n = Val.into x.type (Val.u x.n))
theorem Val.u_bd (n : Int) : 0 ≤ Val.u n ∧ Val.u n < 18446744073709551616 := by unfold Val.u; omega

set_option maxRecDepth 100000 in
set_option maxHeartbeats 1000000 in
theorem Val.l4Num_any (t b : Int) (h0 : 0 ≤ b) (h1 : b < 18446744073709551616) (w : World) :
    Calls Tryd.prog 31 #[.int .i64 t, .int .u64 b] w fun e w' => e = .returned (Val.v ⟨t, Val.into t b, ⟨#[]⟩⟩) ∧ Below w.heap.size w w' := by
  go_enter Tryd.func31, Tryd.ntmps31
  go_wp2_with (go_at_call 13; refine (Val.l4Into_any _ _ h0 h1 _).mono ?_; rintro e w' ⟨rfl, rfl⟩)
  exact bodyPost_ret (v := .agg #[.int .i64 t, .int .i64 (Val.into t b), .string ⟨#[]⟩]) (by simp [results, Tryd.results31, go_sem]) rfl ⟨rfl, (Below.refl _ w).alloc (Nat.le_refl _) _⟩
set_option maxRecDepth 100000 in
set_option maxHeartbeats 1000000 in
theorem Val.l4Bool_any (b : Bool) (w : World) :
    Calls Tryd.prog 27 #[.bool b] w fun e w' => e = .returned (Val.v ⟨1, if b = true then 1 else 0, ⟨#[]⟩⟩) ∧ Below w.heap.size w w' := by
  cases b
  all_goals
    go_enter Tryd.func27, Tryd.ntmps27
    go_wp2
    first
    | exact bodyPost_ret (v := .agg #[.int .i64 1, .int .i64 0, .string ⟨#[]⟩]) (by simp [results, Tryd.results27, go_sem]) rfl ⟨rfl, (Below.refl _ w).alloc (Nat.le_refl _) _⟩
    | exact bodyPost_ret (v := .agg #[.int .i64 1, .int .i64 1, .string ⟨#[]⟩]) (by simp [results, Tryd.results27, go_sem]) rfl ⟨rfl, (Below.refl _ w).alloc (Nat.le_refl _) _⟩
set_option maxRecDepth 100000 in
set_option maxHeartbeats 1000000 in
theorem Val.l4Text_any (x : ByteArray) (w : World) :
    Calls Tryd.prog 28 #[.string x] w fun e w' => e = .returned (Val.v ⟨2, 0, x⟩) ∧ Below w.heap.size w w' := by
  go_enter Tryd.func28, Tryd.ntmps28
  go_wp2
  exact bodyPost_ret (v := .agg #[.int .i64 2, .int .i64 0, .string x]) (by simp [results, Tryd.results28, go_sem]) rfl ⟨rfl, (Below.refl _ w).alloc (Nat.le_refl _) _⟩
theorem Val.ret_b {a b : Bool} (h : a = b) : Ending.returned (.bool a) = .returned (.bool b) := by rw [h]
theorem Val.quiet {P : Program} {f : FuncId} {args : Array Value} {w : World} {n : Nat} {v : Value}
    (h : Calls P f args (w.drewN n) fun e w' => e = .returned v ∧ w.drewN n = w') : Calls P f args (w.drewN n) fun e w'' => e = .returned v ∧ ∃ m, w'' = w.drewN m :=
  h.mono fun _ _ ⟨he, hm⟩ => ⟨he, n, hm.symm⟩
theorem Val.below_drewN {B : Nat} {a w : World} (n : Nat) (h : Below B a w) : Below B a (w.drewN n) := ⟨h.os, h.tape, h.output, h.size, h.block⟩
theorem Val.l1Integer_is (b : Bool) (t : Int) (h : Hid (Val.isInt t = b)) (w : World) :
    Calls Tryd.prog 11 #[.int .i64 t] w fun e w' => e = .returned (.bool b) ∧ w = w' := by rw [← h.out]; exact Val.l1Integer_any t w
set_option maxRecDepth 100000 in
set_option maxHeartbeats 1000000 in
theorem Val.valid_any (t n : Int) (x : ByteArray) (w : World) :
    Calls Tryd.prog 5 #[Val.v ⟨t, n, x⟩] w fun e w' => e = .returned (.bool (Val.valid ⟨t, n, x⟩)) ∧ Below w.heap.size w w' := by
  obtain ⟨r, HR⟩ : ∃ r, Hid (Val.valid ⟨t, n, x⟩ = r) := ⟨_, (rfl : Val.valid ⟨t, n, x⟩ = _)⟩
  rw [HR.out]
  simp only [Val.v]
  by_cases h1 : t = 1
  · subst h1
    go_enter Tryd.func5, Tryd.ntmps5
    go_wp2
    all_goals go_ret
    all_goals refine ⟨Val.ret_b ?_, (Below.refl _ w).alloc (Nat.le_refl _) _⟩
    all_goals (rw [← HR.out]; simp [Val.valid, *])
  · by_cases h2 : t = 2
    · subst h2
      go_enter Tryd.func5, Tryd.ntmps5
      go_wp2
      all_goals go_ret
      all_goals refine ⟨Val.ret_b ?_, (Below.refl _ w).alloc (Nat.le_refl _) _⟩
      all_goals (rw [← HR.out]; first | (simp [Val.valid, *]; done) | (simp [Val.valid, *]; omega))
    · cases hi : Val.isInt t with
      | false =>
        have HI : Hid (Val.isInt t = false) := hi
        have HF : Hid (false = r) := by rw [Hid, ← HR.out, Val.valid, if_neg h1, if_neg h2, hi]; rfl
        clear hi
        go_enter Tryd.func5, Tryd.ntmps5
        go_wp2_with fail
        go_quiet (first | (go_at_call 11; refine Val.quiet (Val.l1Integer_is false _ HI _)))
        go_wp2
        go_ret
        exact ⟨Val.ret_b HF.out, Val.below_drewN _ ((Below.refl _ w).alloc (Nat.le_refl _) _)⟩
      | true =>
        have HI : Hid (Val.isInt t = true) := hi
        cases hx : x.toList.isEmpty with
        | false =>
          have HF : Hid (false = r) := by rw [Hid, ← HR.out, Val.valid, if_neg h1, if_neg h2, hi, hx]; rfl
          clear hi
          go_enter Tryd.func5, Tryd.ntmps5
          go_wp2_with fail
          go_quiet (first | (go_at_call 11; refine Val.quiet (Val.l1Integer_is true _ HI _)))
          go_wp2
          go_ret
          exact ⟨Val.ret_b HF.out, Val.below_drewN _ ((Below.refl _ w).alloc (Nat.le_refl _) _)⟩
        | true =>
          have HF : Hid (decide (n = Val.into t (Val.u n)) = r) := by rw [Hid, ← HR.out, Val.valid, if_neg h1, if_neg h2, hi, hx]; rfl
          clear hi
          have hu : IntKind.u64.wrap n = Val.u n := rfl
          go_enter Tryd.func5, Tryd.ntmps5
          go_wp2_with fail
          go_quiet (first | (go_at_call 11; refine Val.quiet (Val.l1Integer_is true _ HI _)) | (go_at_call 13; refine Val.quiet (Val.l4Into_any _ _ (Val.u_bd n).1 (Val.u_bd n).2 _)))
          go_wp2
          go_ret
          exact ⟨Val.ret_b (by rw [← HF.out]; rfl), Val.below_drewN _ ((Below.refl _ w).alloc (Nat.le_refl _) _)⟩
end Go.Proofs.YtkijfehdgiiejaaDoor
