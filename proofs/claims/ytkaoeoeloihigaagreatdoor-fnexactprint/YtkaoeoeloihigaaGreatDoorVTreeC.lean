import Derived.Test.YtkaoeoeloihigaaGreatDoorVTreeB
import Derived.Deep.QuietTactic
import Derived.BigQuiet
namespace Go.Proofs.YtkaoeoeloihigaaGreatDoor
open Go.RowKit

theorem Mill.quiet {P : Program} {f : FuncId} {args : Array Value} {w : World} {n : Nat} {v : Value}
    (h : Calls P f args (w.drewN n) fun e w' => e = .returned v ∧ w.drewN n = w') : Calls P f args (w.drewN n) fun e w'' => e = .returned v ∧ ∃ m, w'' = w.drewN m :=
  h.mono fun _ _ ⟨he, hm⟩ => ⟨he, n, hm.symm⟩
theorem Mill.below_drewN {B : Nat} {a w : World} (n : Nat) (h : Below B a w) : Below B a (w.drewN n) := ⟨h.os, h.tape, h.output, h.size, h.block⟩
theorem l1Integer_is (t : Int) (b : Bool) (h : Hid ((decide (3 ≤ t) && decide (t ≤ 10)) = b)) (w : World) :
    Calls Tryz.prog 38 #[.int .i64 t] w fun e w' => e = .returned (.bool b) ∧ w = w' := by
  rw [← h.out]; exact l1Integer_any t w

set_option maxRecDepth 100000 in
set_option maxHeartbeats 1000000 in
theorem l2Fields_1 (o t n : Int) (x : ByteArray) (k : Int) (w : World) :
    Calls Tryz.prog 20 #[Mill.ndV ⟨1, o, t, n, x, k⟩] w fun e w' => e = .returned (.bool (Mill.fields ⟨1, o, t, n, x, k⟩)) ∧ Below w.heap.size w w' := by
  have HU : Hid (Mill.usesV 1 = .tuple #[.bool false, .bool true, .bool true, .bool false]) := by rw [Hid]; rfl
  have HN : Hid (Mill.named 1 = false) := by rw [Hid]; rfl
  simp only [Mill.ndV]
  by_cases ho : o = 0
  · by_cases hx : x.toList.isEmpty = true
    · have hx' : (!x.toList.isEmpty) = false := by simp [hx]
      have ho' : (o != 0) = false := by simp [ho]
      cases hq : (decide (3 ≤ t) && decide (t ≤ 10)) with
      | false =>
        have HF : Hid (Mill.fields ⟨1, o, t, n, x, k⟩ = false) := by rw [Hid, Mill.fields, Mill.kindOk]; simp only [if_true, hq, Bool.false_and, Bool.and_false]
        have HQ : Hid ((decide (3 ≤ t) && decide (t ≤ 10)) = false) := hq
        clear hq
        go_enter Tryz.func20, Tryz.ntmps20
        go_wp2_with (first
          | (go_at_call 35; refine (l2Uses_any _ _).mono ?_; rintro e w' ⟨rfl, rfl⟩; rw [HU.out])
          | (go_at_call 36; refine (l2Named_any _ _).mono ?_; rintro e w' ⟨rfl, rfl⟩; rw [HN.out]))
        go_quiet (first | (go_at_call 38; refine Mill.quiet (l1Integer_is _ false HQ _)))
        go_wp2
        go_ret
        exact ⟨Mill.ret_bool HF.out.symm, Mill.below_drewN _ ((Below.refl _ w).alloc (Nat.le_refl _) _)⟩
      | true =>
        have HF : Hid (Mill.fields ⟨1, o, t, n, x, k⟩ = decide (IntKind.u64.wrap n ≤ Mill.maxOf t)) := by
          rw [Hid, Mill.fields, Mill.kindOk]; simp only [if_true, hq, Bool.true_and]; simp [Mill.unused, Mill.uOp, Mill.uType, Mill.uN, Mill.uText, Mill.named, ho, hx]
        have HQ : Hid ((decide (3 ≤ t) && decide (t ≤ 10)) = true) := hq
        clear hq
        go_enter Tryz.func20, Tryz.ntmps20
        go_wp2_with (first
          | (go_at_call 35; refine (l2Uses_any _ _).mono ?_; rintro e w' ⟨rfl, rfl⟩; rw [HU.out])
          | (go_at_call 36; refine (l2Named_any _ _).mono ?_; rintro e w' ⟨rfl, rfl⟩; rw [HN.out]))
        go_quiet (first | (go_at_call 38; refine Mill.quiet (l1Integer_is _ true HQ _)) | (go_at_call 39; refine Mill.quiet (l1Max_any _ _)))
        go_wp2
        go_ret
        exact ⟨Mill.ret_bool HF.out.symm, Mill.below_drewN _ ((Below.refl _ w).alloc (Nat.le_refl _) _)⟩
    · have HF : Hid (Mill.fields ⟨1, o, t, n, x, k⟩ = false) := by rw [Hid]; exact Mill.fields_unused _ (by simp [Mill.unused, Mill.uText, Mill.named]; intro _ _ _; simpa using hx)
      have hx' : (!x.toList.isEmpty) = true := by simpa using hx
      have ho' : (o != 0) = false := by simp [ho]
      go_enter Tryz.func20, Tryz.ntmps20
      go_wp2_with (first
        | (go_at_call 35; refine (l2Uses_any _ _).mono ?_; rintro e w' ⟨rfl, rfl⟩; rw [HU.out]))
      go_ret
      exact ⟨Mill.ret_bool HF.out.symm, (Below.refl _ w).alloc (Nat.le_refl _) _⟩
  · have HF : Hid (Mill.fields ⟨1, o, t, n, x, k⟩ = false) := by rw [Hid]; exact Mill.fields_unused _ (by simp [Mill.unused, Mill.uOp, ho])
    have ho' : (o != 0) = true := by simpa using ho
    go_enter Tryz.func20, Tryz.ntmps20
    go_wp2_with (first
      | (go_at_call 35; refine (l2Uses_any _ _).mono ?_; rintro e w' ⟨rfl, rfl⟩; rw [HU.out]))
    go_ret
    exact ⟨Mill.ret_bool HF.out.symm, (Below.refl _ w).alloc (Nat.le_refl _) _⟩

def Mill.plainKind (c : Int) : Prop := c ≠ 1 ∧ c ≠ 2 ∧ c ≠ 3 ∧ c ≠ 4 ∧ c ≠ 5 ∧ c ≠ 6 ∧ c ≠ 7 ∧ c ≠ 8 ∧ c ≠ 9 ∧ c ≠ 10 ∧ c ≠ 11 ∧ c ≠ 22 ∧ c ≠ 23

set_option maxRecDepth 100000 in
set_option maxHeartbeats 1000000 in
theorem l2Fields_other (c o t n : Int) (x : ByteArray) (k : Int) (w : World) (hc : Mill.plainKind c) :
    Calls Tryz.prog 20 #[Mill.ndV ⟨c, o, t, n, x, k⟩] w fun e w' => e = .returned (.bool (Mill.fields ⟨c, o, t, n, x, k⟩)) ∧ Below w.heap.size w w' := by
  obtain ⟨c1, c2, c3, c4, c5, c6, c7, c8, c9, c10, c11, c22, c23⟩ := hc
  have HN : Hid (Mill.named c = false) := by rw [Hid]; simp [Mill.named, c4, c7, c10, c11, c22, c23]
  have HU : Hid (Mill.usesV c = .tuple #[.bool false, .bool false, .bool false, .bool false]) := by rw [Hid]; simp [Mill.usesV, Mill.uOp, Mill.uType, Mill.uN, Mill.uText, HN.out, c1, c2, c3, c5, c6, c8, c9, c22, c23]
  have HK : Hid (Mill.fields ⟨c, o, t, n, x, k⟩ = ((o == 0) && (t == 0) && (n == 0) && x.toList.isEmpty)) := by
    rw [Hid]; simp [Mill.fields, Mill.unused, Mill.kindOk, Mill.uOp, Mill.uType, Mill.uN, Mill.uText, HN.out, c1, c2, c3, c5, c6, c8, c9, c22, c23]
  simp only [Mill.ndV]
  go_enter Tryz.func20, Tryz.ntmps20
  go_wp2_with (first
    | (go_at_call 35; refine (l2Uses_any _ _).mono ?_; rintro e w' ⟨rfl, rfl⟩; rw [HU.out])
    | (go_at_call 36; refine (l2Named_any _ _).mono ?_; rintro e w' ⟨rfl, rfl⟩; rw [HN.out]))
  all_goals go_ret
  all_goals refine ⟨Mill.ret_bool ?_, (Below.refl _ w).alloc (Nat.le_refl _) _⟩
  all_goals rw [HK.out]
  all_goals go_light
  all_goals simp_all

theorem Mill.kinds25 (c : Int) : c = 1 ∨ c = 2 ∨ c = 3 ∨ c = 4 ∨ c = 5 ∨ c = 6 ∨ c = 7 ∨ c = 8 ∨ c = 9 ∨ c = 10 ∨ c = 11 ∨ c = 22 ∨ c = 23 ∨ Mill.plainKind c := by
  unfold Mill.plainKind; omega

theorem l2Fields_any (d : Mill.Nd) (w : World) :
    Calls Tryz.prog 20 #[Mill.ndV d] w fun e w' => e = .returned (.bool (Mill.fields d)) ∧ Below w.heap.size w w' := by
  obtain ⟨c, o, t, n, x, k⟩ := d
  rcases Mill.kinds25 c with rfl | rfl | rfl | rfl | rfl | rfl | rfl | rfl | rfl | rfl | rfl | rfl | rfl | h
  · exact l2Fields_1 o t n x k w
  · exact l2Fields_2 o t n x k w
  · exact l2Fields_3 o t n x k w
  · exact l2Fields_4 o t n x k w
  · exact l2Fields_5 o t n x k w
  · exact l2Fields_6 o t n x k w
  · exact l2Fields_7 o t n x k w
  · exact l2Fields_8 o t n x k w
  · exact l2Fields_9 o t n x k w
  · exact l2Fields_10 o t n x k w
  · exact l2Fields_11 o t n x k w
  · exact l2Fields_22 o t n x k w
  · exact l2Fields_23 o t n x k w
  · exact l2Fields_other c o t n x k w h

end Go.Proofs.YtkaoeoeloihigaaGreatDoor
