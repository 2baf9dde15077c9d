import Derived.Test.YtfelngigfmdedaaGreatDoorValC
namespace Go.Proofs.YtfelngigfmdedaaGreatDoor
open Go.RowKit

set_option maxRecDepth 100000 in
set_option maxHeartbeats 1000000 in
theorem Val.toValue_any (t n : Int) (x : ByteArray) (w : World) :
    Calls Tryz.prog 18 #[.agg #[.int .i64 t, .int .i64 n, .string x]] w fun e w' => e = .returned (.agg #[.int .i64 t, .int .i64 n, .string x]) ∧ Below w.heap.size w w' := by
  go_enter Tryz.func18, Tryz.ntmps18
  go_wp2
  exact bodyPost_ret (v := .agg #[.int .i64 t, .int .i64 n, .string x]) (by simp [results, Tryz.results18, go_sem]) rfl ⟨rfl, (((Below.refl _ w).alloc (Nat.le_refl _) _).alloc (by simp) _).alloc (by simp only [World.size_alloc]; omega) _⟩
set_option maxRecDepth 100000 in
set_option maxHeartbeats 1000000 in
theorem Val.eqValue_same (t n : Int) (x : ByteArray) (w : World) :
    Calls Tryz.prog 8 #[.agg #[.int .i64 t, .int .i64 n, .string x], .agg #[.int .i64 t, .int .i64 n, .string x]] w fun e w' => e = .returned (.bool true) ∧ Below w.heap.size w w' := by
  have h1 : (t != t) = false := by simp
  have h2 : (n != n) = false := by simp
  go_enter Tryz.func8, Tryz.ntmps8
  go_wp2
  all_goals go_ret
  all_goals exact ⟨rfl, ((Below.refl _ w).alloc (Nat.le_refl _) _).alloc (by simp) _⟩
def Val.sz (x : ByteArray) (l : Int) : Int := if l - (x.size : Int) < 0 then -1 else l - (x.size : Int)
set_option maxRecDepth 100000 in
set_option maxHeartbeats 1000000 in
theorem Val.szValue_any (t n : Int) (x : ByteArray) (l : Int) (hx : x.size ≤ 9223372036854775807) (h0 : 0 ≤ l) (h1 : l ≤ 1048576) (w : World) :
    Calls Tryz.prog 10 #[.agg #[.int .i64 t, .int .i64 n, .string x], .int .i64 l] w fun e w' => e = .returned (.int .i64 (Val.sz x l)) ∧ Below w.heap.size w w' := by
  unfold Val.sz
  by_cases h : l - (x.size : Int) < 0
  · rw [if_pos h]
    go_enter Tryz.func10, Tryz.ntmps10
    go_wp2
    go_ret
    exact ⟨rfl, (Below.refl _ w).alloc (Nat.le_refl _) _⟩
  · rw [if_neg h]
    go_enter Tryz.func10, Tryz.ntmps10
    go_wp2
    go_ret
    exact ⟨rfl, (Below.refl _ w).alloc (Nat.le_refl _) _⟩
end Go.Proofs.YtfelngigfmdedaaGreatDoor
