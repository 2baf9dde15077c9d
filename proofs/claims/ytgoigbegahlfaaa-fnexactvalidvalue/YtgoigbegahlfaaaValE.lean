import Derived.Test.YtgoigbegahlfaaaValC
namespace Go.Proofs.Ytgoigbegahlfaaa
open Go.RowKit

set_option maxRecDepth 100000 in
set_option maxHeartbeats 1000000 in
theorem Val.toValue_any (t n : Int) (x : ByteArray) (w : World) :
    Calls Try.prog 6 #[.agg #[.int .i64 t, .int .i64 n, .string x]] w fun e w' => e = .returned (.agg #[.int .i64 t, .int .i64 n, .string x]) ∧ Below w.heap.size w w' := by
  go_enter Try.func6, Try.ntmps6
  go_wp2
  exact bodyPost_ret (v := .agg #[.int .i64 t, .int .i64 n, .string x]) (by simp [results, Try.results6, go_sem]) rfl ⟨rfl, (((Below.refl _ w).alloc (Nat.le_refl _) _).alloc (by simp) _).alloc (by simp only [World.size_alloc]; omega) _⟩
def Val.sz (x : ByteArray) (l : Int) : Int := if l - (x.size : Int) < 0 then -1 else l - (x.size : Int)
set_option maxRecDepth 100000 in
set_option maxHeartbeats 1000000 in
theorem Val.szValue_any (t n : Int) (x : ByteArray) (l : Int) (hx : x.size ≤ 9223372036854775807) (h0 : 0 ≤ l) (h1 : l ≤ 1048576) (w : World) :
    Calls Try.prog 4 #[.agg #[.int .i64 t, .int .i64 n, .string x], .int .i64 l] w fun e w' => e = .returned (.int .i64 (Val.sz x l)) ∧ Below w.heap.size w w' := by
  unfold Val.sz
  by_cases h : l - (x.size : Int) < 0
  · rw [if_pos h]
    go_enter Try.func4, Try.ntmps4
    go_wp2
    go_ret
    exact ⟨rfl, (Below.refl _ w).alloc (Nat.le_refl _) _⟩
  · rw [if_neg h]
    go_enter Try.func4, Try.ntmps4
    go_wp2
    go_ret
    exact ⟨rfl, (Below.refl _ w).alloc (Nat.le_refl _) _⟩
end Go.Proofs.Ytgoigbegahlfaaa
