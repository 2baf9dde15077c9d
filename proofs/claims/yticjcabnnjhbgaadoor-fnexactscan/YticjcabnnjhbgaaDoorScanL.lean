import Derived.Test.YticjcabnnjhbgaaDoorScanK
import Derived.Deep.RegionWith
namespace Go.Proofs.YticjcabnnjhbgaaDoor
open Go.RowKit

set_option maxRecDepth 100000 in
set_option maxHeartbeats 1000000 in
theorem eqToken_same (k y n a : Int) (t : ByteArray) (w : World) :
    Calls Tryd.prog 12 #[.agg #[.int .i64 k, .string t, .int .i64 y, .int .i64 n, .int .i64 a], .agg #[.int .i64 k, .string t, .int .i64 y, .int .i64 n, .int .i64 a]] w fun e w' => e = .returned (.bool true) ∧ Below w.heap.size w w' := by
  have h1 : (k != k) = false := by simp
  have h2 : (y != y) = false := by simp
  have h3 : (n != n) = false := by simp
  have h4 : (a != a) = false := by simp
  go_enter Tryd.func12, Tryd.ntmps12
  go_wp2
  all_goals go_ret
  all_goals exact ⟨rfl, ((Below.refl _ w).alloc (Nat.le_refl _) _).alloc (by simp) _⟩

set_option maxHeartbeats 400000 in
theorem eqFault_same (c a : Int) (w : World) :
    Calls Tryd.prog 7 #[.agg #[.int .i64 c, .int .i64 a], .agg #[.int .i64 c, .int .i64 a]] w fun e w' => e = .returned (.bool true) ∧ Below w.heap.size w w' := by
  go_enter Tryd.func7, Tryd.ntmps7
  go_wp2
  all_goals go_ret
  all_goals exact ⟨rfl, ((Below.refl _ w).alloc (Nat.le_refl _) _).alloc (by simp) _⟩

def Mill.digs : Nat → Int → ByteArray → ByteArray
  | 0, _, out => out
  | f + 1, k, out => if 0 < k then Mill.digs f (k / 10) (⟨#[UInt8.ofNat (48 + k % 10).toNat]⟩ ++ out) else out
def Mill.mark (k : Int) : ByteArray := ⟨#[109]⟩ ++ Mill.digs (k.toNat + 1) k ⟨#[]⟩
theorem Mill.digs_pos (f : Nat) (k : Int) (out : ByteArray) (h : 0 < k) : Mill.digs (f + 1) k out = Mill.digs f (k / 10) (⟨#[UInt8.ofNat (48 + k % 10).toNat]⟩ ++ out) := by rw [Mill.digs, if_pos h]
theorem Mill.digs_zero (f : Nat) (k : Int) (out : ByteArray) (h : ¬ 0 < k) : Mill.digs f k out = out := by
  cases f with
  | zero => rfl
  | succ f => rw [Mill.digs, if_neg h]

theorem Mill.size_one (x : UInt8) : (⟨#[x]⟩ : ByteArray).size = 1 := rfl
theorem Mill.size_app (a b : ByteArray) : (a ++ b).size = a.size + b.size := ByteArray.size_append
theorem Mill.conv_one (w : World) (x : Int) (h0 : 0 ≤ x) (h1 : x ≤ 255) :
    Sem.run Tryd.prog (convert 56 9 (.slice (some ⟨w.heap.size, 0, none⟩) 1 1)) (w.alloc (.cells #[.int .u8 x] 5)) = .ok (.string ⟨#[UInt8.ofNat x.toNat]⟩) (w.alloc (.cells #[.int .u8 x] 5)) := by
  refine run_convert_bytes_back (P := Tryd.prog) (w.alloc (.cells #[.int .u8 x] 5)) 56 9 5 ⟨w.heap.size, 0, none⟩ 1 [UInt8.ofNat x.toNat] Tryd.underlying56 Tryd.underlying5 Tryd.underlying9 ?_
  intro j hj
  have hj0 : j = 0 := by simp at hj; omega
  subst hj0
  refine Mill.cell_new w #[.int .u8 x] 5 0 _ ?_
  simp only [List.getElem_cons_zero, Mill.ofNat_toNat x h0 h1]; rfl

set_option maxRecDepth 100000 in
set_option maxHeartbeats 1000000 in
theorem markText_any (k : Int) (w : World) (h1 : 1 ≤ k) (h2 : k ≤ 1000000) :
    Calls Tryd.prog 13 #[.int .i64 k] w fun e w' => e = .returned (.string (Mill.mark k)) ∧ Below w.heap.size w w' := by
  go_enter Tryd.func13, Tryd.ntmps13
  go_wp2
  go_loopw [0, 3] (fun t v wr => ∃ (j : Int) (f : Nat) (out : ByteArray), 0 ≤ j ∧ j ≤ k ∧ j < f ∧ (out.size : Int) ≤ k - j ∧ t = .int .i64 j ∧ v = .string out ∧ Mill.digs f j out = Mill.digs (k.toNat + 1) k ⟨#[]⟩ ∧ Below w.heap.size w wr) (fun t _ _ => (intOf t).toNat)
  case atStart => exact ⟨k, k.toNat + 1, ⟨#[]⟩, by omega, by omega, by omega, by simp [ByteArray.size], rfl, rfl, rfl, Below.refl _ _⟩
  case round =>
    obtain ⟨j, f, out, hj0, hj1, hjf, hos, rfl, rfl, hd, hb⟩ := hrel
    by_cases hp : 0 < j
    · obtain ⟨f, rfl⟩ : ∃ f', f = f' + 1 := ⟨f - 1, by omega⟩
      have HD : Hid (Mill.digs f (j / 10) (⟨#[UInt8.ofNat (48 + j % 10).toNat]⟩ ++ out) = Mill.digs (k.toNat + 1) k ⟨#[]⟩) := by rw [Mill.digs_pos _ _ _ hp] at hd; exact hd
      clear hd
      have hcv := Mill.conv_one wr (48 + j % 10) (by omega) (by omega)
      go_wp2
      go_roundw
      case rel => exact ⟨j / 10, f, _, by omega, by omega, by omega, by rw [Mill.size_app, Mill.size_one]; omega, rfl, rfl, HD.out, hb.alloc hb.size _⟩
      case measure => simp [intOf]; omega
    · have HD : Hid (out = Mill.digs (k.toNat + 1) k ⟨#[]⟩) := by rw [Mill.digs_zero _ _ _ hp] at hd; exact hd
      clear hd
      have HM : Hid (Value.string (⟨#[109]⟩ ++ out) = .string (Mill.mark k)) := by rw [Hid, Mill.mark, ← HD.out]
      go_wp2
      go_ret
      exact ⟨Mill.ret_val HM.out, hb⟩

end Go.Proofs.YticjcabnnjhbgaaDoor
