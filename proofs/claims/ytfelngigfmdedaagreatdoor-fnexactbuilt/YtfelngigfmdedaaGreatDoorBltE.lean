import Derived.Test.YtfelngigfmdedaaGreatDoorBltD
import Derived.Test.YtfelngigfmdedaaGreatDoorValH
import Derived.Lib.Index
import Derived.Lib.ItoaMem
namespace Go.Proofs.YtfelngigfmdedaaGreatDoor
open Go.RowKit

theorem Val.decLen : ∀ (d n : Nat), n < 10 ^ (d + 1) → (Lib.decDigits n).length ≤ d + 1
  | 0, n, h => by rw [Lib.decDigits_one (by simpa using h)]; simp
  | d + 1, n, h => by
    by_cases h1 : n < 10
    · rw [Lib.decDigits_one h1]; simp
    · rw [Lib.decDigits, dif_neg h1]
      have := Val.decLen d (n / 10) (by rw [Nat.pow_succ] at h; omega)
      simp; omega
theorem Val.decLen20 (n : Nat) (h : n < 18446744073709551616) : (Lib.decDigits n).length ≤ 20 := Val.decLen 19 n (by omega)
theorem Val.arr_app (l : List UInt8) (b : UInt8) : (⟨l.toArray⟩ : ByteArray) ++ ⟨#[b]⟩ = ⟨(l ++ [b]).toArray⟩ := by
  apply ByteArray.ext
  simp
theorem Val.l1Decimal_any : ∀ (n : Nat) (_ : n < 18446744073709551616) (w : World),
    Calls Tryz.prog 25 #[.int .u64 (n : Int)] w fun e w' => e = .returned (.string ⟨(Lib.decDigits n).toArray⟩) ∧ Below w.heap.size w w' := by
  intro n
  induction n using Nat.strongRecOn with
  | _ n ih =>
    intro hn w
    by_cases h : n < 10
    · exact Val.l1Decimal_one n w h
    · have := Val.l1Decimal_step n w h hn ⟨(Lib.decDigits (n / 10)).toArray⟩ (by have := Val.decLen20 (n / 10) (by omega); simp [ByteArray.size]; omega) _ rfl (fun w => by have := ih (n / 10) (by omega) (by omega) w; simpa using this)
      rw [Lib.decDigits, dif_neg h, ← Val.arr_app]
      exact this
def Val.dec (t n : Int) : List UInt8 := if Val.neg t n = true then 45 :: Lib.decDigits (Val.abs t n).toNat else Lib.decDigits (Val.abs t n).toNat
theorem Val.abs_bd (t n : Int) : 0 ≤ Val.abs t n ∧ Val.abs t n < 18446744073709551616 := by
  unfold Val.abs; split <;> exact Val.u_bd _
theorem Val.l1Decimal_i (x : Int) (h0 : 0 ≤ x) (h1 : x < 18446744073709551616) (w : World) :
    Calls Tryz.prog 25 #[.int .u64 x] w fun e w' => e = .returned (.string ⟨(Lib.decDigits x.toNat).toArray⟩) ∧ Below w.heap.size w w' := by
  have := Val.l1Decimal_any x.toNat (by omega) w
  rwa [show ((x.toNat : Nat) : Int) = x by omega] at this
theorem Val.arr_cons (b : UInt8) (l : List UInt8) : (⟨#[b]⟩ : ByteArray) ++ ⟨l.toArray⟩ = ⟨(b :: l).toArray⟩ := by
  apply ByteArray.ext
  simp
set_option maxRecDepth 100000 in
set_option maxHeartbeats 1000000 in
theorem Val.l4Dec_any (t n : Int) (w : World) :
    Calls Tryz.prog 16 #[.int .i64 t, .int .i64 n] w fun e w' => e = .returned (.string ⟨(Val.dec t n).toArray⟩) ∧ Below w.heap.size w w' := by
  obtain ⟨x, HX⟩ : ∃ x, Hid (Val.abs t n = x) := ⟨_, (rfl : Val.abs t n = _)⟩
  obtain ⟨h0, h1⟩ := Val.abs_bd t n
  rw [HX.out] at h0 h1
  have hl := Val.decLen20 x.toNat (by omega)
  obtain ⟨ds, HD⟩ : ∃ ds : ByteArray, Hid (⟨(Lib.decDigits x.toNat).toArray⟩ = ds) := ⟨_, (rfl : _ = _)⟩
  have hds : ds.size ≤ 9223372036854775806 := by rw [← HD.out]; simp [ByteArray.size]; omega
  have HC : Hid (∀ w : World, Calls Tryz.prog 25 #[.int .u64 x] w fun e w' => e = .returned (.string ds) ∧ Below w.heap.size w w') := fun w => by
    have := Val.l1Decimal_i x h0 h1 w
    rw [HD.out] at this; exact this
  cases hb : Val.neg t n with
  | true =>
    have HR : Hid (⟨(Val.dec t n).toArray⟩ = (⟨#[45]⟩ ++ ds : ByteArray)) := by rw [Hid, Val.dec, if_pos hb, HX.out, ← HD.out, Val.arr_cons]
    rw [HR.out]
    go_enter Tryz.func16, Tryz.ntmps16
    go_wp2_with (first
      | (go_at_call 24; refine (Val.l4Abs_any _ _ _).mono ?_; rintro e w' ⟨rfl, rfl⟩; rw [hb, HX.out])
      | (go_at_call 25; refine (HC.out _).mono ?_; rintro e w1 ⟨rfl, hb1⟩))
    go_ret
    exact ⟨rfl, hb1⟩
  | false =>
    have HR : Hid ((⟨(Val.dec t n).toArray⟩ : ByteArray) = ds) := by rw [Hid, Val.dec, if_neg (by rw [hb]; simp), HX.out, ← HD.out]
    rw [HR.out]
    go_enter Tryz.func16, Tryz.ntmps16
    go_wp2_with (first
      | (go_at_call 24; refine (Val.l4Abs_any _ _ _).mono ?_; rintro e w' ⟨rfl, rfl⟩; rw [hb, HX.out])
      | (go_at_call 25; refine (HC.out _).mono ?_; rintro e w1 ⟨rfl, hb1⟩))
    go_ret
    exact ⟨rfl, hb1⟩
end Go.Proofs.YtfelngigfmdedaaGreatDoor
