import Derived.Test.YtkijfehdgiiejaaDoorProg
import Derived.WalkKit
import Derived.ProofKit
import Derived.Below
import Derived.Deep.QuietTactic
import Derived.BigQuiet
import Derived.WalkSpells
import Derived.WalkLawsBesides
import Derived.KernelRfl
namespace Go.Proofs.YtkijfehdgiiejaaDoor
open Go.RowKit

attribute [local go_sem] Oper.semAt_some

def Mill.Bytes (w : World) (R : Nat) (v : Value) (n : Nat) : Prop :=
  (∃ a cap, v = .slice a 0 cap ∧ n = 0) ∨ ∃ b off cap, v = .slice (some ⟨b, off, none⟩) n cap ∧ b < R ∧ ∀ i, i < n → ∃ x : Int, 0 ≤ x ∧ x ≤ 255 ∧ w.cell? ⟨b, off + i, none⟩ = some (.int .u8 x)
theorem Mill.xor_i64 (a b : Nat) (ha : a < 1125899906842624) (hb : b < 1125899906842624) : bits .xor .i64 (a : Int) (b : Int) = ((a ^^^ b : Nat) : Int) := by
  have hx : a ^^^ b < 2 ^ 50 := Nat.xor_lt_two_pow (by omega) (by omega)
  have h1 : (BitVec.ofInt 64 (a : Int)).toNat = a := by
    rw [BitVec.ofInt_natCast, BitVec.toNat_ofNat]; exact Nat.mod_eq_of_lt (by omega)
  have h2 : (BitVec.ofInt 64 (b : Int)).toNat = b := by
    rw [BitVec.ofInt_natCast, BitVec.toNat_ofNat]; exact Nat.mod_eq_of_lt (by omega)
  show IntKind.i64.wrap ((BitVec.ofInt 64 (a : Int) ^^^ BitVec.ofInt 64 (b : Int)).toNat : Int) = _
  rw [BitVec.toNat_xor, h1, h2]
  generalize a ^^^ b = z at *
  simp [IntKind.wrap, IntKind.bits, IntKind.signed]
  omega
theorem Mill.xor64 (k : Nat) (hk : k < 1125899906842624) : bits .xor .i64 (k : Int) ((k : Int) / 64) = ((k ^^^ k / 64 : Nat) : Int) := by
  have d : ((k : Int) / 64) = ((k / 64 : Nat) : Int) := by omega
  rw [d]
  exact Mill.xor_i64 _ _ hk (by omega)
structure Mill.Rd (w : World) (R p : Nat) : Prop where
  box : ∃ v n, w.heap[R]? = some (.cells #[v, .int .i64 (p : Int)] 51 (0, 0)) ∧ n ≤ 2000 ∧ Mill.Bytes w R v n

set_option maxRecDepth 100000 in
set_option maxHeartbeats 1000000 in
theorem pick_any (w : World) (R p n : Nat) (hR : Mill.Rd w R p) (hp : p < 1099511627776) (h1 : 1 ≤ n) (h2 : n ≤ 1099511627776) :
    Calls Tryd.prog 9 #[.pointer (some ⟨R, 0, none⟩), .int .i64 (n : Int)] w fun e w' => ∃ v : Nat, e = .returned (.int .i64 (v : Int)) ∧ v < n ∧ w'.Alike (w.setCell ⟨R, 1, none⟩ (.int .i64 ((p : Int) + 1))) ∧ w'.tape = w.tape := by
  obtain ⟨v, m, hb, hm, hB⟩ := hR.box
  have c0 : w.cell? ⟨R, 0, none⟩ = some v := by simp [World.cell?, hb]
  have c1 : w.cell? ⟨R, 1, none⟩ = some (.int .i64 (p : Int)) := by simp [World.cell?, hb]
  have f0 : w.frozen? ⟨R, 0, none⟩ = false := by simp [World.frozen?, hb]
  have f1 : w.frozen? ⟨R, 1, none⟩ = false := by simp [World.frozen?, hb]
  rcases hB with ⟨a, cap, rfl, rfl⟩ | ⟨b, off, cap, rfl, hbR, hcs⟩
  · go_enter Tryd.func9, Tryd.ntmps9
    go_wp2
    go_ret
    exact ⟨0, rfl, by omega, ⟨rfl, rfl, rfl⟩, rfl⟩
  · by_cases hm0 : m = 0
    · subst hm0
      go_enter Tryd.func9, Tryd.ntmps9
      go_wp2
      go_ret
      exact ⟨0, rfl, by omega, ⟨rfl, rfl, rfl⟩, rfl⟩
    · have hme : ((m : Int) == 0) = false := by simpa using hm0
      have hcs' : ∀ i, i < m → ∃ x : Int, 0 ≤ x ∧ x ≤ 255 ∧ (w.setCell ⟨R, 1, none⟩ (.int .i64 ((p : Int) + 1))).cell? ⟨b, off + i, none⟩ = some (.int .u8 x) := fun i hi => by
        obtain ⟨x, h1, h2, h3⟩ := hcs i hi
        exact ⟨x, h1, h2, (World.cell?_setCell_other _ _ _ _ (by intro e; injection e with e1; omega)).trans h3⟩
      clear hcs hR
      by_cases hpm : p < m
      · obtain ⟨x, hx0, hx1, hx⟩ := hcs' p hpm
        clear hcs'
        go_enter Tryd.func9, Tryd.ntmps9
        have hv1 := Int.emod_nonneg x (show (n : Int) ≠ 0 by omega)
        have hv2 := Int.emod_lt_of_pos x (show (0 : Int) < (n : Int) by omega)
        go_wp2
        refine bodyPost_ret (v := .int .i64 (x % (n : Int))) (by simp [results, Tryd.f9, go_sem]) rfl ⟨(x % (n : Int)).toNat, by rw [Int.toNat_of_nonneg hv1], by omega, ⟨rfl, rfl, rfl⟩, rfl⟩
      · obtain ⟨x, hx0, hx1, hx⟩ := hcs' (p % m) (Nat.mod_lt _ (by omega))
        obtain ⟨y, hy0, hy1, hy⟩ := hcs' ((p * 7 + 3) % m) (Nat.mod_lt _ (by omega))
        clear hcs'
        have a0 := Int.emod_nonneg (p : Int) (show (m : Int) ≠ 0 by omega)
        have a1 := Int.emod_lt_of_pos (p : Int) (show (0 : Int) < (m : Int) by omega)
        have b0 := Int.emod_nonneg ((p : Int) * 7 + 3) (show (m : Int) ≠ 0 by omega)
        have b1 := Int.emod_lt_of_pos ((p : Int) * 7 + 3) (show (0 : Int) < (m : Int) by omega)
        have q0 : 0 ≤ (p : Int) / (m : Int) := Int.ediv_nonneg (by omega) (by omega)
        have q1 : (p : Int) / (m : Int) ≤ (p : Int) := Int.ediv_le_self _ (by omega)
        go_enter Tryd.func9, Tryd.ntmps9
        go_wp2
        go_region
        have X0 : 0 ≤ x * 131 + y * 1117 + (p : Int) * 29 + (p : Int) / (m : Int) * 53 := by omega
        have X1 : x * 131 + y * 1117 + (p : Int) * 29 + (p : Int) / (m : Int) * 53 < 1125899906842624 := by omega
        generalize x * 131 + y * 1117 + (p : Int) * 29 + (p : Int) / (m : Int) * 53 = X at *
        clear a0 a1 b0 b1 q0 q1 hx hy
        go_wp2
        obtain ⟨k, rfl⟩ := Int.eq_ofNat_of_zero_le X0
        have hk : k < 1125899906842624 := by omega
        refine bodyPost_ret (v := .int .i64 ((bits .xor .i64 (k : Int) ((k : Int) / 64)).tmod (n : Int))) (by simp [results, Tryd.f9, go_sem]) rfl ⟨(k ^^^ k / 64) % n, ?_, Nat.mod_lt _ (by omega), ⟨rfl, rfl, rfl⟩, rfl⟩
        rw [Mill.xor64 k hk, Int.ofNat_tmod]
end Go.Proofs.YtkijfehdgiiejaaDoor
