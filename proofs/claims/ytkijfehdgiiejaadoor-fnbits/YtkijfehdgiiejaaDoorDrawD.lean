import Derived.Test.YtkijfehdgiiejaaDoorDrawC
import Derived.Test.YtkijfehdgiiejaaDoorScanF
namespace Go.Proofs.YtkijfehdgiiejaaDoor
open Go.RowKit

theorem Mill.But.grown {R : Nat} {w w1 w2 : World} {row : Option Nat} (h : Mill.But R w w1) (hg : w1.grownBy w2 row) (hrow : ∀ j, row = some j → w.heap.size ≤ j) : Mill.But R w w2 :=
  ⟨hg.os.trans h.os, hg.tape.trans h.tape, hg.output.trans h.output, Nat.le_trans h.size hg.size, fun k hk hR => (hg.block k (Nat.lt_of_lt_of_le hk h.size) (fun e => by have := hrow k e.symm; omega)).trans (h.block k hk hR)⟩

set_option maxRecDepth 100000 in
set_option maxHeartbeats 2000000 in
theorem text_D {w w1 : World} {R p k : Nat} (hD : Mill.Dr R p k w w1) (hp : p + k < 10000000000) :
    Calls Tryd.prog 29 #[.pointer (some ⟨R, 0, none⟩)] w1 fun e w' => ∃ t : ByteArray, e = .returned (.string t) ∧ t.size ≤ 8 ∧ Mill.Dr R p (k + 8) w w' ∧ Mill.But R w1 w' := by
  obtain ⟨i0, hi, hz0, hz1, hz2⟩ := info_parts Tryd.infoByte
  go_enter Tryd.func29, Tryd.ntmps29
  go_wp2_with (first
    | (go_at_call 9; refine (pick_D _ (by assumption) (by omega) (by omega) (by omega)).mono ?_; rintro e w2 ⟨v, rfl, hv, hD2, hB2⟩)
    | (go_at_call 36; refine (path_D (by assumption) (by omega)).mono ?_; rintro e w3 ⟨t, rfl, ht, hD3, hB3⟩))
  any_goals (go_ret; exact ⟨_, rfl, by decide, hD2.mono (by omega), hB2⟩)
  · go_ret
    exact ⟨_, rfl, by omega, hD3.mono (by omega), hB2.trans hB3⟩
  · have hRlt := hD2.lt
    have hw2 := hD2.but.size
    have hsz2 := hB2.size
    go_loopw [4, 5] (fun o i wr => ∃ (j : Nat) (acc : List UInt8), i = .int .i64 (j : Int) ∧ j ≤ v + 1 ∧ acc.length = j ∧ wr.ownsRow w2.heap.size 5 1 o acc.length (Lib.byteCells acc) ∧ Mill.Dr R p (k + 2 + j) w wr ∧ Mill.But R w2 wr) (fun _ i _ => v + 1 - (intOf i).toNat)
    case atStart =>
      refine ⟨0, [], rfl, by omega, rfl, ?_, (hD2.alloc _).mono (by omega), (Mill.But.refl R w2).alloc _⟩
      exact World.ownsRow_made (base := w2.heap.size) (e := 5) (size := 1) w2 #[] 0 (Nat.le_refl _) (by decide) rfl
    case round =>
      obtain ⟨j, acc, rfl, hj, hacc, hown, hDr, hBr⟩ := hrel
      have hszr := hBr.size
      have hv5 : v < 5 := by omega
      by_cases hjv : j ≤ v
      · go_wp2_with (first
          | (go_at_call 9; refine (pick_D _ hDr (by omega) (by omega) (by omega)).mono ?_; rintro e w4 ⟨x, rfl, hx, hD4, hB4⟩; have own4 := Mill.own_but hown hRlt hB4; have hsz4 := hB4.size)
          | (at_builtin; refine wpList_append_own _ rfl _ _ 22 rfl w2.heap.size 5 i0 (.int .u8 0) 1 1 Tryd.underlying22 hi hz0 hz1 hz2 rfl (by decide) _ _ _ rfl (own4.alloc _) ⟨w4.heap.size, 0, none⟩ 1 1 [.int .u8 (97 + (x : Int))] rfl rfl (cell_one_new _ _ _) (fun x hx => by simp at hx; subst hx; rfl) (by unfold maxLen; omega) (by omega) (by simp; omega) ?_; intro v' w5 hown' hg5 hnil5))
        have hD5 := (hD4.alloc (.cells #[.int .u8 (97 + (x : Int))] 5)).grown (B := w2.heap.size) hg5 (fun j hj => (own4.lt _ hj).1) hRlt hw2
        have hB5 := ((hBr.trans hB4).alloc (.cells #[.int .u8 (97 + (x : Int))] 5)).grown hg5 (fun j hj => (own4.lt _ hj).1)
        go_roundw
        case rel =>
          refine ⟨j + 1, acc ++ [UInt8.ofNat (97 + (x : Int)).toNat], by go_num, by omega, by simp [hacc], ?_, hD5.mono (by omega), hB5⟩
          rw [Mill.byteCells_snoc, Mill.ofNat_toNat _ (by omega) (by omega)]; simpa using hown'
        case measure => simp [intOf]; omega
      · have hcv := Mill.conv_own (P := Tryd.prog) (src := 22) (dst := 9) Tryd.underlying22 Tryd.underlying5 Tryd.underlying9 hown
        go_wp2
        go_ret
        exact ⟨⟨acc.toArray⟩, rfl, by show acc.toArray.size ≤ 8; simp; omega, hDr.mono (by omega), Mill.But.trans ‹Mill.But R w1 _› (hB2.trans hBr)⟩
end Go.Proofs.YtkijfehdgiiejaaDoor
