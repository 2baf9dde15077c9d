import Derived.Test.YtgoigbegahlfaaaDoorValC
namespace Go.Proofs.YtgoigbegahlfaaaDoor
open Go.RowKit

def Val.convert (x : Val.V) (to : Int) : Val.V × ByteArray := if Val.valid x = true ∧ Val.isInt x.type = true ∧ Val.isInt to = true then (Val.num to x.n, ⟨#[]⟩) else (Val.zero, Val.typeW)

set_option maxRecDepth 100000 in
set_option maxHeartbeats 1000000 in
theorem Val.convert_any (t n : Int) (x : ByteArray) (to : Int) (w : World) :
    Calls Tryd.prog 10 #[.agg #[.int .i64 t, .int .i64 n, .string x], .int .i64 to] w fun e w' => e = .returned (Val.ansV (Val.convert ⟨t, n, x⟩ to)) ∧ Below w.heap.size w w' := by
  by_cases hc : Val.valid ⟨t, n, x⟩ = true ∧ Val.isInt t = true ∧ Val.isInt to = true
  · have HF : Hid (Val.convert ⟨t, n, x⟩ to = (Val.num to n, ⟨#[]⟩)) := by rw [Hid, Val.convert, if_pos hc]
    obtain ⟨hv, hi, ht⟩ := hc
    have HV : Hid (Val.valid ⟨t, n, x⟩ = true) := hv
    clear hv
    go_enter Tryd.func10, Tryd.ntmps10
    go_wp2_with (first
      | (go_at_call 12; (refine (Val.valid_is true ⟨t, n, x⟩ HV _).mono ?_; rintro e w1 ⟨rfl, hb1⟩; simp only [World.size_alloc] at hb1; obtain ⟨⟨⟨a0, a1, a2⟩, f0, f1, f2⟩, ⟨b0, b1, b2⟩, k0, k1, k2⟩ := Val.spill2 hb1))
      | (go_at_call 18; (refine (Val.l1Integer_any _ _).mono ?_; rintro e w' ⟨rfl, rfl⟩; first | rw [hi] | rw [ht]))
      | (go_at_call 14; go_loud (refine (Val.l4Num_w _ _ _).mono ?_; rintro e w2 ⟨rfl, hb2⟩; obtain ⟨⟨⟨c0, c1, c2⟩, g0, g1, g2⟩, ⟨d0, d1, d2⟩, l0, l1, l2⟩ := Val.spill2 (hb1.trans (hb2.mono (by have := hb1.size; simpa using this))))))
    rw [HF.out]
    exact bodyPost_ret (v := Val.ansV (Val.num to n, ⟨#[]⟩)) (by simp [results, Tryd.results10, go_sem, d0, d1, d2, Val.ansV, Val.v, Val.num]) rfl ⟨rfl, Val.set3 (Val.alloc2 (hb1.trans (hb2.mono (by have := hb1.size; simpa using this)))) _ _ _⟩
  · have HF : Hid (Val.convert ⟨t, n, x⟩ to = (Val.zero, Val.typeW)) := by rw [Hid, Val.convert, if_neg hc]
    rw [HF.out]
    obtain ⟨v, HV⟩ : ∃ v, Hid (Val.valid ⟨t, n, x⟩ = v) := ⟨_, (rfl : Val.valid ⟨t, n, x⟩ = _)⟩
    rw [HV.out] at hc
    cases v with
    | false =>
      go_enter Tryd.func10, Tryd.ntmps10
      go_wp2_with (first
        | (go_at_call 12; (refine (Val.valid_is false ⟨t, n, x⟩ HV _).mono ?_; rintro e w1 ⟨rfl, hb1⟩; simp only [World.size_alloc] at hb1; obtain ⟨⟨⟨a0, a1, a2⟩, f0, f1, f2⟩, ⟨b0, b1, b2⟩, k0, k1, k2⟩ := Val.spill2 hb1)))
      exact bodyPost_ret (v := Val.ansV (Val.zero, Val.typeW)) (by simp [results, Tryd.results10, go_sem, b0, b1, b2, Val.ansV, Val.v, Val.zero, Val.typeW]) rfl ⟨rfl, Val.set3 (Val.alloc2 hb1) _ _ _⟩
    | true =>
      cases hi : Val.isInt t with
      | false =>
        go_enter Tryd.func10, Tryd.ntmps10
        go_wp2_with (first
          | (go_at_call 12; (refine (Val.valid_is true ⟨t, n, x⟩ HV _).mono ?_; rintro e w1 ⟨rfl, hb1⟩; simp only [World.size_alloc] at hb1; obtain ⟨⟨⟨a0, a1, a2⟩, f0, f1, f2⟩, ⟨b0, b1, b2⟩, k0, k1, k2⟩ := Val.spill2 hb1))
          | (go_at_call 18; (refine (Val.l1Integer_any _ _).mono ?_; rintro e w' ⟨rfl, rfl⟩; rw [hi])))
        exact bodyPost_ret (v := Val.ansV (Val.zero, Val.typeW)) (by simp [results, Tryd.results10, go_sem, b0, b1, b2, Val.ansV, Val.v, Val.zero, Val.typeW]) rfl ⟨rfl, Val.set3 (Val.alloc2 hb1) _ _ _⟩
      | true =>
        have ht : Val.isInt to = false := by
          cases h : Val.isInt to with
          | false => rfl
          | true => exact absurd ⟨rfl, hi, h⟩ hc
        go_enter Tryd.func10, Tryd.ntmps10
        go_wp2_with (first
          | (go_at_call 12; (refine (Val.valid_is true ⟨t, n, x⟩ HV _).mono ?_; rintro e w1 ⟨rfl, hb1⟩; simp only [World.size_alloc] at hb1; obtain ⟨⟨⟨a0, a1, a2⟩, f0, f1, f2⟩, ⟨b0, b1, b2⟩, k0, k1, k2⟩ := Val.spill2 hb1))
          | (go_at_call 18; (refine (Val.l1Integer_any _ _).mono ?_; rintro e w' ⟨rfl, rfl⟩; first | rw [hi] | rw [ht])))
        exact bodyPost_ret (v := Val.ansV (Val.zero, Val.typeW)) (by simp [results, Tryd.results10, go_sem, b0, b1, b2, Val.ansV, Val.v, Val.zero, Val.typeW]) rfl ⟨rfl, Val.set3 (Val.alloc2 hb1) _ _ _⟩
end Go.Proofs.YtgoigbegahlfaaaDoor
