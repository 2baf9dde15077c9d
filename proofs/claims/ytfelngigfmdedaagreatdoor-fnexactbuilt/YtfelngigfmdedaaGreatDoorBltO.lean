import Derived.Test.YtfelngigfmdedaaGreatDoorBltN
namespace Go.Proofs.YtfelngigfmdedaaGreatDoor
open Go.RowKit

def Val.szT (ns : List Val.V) (l : Int) : Int := if l - (ns.length : Int) < 0 then -1 else Val.szL ns (l - (ns.length : Int))
theorem Val.specBuilt_is (op : Int) (vs : List Val.V) (rt rn : Int) (rx ry : ByteArray) (h : Hid (Val.built op vs = (⟨rt, rn, rx⟩, ry))) (v : Value) (hl : vs.length ≤ 1048576) (w : World) (hV : Val.VsAt w v vs) :
    Calls Tryz.prog 5 #[.int .i64 op, v] w fun e w' => e = .returned (.tuple #[.agg #[.int .i64 rt, .int .i64 rn, .string rx], .string ry]) ∧ Below w.heap.size w w' := by
  have := Val.specBuilt_any op vs v hl w hV
  rw [h.out] at this
  exact this
theorem Val.implBuilt_is (op : Int) (vs : List Val.V) (rt rn : Int) (rx ry : ByteArray) (h : Hid (Val.built op vs = (⟨rt, rn, rx⟩, ry))) (v : Value) (hl : vs.length ≤ 1048576) (hr : Hid (∀ d ∈ vs, -9223372036854775808 ≤ d.n ∧ d.n ≤ 9223372036854775807)) (w : World) (hG : Val.GB w) (hV : Val.VsAt w v vs) :
    Calls Tryz.prog 7 #[.int .i64 op, v] w fun e w' => e = .returned (.tuple #[.agg #[.int .i64 rt, .int .i64 rn, .string rx], .string ry]) ∧ Below w.heap.size w w' := by
  have := Val.implBuilt_any op vs v hl hr.out w hG hV
  rw [h.out] at this
  exact this
set_option maxRecDepth 100000 in
set_option maxHeartbeats 4000000 in
theorem Val.lawBuilt (op : Int) (vs : List Val.V) (a : Option Addr) (cap : Nat) (w : World) (hr : ∀ d ∈ vs, -9223372036854775808 ≤ d.n ∧ d.n ≤ 9223372036854775807) (hn : vs.length ≤ 9223372036854775807) (hx : ∀ d ∈ vs, d.text.size ≤ 9223372036854775807) (hG : Val.GB w) (hV : Val.VsOff w (.slice a vs.length cap) vs) :
    Calls Tryz.prog 3 #[.int .i64 op, .slice a vs.length cap] w fun e w' => e = .returned (.bool true) ∧ Below w.heap.size w w' := by
  obtain ⟨q, HQ⟩ : ∃ q, Hid ((if (1048576 : Int) - (vs.length : Int) < 0 then -1 else Val.szL vs (1048576 - (vs.length : Int))) = q) := ⟨_, (rfl : _ = _)⟩
  have HX : Hid (∀ d ∈ vs, d.text.size ≤ 9223372036854775807) := hx
  have HRR : Hid (∀ d ∈ vs, -9223372036854775808 ≤ d.n ∧ d.n ≤ 9223372036854775807) := hr
  have HV : Hid (Val.VsOff w (.slice a vs.length cap) vs) := hV
  have HG : Hid (Val.GB w) := hG
  clear hx hr hV hG
  by_cases hq : q < 0
  · generalize hL : vs.length = L at *
    go_enter Tryz.func3, Tryz.ntmps3
    go_wp2_with (go_at_call 4; (refine (Val.szValueS_any vs _ 1048576 (by omega) (by omega) (by omega) HX.out w HV.out).mono ?_; rintro e w1 ⟨rfl, hb1⟩; rw [hL, HQ.out]))
    go_ret
    exact ⟨rfl, hb1⟩
  · have hl : vs.length ≤ 1048576 := by
      have h := HQ.out
      split at h <;> omega
    obtain ⟨rt, rn, rx, ry, HB⟩ : ∃ rt rn rx ry, Hid (Val.built op vs = (⟨rt, rn, rx⟩, ry)) := ⟨_, _, _, _, (rfl : Val.built op vs = _)⟩
    obtain ⟨L, HL⟩ : ∃ L, Hid (vs.length = L) := ⟨_, (rfl : vs.length = _)⟩
    rw [HL.out] at hl HQ HV hn ⊢
    go_enter Tryz.func3, Tryz.ntmps3
    go_wp2_with (first
      | (go_at_call 4; (refine (Val.szValueS_any vs _ 1048576 (by omega) (by omega) (by rw [HL.out]; omega) HX.out w HV.out).mono ?_; rintro e w1 ⟨rfl, hb1⟩; rw [HL.out, HQ.out]))
      | (go_at_call 6; (refine (Val.toValueS_any vs _ w1 (Val.vsOff_below HV.out hb1) (by rw [HL.out]; omega)).mono ?_; rintro e w2 ⟨v2, rfl, own2, hb2⟩; rw [HL.out] at own2; obtain ⟨a2, c2, hv2⟩ := Val.rowLen own2; subst hv2))
      | (go_at_call 5; (refine (Val.specBuilt_is op vs rt rn rx ry HB _ (by rw [HL.out]; omega) w2 (Val.vsAt_own (by rw [HL.out]; exact own2))).mono ?_; rintro e w3 ⟨rfl, hb3⟩)))
    have hw2 := Val.keepB hb1 hb2
    have hw3 := Val.keepB hw2 hb3
    have hw3a : Below w.heap.size w (w3.alloc (.cells #[.int .i64 rt, .int .i64 rn, .string rx] 25)) := hw3.alloc hw3.size _
    obtain ⟨⟨c0, c1, c2⟩, _, _, _⟩ := Val.row3' (w := w3) (a0 := .int .i64 rt) (a1 := .int .i64 rn) (a2 := .string rx) (t := 25) (Below.refl _ _)
    have hz3 : w3.heap.size < (w3.alloc (.cells #[.int .i64 rt, .int .i64 rn, .string rx] 25)).heap.size := by simp
    generalize hgen : w3.alloc (.cells #[.int .i64 rt, .int .i64 rn, .string rx] 25) = w3a at *
    clear own2 hgen
    go_wp2_with (first
      | (go_at_call 6; (refine (Val.toValueS_any vs _ w3a (Val.vsOff_below HV.out hw3a) (by rw [HL.out]; omega)).mono ?_; rintro e w4 ⟨v4, rfl, own4, hb4⟩; rw [HL.out] at own4; obtain ⟨a4, c4, hv4⟩ := Val.rowLen own4; subst hv4; have hw4 := Val.keepB hw3a hb4))
      | (go_at_call 7; (refine (Val.implBuilt_is op vs rt rn rx ry HB _ (by rw [HL.out]; omega) HRR w4 (HG.out.next hw4) (Val.vsAt_own (by rw [HL.out]; exact own4))).mono ?_; rintro e w5 ⟨rfl, hb5⟩; have hw5 := Val.keepB hw4 hb5; have own5 := Val.own_next own4 hb5; have d0 := (fun ob : Obj => ((((Val.keepB (Below.refl _ _) hb4).trans (hb5.mono (by have := hb4.size; omega))).alloc (by have := hb4.size; have := hb5.size; omega) ob).cell (p := ⟨w3.heap.size, 0, none⟩) hz3).trans c0); have d1 := (fun ob : Obj => ((((Val.keepB (Below.refl _ _) hb4).trans (hb5.mono (by have := hb4.size; omega))).alloc (by have := hb4.size; have := hb5.size; omega) ob).cell (p := ⟨w3.heap.size, 1, none⟩) hz3).trans c1); have d2 := (fun ob : Obj => ((((Val.keepB (Below.refl _ _) hb4).trans (hb5.mono (by have := hb4.size; omega))).alloc (by have := hb4.size; have := hb5.size; omega) ob).cell (p := ⟨w3.heap.size, 2, none⟩) hz3).trans c2)))
      | (go_at_call 8; (refine (Val.eqValue_same rt rn rx _).mono ?_; rintro e w6 ⟨rfl, hb6⟩; have hw6 : Below w.heap.size w w6 := (Val.keepB (hw5.alloc hw5.size _) hb6); have own6 := Val.own_next (own5.alloc _) hb6)))
    go_wp2_with (first
      | (go_at_call 6; (refine (Val.toValueS_any vs _ w6 (Val.vsOff_below HV.out hw6) (by rw [HL.out]; omega)).mono ?_; rintro e w7 ⟨v7, rfl, own7, hb7⟩; rw [HL.out] at own7; obtain ⟨a7, c7, hv7⟩ := Val.rowLen own7; subst hv7; have hw7 := Val.keepB hw6 hb7; have own8 := Val.own_next own6 hb7))
      | (go_at_call 9; (refine (Val.eqValueS_same vs _ _ w7 (Val.vsAt_own (by rw [HL.out]; exact own8)) (Val.vsAt_own (by rw [HL.out]; exact own7)) (by rw [HL.out]; omega)).mono ?_; rintro e w8 ⟨rfl, hb8⟩)))
    go_ret
    exact ⟨rfl, Val.keepB hw7 hb8⟩
end Go.Proofs.YtfelngigfmdedaaGreatDoor
