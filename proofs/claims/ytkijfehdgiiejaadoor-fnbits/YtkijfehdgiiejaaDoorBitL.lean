import Derived.Test.YtkijfehdgiiejaaDoorBitG
import Derived.Deep.Cut
import Derived.Deep.RegionHeld3
namespace Go.Proofs.YtkijfehdgiiejaaDoor
open Go.RowKit

theorem Val.empty_of (x : ByteArray) (h : x.toList.isEmpty = true) : x = ⟨#[]⟩ := by
  rw [ByteArray.toList_eq] at h
  obtain ⟨d⟩ := x
  simp at h
  rw [h]
theorem Val.main_of {t a : Int} {x : ByteArray} (h : Val.valid ⟨t, a, x⟩ = true) (ht : 3 ≤ t) : Val.isInt t = true ∧ a = Val.into t (Val.u a) ∧ x = ⟨#[]⟩ := by
  rw [Val.valid, if_neg (by simp only; omega), if_neg (by simp only; omega)] at h
  simp only [Bool.and_eq_true, decide_eq_true_eq] at h
  exact ⟨h.1.1, h.2, Val.empty_of x h.1.2⟩
theorem Val.sh17_1 (t a : Int) (k : Nat) (hk : k ≤ 69) (ht : Val.isInt t = true) (ha : a = Val.into t (Val.u a)) (w : World) :
    Calls Tryd.prog 7 #[.int .i64 17, .agg #[.int .i64 t, .int .i64 a, .string ⟨#[]⟩], .agg #[.int .i64 t, .int .i64 (k : Int), .string ⟨#[]⟩]] w fun e w' => e = .returned (.tuple #[.agg #[.int .i64 t, .int .i64 (Val.into t (Val.u (a * 2 ^ k))), .string ⟨#[]⟩], .string ⟨#[]⟩]) ∧ Below w.heap.size w w' := Val.implBin17 t a k (by omega) ht ha w
theorem Val.sh17_2 (t a : Int) (k : Nat) (_hk : k ≤ 69) (ht : Val.isInt t = true) (_ha : a = Val.into t (Val.u a)) (w : World) :
    Calls Tryd.prog 7 #[.int .i64 17, .agg #[.int .i64 t, .int .i64 (Val.into t (Val.u (a * 2 ^ k))), .string ⟨#[]⟩], .agg #[.int .i64 t, .int .i64 1, .string ⟨#[]⟩]] w fun e w' => e = .returned (.tuple #[.agg #[.int .i64 t, .int .i64 (Val.into t (Val.u (a * 2 ^ (k + 1)))), .string ⟨#[]⟩], .string ⟨#[]⟩]) ∧ Below w.heap.size w w' := by
  have h := Val.implBin17 t (Val.into t (Val.u (a * 2 ^ k))) 1 (by omega) ht (Val.into_idem t _ ht) w
  rw [Val.shl_next t a k ht] at h
  exact h
theorem Val.sh17_3 (t a : Int) (k : Nat) (hk : k ≤ 69) (ht : Val.isInt t = true) (ha : a = Val.into t (Val.u a)) (w : World) :
    Calls Tryd.prog 7 #[.int .i64 17, .agg #[.int .i64 t, .int .i64 a, .string ⟨#[]⟩], .agg #[.int .i64 t, .int .i64 ((k : Int) + 1), .string ⟨#[]⟩]] w fun e w' => e = .returned (.tuple #[.agg #[.int .i64 t, .int .i64 (Val.into t (Val.u (a * 2 ^ (k + 1)))), .string ⟨#[]⟩], .string ⟨#[]⟩]) ∧ Below w.heap.size w w' := by
  have h := Val.implBin17 t a (k + 1) (by omega) ht ha w
  rw [Int.natCast_add] at h
  exact h
theorem Val.sh18_1 (t a : Int) (k : Nat) (hk : k ≤ 69) (ht : Val.isInt t = true) (ha : a = Val.into t (Val.u a)) (w : World) :
    Calls Tryd.prog 7 #[.int .i64 18, .agg #[.int .i64 t, .int .i64 a, .string ⟨#[]⟩], .agg #[.int .i64 t, .int .i64 (k : Int), .string ⟨#[]⟩]] w fun e w' => e = .returned (.tuple #[.agg #[.int .i64 t, .int .i64 (Val.shr t a k), .string ⟨#[]⟩], .string ⟨#[]⟩]) ∧ Below w.heap.size w w' := Val.implBin18 t a k (by omega) ht ha w
theorem Val.sh18_2 (t a : Int) (k : Nat) (_hk : k ≤ 69) (ht : Val.isInt t = true) (ha : a = Val.into t (Val.u a)) (w : World) :
    Calls Tryd.prog 7 #[.int .i64 18, .agg #[.int .i64 t, .int .i64 (Val.shr t a k), .string ⟨#[]⟩], .agg #[.int .i64 t, .int .i64 1, .string ⟨#[]⟩]] w fun e w' => e = .returned (.tuple #[.agg #[.int .i64 t, .int .i64 (Val.shr t a (k + 1)), .string ⟨#[]⟩], .string ⟨#[]⟩]) ∧ Below w.heap.size w w' := by
  have h := Val.implBin18 t (Val.shr t a k) 1 (by omega) ht (Val.shr_valid t a k ht ha) w
  rw [Val.shr_next t a k] at h
  exact h
theorem Val.sh18_3 (t a : Int) (k : Nat) (hk : k ≤ 69) (ht : Val.isInt t = true) (ha : a = Val.into t (Val.u a)) (w : World) :
    Calls Tryd.prog 7 #[.int .i64 18, .agg #[.int .i64 t, .int .i64 a, .string ⟨#[]⟩], .agg #[.int .i64 t, .int .i64 ((k : Int) + 1), .string ⟨#[]⟩]] w fun e w' => e = .returned (.tuple #[.agg #[.int .i64 t, .int .i64 (Val.shr t a (k + 1)), .string ⟨#[]⟩], .string ⟨#[]⟩]) ∧ Below w.heap.size w w' := by
  have h := Val.implBin18 t a (k + 1) (by omega) ht ha w
  rw [Int.natCast_add] at h
  exact h
set_option maxRecDepth 100000 in
set_option maxHeartbeats 4000000 in
theorem Val.lawBits (a' : Option Addr) (n c : Nat) (w : World) (hB : Mill.Bytes w w.heap.size (.slice a' n c) n) (hnc : n ≤ c) (hn0 : n ≤ 9223372036854775807) :
    Calls Tryd.prog 3 #[.slice a' n c] w fun e w' => e = .returned (.bool true) ∧ Below w.heap.size w w' := by
  by_cases hn : n ≤ 1048576
  · go_enter Tryd.func3, Tryd.ntmps3
    go_upto_region 4 with (first
      | (go_at_call 4; refine (drawBinary_v _ _ n hB (by rintro _ _ _ ⟨⟩; exact hnc) hn).mono ?_; rintro e w1 ⟨op, X, Y, rfl, hX, hY, hb1⟩))
    obtain ⟨t, a, x⟩ := X
    obtain ⟨s, b, y⟩ := Y
    have hA : Val.Is w1.heap.size ⟨t, a, x⟩ ((w1.alloc (.cells #[.int .i64 t, .int .i64 a, .string x] 24)).alloc (.cells #[.int .i64 s, .int .i64 b, .string y] 24)) := (Val.Is.fresh ⟨t, a, x⟩ w1).alloc _
    have hBk : Val.Is (w1.heap.size + 1) ⟨s, b, y⟩ ((w1.alloc (.cells #[.int .i64 t, .int .i64 a, .string x] 24)).alloc (.cells #[.int .i64 s, .int .i64 b, .string y] 24)) := by
      have := Val.Is.fresh ⟨s, b, y⟩ (w1.alloc (.cells #[.int .i64 t, .int .i64 a, .string x] 24))
      rw [World.size_alloc] at this
      exact this
    have hW : Below w.heap.size w ((w1.alloc (.cells #[.int .i64 t, .int .i64 a, .string x] 24)).alloc (.cells #[.int .i64 s, .int .i64 b, .string y] 24)) := (hb1.alloc hb1.size _).alloc (by have := hb1.size; rw [World.size_alloc]; omega) _
    generalize ((w1.alloc (.cells #[.int .i64 t, .int .i64 a, .string x] 24)).alloc (.cells #[.int .i64 s, .int .i64 b, .string y] 24)) = W at hA hBk hW ⊢
    generalize w1.heap.size + 1 = gb at hBk ⊢
    generalize w1.heap.size = ga at hA ⊢
    clear hb1 hB
    obtain ⟨vx, HX⟩ : ∃ vx, Hid (Val.valid ⟨t, a, x⟩ = vx) := ⟨_, (rfl : Val.valid ⟨t, a, x⟩ = _)⟩
    obtain ⟨vy, HY⟩ : ∃ vy, Hid (Val.valid ⟨s, b, y⟩ = vy) := ⟨_, (rfl : Val.valid ⟨s, b, y⟩ = _)⟩
    by_cases hmain : vx = true ∧ vy = true ∧ t = s ∧ 3 ≤ t
    · obtain ⟨rfl, rfl, rfl, h3⟩ := hmain
      obtain ⟨ht, ha, rfl⟩ := Val.main_of HX.out h3
      obtain ⟨_, hb, rfl⟩ := Val.main_of HY.out h3
      have hne : (t != t) = false := by simp
      have hlt : decide (t < 3) = false := decide_eq_false (by omega)
      have HT : Hid (Val.isInt t = true) := ht
      have HA : Hid (a = Val.into t (Val.u a)) := ha
      have HB : Hid (b = Val.into t (Val.u b)) := hb
      clear ht ha hb hX hY
      obtain ⟨⟨a0, a1, a2⟩, f0, f1, f2⟩ := hA.cells
      obtain ⟨⟨b0, b1, b2⟩, k0, k1, k2⟩ := hBk.cells
      go_upto_region 6 with (first
        | (go_at_call 5; refine (Val.specValid_b true ⟨_, _, _⟩ (by assumption) _).mono ?_; rintro e w3 ⟨rfl, hb3⟩
           have hA := hA.below hb3
           have hBk := hBk.below hb3
           have hW := hW.trans (hb3.mono hW.size)
           obtain ⟨⟨a0, a1, a2⟩, f0, f1, f2⟩ := hA.cells
           obtain ⟨⟨b0, b1, b2⟩, k0, k1, k2⟩ := hBk.cells))
      go_upto_region 7 with (first
        | (go_at_call 7; refine (Val.implBin11 t a b HT.out HA.out HB.out _).mono ?_; rintro e wo' ⟨rfl, hwo⟩))
      have hA := (hA.below hwo).alloc (.cells #[.int .i64 t, .int .i64 (Val.into t (Val.u (Val.bor a b))), .string ⟨#[]⟩] 24)
      have hBk := (hBk.below hwo).alloc (.cells #[.int .i64 t, .int .i64 (Val.into t (Val.u (Val.bor a b))), .string ⟨#[]⟩] 24)
      have hO : Val.Is wo'.heap.size ⟨t, Val.into t (Val.u (Val.bor a b)), ⟨#[]⟩⟩ (wo'.alloc (.cells #[.int .i64 t, .int .i64 (Val.into t (Val.u (Val.bor a b))), .string ⟨#[]⟩] 24)) := Val.Is.fresh ⟨t, Val.into t (Val.u (Val.bor a b)), ⟨#[]⟩⟩ wo'
      have hW := (hW.trans (hwo.mono hW.size)).alloc (by have := hW.size; have := hwo.size; omega) (.cells #[.int .i64 t, .int .i64 (Val.into t (Val.u (Val.bor a b))), .string ⟨#[]⟩] 24)
      generalize wo'.alloc (.cells #[.int .i64 t, .int .i64 (Val.into t (Val.u (Val.bor a b))), .string ⟨#[]⟩] 24) = wo at hA hBk hO hW ⊢
      generalize wo'.heap.size = go at hO ⊢
      obtain ⟨⟨a0, a1, a2⟩, a3, a4, a5⟩ := hA.cells
      obtain ⟨⟨b0, b1, b2⟩, b3, b4, b5⟩ := hBk.cells
      go_upto_region 8 with (first
        | (go_at_call 7; refine (Val.implBin16 t a b HT.out HA.out HB.out _).mono ?_; rintro e wn' ⟨rfl, hwn⟩))
      have hA := (hA.below hwn).alloc (.cells #[.int .i64 t, .int .i64 (Val.into t (Val.u (Val.band a b))), .string ⟨#[]⟩] 24)
      have hBk := (hBk.below hwn).alloc (.cells #[.int .i64 t, .int .i64 (Val.into t (Val.u (Val.band a b))), .string ⟨#[]⟩] 24)
      have hO := (hO.below hwn).alloc (.cells #[.int .i64 t, .int .i64 (Val.into t (Val.u (Val.band a b))), .string ⟨#[]⟩] 24)
      have hN : Val.Is wn'.heap.size ⟨t, Val.into t (Val.u (Val.band a b)), ⟨#[]⟩⟩ (wn'.alloc (.cells #[.int .i64 t, .int .i64 (Val.into t (Val.u (Val.band a b))), .string ⟨#[]⟩] 24)) := Val.Is.fresh ⟨t, Val.into t (Val.u (Val.band a b)), ⟨#[]⟩⟩ wn'
      have hW := (hW.trans (hwn.mono hW.size)).alloc (by have := hW.size; have := hwn.size; omega) (.cells #[.int .i64 t, .int .i64 (Val.into t (Val.u (Val.band a b))), .string ⟨#[]⟩] 24)
      generalize wn'.alloc (.cells #[.int .i64 t, .int .i64 (Val.into t (Val.u (Val.band a b))), .string ⟨#[]⟩] 24) = wn at hA hBk hO hN hW ⊢
      generalize wn'.heap.size = gn at hN ⊢
      obtain ⟨⟨a0, a1, a2⟩, a3, a4, a5⟩ := hA.cells
      obtain ⟨⟨b0, b1, b2⟩, b3, b4, b5⟩ := hBk.cells
      go_upto_region 9 with (first
        | (go_at_call 7; refine (Val.implBin12 t a b HT.out HA.out HB.out _).mono ?_; rintro e wx' ⟨rfl, hwx⟩))
      have hA := (hA.below hwx).alloc (.cells #[.int .i64 t, .int .i64 (Val.into t (Val.u (Val.bxor a b))), .string ⟨#[]⟩] 24)
      have hBk := (hBk.below hwx).alloc (.cells #[.int .i64 t, .int .i64 (Val.into t (Val.u (Val.bxor a b))), .string ⟨#[]⟩] 24)
      have hO := (hO.below hwx).alloc (.cells #[.int .i64 t, .int .i64 (Val.into t (Val.u (Val.bxor a b))), .string ⟨#[]⟩] 24)
      have hN := (hN.below hwx).alloc (.cells #[.int .i64 t, .int .i64 (Val.into t (Val.u (Val.bxor a b))), .string ⟨#[]⟩] 24)
      have hX : Val.Is wx'.heap.size ⟨t, Val.into t (Val.u (Val.bxor a b)), ⟨#[]⟩⟩ (wx'.alloc (.cells #[.int .i64 t, .int .i64 (Val.into t (Val.u (Val.bxor a b))), .string ⟨#[]⟩] 24)) := Val.Is.fresh ⟨t, Val.into t (Val.u (Val.bxor a b)), ⟨#[]⟩⟩ wx'
      have hW := (hW.trans (hwx.mono hW.size)).alloc (by have := hW.size; have := hwx.size; omega) (.cells #[.int .i64 t, .int .i64 (Val.into t (Val.u (Val.bxor a b))), .string ⟨#[]⟩] 24)
      generalize wx'.alloc (.cells #[.int .i64 t, .int .i64 (Val.into t (Val.u (Val.bxor a b))), .string ⟨#[]⟩] 24) = wx at hA hBk hO hN hX hW ⊢
      generalize wx'.heap.size = gx at hX ⊢
      obtain ⟨⟨n0, n1, n2⟩, n3, n4, n5⟩ := hN.cells
      obtain ⟨⟨x0, x1, x2⟩, x3, x4, x5⟩ := hX.cells
      have hsum : Val.into t (Val.u (Val.into t (Val.u (Val.band a b)) + Val.into t (Val.u (Val.bxor a b)))) = Val.into t (Val.u (Val.bor a b)) := by rw [Val.into_add t _ _ HT.out, Val.bor_sum]
      go_upto_region 10 with (first
        | (go_at_call 7; refine (Val.implBin9 t (Val.into t (Val.u (Val.band a b))) (Val.into t (Val.u (Val.bxor a b))) HT.out (Val.into_idem t _ HT.out) (Val.into_idem t _ HT.out) _).mono ?_; rintro e ws' ⟨rfl, hws⟩; rw [hsum]))
      have hA := (hA.below hws).alloc (.cells #[.int .i64 t, .int .i64 (Val.into t (Val.u (Val.bor a b))), .string ⟨#[]⟩] 24)
      have hBk := (hBk.below hws).alloc (.cells #[.int .i64 t, .int .i64 (Val.into t (Val.u (Val.bor a b))), .string ⟨#[]⟩] 24)
      have hO := (hO.below hws).alloc (.cells #[.int .i64 t, .int .i64 (Val.into t (Val.u (Val.bor a b))), .string ⟨#[]⟩] 24)
      have hS : Val.Is ws'.heap.size ⟨t, Val.into t (Val.u (Val.bor a b)), ⟨#[]⟩⟩ (ws'.alloc (.cells #[.int .i64 t, .int .i64 (Val.into t (Val.u (Val.bor a b))), .string ⟨#[]⟩] 24)) := Val.Is.fresh ⟨t, Val.into t (Val.u (Val.bor a b)), ⟨#[]⟩⟩ ws'
      have hW := (hW.trans (hws.mono hW.size)).alloc (by have := hW.size; have := hws.size; omega) (.cells #[.int .i64 t, .int .i64 (Val.into t (Val.u (Val.bor a b))), .string ⟨#[]⟩] 24)
      generalize ws'.alloc (.cells #[.int .i64 t, .int .i64 (Val.into t (Val.u (Val.bor a b))), .string ⟨#[]⟩] 24) = ws at hA hBk hO hS hW ⊢
      generalize ws'.heap.size = gs at hS ⊢
      obtain ⟨⟨o0, o1, o2⟩, o3, o4, o5⟩ := hO.cells
      obtain ⟨⟨s0, s1, s2⟩, s3, s4, s5⟩ := hS.cells
      obtain ⟨⟨a0, a1, a2⟩, a3, a4, a5⟩ := hA.cells
      have hcat : ((⟨#[]⟩ : ByteArray) ++ ⟨#[]⟩) = ⟨#[]⟩ := rfl
      have hnil : (⟨#[]⟩ : ByteArray).toList = [] := by rw [ByteArray.toList_eq]
      have e70 : ((n : Int) % 70) = ((n % 70 : Nat) : Int) := by omega
      have hk : n % 70 ≤ 69 := by omega
      go_upto_region 13 with fail
      rw [e70]
      generalize n % 70 = k at hk ⊢
      clear e70 hO hN hX hS hBk
      go_wp2
      go_loopw [15] (fun tv wr => ∃ j : Int, tv = .int .i64 j ∧ (j = 17 ∨ j = 18 ∨ j = 19) ∧ Below w.heap.size w wr ∧ Val.Is ga ⟨t, a, ⟨#[]⟩⟩ wr) (fun tv _ => (19 - intOf tv).toNat)
      case atStart => exact ⟨17, rfl, .inl rfl, hW, hA⟩
      case round =>
        obtain ⟨j, rfl, hj, hW, hA⟩ := hrel
        obtain ⟨⟨a0, a1, a2⟩, a3, a4, a5⟩ := hA.cells
        rcases hj with rfl | rfl | rfl
        · go_upto_region 16 with fail
          go_upto_region 17 with (first
            | (go_at_call 7; refine (Val.sh17_1 t a k hk HT.out HA.out _).mono ?_; rintro e wp' ⟨rfl, hwp⟩))
          have hA := (hA.below hwp).alloc (.cells #[.int .i64 t, .int .i64 (Val.into t (Val.u (a * 2 ^ k))), .string ⟨#[]⟩] 24)
          have hP : Val.Is wp'.heap.size ⟨t, Val.into t (Val.u (a * 2 ^ k)), ⟨#[]⟩⟩ (wp'.alloc (.cells #[.int .i64 t, .int .i64 (Val.into t (Val.u (a * 2 ^ k))), .string ⟨#[]⟩] 24)) := Val.Is.fresh ⟨t, Val.into t (Val.u (a * 2 ^ k)), ⟨#[]⟩⟩ wp'
          have hW := (hW.trans (hwp.mono hW.size)).alloc (by have := hW.size; have := hwp.size; omega) (.cells #[.int .i64 t, .int .i64 (Val.into t (Val.u (a * 2 ^ k))), .string ⟨#[]⟩] 24)
          generalize wp'.alloc (.cells #[.int .i64 t, .int .i64 (Val.into t (Val.u (a * 2 ^ k))), .string ⟨#[]⟩] 24) = wp at hA hP hW ⊢
          generalize wp'.heap.size = gp at hP ⊢
          obtain ⟨⟨a0, a1, a2⟩, a3, a4, a5⟩ := hA.cells
          obtain ⟨⟨p0, p1, p2⟩, p3, p4, p5⟩ := hP.cells
          go_upto_region 18 with (first
            | (go_at_call 7; refine (Val.sh17_2 t a k hk HT.out HA.out _).mono ?_; rintro e wq' ⟨rfl, hwq⟩))
          have hA := (hA.below hwq).alloc (.cells #[.int .i64 t, .int .i64 (Val.into t (Val.u (a * 2 ^ (k + 1)))), .string ⟨#[]⟩] 24)
          have hP := (hP.below hwq).alloc (.cells #[.int .i64 t, .int .i64 (Val.into t (Val.u (a * 2 ^ (k + 1)))), .string ⟨#[]⟩] 24)
          have hQ : Val.Is wq'.heap.size ⟨t, Val.into t (Val.u (a * 2 ^ (k + 1))), ⟨#[]⟩⟩ (wq'.alloc (.cells #[.int .i64 t, .int .i64 (Val.into t (Val.u (a * 2 ^ (k + 1)))), .string ⟨#[]⟩] 24)) := Val.Is.fresh ⟨t, Val.into t (Val.u (a * 2 ^ (k + 1))), ⟨#[]⟩⟩ wq'
          have hW := (hW.trans (hwq.mono hW.size)).alloc (by have := hW.size; have := hwq.size; omega) (.cells #[.int .i64 t, .int .i64 (Val.into t (Val.u (a * 2 ^ (k + 1)))), .string ⟨#[]⟩] 24)
          generalize wq'.alloc (.cells #[.int .i64 t, .int .i64 (Val.into t (Val.u (a * 2 ^ (k + 1)))), .string ⟨#[]⟩] 24) = wq at hA hP hQ hW ⊢
          generalize wq'.heap.size = gq at hQ ⊢
          obtain ⟨⟨a0, a1, a2⟩, a3, a4, a5⟩ := hA.cells
          go_upto_region 19 with (first
            | (go_at_call 7; refine (Val.sh17_3 t a k hk HT.out HA.out _).mono ?_; rintro e wr3' ⟨rfl, hwr3⟩))
          have hA := (hA.below hwr3).alloc (.cells #[.int .i64 t, .int .i64 (Val.into t (Val.u (a * 2 ^ (k + 1)))), .string ⟨#[]⟩] 24)
          have hQ := (hQ.below hwr3).alloc (.cells #[.int .i64 t, .int .i64 (Val.into t (Val.u (a * 2 ^ (k + 1)))), .string ⟨#[]⟩] 24)
          have hR : Val.Is wr3'.heap.size ⟨t, Val.into t (Val.u (a * 2 ^ (k + 1))), ⟨#[]⟩⟩ (wr3'.alloc (.cells #[.int .i64 t, .int .i64 (Val.into t (Val.u (a * 2 ^ (k + 1)))), .string ⟨#[]⟩] 24)) := Val.Is.fresh ⟨t, Val.into t (Val.u (a * 2 ^ (k + 1))), ⟨#[]⟩⟩ wr3'
          have hW := (hW.trans (hwr3.mono hW.size)).alloc (by have := hW.size; have := hwr3.size; omega) (.cells #[.int .i64 t, .int .i64 (Val.into t (Val.u (a * 2 ^ (k + 1)))), .string ⟨#[]⟩] 24)
          generalize wr3'.alloc (.cells #[.int .i64 t, .int .i64 (Val.into t (Val.u (a * 2 ^ (k + 1)))), .string ⟨#[]⟩] 24) = wr3 at hA hQ hR hW ⊢
          generalize wr3'.heap.size = gr at hR ⊢
          obtain ⟨⟨q0, q1, q2⟩, q3, q4, q5⟩ := hQ.cells
          obtain ⟨⟨r0, r1, r2⟩, r3, r4, r5⟩ := hR.cells
          go_wp2
          go_roundw
          case rel => exact ⟨18, by first | rfl | go_num, by decide, hW, hA⟩
          case measure => simp [intOf]
        · go_upto_region 16 with fail
          go_upto_region 17 with (first
            | (go_at_call 7; refine (Val.sh18_1 t a k hk HT.out HA.out _).mono ?_; rintro e wp' ⟨rfl, hwp⟩))
          have hA := (hA.below hwp).alloc (.cells #[.int .i64 t, .int .i64 (Val.shr t a k), .string ⟨#[]⟩] 24)
          have hP : Val.Is wp'.heap.size ⟨t, Val.shr t a k, ⟨#[]⟩⟩ (wp'.alloc (.cells #[.int .i64 t, .int .i64 (Val.shr t a k), .string ⟨#[]⟩] 24)) := Val.Is.fresh ⟨t, Val.shr t a k, ⟨#[]⟩⟩ wp'
          have hW := (hW.trans (hwp.mono hW.size)).alloc (by have := hW.size; have := hwp.size; omega) (.cells #[.int .i64 t, .int .i64 (Val.shr t a k), .string ⟨#[]⟩] 24)
          generalize wp'.alloc (.cells #[.int .i64 t, .int .i64 (Val.shr t a k), .string ⟨#[]⟩] 24) = wp at hA hP hW ⊢
          generalize wp'.heap.size = gp at hP ⊢
          obtain ⟨⟨a0, a1, a2⟩, a3, a4, a5⟩ := hA.cells
          obtain ⟨⟨p0, p1, p2⟩, p3, p4, p5⟩ := hP.cells
          go_upto_region 18 with (first
            | (go_at_call 7; refine (Val.sh18_2 t a k hk HT.out HA.out _).mono ?_; rintro e wq' ⟨rfl, hwq⟩))
          have hA := (hA.below hwq).alloc (.cells #[.int .i64 t, .int .i64 (Val.shr t a (k + 1)), .string ⟨#[]⟩] 24)
          have hP := (hP.below hwq).alloc (.cells #[.int .i64 t, .int .i64 (Val.shr t a (k + 1)), .string ⟨#[]⟩] 24)
          have hQ : Val.Is wq'.heap.size ⟨t, Val.shr t a (k + 1), ⟨#[]⟩⟩ (wq'.alloc (.cells #[.int .i64 t, .int .i64 (Val.shr t a (k + 1)), .string ⟨#[]⟩] 24)) := Val.Is.fresh ⟨t, Val.shr t a (k + 1), ⟨#[]⟩⟩ wq'
          have hW := (hW.trans (hwq.mono hW.size)).alloc (by have := hW.size; have := hwq.size; omega) (.cells #[.int .i64 t, .int .i64 (Val.shr t a (k + 1)), .string ⟨#[]⟩] 24)
          generalize wq'.alloc (.cells #[.int .i64 t, .int .i64 (Val.shr t a (k + 1)), .string ⟨#[]⟩] 24) = wq at hA hP hQ hW ⊢
          generalize wq'.heap.size = gq at hQ ⊢
          obtain ⟨⟨a0, a1, a2⟩, a3, a4, a5⟩ := hA.cells
          go_upto_region 19 with (first
            | (go_at_call 7; refine (Val.sh18_3 t a k hk HT.out HA.out _).mono ?_; rintro e wr3' ⟨rfl, hwr3⟩))
          have hA := (hA.below hwr3).alloc (.cells #[.int .i64 t, .int .i64 (Val.shr t a (k + 1)), .string ⟨#[]⟩] 24)
          have hQ := (hQ.below hwr3).alloc (.cells #[.int .i64 t, .int .i64 (Val.shr t a (k + 1)), .string ⟨#[]⟩] 24)
          have hR : Val.Is wr3'.heap.size ⟨t, Val.shr t a (k + 1), ⟨#[]⟩⟩ (wr3'.alloc (.cells #[.int .i64 t, .int .i64 (Val.shr t a (k + 1)), .string ⟨#[]⟩] 24)) := Val.Is.fresh ⟨t, Val.shr t a (k + 1), ⟨#[]⟩⟩ wr3'
          have hW := (hW.trans (hwr3.mono hW.size)).alloc (by have := hW.size; have := hwr3.size; omega) (.cells #[.int .i64 t, .int .i64 (Val.shr t a (k + 1)), .string ⟨#[]⟩] 24)
          generalize wr3'.alloc (.cells #[.int .i64 t, .int .i64 (Val.shr t a (k + 1)), .string ⟨#[]⟩] 24) = wr3 at hA hQ hR hW ⊢
          generalize wr3'.heap.size = gr at hR ⊢
          obtain ⟨⟨q0, q1, q2⟩, q3, q4, q5⟩ := hQ.cells
          obtain ⟨⟨r0, r1, r2⟩, r3, r4, r5⟩ := hR.cells
          go_wp2
          go_roundw
          case rel => exact ⟨19, by first | rfl | go_num, by decide, hW, hA⟩
          case measure => simp [intOf]
        · go_wp2
          go_ret
          exact ⟨rfl, hW⟩
    · cases vx
      · cases vy
        · obtain ⟨⟨a0, a1, a2⟩, f0, f1, f2⟩ := hA.cells
          obtain ⟨⟨b0, b1, b2⟩, k0, k1, k2⟩ := hBk.cells
          go_wp2_with (first
            | (go_at_call 5; refine (Val.specValid_b _ ⟨_, _, _⟩ (by assumption) _).mono ?_; rintro e w3 ⟨rfl, hb3⟩
               have hA := hA.below hb3
               have hBk := hBk.below hb3
               have hW := hW.trans (hb3.mono hW.size)
               obtain ⟨⟨a0, a1, a2⟩, f0, f1, f2⟩ := hA.cells
               obtain ⟨⟨b0, b1, b2⟩, k0, k1, k2⟩ := hBk.cells)
            | (go_at_call 6; refine (Val.implValid_b _ ⟨_, _, _⟩ (by assumption) (by assumption) _).mono ?_; rintro e w3 ⟨rfl, hb3⟩
               have hA := hA.below hb3
               have hBk := hBk.below hb3
               have hW := hW.trans (hb3.mono hW.size)
               obtain ⟨⟨a0, a1, a2⟩, f0, f1, f2⟩ := hA.cells
               obtain ⟨⟨b0, b1, b2⟩, k0, k1, k2⟩ := hBk.cells))
          have hA : Val.Is ga ⟨t, a, x⟩ (World.drew _) := hA
          have hBk : Val.Is gb ⟨s, b, y⟩ (World.drew _) := hBk
          have hW : Below w.heap.size w (World.drew _) := hW.drew
          obtain ⟨⟨a0, a1, a2⟩, f0, f1, f2⟩ := hA.cells
          obtain ⟨⟨b0, b1, b2⟩, k0, k1, k2⟩ := hBk.cells
          go_region_held3 (fun w' => w'.cell? ⟨ga, 0, none⟩ = some (.int .i64 t) ∧ w'.cell? ⟨ga, 1, none⟩ = some (.int .i64 a) ∧ w'.cell? ⟨ga, 2, none⟩ = some (.string x) ∧ w'.cell? ⟨gb, 0, none⟩ = some (.int .i64 s) ∧ w'.cell? ⟨gb, 1, none⟩ = some (.int .i64 b) ∧ w'.cell? ⟨gb, 2, none⟩ = some (.string y)) (with_reducible exact ⟨a0, a1, a2, b0, b1, b2⟩) (first
            | (go_at_call 5; refine (Val.specValid_b _ ⟨_, _, _⟩ (by assumption) _).mono ?_; rintro e w3 ⟨rfl, hb3⟩
               have hA := hA.below hb3
               have hBk := hBk.below hb3
               have hW := hW.trans (hb3.mono hW.size)
               obtain ⟨⟨a0, a1, a2⟩, f0, f1, f2⟩ := hA.cells
               obtain ⟨⟨b0, b1, b2⟩, k0, k1, k2⟩ := hBk.cells)
            | (go_at_call 6; refine (Val.implValid_b _ ⟨_, _, _⟩ (by assumption) (by assumption) _).mono ?_; rintro e w3 ⟨rfl, hb3⟩
               have hA := hA.below hb3
               have hBk := hBk.below hb3
               have hW := hW.trans (hb3.mono hW.size)
               obtain ⟨⟨a0, a1, a2⟩, f0, f1, f2⟩ := hA.cells
               obtain ⟨⟨b0, b1, b2⟩, k0, k1, k2⟩ := hBk.cells))
          go_wp2
          go_ret
          exact ⟨rfl, hW⟩
        · obtain ⟨⟨a0, a1, a2⟩, f0, f1, f2⟩ := hA.cells
          obtain ⟨⟨b0, b1, b2⟩, k0, k1, k2⟩ := hBk.cells
          go_wp2_with (first
            | (go_at_call 5; refine (Val.specValid_b _ ⟨_, _, _⟩ (by assumption) _).mono ?_; rintro e w3 ⟨rfl, hb3⟩
               have hA := hA.below hb3
               have hBk := hBk.below hb3
               have hW := hW.trans (hb3.mono hW.size)
               obtain ⟨⟨a0, a1, a2⟩, f0, f1, f2⟩ := hA.cells
               obtain ⟨⟨b0, b1, b2⟩, k0, k1, k2⟩ := hBk.cells)
            | (go_at_call 6; refine (Val.implValid_b _ ⟨_, _, _⟩ (by assumption) (by assumption) _).mono ?_; rintro e w3 ⟨rfl, hb3⟩
               have hA := hA.below hb3
               have hBk := hBk.below hb3
               have hW := hW.trans (hb3.mono hW.size)
               obtain ⟨⟨a0, a1, a2⟩, f0, f1, f2⟩ := hA.cells
               obtain ⟨⟨b0, b1, b2⟩, k0, k1, k2⟩ := hBk.cells))
          have hA : Val.Is ga ⟨t, a, x⟩ (World.drew _) := hA
          have hBk : Val.Is gb ⟨s, b, y⟩ (World.drew _) := hBk
          have hW : Below w.heap.size w (World.drew _) := hW.drew
          obtain ⟨⟨a0, a1, a2⟩, f0, f1, f2⟩ := hA.cells
          obtain ⟨⟨b0, b1, b2⟩, k0, k1, k2⟩ := hBk.cells
          go_region_held3 (fun w' => w'.cell? ⟨ga, 0, none⟩ = some (.int .i64 t) ∧ w'.cell? ⟨ga, 1, none⟩ = some (.int .i64 a) ∧ w'.cell? ⟨ga, 2, none⟩ = some (.string x) ∧ w'.cell? ⟨gb, 0, none⟩ = some (.int .i64 s) ∧ w'.cell? ⟨gb, 1, none⟩ = some (.int .i64 b) ∧ w'.cell? ⟨gb, 2, none⟩ = some (.string y)) (with_reducible exact ⟨a0, a1, a2, b0, b1, b2⟩) (first
            | (go_at_call 5; refine (Val.specValid_b _ ⟨_, _, _⟩ (by assumption) _).mono ?_; rintro e w3 ⟨rfl, hb3⟩
               have hA := hA.below hb3
               have hBk := hBk.below hb3
               have hW := hW.trans (hb3.mono hW.size)
               obtain ⟨⟨a0, a1, a2⟩, f0, f1, f2⟩ := hA.cells
               obtain ⟨⟨b0, b1, b2⟩, k0, k1, k2⟩ := hBk.cells)
            | (go_at_call 6; refine (Val.implValid_b _ ⟨_, _, _⟩ (by assumption) (by assumption) _).mono ?_; rintro e w3 ⟨rfl, hb3⟩
               have hA := hA.below hb3
               have hBk := hBk.below hb3
               have hW := hW.trans (hb3.mono hW.size)
               obtain ⟨⟨a0, a1, a2⟩, f0, f1, f2⟩ := hA.cells
               obtain ⟨⟨b0, b1, b2⟩, k0, k1, k2⟩ := hBk.cells))
          go_wp2
          go_ret
          exact ⟨rfl, hW⟩
      · cases vy
        · obtain ⟨⟨a0, a1, a2⟩, f0, f1, f2⟩ := hA.cells
          obtain ⟨⟨b0, b1, b2⟩, k0, k1, k2⟩ := hBk.cells
          go_wp2_with (first
            | (go_at_call 5; refine (Val.specValid_b _ ⟨_, _, _⟩ (by assumption) _).mono ?_; rintro e w3 ⟨rfl, hb3⟩
               have hA := hA.below hb3
               have hBk := hBk.below hb3
               have hW := hW.trans (hb3.mono hW.size)
               obtain ⟨⟨a0, a1, a2⟩, f0, f1, f2⟩ := hA.cells
               obtain ⟨⟨b0, b1, b2⟩, k0, k1, k2⟩ := hBk.cells)
            | (go_at_call 6; refine (Val.implValid_b _ ⟨_, _, _⟩ (by assumption) (by assumption) _).mono ?_; rintro e w3 ⟨rfl, hb3⟩
               have hA := hA.below hb3
               have hBk := hBk.below hb3
               have hW := hW.trans (hb3.mono hW.size)
               obtain ⟨⟨a0, a1, a2⟩, f0, f1, f2⟩ := hA.cells
               obtain ⟨⟨b0, b1, b2⟩, k0, k1, k2⟩ := hBk.cells))
          have hA : Val.Is ga ⟨t, a, x⟩ (World.drew _) := hA
          have hBk : Val.Is gb ⟨s, b, y⟩ (World.drew _) := hBk
          have hW : Below w.heap.size w (World.drew _) := hW.drew
          obtain ⟨⟨a0, a1, a2⟩, f0, f1, f2⟩ := hA.cells
          obtain ⟨⟨b0, b1, b2⟩, k0, k1, k2⟩ := hBk.cells
          go_region_held3 (fun w' => w'.cell? ⟨ga, 0, none⟩ = some (.int .i64 t) ∧ w'.cell? ⟨ga, 1, none⟩ = some (.int .i64 a) ∧ w'.cell? ⟨ga, 2, none⟩ = some (.string x) ∧ w'.cell? ⟨gb, 0, none⟩ = some (.int .i64 s) ∧ w'.cell? ⟨gb, 1, none⟩ = some (.int .i64 b) ∧ w'.cell? ⟨gb, 2, none⟩ = some (.string y)) (with_reducible exact ⟨a0, a1, a2, b0, b1, b2⟩) (first
            | (go_at_call 5; refine (Val.specValid_b _ ⟨_, _, _⟩ (by assumption) _).mono ?_; rintro e w3 ⟨rfl, hb3⟩
               have hA := hA.below hb3
               have hBk := hBk.below hb3
               have hW := hW.trans (hb3.mono hW.size)
               obtain ⟨⟨a0, a1, a2⟩, f0, f1, f2⟩ := hA.cells
               obtain ⟨⟨b0, b1, b2⟩, k0, k1, k2⟩ := hBk.cells)
            | (go_at_call 6; refine (Val.implValid_b _ ⟨_, _, _⟩ (by assumption) (by assumption) _).mono ?_; rintro e w3 ⟨rfl, hb3⟩
               have hA := hA.below hb3
               have hBk := hBk.below hb3
               have hW := hW.trans (hb3.mono hW.size)
               obtain ⟨⟨a0, a1, a2⟩, f0, f1, f2⟩ := hA.cells
               obtain ⟨⟨b0, b1, b2⟩, k0, k1, k2⟩ := hBk.cells))
          go_wp2
          go_ret
          exact ⟨rfl, hW⟩
        · by_cases hts : t = s
          · have hlt : decide (t < 3) = true := decide_eq_true (by
              by_cases h3 : 3 ≤ t
              · exact absurd ⟨rfl, rfl, hts, h3⟩ hmain
              · omega)
            have hne : (t != t) = false := by simp
            subst hts
            obtain ⟨⟨a0, a1, a2⟩, f0, f1, f2⟩ := hA.cells
            obtain ⟨⟨b0, b1, b2⟩, k0, k1, k2⟩ := hBk.cells
            go_wp2_with (first
              | (go_at_call 5; refine (Val.specValid_b _ ⟨_, _, _⟩ (by assumption) _).mono ?_; rintro e w3 ⟨rfl, hb3⟩
                 have hA := hA.below hb3
                 have hBk := hBk.below hb3
                 have hW := hW.trans (hb3.mono hW.size)
                 obtain ⟨⟨a0, a1, a2⟩, f0, f1, f2⟩ := hA.cells
                 obtain ⟨⟨b0, b1, b2⟩, k0, k1, k2⟩ := hBk.cells)
              | (go_at_call 6; refine (Val.implValid_b _ ⟨_, _, _⟩ (by assumption) (by assumption) _).mono ?_; rintro e w3 ⟨rfl, hb3⟩
                 have hA := hA.below hb3
                 have hBk := hBk.below hb3
                 have hW := hW.trans (hb3.mono hW.size)
                 obtain ⟨⟨a0, a1, a2⟩, f0, f1, f2⟩ := hA.cells
                 obtain ⟨⟨b0, b1, b2⟩, k0, k1, k2⟩ := hBk.cells))
            have hA : Val.Is ga ⟨t, a, x⟩ (World.drew _) := hA
            have hBk : Val.Is gb ⟨t, b, y⟩ (World.drew _) := hBk
            have hW : Below w.heap.size w (World.drew _) := hW.drew
            obtain ⟨⟨a0, a1, a2⟩, f0, f1, f2⟩ := hA.cells
            obtain ⟨⟨b0, b1, b2⟩, k0, k1, k2⟩ := hBk.cells
            go_region_held3 (fun w' => w'.cell? ⟨ga, 0, none⟩ = some (.int .i64 t) ∧ w'.cell? ⟨ga, 1, none⟩ = some (.int .i64 a) ∧ w'.cell? ⟨ga, 2, none⟩ = some (.string x) ∧ w'.cell? ⟨gb, 0, none⟩ = some (.int .i64 t) ∧ w'.cell? ⟨gb, 1, none⟩ = some (.int .i64 b) ∧ w'.cell? ⟨gb, 2, none⟩ = some (.string y)) (with_reducible exact ⟨a0, a1, a2, b0, b1, b2⟩) (first
              | (go_at_call 5; refine (Val.specValid_b _ ⟨_, _, _⟩ (by assumption) _).mono ?_; rintro e w3 ⟨rfl, hb3⟩
                 have hA := hA.below hb3
                 have hBk := hBk.below hb3
                 have hW := hW.trans (hb3.mono hW.size)
                 obtain ⟨⟨a0, a1, a2⟩, f0, f1, f2⟩ := hA.cells
                 obtain ⟨⟨b0, b1, b2⟩, k0, k1, k2⟩ := hBk.cells)
              | (go_at_call 6; refine (Val.implValid_b _ ⟨_, _, _⟩ (by assumption) (by assumption) _).mono ?_; rintro e w3 ⟨rfl, hb3⟩
                 have hA := hA.below hb3
                 have hBk := hBk.below hb3
                 have hW := hW.trans (hb3.mono hW.size)
                 obtain ⟨⟨a0, a1, a2⟩, f0, f1, f2⟩ := hA.cells
                 obtain ⟨⟨b0, b1, b2⟩, k0, k1, k2⟩ := hBk.cells))
            go_wp2
            go_ret
            exact ⟨rfl, hW⟩
          · have hne : (t != s) = true := by simp [hts]
            obtain ⟨⟨a0, a1, a2⟩, f0, f1, f2⟩ := hA.cells
            obtain ⟨⟨b0, b1, b2⟩, k0, k1, k2⟩ := hBk.cells
            go_wp2_with (first
              | (go_at_call 5; refine (Val.specValid_b _ ⟨_, _, _⟩ (by assumption) _).mono ?_; rintro e w3 ⟨rfl, hb3⟩
                 have hA := hA.below hb3
                 have hBk := hBk.below hb3
                 have hW := hW.trans (hb3.mono hW.size)
                 obtain ⟨⟨a0, a1, a2⟩, f0, f1, f2⟩ := hA.cells
                 obtain ⟨⟨b0, b1, b2⟩, k0, k1, k2⟩ := hBk.cells)
              | (go_at_call 6; refine (Val.implValid_b _ ⟨_, _, _⟩ (by assumption) (by assumption) _).mono ?_; rintro e w3 ⟨rfl, hb3⟩
                 have hA := hA.below hb3
                 have hBk := hBk.below hb3
                 have hW := hW.trans (hb3.mono hW.size)
                 obtain ⟨⟨a0, a1, a2⟩, f0, f1, f2⟩ := hA.cells
                 obtain ⟨⟨b0, b1, b2⟩, k0, k1, k2⟩ := hBk.cells))
            have hA : Val.Is ga ⟨t, a, x⟩ (World.drew _) := hA
            have hBk : Val.Is gb ⟨s, b, y⟩ (World.drew _) := hBk
            have hW : Below w.heap.size w (World.drew _) := hW.drew
            obtain ⟨⟨a0, a1, a2⟩, f0, f1, f2⟩ := hA.cells
            obtain ⟨⟨b0, b1, b2⟩, k0, k1, k2⟩ := hBk.cells
            go_region_held3 (fun w' => w'.cell? ⟨ga, 0, none⟩ = some (.int .i64 t) ∧ w'.cell? ⟨ga, 1, none⟩ = some (.int .i64 a) ∧ w'.cell? ⟨ga, 2, none⟩ = some (.string x) ∧ w'.cell? ⟨gb, 0, none⟩ = some (.int .i64 s) ∧ w'.cell? ⟨gb, 1, none⟩ = some (.int .i64 b) ∧ w'.cell? ⟨gb, 2, none⟩ = some (.string y)) (with_reducible exact ⟨a0, a1, a2, b0, b1, b2⟩) (first
              | (go_at_call 5; refine (Val.specValid_b _ ⟨_, _, _⟩ (by assumption) _).mono ?_; rintro e w3 ⟨rfl, hb3⟩
                 have hA := hA.below hb3
                 have hBk := hBk.below hb3
                 have hW := hW.trans (hb3.mono hW.size)
                 obtain ⟨⟨a0, a1, a2⟩, f0, f1, f2⟩ := hA.cells
                 obtain ⟨⟨b0, b1, b2⟩, k0, k1, k2⟩ := hBk.cells)
              | (go_at_call 6; refine (Val.implValid_b _ ⟨_, _, _⟩ (by assumption) (by assumption) _).mono ?_; rintro e w3 ⟨rfl, hb3⟩
                 have hA := hA.below hb3
                 have hBk := hBk.below hb3
                 have hW := hW.trans (hb3.mono hW.size)
                 obtain ⟨⟨a0, a1, a2⟩, f0, f1, f2⟩ := hA.cells
                 obtain ⟨⟨b0, b1, b2⟩, k0, k1, k2⟩ := hBk.cells))
            go_wp2
            go_ret
            exact ⟨rfl, hW⟩
  · go_enter Tryd.func3, Tryd.ntmps3
    go_wp2
    go_ret
    exact ⟨rfl, Below.refl _ w⟩
end Go.Proofs.YtkijfehdgiiejaaDoor
