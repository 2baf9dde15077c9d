import Derived.Test.YtfelngigfmdedaaGreatDoorBltC
import Derived.Lib.UnsafeStr
import Derived.Laws.IdiomStrings
import Derived.Laws.BytesArg
import Derived.Lib.ItoaNum
namespace Go.Proofs.YtfelngigfmdedaaGreatDoor
open Go.RowKit

theorem Val.conv_own {P : Program} {w : World} {src dst e : TypeId} (hs : P.underlying src = some (.slice e)) (he : P.underlying e = some (.int .u8)) (hd : P.underlying dst = some .string) {B : Nat} {v : Value} {acc : List UInt8}
    (h : w.ownsRow B e 1 v acc.length (Lib.byteCells acc)) : (convert src dst v).run P w = .ok (.string ⟨acc.toArray⟩) w := by
  have hcells := fun g => h.cells (g := g)
  obtain ⟨h1, h2⟩ := h
  rcases h2 with ⟨rfl, h0⟩ | ⟨g, cap, cur, rfl, hg, hh, hn, hcap, hsz, htake⟩
  · have : acc = [] := List.eq_nil_of_length_eq_zero h0
    subst this
    exact run_convert_bytes_nil (P := P) (w := w) src e hs he 0 0 dst hd
  · refine run_convert_bytes_back w src dst e ⟨g, 0, none⟩ cap acc hs he hd ?_
    intro j hj
    exact hcells g rfl j _ (by simp [Lib.byteCells, hj])
theorem Val.ofNat_toNat (x : Int) (h0 : 0 ≤ x) (h1 : x ≤ 255) : ((UInt8.ofNat x.toNat).toNat : Int) = x := by
  simp; omega
theorem Val.own_one (w : World) (c : Int) (h0 : 0 ≤ c) (h1 : c ≤ 255) : (w.alloc (.cells #[.int .u8 c] 5)).ownsRow w.heap.size 5 1 (.slice (some ⟨w.heap.size, 0, none⟩) 1 1) 1 (Lib.byteCells [UInt8.ofNat c.toNat]) := by
  have h : (w.alloc (.cells #[.int .u8 c] 5)).ownsRow w.heap.size 5 1 (.slice (some ⟨w.heap.size, 0, none⟩) 1 1) 1 [.int .u8 c] := ⟨rfl, .inr ⟨w.heap.size, 1, #[.int .u8 c], rfl, Nat.le_refl _, Val.new_at w _, Nat.le_refl _, by decide, rfl, rfl⟩⟩
  simp only [Lib.byteCells, List.map_cons, List.map_nil, Val.ofNat_toNat c h0 h1]; exact h
theorem Val.conv_of {w : World} {B : Nat} {v : Value} {acc : List UInt8} (h : w.ownsRow B 5 1 v acc.length (Lib.byteCells acc)) : (convert 41 9 v).run Tryz.prog w = .ok (.string ⟨acc.toArray⟩) w :=
  Val.conv_own Tryz.underlying41 Tryz.underlying5 Tryz.underlying9 h
theorem Val.conv_one (w : World) (c : Int) (h0 : 0 ≤ c) (h1 : c ≤ 255) : (convert 41 9 (.slice (some ⟨w.heap.size, 0, none⟩) 1 1)).run Tryz.prog (w.alloc (.cells #[.int .u8 c] 5)) = .ok (.string ⟨#[UInt8.ofNat c.toNat]⟩) (w.alloc (.cells #[.int .u8 c] 5)) :=
  Val.conv_of (acc := [UInt8.ofNat c.toNat]) (Val.own_one w c h0 h1)
theorem Val.conv_on {w w' : World} (c : Int) (h0 : 0 ≤ c) (h1 : c ≤ 255) (hb : Below (w.alloc (.cells #[.int .u8 c] 5)).heap.size (w.alloc (.cells #[.int .u8 c] 5)) w') : (convert 41 9 (.slice (some ⟨w.heap.size, 0, none⟩) 1 1)).run Tryz.prog w' = .ok (.string ⟨#[UInt8.ofNat c.toNat]⟩) w' :=
  Val.conv_of (acc := [UInt8.ofNat c.toNat]) (Val.own_next (Val.own_one w c h0 h1) hb)
set_option maxRecDepth 100000 in
set_option maxHeartbeats 1000000 in
theorem Val.l1Decimal_one (n : Nat) (w : World) (h : n < 10) :
    Calls Tryz.prog 25 #[.int .u64 (n : Int)] w fun e w' => e = .returned (.string ⟨(Lib.decDigits n).toArray⟩) ∧ Below w.heap.size w w' := by
  rw [Lib.decDigits_one h]
  have hcv := Val.conv_one w (48 + (n : Int)) (by omega) (by omega)
  rw [show (48 + (n : Int)).toNat = 48 + n by omega] at hcv
  generalize UInt8.ofNat (48 + n) = b at *
  go_enter Tryz.func25, Tryz.ntmps25
  go_wp2
  go_ret
  exact ⟨rfl, (Below.refl _ w).alloc (Nat.le_refl _) _⟩
theorem Val.keepB {w w0 w1 : World} (h : Below w.heap.size w w0) (hb : Below w0.heap.size w0 w1) : Below w.heap.size w w1 := h.trans (hb.mono h.size)
set_option maxRecDepth 100000 in
set_option maxHeartbeats 2000000 in
theorem Val.l1Decimal_step (n : Nat) (w : World) (h : ¬ n < 10) (hn : n < 18446744073709551616) (ds : ByteArray) (hds : ds.size ≤ 30) (b : UInt8) (HB : Hid (UInt8.ofNat (48 + n % 10) = b))
    (ih : Hid (∀ w : World, Calls Tryz.prog 25 #[.int .u64 ((n : Int) / 10)] w fun e w' => e = .returned (.string ds) ∧ Below w.heap.size w w')) :
    Calls Tryz.prog 25 #[.int .u64 (n : Int)] w fun e w' => e = .returned (.string (ds ++ ⟨#[UInt8.ofNat (48 + n % 10)]⟩)) ∧ Below w.heap.size w w' := by
  have hc0 : 0 ≤ 48 + (n : Int) % 10 := by omega
  have hc1 : 48 + (n : Int) % 10 ≤ 255 := by omega
  have e1 : (48 + (n : Int) % 10).toNat = 48 + n % 10 := by omega
  go_enter Tryz.func25, Tryz.ntmps25
  have hds2 : ds.size ≤ 9223372036854775806 := by omega
  rw [HB.out]
  have q1 : IntKind.u64.wrap ((n : Int) / 10) = (n : Int) / 10 := by rw [Val.wrap_u]; omega
  have q2 : (n : Int).tmod 10 = (n : Int) % 10 := Int.tmod_eq_emod_of_nonneg (by omega)
  have q3 : IntKind.u64.wrap (48 + (n : Int) % 10) = 48 + (n : Int) % 10 := by rw [Val.wrap_u]; omega
  have q4 : IntKind.u8.wrap (48 + (n : Int) % 10) = 48 + (n : Int) % 10 := by show _ % 256 = _; omega
  have q5 : (48 + (n : Int) % 10) % 256 = 48 + (n : Int) % 10 := by omega
  have q6 : (48 + (n : Int) % 10) % 18446744073709551616 = 48 + (n : Int) % 10 := by omega
  have q7 : (n : Int) / 10 % 18446744073709551616 = (n : Int) / 10 := by omega
  have hcv0 := Val.conv_one w.drew _ hc0 hc1
  rw [e1, HB.out] at hcv0
  have hcv1 : (convert 41 9 (.slice (some ⟨w.heap.size, 0, none⟩) 1 1)).run Tryz.prog (w.alloc (.cells #[.int .u8 (48 + (n : Int) % 10)] 5)).drew = .ok (.string ⟨#[b]⟩) (w.alloc (.cells #[.int .u8 (48 + (n : Int) % 10)] 5)).drew := hcv0
  go_wp2_with fail
  refine wp_region_held_drew (S := fun _ => True) (by kernel_rfl) trivial (fun hHeld => ?_)
  refine wpAnyH_take (i := 0) (v := .int .u64 (n : Int)) rfl (by kernel_rfl) (by kernel_rfl) (by kernel_rfl) (fun _ _ _ h => h) (Or.inl ⟨by rfl, by intro w hSw; go_simp⟩) (by assumption) ?_
  try dsimp only [Act.put]
  refine wpAnyH_take (i := 1) (v := .int .u64 ((n : Int) / 10)) rfl (by kernel_rfl) (by kernel_rfl) (by kernel_rfl) (fun _ _ _ h => h) (Or.inl ⟨by rfl, by intro w hSw; go_simp⟩) (by assumption) ?_
  try dsimp only [Act.put]
  refine wpAnyH_take (i := 3) (v := .int .u64 (n : Int)) rfl (by kernel_rfl) (by kernel_rfl) (by kernel_rfl) (fun _ _ _ h => h) (Or.inl ⟨by rfl, by intro w hSw; go_simp⟩) (by assumption) ?_
  try dsimp only [Act.put]
  refine wpAnyH_take (i := 4) (v := .int .u64 ((n : Int) % 10)) rfl (by kernel_rfl) (by kernel_rfl) (by kernel_rfl) (fun _ _ _ h => h) (Or.inl ⟨by rfl, by intro w hSw; go_simp⟩) (by assumption) ?_
  try dsimp only [Act.put]
  refine wpAnyH_take (i := 5) (v := .int .u64 (48 + (n : Int) % 10)) rfl (by kernel_rfl) (by kernel_rfl) (by kernel_rfl) (fun _ _ _ h => h) (Or.inl ⟨by rfl, by intro w hSw; go_simp⟩) (by assumption) ?_
  try dsimp only [Act.put]
  refine wpAnyH_take (i := 6) (v := .int .u8 (48 + (n : Int) % 10)) rfl (by kernel_rfl) (by kernel_rfl) (by kernel_rfl) (fun _ _ _ h => h) (Or.inl ⟨by rfl, by intro w hSw; go_simp⟩) (by assumption) ?_
  try dsimp only [Act.put]
  refine wpAnyH_ready (rs := [2, 7]) (by kernel_rfl) (by simp) ?_
  refine AllReadyH.cons rfl (fun K hK => ?_) (AllReadyH.cons rfl (fun K hK => ?_) AllReadyH.nil)
  · go_simp
    (go_at_call 25; (refine (ih.out _).mono ?_; rintro e w1 ⟨rfl, hb1⟩))
    have hcv2 := Val.conv_one w1 _ hc0 hc1
    rw [e1, HB.out] at hcv2
    go_wp2
    refine hK.out _ _ trivial (fun hHeld => ?_)
    clear hK
    try dsimp only [Act.put]
    refine wpAnyH_ready (rs := [7]) (by kernel_rfl) (by simp) ?_
    refine AllReadyH.cons rfl (fun K hK => ?_) AllReadyH.nil
    go_simp
    refine hK.out _ _ trivial (fun hHeld => ?_)
    clear hK
    try dsimp only [Act.put]
    refine wpAnyH_ready (rs := [8]) (by kernel_rfl) (by simp) ?_
    refine AllReadyH.cons rfl (fun K hK => ?_) AllReadyH.nil
    go_simp
    refine hK.out _ _ trivial (fun hHeld => ?_)
    clear hK
    try dsimp only [Act.put]
    refine wpAnyH_take (i := 9) (v := .string (ds ++ ⟨#[b]⟩)) rfl (by kernel_rfl) (by kernel_rfl) (by kernel_rfl) (fun _ _ _ h => h) (Or.inl ⟨by rfl, by intro w hSw; go_simp⟩) (by assumption) ?_
    simp [Act.put]
    refine wpAnyH_take (i := 10) (v := .string (ds ++ ⟨#[b]⟩)) rfl (by kernel_rfl) (by kernel_rfl) (by kernel_rfl) (fun _ _ _ h => h) (Or.inl ⟨by rfl, by intro w hSw; go_simp⟩) (by assumption) ?_
    simp [Act.put]
    refine wpAnyH_done (by kernel_rfl) ?_ _
    go_wp2
    go_ret
    exact ⟨rfl, (Val.keepB (Below.refl _ _).drew hb1).alloc (by have := hb1.size; simpa using this) _⟩
  · go_simp
    refine hK.out _ _ trivial (fun hHeld => ?_)
    clear hK
    try dsimp only [Act.put]
    refine wpAnyH_ready (rs := [2, 8]) (by kernel_rfl) (by simp) ?_
    refine AllReadyH.cons rfl (fun K hK => ?_) (AllReadyH.cons rfl (fun K hK => ?_) AllReadyH.nil)
    · go_simp
      (go_at_call 25; (refine (ih.out _).mono ?_; rintro e w1 ⟨rfl, hb1⟩))
      have hcv4 := Val.conv_on (w := w.drew) _ hc0 hc1 hb1
      rw [e1, HB.out] at hcv4
      have hcv3 : (convert 41 9 (.slice (some ⟨w.heap.size, 0, none⟩) 1 1)).run Tryz.prog w1 = .ok (.string ⟨#[b]⟩) w1 := hcv4
      go_wp2
      refine hK.out _ _ trivial (fun hHeld => ?_)
      clear hK
      try dsimp only [Act.put]
      refine wpAnyH_ready (rs := [8]) (by kernel_rfl) (by simp) ?_
      refine AllReadyH.cons rfl (fun K hK => ?_) AllReadyH.nil
      go_simp
      refine hK.out _ _ trivial (fun hHeld => ?_)
      clear hK
      try dsimp only [Act.put]
      refine wpAnyH_take (i := 9) (v := .string (ds ++ ⟨#[b]⟩)) rfl (by kernel_rfl) (by kernel_rfl) (by kernel_rfl) (fun _ _ _ h => h) (Or.inl ⟨by rfl, by intro w hSw; go_simp⟩) (by assumption) ?_
      simp [Act.put]
      refine wpAnyH_take (i := 10) (v := .string (ds ++ ⟨#[b]⟩)) rfl (by kernel_rfl) (by kernel_rfl) (by kernel_rfl) (fun _ _ _ h => h) (Or.inl ⟨by rfl, by intro w hSw; go_simp⟩) (by assumption) ?_
      simp [Act.put]
      refine wpAnyH_done (by kernel_rfl) ?_ _
      go_wp2
      go_ret
      exact ⟨rfl, Val.keepB ((Below.refl _ _).drew.alloc (Nat.le_refl _) _) hb1⟩
    · go_simp
      refine hK.out _ _ trivial (fun hHeld => ?_)
      clear hK
      try dsimp only [Act.put]
      refine wpAnyH_ready (rs := [2]) (by kernel_rfl) (by simp) ?_
      refine AllReadyH.cons rfl (fun K hK => ?_) AllReadyH.nil
      go_simp
      (go_at_call 25; (refine (ih.out _).mono ?_; rintro e w1 ⟨rfl, hb1⟩))
      go_wp2
      refine hK.out _ _ trivial (fun hHeld => ?_)
      clear hK
      try dsimp only [Act.put]
      refine wpAnyH_take (i := 9) (v := .string (ds ++ ⟨#[b]⟩)) rfl (by kernel_rfl) (by kernel_rfl) (by kernel_rfl) (fun _ _ _ h => h) (Or.inl ⟨by rfl, by intro w hSw; go_simp⟩) (by assumption) ?_
      simp [Act.put]
      refine wpAnyH_take (i := 10) (v := .string (ds ++ ⟨#[b]⟩)) rfl (by kernel_rfl) (by kernel_rfl) (by kernel_rfl) (fun _ _ _ h => h) (Or.inl ⟨by rfl, by intro w hSw; go_simp⟩) (by assumption) ?_
      simp [Act.put]
      refine wpAnyH_done (by kernel_rfl) ?_ _
      go_wp2
      go_ret
      exact ⟨rfl, Val.keepB ((Below.refl _ _).drew.alloc (Nat.le_refl _) _) hb1⟩
end Go.Proofs.YtfelngigfmdedaaGreatDoor
