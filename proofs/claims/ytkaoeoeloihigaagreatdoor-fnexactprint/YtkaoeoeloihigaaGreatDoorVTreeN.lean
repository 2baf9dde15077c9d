import Derived.Test.YtkaoeoeloihigaaGreatDoorVTreeM
namespace Go.Proofs.YtkaoeoeloihigaaGreatDoor
open Go.RowKit

theorem Mill.ty_ne24 : ∀ a b : Fin 24, a ≠ b → Mill.ty ((a.val : Int) + 1) ≠ Mill.ty ((b.val : Int) + 1) := by decide +kernel
theorem Mill.ty_ne {k j : Int} (h1 : 1 ≤ k) (h2 : k ≤ 24) (h3 : 1 ≤ j) (h4 : j ≤ 24) (h : k ≠ j) : Mill.ty k ≠ Mill.ty j := by
  have h5 : Mill.ty (((k - 1).toNat : Int) + 1) ≠ Mill.ty (((j - 1).toNat : Int) + 1) := Mill.ty_ne24 ⟨(k - 1).toNat, by omega⟩ ⟨(j - 1).toNat, by omega⟩ (by intro he; have := congrArg Fin.val he; simp at this; omega)
  rwa [show ((k - 1).toNat : Int) + 1 = k by omega, show ((j - 1).toNat : Int) + 1 = j by omega] at h5
theorem Mill.us2k {us : List Value} {ks : List Int} (h : Mill.Kinded us ks) (hl : ks.length = 2) : ∃ k0 y0 k1 y1, us = [.iface (Mill.ty k0) y0, .iface (Mill.ty k1) y1] ∧ ks = [k0, k1] ∧ (1 ≤ k0 ∧ k0 ≤ 24) ∧ (1 ≤ k1 ∧ k1 ≤ 24 ∧ Mill.Form k1 y1) := by
  have hl' : us.length = 2 := by rw [h.1]; exact hl
  match us, hl', ks, hl with
  | [u, v], _, [a, b], _ =>
    obtain ⟨k0, y0, h1, h2, h3, rfl, _⟩ := Mill.us_at h 0 u rfl
    obtain ⟨k1, y1, h4, h5, h6, rfl, h7⟩ := Mill.us_at h 1 v rfl
    cases h3; cases h6
    exact ⟨_, _, _, _, rfl, rfl, ⟨h1, h2⟩, h4, h5, h7⟩
theorem Mill.us3k {us : List Value} {ks : List Int} (h : Mill.Kinded us ks) (hl : ks.length = 3) : ∃ k0 y0 k1 y1 k2 y2, us = [.iface (Mill.ty k0) y0, .iface (Mill.ty k1) y1, .iface (Mill.ty k2) y2] ∧ ks = [k0, k1, k2] ∧ (1 ≤ k0 ∧ k0 ≤ 24) ∧ (1 ≤ k1 ∧ k1 ≤ 24 ∧ Mill.Form k1 y1) ∧ (1 ≤ k2 ∧ k2 ≤ 24) := by
  have hl' : us.length = 3 := by rw [h.1]; exact hl
  match us, hl', ks, hl with
  | [u, v, z], _, [a, b, c], _ =>
    obtain ⟨k0, y0, h1, h2, h3, rfl, _⟩ := Mill.us_at h 0 u rfl
    obtain ⟨k1, y1, h4, h5, h6, rfl, h7⟩ := Mill.us_at h 1 v rfl
    obtain ⟨k2, y2, h8, h9, h10, rfl, _⟩ := Mill.us_at h 2 z rfl
    cases h3; cases h6; cases h10
    exact ⟨_, _, _, _, _, _, rfl, rfl, ⟨h1, h2⟩, ⟨h4, h5, h7⟩, h8, h9⟩
theorem Mill.us1k {us : List Value} {ks : List Int} (h : Mill.Kinded us ks) (hl : ks.length = 1) : ∃ k0 y0, us = [.iface (Mill.ty k0) y0] ∧ ks = [k0] ∧ (1 ≤ k0 ∧ k0 ≤ 24 ∧ Mill.Form k0 y0) := by
  have hl' : us.length = 1 := by rw [h.1]; exact hl
  match us, hl', ks, hl with
  | [u], _, [a], _ =>
    obtain ⟨k0, y0, h1, h2, h3, rfl, h4⟩ := Mill.us_at h 0 u rfl
    cases h3
    exact ⟨_, _, rfl, rfl, h1, h2, h4⟩
def Mill.GrownT (w : World) (T : TypeId) (ok : Bool) (X : Value → Prop) (e : Ending) (w' : World) : Prop :=
  Below w.heap.size w w' ∧ ((ok = true ∧ ∃ x, e = .returned (.iface T x) ∧ X x) ∨ (ok = false ∧ e = .returned .nilIface))
def Mill.IfX (us : List Value) (x : Value) : Prop := (∃ u S, us = [u, Mill.blV S] ∧ x = .agg #[u, S, .nilIface]) ∨ (∃ u S t y, us = [u, Mill.blV S, .iface t y] ∧ x = .agg #[u, S, .iface t y])
def Mill.WhileX (us : List Value) (x : Value) : Prop := ∃ u S, us = [u, Mill.blV S] ∧ x = .agg #[u, S]
def Mill.DoX (us : List Value) (x : Value) : Prop := ∃ nm S, us = [.iface 134 (.agg #[.string nm, S])] ∧ x = .agg #[.string nm, S]

set_option maxRecDepth 100000 in
set_option maxHeartbeats 2000000 in
theorem grownDo_any (P : Nat → Prop) (us : List Value) (ks : List Int) (S : Value) (n : Nat) (HN : Hid (ks.length = n)) (w : World) (hP : ∀ g, P g → g < w.heap.size) (hS : Mill.Sl P w S n us) (hk : Mill.Kinded us ks) :
    Calls Tryz.prog 70 #[S] w fun e w' => Mill.GrownT w 160 (Mill.doK ks) (Mill.DoX us) e w' := by
  have tc := Tryz.ta_callNode
  obtain ⟨a, c, rfl, hc⟩ := hS
  by_cases h1 : n = 1
  · subst h1
    obtain ⟨k0, y0, rfl, rfl, hk1, hk2, hf⟩ := Mill.us1k hk HN.out
    obtain ⟨g, rfl, hg, c0⟩ := hc 0 _ rfl
    have hg2 := hP g hg
    clear hc
    by_cases h7 : k0 = 7
    · subst h7
      obtain ⟨nm, sa, sn, sc, rfl⟩ := hf.2.1 rfl
      have ht : Mill.ty 7 = 134 := rfl
      rw [ht] at c0 ⊢
      go_enter Tryz.func70, Tryz.ntmps70
      go_wp2
      go_ret
      exact ⟨(Below.refl _ w).alloc (Nat.le_refl _) _, .inl ⟨rfl, _, rfl, nm, _, rfl, rfl⟩⟩
    · have ht : ¬ Mill.ty k0 = 134 := Mill.ty_ne hk1 hk2 (j := 7) (by omega) (by omega) h7
      have HF : Hid (Mill.doK [k0] = false) := by rw [Hid]; simp [Mill.doK, h7]
      go_enter Tryz.func70, Tryz.ntmps70
      go_wp2
      go_ret
      exact ⟨(Below.refl _ w).alloc (Nat.le_refl _) _, .inr ⟨HF.out, rfl⟩⟩
  · have HF : Hid (Mill.doK ks = false) := by
      have hlen := HN.out
      match ks, hlen with
      | [], _ => rw [Hid]; rfl
      | [a], hlen => simp at hlen; omega
      | a :: b :: r, _ => rw [Hid]; rfl
    have h1' : ((n : Int) != 1) = true := by simpa using (by omega : ¬ (n : Int) = 1)
    clear hc h1
    go_enter Tryz.func70, Tryz.ntmps70
    go_wp2
    go_ret
    exact ⟨Below.refl _ _, .inr ⟨HF.out, rfl⟩⟩

set_option maxRecDepth 100000 in
set_option maxHeartbeats 2000000 in
theorem grownWhile_any (P : Nat → Prop) (us : List Value) (ks : List Int) (S : Value) (n : Nat) (HN : Hid (ks.length = n)) (w : World) (hP : ∀ g, P g → g < w.heap.size) (hS : Mill.Sl P w S n us) (hk : Mill.Kinded us ks) :
    Calls Tryz.prog 69 #[S] w fun e w' => Mill.GrownT w 158 (Mill.whileK ks) (Mill.WhileX us) e w' := by
  have tc := Tryz.ta_blockNode
  obtain ⟨a, c, rfl, hc⟩ := hS
  by_cases h1 : n = 2
  · subst h1
    obtain ⟨k0, y0, k1, y1, rfl, rfl, ⟨hk1, hk2⟩, hk3, hk4, hf⟩ := Mill.us2k hk HN.out
    obtain ⟨g, rfl, hg, c0⟩ := hc 0 _ rfl
    obtain ⟨g', hg', _, c1⟩ := hc 1 _ rfl
    cases hg'
    have hg2 := hP g hg
    clear hc
    obtain ⟨b, HB⟩ : ∃ b, Hid (Mill.isE k0 = b) := ⟨_, (rfl : Mill.isE k0 = _)⟩
    cases b with
    | false =>
      have HF : Hid (Mill.whileK [k0, k1] = false) := by rw [Hid]; simp [Mill.whileK, HB.out]
      go_enter Tryz.func69, Tryz.ntmps69
      go_wp2_with (go_at_call 67; refine (isValue_is k0 hk1 hk2 y0 false HB _).mono ?_; rintro e w' ⟨rfl, rfl⟩)
      go_ret
      exact ⟨Below.refl _ _, .inr ⟨HF.out, rfl⟩⟩
    | true =>
      by_cases h7 : k1 = 21
      · subst h7
        obtain ⟨sa, sn, sc, rfl⟩ := hf.1 rfl
        have ht : Mill.ty 21 = 58 := rfl
        have HF : Hid (Mill.whileK [k0, 21] = true) := by rw [Hid]; simp [Mill.whileK, HB.out]
        rw [ht] at c1 ⊢
        go_enter Tryz.func69, Tryz.ntmps69
        go_wp2_with (go_at_call 67; refine (isValue_is k0 hk1 hk2 y0 true HB _).mono ?_; rintro e w' ⟨rfl, rfl⟩)
        go_quiet (fail)
        go_wp2
        go_ret
        exact ⟨Mill.below_drewN _ ((Below.refl _ w).alloc (Nat.le_refl _) _), .inl ⟨HF.out, _, rfl, _, _, rfl, rfl⟩⟩
      · have ht : ¬ Mill.ty k1 = 58 := Mill.ty_ne hk3 hk4 (j := 21) (by omega) (by omega) h7
        have HF : Hid (Mill.whileK [k0, k1] = false) := by rw [Hid]; simp [Mill.whileK, h7]
        go_enter Tryz.func69, Tryz.ntmps69
        go_wp2_with (go_at_call 67; refine (isValue_is k0 hk1 hk2 y0 true HB _).mono ?_; rintro e w' ⟨rfl, rfl⟩)
        go_ret
        exact ⟨(Below.refl _ w).alloc (Nat.le_refl _) _, .inr ⟨HF.out, rfl⟩⟩
  · have HF : Hid (Mill.whileK ks = false) := Mill.whileK_no ks (by rw [HN.out]; exact h1)
    have h1' : ((n : Int) != 2) = true := by simpa using (by omega : ¬ (n : Int) = 2)
    clear hc h1
    go_enter Tryz.func69, Tryz.ntmps69
    go_wp2_with fail
    go_ret
    exact ⟨Below.refl _ _, .inr ⟨HF.out, rfl⟩⟩

set_option maxRecDepth 100000 in
set_option maxHeartbeats 4000000 in
theorem grownIf_any (P : Nat → Prop) (us : List Value) (ks : List Int) (S : Value) (n : Nat) (HN : Hid (ks.length = n)) (w : World) (hP : ∀ g, P g → g < w.heap.size) (hS : Mill.Sl P w S n us) (hk : Mill.Kinded us ks) :
    Calls Tryz.prog 68 #[S] w fun e w' => Mill.GrownT w 156 (Mill.ifK ks) (Mill.IfX us) e w' := by
  have tc := Tryz.ta_blockNode
  have ti := Tryz.ta_ifNode
  obtain ⟨a, c, rfl, hc⟩ := hS
  by_cases h1 : n = 2
  · subst h1
    obtain ⟨k0, y0, k1, y1, rfl, rfl, ⟨hk1, hk2⟩, hk3, hk4, hf⟩ := Mill.us2k hk HN.out
    obtain ⟨g, rfl, hg, c0⟩ := hc 0 _ rfl
    obtain ⟨g', hg', _, c1⟩ := hc 1 _ rfl
    cases hg'
    have hg2 := hP g hg
    clear hc ti
    obtain ⟨b, HB⟩ : ∃ b, Hid (Mill.isE k0 = b) := ⟨_, (rfl : Mill.isE k0 = _)⟩
    cases b with
    | false =>
      have HF : Hid (Mill.ifK [k0, k1] = false) := by rw [Hid]; simp [Mill.ifK, HB.out]
      go_enter Tryz.func68, Tryz.ntmps68
      go_wp2_with (go_at_call 67; refine (isValue_is k0 hk1 hk2 y0 false HB _).mono ?_; rintro e w' ⟨rfl, rfl⟩)
      go_ret
      exact ⟨Below.refl _ _, .inr ⟨HF.out, rfl⟩⟩
    | true =>
      by_cases h7 : k1 = 21
      · subst h7
        obtain ⟨sa, sn, sc, rfl⟩ := hf.1 rfl
        have ht : Mill.ty 21 = 58 := rfl
        have HF : Hid (Mill.ifK [k0, 21] = true) := by rw [Hid]; simp [Mill.ifK, HB.out]
        rw [ht] at c1 ⊢
        go_enter Tryz.func68, Tryz.ntmps68
        go_wp2_with (go_at_call 67; refine (isValue_is k0 hk1 hk2 y0 true HB _).mono ?_; rintro e w' ⟨rfl, rfl⟩)
        go_quiet (fail)
        go_wp2
        go_ret
        exact ⟨Mill.below_drewN _ ((Below.refl _ w).alloc (Nat.le_refl _) _), .inl ⟨HF.out, _, rfl, .inl ⟨_, _, rfl, rfl⟩⟩⟩
      · have ht : ¬ Mill.ty k1 = 58 := Mill.ty_ne hk3 hk4 (j := 21) (by omega) (by omega) h7
        have HF : Hid (Mill.ifK [k0, k1] = false) := by rw [Hid]; simp [Mill.ifK, h7]
        go_enter Tryz.func68, Tryz.ntmps68
        go_wp2_with (go_at_call 67; refine (isValue_is k0 hk1 hk2 y0 true HB _).mono ?_; rintro e w' ⟨rfl, rfl⟩)
        go_ret
        exact ⟨(Below.refl _ w).alloc (Nat.le_refl _) _, .inr ⟨HF.out, rfl⟩⟩
  · by_cases h2 : n = 3
    · subst h2
      obtain ⟨k0, y0, k1, y1, k2, y2, rfl, rfl, ⟨hk1, hk2⟩, ⟨hk3, hk4, hf⟩, hk5, hk6⟩ := Mill.us3k hk HN.out
      obtain ⟨g, rfl, hg, c0⟩ := hc 0 _ rfl
      obtain ⟨g', hg', _, c1⟩ := hc 1 _ rfl
      cases hg'
      obtain ⟨g', hg', _, c2⟩ := hc 2 _ rfl
      cases hg'
      have hg2 := hP g hg
      clear hc h1
      obtain ⟨b, HB⟩ : ∃ b, Hid (Mill.isE k0 = b) := ⟨_, (rfl : Mill.isE k0 = _)⟩
      cases b with
      | false =>
        have HF : Hid (Mill.ifK [k0, k1, k2] = false) := by rw [Hid]; simp [Mill.ifK, HB.out]
        go_enter Tryz.func68, Tryz.ntmps68
        go_wp2_with (go_at_call 67; refine (isValue_is k0 hk1 hk2 y0 false HB _).mono ?_; rintro e w' ⟨rfl, rfl⟩)
        go_ret
        exact ⟨Below.refl _ _, .inr ⟨HF.out, rfl⟩⟩
      | true =>
        by_cases h7 : k1 = 21
        · subst h7
          obtain ⟨sa, sn, sc, rfl⟩ := hf.1 rfl
          have ht : Mill.ty 21 = 58 := rfl
          rw [ht] at c1 ⊢
          by_cases h8 : k2 = 21
          · subst h8
            have HF : Hid (Mill.ifK [k0, 21, 21] = true) := by rw [Hid]; simp [Mill.ifK, HB.out]
            rw [ht] at c2 ⊢
            go_enter Tryz.func68, Tryz.ntmps68
            go_wp2_with (go_at_call 67; refine (isValue_is k0 hk1 hk2 y0 true HB _).mono ?_; rintro e w' ⟨rfl, rfl⟩)
            go_quiet (fail)
            go_wp2
            go_ret
            exact ⟨Mill.below_drewN _ ((Below.refl _ w).alloc (Nat.le_refl _) _), .inl ⟨HF.out, _, rfl, .inr ⟨_, _, _, _, rfl, rfl⟩⟩⟩
          · have ht2 : ¬ Mill.ty k2 = 58 := Mill.ty_ne hk5 hk6 (j := 21) (by omega) (by omega) h8
            by_cases h9 : k2 = 12
            · subst h9
              have HF : Hid (Mill.ifK [k0, 21, 12] = true) := by rw [Hid]; simp [Mill.ifK, HB.out]
              have hti : Mill.ty 12 = 156 := rfl
              rw [hti] at c2 ⊢
              clear ht2
              go_enter Tryz.func68, Tryz.ntmps68
              go_wp2_with (go_at_call 67; refine (isValue_is k0 hk1 hk2 y0 true HB _).mono ?_; rintro e w' ⟨rfl, rfl⟩)
              go_quiet (fail)
              go_wp2
              go_ret
              exact ⟨Mill.below_drewN _ ((Below.refl _ w).alloc (Nat.le_refl _) _), .inl ⟨HF.out, _, rfl, .inr ⟨_, _, _, _, rfl, rfl⟩⟩⟩
            · have hti : ¬ Mill.ty k2 = 156 := Mill.ty_ne hk5 hk6 (j := 12) (by omega) (by omega) h9
              have HF : Hid (Mill.ifK [k0, 21, k2] = false) := by rw [Hid]; simp [Mill.ifK, h8, h9]
              go_enter Tryz.func68, Tryz.ntmps68
              go_wp2_with (go_at_call 67; refine (isValue_is k0 hk1 hk2 y0 true HB _).mono ?_; rintro e w' ⟨rfl, rfl⟩)
              go_ret
              exact ⟨(Below.refl _ w).alloc (Nat.le_refl _) _, .inr ⟨HF.out, rfl⟩⟩
        · have ht : ¬ Mill.ty k1 = 58 := Mill.ty_ne hk3 hk4 (j := 21) (by omega) (by omega) h7
          have HF : Hid (Mill.ifK [k0, k1, k2] = false) := by rw [Hid]; simp [Mill.ifK, h7]
          go_enter Tryz.func68, Tryz.ntmps68
          go_wp2_with (go_at_call 67; refine (isValue_is k0 hk1 hk2 y0 true HB _).mono ?_; rintro e w' ⟨rfl, rfl⟩)
          go_ret
          exact ⟨(Below.refl _ w).alloc (Nat.le_refl _) _, .inr ⟨HF.out, rfl⟩⟩
    · have HF : Hid (Mill.ifK ks = false) := Mill.ifK_no ks (by rw [HN.out]; exact h1) (by rw [HN.out]; exact h2)
      clear hc
      by_cases h3 : n < 2
      · have h3' : (n : Int) < 2 := by omega
        clear h1 h2 h3
        go_enter Tryz.func68, Tryz.ntmps68
        go_wp2_with fail
        go_ret
        exact ⟨Below.refl _ _, .inr ⟨HF.out, rfl⟩⟩
      · have h3' : ¬ (n : Int) < 2 := by omega
        have h4' : (3 : Int) < (n : Int) := by omega
        clear h1 h2 h3
        go_enter Tryz.func68, Tryz.ntmps68
        go_wp2_with fail
        go_ret
        exact ⟨Below.refl _ _, .inr ⟨HF.out, rfl⟩⟩

set_option maxRecDepth 100000 in
set_option maxHeartbeats 2000000 in
theorem grownStatement_12 (o t y : Int) (x : ByteArray) (k : Int) (P : Nat → Prop) (us : List Value) (ks : List Int) (S : Value) (n : Nat) (HN : Hid (ks.length = n)) (w : World) (hP : ∀ g, P g → g < w.heap.size) (hS : Mill.Sl P w S n us) (hk : Mill.Kinded us ks) :
    Calls Tryz.prog 50 #[Mill.ndV ⟨12, o, t, y, x, k⟩, S] w fun e w' => Mill.Grown P w ⟨12, o, t, y, x, k⟩ us ks e w' := by
  have hbw := (Below.refl w.heap.size w).alloc (Nat.le_refl _) (.cells #[.int .i64 12, .int .i64 o, .int .i64 t, .int .i64 y, .string x, .int .i64 k] 68)
  have hS1 := hS.alloc hP (.cells #[.int .i64 12, .int .i64 o, .int .i64 t, .int .i64 y, .string x, .int .i64 k] 68)
  have HK : Hid (Mill.fits 12 o ks = Mill.ifK ks) := by rw [Hid]; simp [Mill.fits]
  obtain ⟨a, c, rfl, hc⟩ := hS
  clear hc
  simp only [Mill.ndV]
  cases hK : Mill.ifK ks with
  | true =>
    rw [hK] at HK
    go_enter Tryz.func50, Tryz.ntmps50
    go_wp2_with (go_at_call 68; refine (grownIf_any P us ks _ n HN _ (fun g h => by have := hP g h; rw [World.size_alloc]; omega) hS1 hk).mono ?_; rintro e w' ⟨hb2, hg⟩; rw [hK] at hg; obtain ⟨_, x', rfl, hx⟩ := hg.resolve_right (by simp); rw [World.size_alloc] at hb2)
    go_ret
    refine ⟨hbw.trans (hb2.mono (by omega)), .inl ⟨HK.out, _, rfl, by simp, by simp, x', rfl, ?_⟩⟩
    unfold Mill.Inner
    simp (decide := true) only [if_false, if_true]
    exact hx
  | false =>
    rw [hK] at HK
    go_enter Tryz.func50, Tryz.ntmps50
    go_wp2_with (go_at_call 68; refine (grownIf_any P us ks _ n HN _ (fun g h => by have := hP g h; rw [World.size_alloc]; omega) hS1 hk).mono ?_; rintro e w' ⟨hb2, hg⟩; rw [hK] at hg; obtain ⟨_, rfl⟩ := hg.resolve_left (by simp); rw [World.size_alloc] at hb2)
    go_ret
    exact ⟨hbw.trans (hb2.mono (by omega)), .inr ⟨HK.out, rfl⟩⟩

set_option maxRecDepth 100000 in
set_option maxHeartbeats 2000000 in
theorem grownStatement_13 (o t y : Int) (x : ByteArray) (k : Int) (P : Nat → Prop) (us : List Value) (ks : List Int) (S : Value) (n : Nat) (HN : Hid (ks.length = n)) (w : World) (hP : ∀ g, P g → g < w.heap.size) (hS : Mill.Sl P w S n us) (hk : Mill.Kinded us ks) :
    Calls Tryz.prog 50 #[Mill.ndV ⟨13, o, t, y, x, k⟩, S] w fun e w' => Mill.Grown P w ⟨13, o, t, y, x, k⟩ us ks e w' := by
  have hbw := (Below.refl w.heap.size w).alloc (Nat.le_refl _) (.cells #[.int .i64 13, .int .i64 o, .int .i64 t, .int .i64 y, .string x, .int .i64 k] 68)
  have hS1 := hS.alloc hP (.cells #[.int .i64 13, .int .i64 o, .int .i64 t, .int .i64 y, .string x, .int .i64 k] 68)
  have HK : Hid (Mill.fits 13 o ks = Mill.whileK ks) := by rw [Hid]; simp [Mill.fits]
  obtain ⟨a, c, rfl, hc⟩ := hS
  clear hc
  simp only [Mill.ndV]
  cases hK : Mill.whileK ks with
  | true =>
    rw [hK] at HK
    go_enter Tryz.func50, Tryz.ntmps50
    go_wp2_with (go_at_call 69; refine (grownWhile_any P us ks _ n HN _ (fun g h => by have := hP g h; rw [World.size_alloc]; omega) hS1 hk).mono ?_; rintro e w' ⟨hb2, hg⟩; rw [hK] at hg; obtain ⟨_, x', rfl, hx⟩ := hg.resolve_right (by simp); rw [World.size_alloc] at hb2)
    go_ret
    refine ⟨hbw.trans (hb2.mono (by omega)), .inl ⟨HK.out, _, rfl, by simp, by simp, x', rfl, ?_⟩⟩
    unfold Mill.Inner
    simp (decide := true) only [if_false, if_true]
    exact hx
  | false =>
    rw [hK] at HK
    go_enter Tryz.func50, Tryz.ntmps50
    go_wp2_with (go_at_call 69; refine (grownWhile_any P us ks _ n HN _ (fun g h => by have := hP g h; rw [World.size_alloc]; omega) hS1 hk).mono ?_; rintro e w' ⟨hb2, hg⟩; rw [hK] at hg; obtain ⟨_, rfl⟩ := hg.resolve_left (by simp); rw [World.size_alloc] at hb2)
    go_ret
    exact ⟨hbw.trans (hb2.mono (by omega)), .inr ⟨HK.out, rfl⟩⟩

set_option maxRecDepth 100000 in
set_option maxHeartbeats 2000000 in
theorem grownStatement_20 (o t y : Int) (x : ByteArray) (k : Int) (P : Nat → Prop) (us : List Value) (ks : List Int) (S : Value) (n : Nat) (HN : Hid (ks.length = n)) (w : World) (hP : ∀ g, P g → g < w.heap.size) (hS : Mill.Sl P w S n us) (hk : Mill.Kinded us ks) :
    Calls Tryz.prog 50 #[Mill.ndV ⟨20, o, t, y, x, k⟩, S] w fun e w' => Mill.Grown P w ⟨20, o, t, y, x, k⟩ us ks e w' := by
  have hbw := (Below.refl w.heap.size w).alloc (Nat.le_refl _) (.cells #[.int .i64 20, .int .i64 o, .int .i64 t, .int .i64 y, .string x, .int .i64 k] 68)
  have hS1 := hS.alloc hP (.cells #[.int .i64 20, .int .i64 o, .int .i64 t, .int .i64 y, .string x, .int .i64 k] 68)
  have HK : Hid (Mill.fits 20 o ks = Mill.doK ks) := by rw [Hid]; simp [Mill.fits]
  obtain ⟨a, c, rfl, hc⟩ := hS
  clear hc
  simp only [Mill.ndV]
  cases hK : Mill.doK ks with
  | true =>
    rw [hK] at HK
    go_enter Tryz.func50, Tryz.ntmps50
    go_wp2_with (go_at_call 70; refine (grownDo_any P us ks _ n HN _ (fun g h => by have := hP g h; rw [World.size_alloc]; omega) hS1 hk).mono ?_; rintro e w' ⟨hb2, hg⟩; rw [hK] at hg; obtain ⟨_, x', rfl, hx⟩ := hg.resolve_right (by simp); rw [World.size_alloc] at hb2)
    go_ret
    refine ⟨hbw.trans (hb2.mono (by omega)), .inl ⟨HK.out, _, rfl, by simp, by simp, x', rfl, ?_⟩⟩
    unfold Mill.Inner
    simp (decide := true) only [if_false, if_true]
    exact hx
  | false =>
    rw [hK] at HK
    go_enter Tryz.func50, Tryz.ntmps50
    go_wp2_with (go_at_call 70; refine (grownDo_any P us ks _ n HN _ (fun g h => by have := hP g h; rw [World.size_alloc]; omega) hS1 hk).mono ?_; rintro e w' ⟨hb2, hg⟩; rw [hK] at hg; obtain ⟨_, rfl⟩ := hg.resolve_left (by simp); rw [World.size_alloc] at hb2)
    go_ret
    exact ⟨hbw.trans (hb2.mono (by omega)), .inr ⟨HK.out, rfl⟩⟩

end Go.Proofs.YtkaoeoeloihigaaGreatDoor
