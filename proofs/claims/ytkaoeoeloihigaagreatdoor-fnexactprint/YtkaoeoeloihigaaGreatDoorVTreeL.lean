import Derived.Test.YtkaoeoeloihigaaGreatDoorVTreeK
namespace Go.Proofs.YtkaoeoeloihigaaGreatDoor
open Go.RowKit

def Mill.Builts (w : World) : Prop := (∀ m : Nat, 1 ≤ m → m ≤ 12 → w.cell? ⟨2, m * 2 + 1, none⟩ = some (.int .i64 (Mill.builtKids (m : Int)))) ∧ 2 < w.heap.size
theorem Mill.kinded_all {us : List Value} {ks : List Int} (h : Mill.Kinded us ks) : us.length = ks.length := h.1
theorem Mill.oneE_iff (ks : List Int) : Mill.oneE ks = (decide (ks.length = 1) && ks.all Mill.isE) := by
  match ks with
  | [] => rfl
  | [a] => simp [Mill.oneE]
  | a :: b :: r => simp [Mill.oneE]
theorem Mill.us_at {us : List Value} {ks : List Int} (h : Mill.Kinded us ks) (i : Nat) (u : Value) (hi : us[i]? = some u) : ∃ k y, 1 ≤ k ∧ k ≤ 24 ∧ ks[i]? = some k ∧ u = .iface (Mill.ty k) y ∧ Mill.Form k y := by
  have hl : i < ks.length := by rw [← h.1]; exact (List.getElem?_eq_some_iff.1 hi).1
  obtain ⟨h1, h2, x, hx, hf⟩ := h.2 i hl
  rw [hi] at hx
  exact ⟨ks[i], x, h1, h2, List.getElem?_eq_getElem hl, Option.some.inj hx, hf⟩
theorem Mill.us1 {us : List Value} {ks : List Int} (h : Mill.Kinded us ks) (hl : us.length = 1) : ∃ t y, us = [.iface t y] := by
  match us, hl with
  | [u], _ =>
    obtain ⟨k, y, _, _, _, rfl, _⟩ := Mill.us_at h 0 u rfl
    exact ⟨_, _, rfl⟩
theorem Mill.us2 {us : List Value} {ks : List Int} (h : Mill.Kinded us ks) (hl : us.length = 2) : ∃ t y t' y', us = [.iface t y, .iface t' y'] := by
  match us, hl with
  | [u, v], _ =>
    obtain ⟨k, y, _, _, _, rfl, _⟩ := Mill.us_at h 0 u rfl
    obtain ⟨k', y', _, _, _, rfl, _⟩ := Mill.us_at h 1 v rfl
    exact ⟨_, _, _, _, rfl⟩
theorem Mill.us0 {us : List Value} (h : us.length = 0) : us = [] := List.eq_nil_of_length_eq_zero h
theorem Mill.noE {ks : List Int} (o : Int) (k : Int) (h1 : 1 ≤ k) (h2 : k ≤ 9) (h : ks.all Mill.isE = false) : Mill.fits k o ks = false := by
  have : ks ≠ [] := by intro h0; subst h0; simp at h
  have hl : ks.length ≠ 0 := by intro h0; exact this (List.eq_nil_of_length_eq_zero h0)
  have : k = 1 ∨ k = 2 ∨ k = 3 ∨ k = 4 ∨ k = 5 ∨ k = 6 ∨ k = 7 ∨ k = 8 ∨ k = 9 := by omega
  rcases this with rfl | rfl | rfl | rfl | rfl | rfl | rfl | rfl | rfl <;> simp [Mill.fits, Mill.oneE_iff, h] <;> simpa using hl

set_option maxRecDepth 100000 in
set_option maxHeartbeats 2000000 in
theorem grownValue_1 (o t y : Int) (x : ByteArray) (k : Int) (P : Nat → Prop) (us : List Value) (ks : List Int) (S : Value) (n : Nat) (HN : Hid (ks.length = n)) (w : World) (hP : ∀ g, P g → g < w.heap.size) (hS : Mill.Sl P w S n us) (hk : Mill.Kinded us ks) (hl : n ≤ 1000000) :
    Calls Tryz.prog 49 #[Mill.ndV ⟨1, o, t, y, x, k⟩, S] w fun e w' => Mill.Grown P w ⟨1, o, t, y, x, k⟩ us ks e w' := by
  have hbw := (Below.refl w.heap.size w).alloc (Nat.le_refl _) (.cells #[.int .i64 1, .int .i64 o, .int .i64 t, .int .i64 y, .string x, .int .i64 k] 68)
  have hS1 := hS.alloc hP (.cells #[.int .i64 1, .int .i64 o, .int .i64 t, .int .i64 y, .string x, .int .i64 k] 68)
  obtain ⟨a, c, rfl, hc⟩ := hS
  have hul : us.length = n := by rw [hk.1]; exact HN.out
  simp only [Mill.ndV]
  cases hE : ks.all Mill.isE with
  | false =>
    have HE : Hid (ks.all Mill.isE = false) := hE
    have HF : Hid (Mill.fits 1 o ks = false) := Mill.noE o 1 (by omega) (by omega) hE
    clear hE
    go_enter Tryz.func49, Tryz.ntmps49
    go_wp2_with (go_at_call 51; refine (allValue_is false P us ks HE _ n HN _ hS1 hk hl).mono ?_; rintro e w' ⟨rfl, rfl⟩)
    go_ret
    exact ⟨hbw, .inr ⟨HF.out, rfl⟩⟩
  | true =>
    have HE : Hid (ks.all Mill.isE = true) := hE
    by_cases h1 : n = 0
    · subst h1
      have HF : Hid (Mill.fits 1 o ks = true) := by rw [Hid]; have := HN.out; simp [Mill.fits, this]
      clear hE
      obtain rfl := Mill.us0 hul
      clear hc
      go_enter Tryz.func49, Tryz.ntmps49
      go_wp2_with (go_at_call 51; refine (allValue_is true P _ ks HE _ 0 HN _ hS1 hk hl).mono ?_; rintro e w' ⟨rfl, rfl⟩)
      go_ret
      refine ⟨hbw, .inl ⟨HF.out, _, rfl, by simp, by simp, _, rfl, by simp [Mill.Inner]⟩⟩
    · have HF : Hid (Mill.fits 1 o ks = false) := by rw [Hid]; have := HN.out; simp [Mill.fits, this, h1]
      have h1' : ((n : Int) == 0) = false := by simpa using (by omega : ¬ (n : Int) = 0)
      clear hE h1 hul
      go_enter Tryz.func49, Tryz.ntmps49
      go_wp2_with (go_at_call 51; refine (allValue_is true P us ks HE _ n HN _ hS1 hk hl).mono ?_; rintro e w' ⟨rfl, rfl⟩)
      go_ret
      exact ⟨hbw, .inr ⟨HF.out, rfl⟩⟩

set_option maxRecDepth 100000 in
set_option maxHeartbeats 2000000 in
theorem grownValue_2 (o t y : Int) (x : ByteArray) (k : Int) (P : Nat → Prop) (us : List Value) (ks : List Int) (S : Value) (n : Nat) (HN : Hid (ks.length = n)) (w : World) (hP : ∀ g, P g → g < w.heap.size) (hS : Mill.Sl P w S n us) (hk : Mill.Kinded us ks) (hl : n ≤ 1000000) :
    Calls Tryz.prog 49 #[Mill.ndV ⟨2, o, t, y, x, k⟩, S] w fun e w' => Mill.Grown P w ⟨2, o, t, y, x, k⟩ us ks e w' := by
  have hbw := (Below.refl w.heap.size w).alloc (Nat.le_refl _) (.cells #[.int .i64 2, .int .i64 o, .int .i64 t, .int .i64 y, .string x, .int .i64 k] 68)
  have hS1 := hS.alloc hP (.cells #[.int .i64 2, .int .i64 o, .int .i64 t, .int .i64 y, .string x, .int .i64 k] 68)
  obtain ⟨a, c, rfl, hc⟩ := hS
  have hul : us.length = n := by rw [hk.1]; exact HN.out
  simp only [Mill.ndV]
  cases hE : ks.all Mill.isE with
  | false =>
    have HE : Hid (ks.all Mill.isE = false) := hE
    have HF : Hid (Mill.fits 2 o ks = false) := Mill.noE o 2 (by omega) (by omega) hE
    clear hE
    go_enter Tryz.func49, Tryz.ntmps49
    go_wp2_with (go_at_call 51; refine (allValue_is false P us ks HE _ n HN _ hS1 hk hl).mono ?_; rintro e w' ⟨rfl, rfl⟩)
    go_ret
    exact ⟨hbw, .inr ⟨HF.out, rfl⟩⟩
  | true =>
    have HE : Hid (ks.all Mill.isE = true) := hE
    by_cases h1 : n = 0
    · subst h1
      have HF : Hid (Mill.fits 2 o ks = true) := by rw [Hid]; have := HN.out; simp [Mill.fits, this]
      clear hE
      obtain rfl := Mill.us0 hul
      clear hc
      go_enter Tryz.func49, Tryz.ntmps49
      go_wp2_with (go_at_call 51; refine (allValue_is true P _ ks HE _ 0 HN _ hS1 hk hl).mono ?_; rintro e w' ⟨rfl, rfl⟩)
      go_ret
      refine ⟨hbw, .inl ⟨HF.out, _, rfl, by simp, by simp, _, rfl, by simp [Mill.Inner]⟩⟩
    · have HF : Hid (Mill.fits 2 o ks = false) := by rw [Hid]; have := HN.out; simp [Mill.fits, this, h1]
      have h1' : ((n : Int) == 0) = false := by simpa using (by omega : ¬ (n : Int) = 0)
      clear hE h1 hul
      go_enter Tryz.func49, Tryz.ntmps49
      go_wp2_with (go_at_call 51; refine (allValue_is true P us ks HE _ n HN _ hS1 hk hl).mono ?_; rintro e w' ⟨rfl, rfl⟩)
      go_ret
      exact ⟨hbw, .inr ⟨HF.out, rfl⟩⟩

set_option maxRecDepth 100000 in
set_option maxHeartbeats 2000000 in
theorem grownValue_3 (o t y : Int) (x : ByteArray) (k : Int) (P : Nat → Prop) (us : List Value) (ks : List Int) (S : Value) (n : Nat) (HN : Hid (ks.length = n)) (w : World) (hP : ∀ g, P g → g < w.heap.size) (hS : Mill.Sl P w S n us) (hk : Mill.Kinded us ks) (hl : n ≤ 1000000) :
    Calls Tryz.prog 49 #[Mill.ndV ⟨3, o, t, y, x, k⟩, S] w fun e w' => Mill.Grown P w ⟨3, o, t, y, x, k⟩ us ks e w' := by
  have hbw := (Below.refl w.heap.size w).alloc (Nat.le_refl _) (.cells #[.int .i64 3, .int .i64 o, .int .i64 t, .int .i64 y, .string x, .int .i64 k] 68)
  have hS1 := hS.alloc hP (.cells #[.int .i64 3, .int .i64 o, .int .i64 t, .int .i64 y, .string x, .int .i64 k] 68)
  obtain ⟨a, c, rfl, hc⟩ := hS
  have hul : us.length = n := by rw [hk.1]; exact HN.out
  simp only [Mill.ndV]
  cases hE : ks.all Mill.isE with
  | false =>
    have HE : Hid (ks.all Mill.isE = false) := hE
    have HF : Hid (Mill.fits 3 o ks = false) := Mill.noE o 3 (by omega) (by omega) hE
    clear hE
    go_enter Tryz.func49, Tryz.ntmps49
    go_wp2_with (go_at_call 51; refine (allValue_is false P us ks HE _ n HN _ hS1 hk hl).mono ?_; rintro e w' ⟨rfl, rfl⟩)
    go_ret
    exact ⟨hbw, .inr ⟨HF.out, rfl⟩⟩
  | true =>
    have HE : Hid (ks.all Mill.isE = true) := hE
    by_cases h1 : n = 0
    · subst h1
      have HF : Hid (Mill.fits 3 o ks = true) := by rw [Hid]; have := HN.out; simp [Mill.fits, this]
      clear hE
      obtain rfl := Mill.us0 hul
      clear hc
      go_enter Tryz.func49, Tryz.ntmps49
      go_wp2_with (go_at_call 51; refine (allValue_is true P _ ks HE _ 0 HN _ hS1 hk hl).mono ?_; rintro e w' ⟨rfl, rfl⟩)
      go_ret
      refine ⟨hbw, .inl ⟨HF.out, _, rfl, by simp, by simp, _, rfl, by simp [Mill.Inner]⟩⟩
    · have HF : Hid (Mill.fits 3 o ks = false) := by rw [Hid]; have := HN.out; simp [Mill.fits, this, h1]
      have h1' : ((n : Int) == 0) = false := by simpa using (by omega : ¬ (n : Int) = 0)
      clear hE h1 hul
      go_enter Tryz.func49, Tryz.ntmps49
      go_wp2_with (go_at_call 51; refine (allValue_is true P us ks HE _ n HN _ hS1 hk hl).mono ?_; rintro e w' ⟨rfl, rfl⟩)
      go_ret
      exact ⟨hbw, .inr ⟨HF.out, rfl⟩⟩

set_option maxRecDepth 100000 in
set_option maxHeartbeats 2000000 in
theorem grownValue_4 (o t y : Int) (x : ByteArray) (k : Int) (P : Nat → Prop) (us : List Value) (ks : List Int) (S : Value) (n : Nat) (HN : Hid (ks.length = n)) (w : World) (hP : ∀ g, P g → g < w.heap.size) (hS : Mill.Sl P w S n us) (hk : Mill.Kinded us ks) (hl : n ≤ 1000000) :
    Calls Tryz.prog 49 #[Mill.ndV ⟨4, o, t, y, x, k⟩, S] w fun e w' => Mill.Grown P w ⟨4, o, t, y, x, k⟩ us ks e w' := by
  have hbw := (Below.refl w.heap.size w).alloc (Nat.le_refl _) (.cells #[.int .i64 4, .int .i64 o, .int .i64 t, .int .i64 y, .string x, .int .i64 k] 68)
  have hS1 := hS.alloc hP (.cells #[.int .i64 4, .int .i64 o, .int .i64 t, .int .i64 y, .string x, .int .i64 k] 68)
  obtain ⟨a, c, rfl, hc⟩ := hS
  have hul : us.length = n := by rw [hk.1]; exact HN.out
  simp only [Mill.ndV]
  cases hE : ks.all Mill.isE with
  | false =>
    have HE : Hid (ks.all Mill.isE = false) := hE
    have HF : Hid (Mill.fits 4 o ks = false) := Mill.noE o 4 (by omega) (by omega) hE
    clear hE
    go_enter Tryz.func49, Tryz.ntmps49
    go_wp2_with (go_at_call 51; refine (allValue_is false P us ks HE _ n HN _ hS1 hk hl).mono ?_; rintro e w' ⟨rfl, rfl⟩)
    go_ret
    exact ⟨hbw, .inr ⟨HF.out, rfl⟩⟩
  | true =>
    have HE : Hid (ks.all Mill.isE = true) := hE
    by_cases h1 : n = 0
    · subst h1
      have HF : Hid (Mill.fits 4 o ks = true) := by rw [Hid]; have := HN.out; simp [Mill.fits, this]
      clear hE
      obtain rfl := Mill.us0 hul
      clear hc
      go_enter Tryz.func49, Tryz.ntmps49
      go_wp2_with (go_at_call 51; refine (allValue_is true P _ ks HE _ 0 HN _ hS1 hk hl).mono ?_; rintro e w' ⟨rfl, rfl⟩)
      go_ret
      refine ⟨hbw, .inl ⟨HF.out, _, rfl, by simp, by simp, _, rfl, by simp [Mill.Inner]⟩⟩
    · have HF : Hid (Mill.fits 4 o ks = false) := by rw [Hid]; have := HN.out; simp [Mill.fits, this, h1]
      have h1' : ((n : Int) == 0) = false := by simpa using (by omega : ¬ (n : Int) = 0)
      clear hE h1 hul
      go_enter Tryz.func49, Tryz.ntmps49
      go_wp2_with (go_at_call 51; refine (allValue_is true P us ks HE _ n HN _ hS1 hk hl).mono ?_; rintro e w' ⟨rfl, rfl⟩)
      go_ret
      exact ⟨hbw, .inr ⟨HF.out, rfl⟩⟩

set_option maxRecDepth 100000 in
set_option maxHeartbeats 2000000 in
theorem grownValue_5 (o t y : Int) (x : ByteArray) (k : Int) (P : Nat → Prop) (us : List Value) (ks : List Int) (S : Value) (n : Nat) (HN : Hid (ks.length = n)) (w : World) (hP : ∀ g, P g → g < w.heap.size) (hS : Mill.Sl P w S n us) (hk : Mill.Kinded us ks) (hl : n ≤ 1000000) :
    Calls Tryz.prog 49 #[Mill.ndV ⟨5, o, t, y, x, k⟩, S] w fun e w' => Mill.Grown P w ⟨5, o, t, y, x, k⟩ us ks e w' := by
  have hbw := (Below.refl w.heap.size w).alloc (Nat.le_refl _) (.cells #[.int .i64 5, .int .i64 o, .int .i64 t, .int .i64 y, .string x, .int .i64 k] 68)
  have hS1 := hS.alloc hP (.cells #[.int .i64 5, .int .i64 o, .int .i64 t, .int .i64 y, .string x, .int .i64 k] 68)
  obtain ⟨a, c, rfl, hc⟩ := hS
  have hul : us.length = n := by rw [hk.1]; exact HN.out
  simp only [Mill.ndV]
  cases hE : ks.all Mill.isE with
  | false =>
    have HE : Hid (ks.all Mill.isE = false) := hE
    have HF : Hid (Mill.fits 5 o ks = false) := Mill.noE o 5 (by omega) (by omega) hE
    clear hE
    go_enter Tryz.func49, Tryz.ntmps49
    go_wp2_with (go_at_call 51; refine (allValue_is false P us ks HE _ n HN _ hS1 hk hl).mono ?_; rintro e w' ⟨rfl, rfl⟩)
    go_ret
    exact ⟨hbw, .inr ⟨HF.out, rfl⟩⟩
  | true =>
    have HE : Hid (ks.all Mill.isE = true) := hE
    by_cases h1 : n = 1
    · subst h1
      have HF : Hid (Mill.fits 5 o ks = true) := by rw [Hid]; have := HN.out; simp [Mill.fits, Mill.oneE_iff, this, hE]
      clear hE
      obtain ⟨tu, yu, rfl⟩ := Mill.us1 hk hul
      obtain ⟨g, rfl, hg, c0⟩ := hc 0 _ rfl
      have hg2 := hP g hg
      clear hc
      go_enter Tryz.func49, Tryz.ntmps49
      go_wp2_with (go_at_call 51; refine (allValue_is true P _ ks HE _ 1 HN _ hS1 hk hl).mono ?_; rintro e w' ⟨rfl, rfl⟩)
      go_quiet (fail)
      go_wp2
      go_ret
      refine ⟨Mill.below_drewN _ hbw, .inl ⟨HF.out, _, rfl, by simp, by simp, _, rfl, by simp [Mill.Inner]⟩⟩
    · have HF : Hid (Mill.fits 5 o ks = false) := by rw [Hid]; have := HN.out; simp [Mill.fits, Mill.oneE_iff, this, h1]
      have h1' : ((n : Int) == 1) = false := by simpa using (by omega : ¬ (n : Int) = 1)
      clear hE h1 hul
      go_enter Tryz.func49, Tryz.ntmps49
      go_wp2_with (go_at_call 51; refine (allValue_is true P us ks HE _ n HN _ hS1 hk hl).mono ?_; rintro e w' ⟨rfl, rfl⟩)
      go_ret
      exact ⟨hbw, .inr ⟨HF.out, rfl⟩⟩

set_option maxRecDepth 100000 in
set_option maxHeartbeats 2000000 in
theorem grownValue_6 (o t y : Int) (x : ByteArray) (k : Int) (P : Nat → Prop) (us : List Value) (ks : List Int) (S : Value) (n : Nat) (HN : Hid (ks.length = n)) (w : World) (hP : ∀ g, P g → g < w.heap.size) (hS : Mill.Sl P w S n us) (hk : Mill.Kinded us ks) (hl : n ≤ 1000000) :
    Calls Tryz.prog 49 #[Mill.ndV ⟨6, o, t, y, x, k⟩, S] w fun e w' => Mill.Grown P w ⟨6, o, t, y, x, k⟩ us ks e w' := by
  have hbw := (Below.refl w.heap.size w).alloc (Nat.le_refl _) (.cells #[.int .i64 6, .int .i64 o, .int .i64 t, .int .i64 y, .string x, .int .i64 k] 68)
  have hS1 := hS.alloc hP (.cells #[.int .i64 6, .int .i64 o, .int .i64 t, .int .i64 y, .string x, .int .i64 k] 68)
  obtain ⟨a, c, rfl, hc⟩ := hS
  have hul : us.length = n := by rw [hk.1]; exact HN.out
  simp only [Mill.ndV]
  cases hE : ks.all Mill.isE with
  | false =>
    have HE : Hid (ks.all Mill.isE = false) := hE
    have HF : Hid (Mill.fits 6 o ks = false) := Mill.noE o 6 (by omega) (by omega) hE
    clear hE
    go_enter Tryz.func49, Tryz.ntmps49
    go_wp2_with (go_at_call 51; refine (allValue_is false P us ks HE _ n HN _ hS1 hk hl).mono ?_; rintro e w' ⟨rfl, rfl⟩)
    go_ret
    exact ⟨hbw, .inr ⟨HF.out, rfl⟩⟩
  | true =>
    have HE : Hid (ks.all Mill.isE = true) := hE
    by_cases h1 : n = 2
    · subst h1
      have HF : Hid (Mill.fits 6 o ks = true) := by rw [Hid]; have := HN.out; simp [Mill.fits, this, hE]
      clear hE
      obtain ⟨tu, yu, tv, yv, rfl⟩ := Mill.us2 hk hul
      obtain ⟨g, rfl, hg, c0⟩ := hc 0 _ rfl
      obtain ⟨g', hg', _, c1⟩ := hc 1 _ rfl
      cases hg'
      have hg2 := hP g hg
      clear hc
      go_enter Tryz.func49, Tryz.ntmps49
      go_wp2_with (go_at_call 51; refine (allValue_is true P _ ks HE _ 2 HN _ hS1 hk hl).mono ?_; rintro e w' ⟨rfl, rfl⟩)
      go_quiet (fail)
      go_wp2
      go_ret
      refine ⟨Mill.below_drewN _ hbw, .inl ⟨HF.out, _, rfl, by simp, by simp, _, rfl, by simp [Mill.Inner]⟩⟩
    · have HF : Hid (Mill.fits 6 o ks = false) := by rw [Hid]; have := HN.out; simp [Mill.fits, this, h1]
      have h1' : ((n : Int) == 2) = false := by simpa using (by omega : ¬ (n : Int) = 2)
      clear hE h1 hul
      go_enter Tryz.func49, Tryz.ntmps49
      go_wp2_with (go_at_call 51; refine (allValue_is true P us ks HE _ n HN _ hS1 hk hl).mono ?_; rintro e w' ⟨rfl, rfl⟩)
      go_ret
      exact ⟨hbw, .inr ⟨HF.out, rfl⟩⟩

set_option maxRecDepth 100000 in
set_option maxHeartbeats 2000000 in
theorem grownValue_9 (o t y : Int) (x : ByteArray) (k : Int) (P : Nat → Prop) (us : List Value) (ks : List Int) (S : Value) (n : Nat) (HN : Hid (ks.length = n)) (w : World) (hP : ∀ g, P g → g < w.heap.size) (hS : Mill.Sl P w S n us) (hk : Mill.Kinded us ks) (hl : n ≤ 1000000) :
    Calls Tryz.prog 49 #[Mill.ndV ⟨9, o, t, y, x, k⟩, S] w fun e w' => Mill.Grown P w ⟨9, o, t, y, x, k⟩ us ks e w' := by
  have hbw := (Below.refl w.heap.size w).alloc (Nat.le_refl _) (.cells #[.int .i64 9, .int .i64 o, .int .i64 t, .int .i64 y, .string x, .int .i64 k] 68)
  have hS1 := hS.alloc hP (.cells #[.int .i64 9, .int .i64 o, .int .i64 t, .int .i64 y, .string x, .int .i64 k] 68)
  obtain ⟨a, c, rfl, hc⟩ := hS
  have hul : us.length = n := by rw [hk.1]; exact HN.out
  simp only [Mill.ndV]
  cases hE : ks.all Mill.isE with
  | false =>
    have HE : Hid (ks.all Mill.isE = false) := hE
    have HF : Hid (Mill.fits 9 o ks = false) := Mill.noE o 9 (by omega) (by omega) hE
    clear hE
    go_enter Tryz.func49, Tryz.ntmps49
    go_wp2_with (go_at_call 51; refine (allValue_is false P us ks HE _ n HN _ hS1 hk hl).mono ?_; rintro e w' ⟨rfl, rfl⟩)
    go_ret
    exact ⟨hbw, .inr ⟨HF.out, rfl⟩⟩
  | true =>
    have HE : Hid (ks.all Mill.isE = true) := hE
    by_cases h1 : n = 1
    · subst h1
      have HF : Hid (Mill.fits 9 o ks = true) := by rw [Hid]; have := HN.out; simp [Mill.fits, Mill.oneE_iff, this, hE]
      clear hE
      obtain ⟨tu, yu, rfl⟩ := Mill.us1 hk hul
      obtain ⟨g, rfl, hg, c0⟩ := hc 0 _ rfl
      have hg2 := hP g hg
      clear hc
      go_enter Tryz.func49, Tryz.ntmps49
      go_wp2_with (go_at_call 51; refine (allValue_is true P _ ks HE _ 1 HN _ hS1 hk hl).mono ?_; rintro e w' ⟨rfl, rfl⟩)
      go_quiet (fail)
      go_wp2
      go_ret
      refine ⟨Mill.below_drewN _ hbw, .inl ⟨HF.out, _, rfl, by simp, by simp, _, rfl, by simp [Mill.Inner]⟩⟩
    · have HF : Hid (Mill.fits 9 o ks = false) := by rw [Hid]; have := HN.out; simp [Mill.fits, Mill.oneE_iff, this, h1]
      have h1' : ((n : Int) == 1) = false := by simpa using (by omega : ¬ (n : Int) = 1)
      clear hE h1 hul
      go_enter Tryz.func49, Tryz.ntmps49
      go_wp2_with (go_at_call 51; refine (allValue_is true P us ks HE _ n HN _ hS1 hk hl).mono ?_; rintro e w' ⟨rfl, rfl⟩)
      go_ret
      exact ⟨hbw, .inr ⟨HF.out, rfl⟩⟩

set_option maxRecDepth 100000 in
set_option maxHeartbeats 2000000 in
theorem grownValue_7 (o t y : Int) (x : ByteArray) (k : Int) (P : Nat → Prop) (us : List Value) (ks : List Int) (S : Value) (n : Nat) (HN : Hid (ks.length = n)) (w : World) (hP : ∀ g, P g → g < w.heap.size) (hS : Mill.Sl P w S n us) (hk : Mill.Kinded us ks) (hl : n ≤ 1000000) :
    Calls Tryz.prog 49 #[Mill.ndV ⟨7, o, t, y, x, k⟩, S] w fun e w' => Mill.Grown P w ⟨7, o, t, y, x, k⟩ us ks e w' := by
  have hbw := (Below.refl w.heap.size w).alloc (Nat.le_refl _) (.cells #[.int .i64 7, .int .i64 o, .int .i64 t, .int .i64 y, .string x, .int .i64 k] 68)
  have hS1 := hS.alloc hP (.cells #[.int .i64 7, .int .i64 o, .int .i64 t, .int .i64 y, .string x, .int .i64 k] 68)
  obtain ⟨a, c, rfl, hc⟩ := hS
  have hul : us.length = n := by rw [hk.1]; exact HN.out
  simp only [Mill.ndV]
  cases hE : ks.all Mill.isE with
  | false =>
    have HE : Hid (ks.all Mill.isE = false) := hE
    have HF : Hid (Mill.fits 7 o ks = false) := Mill.noE o 7 (by omega) (by omega) hE
    clear hE
    go_enter Tryz.func49, Tryz.ntmps49
    go_wp2_with (go_at_call 51; refine (allValue_is false P us ks HE _ n HN _ hS1 hk hl).mono ?_; rintro e w' ⟨rfl, rfl⟩)
    go_ret
    exact ⟨hbw, .inr ⟨HF.out, rfl⟩⟩
  | true =>
    have HE : Hid (ks.all Mill.isE = true) := hE
    by_cases h1 : n ≤ 8
    · have HF : Hid (Mill.fits 7 o ks = true) := by rw [Hid]; have := HN.out; simp [Mill.fits, this, hE, h1]
      have h1' : (n : Int) ≤ 8 := by omega
      clear hE h1
      go_enter Tryz.func49, Tryz.ntmps49
      go_wp2_with (go_at_call 51; refine (allValue_is true P _ ks HE _ n HN _ hS1 hk hl).mono ?_; rintro e w' ⟨rfl, rfl⟩)
      go_ret
      refine ⟨hbw, .inl ⟨HF.out, _, rfl, by simp, by simp, _, rfl, ?_⟩⟩
      have hS2 := hS1.below (Q := fun g => P g ∨ (w.heap.size ≤ g ∧ g < (w.alloc (.cells #[.int .i64 7, .int .i64 o, .int .i64 t, .int .i64 y, .string x, .int .i64 k] 68)).heap.size)) (fun g h => .inl h) (fun g h => rfl)
      rw [← hul] at hS2
      unfold Mill.Inner
      simp (decide := true) only [if_false, if_true]
      exact ⟨_, hS2, by rw [hul]⟩
    · have HF : Hid (Mill.fits 7 o ks = false) := by rw [Hid]; have := HN.out; simp [Mill.fits, this, h1]
      have h1' : ¬ (n : Int) ≤ 8 := by omega
      clear hE h1 hul
      go_enter Tryz.func49, Tryz.ntmps49
      go_wp2_with (go_at_call 51; refine (allValue_is true P us ks HE _ n HN _ hS1 hk hl).mono ?_; rintro e w' ⟨rfl, rfl⟩)
      go_ret
      exact ⟨hbw, .inr ⟨HF.out, rfl⟩⟩

set_option maxRecDepth 100000 in
set_option maxHeartbeats 2000000 in
theorem grownValue_8 (o t y : Int) (x : ByteArray) (k : Int) (ho : 1 ≤ o ∧ o ≤ 12) (P : Nat → Prop) (us : List Value) (ks : List Int) (S : Value) (n : Nat) (HN : Hid (ks.length = n)) (w : World) (hW : Mill.Builts w) (hP : ∀ g, P g → g < w.heap.size) (hS : Mill.Sl P w S n us) (hk : Mill.Kinded us ks) (hl : n ≤ 1000000) :
    Calls Tryz.prog 49 #[Mill.ndV ⟨8, o, t, y, x, k⟩, S] w fun e w' => Mill.Grown P w ⟨8, o, t, y, x, k⟩ us ks e w' := by
  have hbw := (Below.refl w.heap.size w).alloc (Nat.le_refl _) (.cells #[.int .i64 8, .int .i64 o, .int .i64 t, .int .i64 y, .string x, .int .i64 k] 68)
  have hS1 := hS.alloc hP (.cells #[.int .i64 8, .int .i64 o, .int .i64 t, .int .i64 y, .string x, .int .i64 k] 68)
  obtain ⟨a, c, rfl, hc⟩ := hS
  have hul : us.length = n := by rw [hk.1]; exact HN.out
  simp only [Mill.ndV]
  cases hE : ks.all Mill.isE with
  | false =>
    have HE : Hid (ks.all Mill.isE = false) := hE
    have HF : Hid (Mill.fits 8 o ks = false) := Mill.noE o 8 (by omega) (by omega) hE
    clear hE
    go_enter Tryz.func49, Tryz.ntmps49
    go_wp2_with (go_at_call 51; refine (allValue_is false P us ks HE _ n HN _ hS1 hk hl).mono ?_; rintro e w' ⟨rfl, rfl⟩)
    go_ret
    exact ⟨hbw, .inr ⟨HF.out, rfl⟩⟩
  | true =>
    have HE : Hid (ks.all Mill.isE = true) := hE
    obtain ⟨ho1, ho2⟩ := ho
    obtain ⟨hG, hgl⟩ := hW
    obtain ⟨m, rfl⟩ : ∃ m : Nat, o = (m : Int) := ⟨o.toNat, by omega⟩
    have hgc := hG m (by omega) (by omega)
    have hbc : (w.alloc (.cells #[.int .i64 8, .int .i64 (m : Int), .int .i64 t, .int .i64 y, .string x, .int .i64 k] 68)).cell? ⟨2, m * 2 + 1, none⟩ = some (.int .i64 (Mill.builtKids (m : Int))) := by rw [World.cell?_alloc_past _ _ _ hgl]; exact hgc
    clear hG
    have hm13 : m < 13 := by omega
    by_cases h1 : (n : Int) = Mill.builtKids (m : Int)
    · have HF : Hid (Mill.fits 8 (m : Int) ks = true) := by rw [Hid]; have := HN.out; simp [Mill.fits, this, hE, h1]
      have h1' : ((n : Int) == Mill.builtKids (m : Int)) = true := by simpa using h1
      clear hE h1
      go_enter Tryz.func49, Tryz.ntmps49
      go_wp2_with (go_at_call 51; refine (allValue_is true P _ ks HE _ n HN _ hS1 hk hl).mono ?_; rintro e w' ⟨rfl, rfl⟩)
      go_ret
      refine ⟨hbw, .inl ⟨HF.out, _, rfl, by simp, by simp, _, rfl, ?_⟩⟩
      have hS2 := hS1.below (Q := fun g => P g ∨ (w.heap.size ≤ g ∧ g < (w.alloc (.cells #[.int .i64 8, .int .i64 (m : Int), .int .i64 t, .int .i64 y, .string x, .int .i64 k] 68)).heap.size)) (fun g h => .inl h) (fun g h => rfl)
      rw [← hul] at hS2
      unfold Mill.Inner
      simp (decide := true) only [if_false, if_true]
      exact ⟨_, hS2, by rw [hul]⟩
    · have HF : Hid (Mill.fits 8 (m : Int) ks = false) := by rw [Hid]; have := HN.out; simp [Mill.fits, this, h1]
      have h1' : ((n : Int) == Mill.builtKids (m : Int)) = false := by simpa using h1
      clear hE h1 hul
      go_enter Tryz.func49, Tryz.ntmps49
      go_wp2_with (go_at_call 51; refine (allValue_is true P us ks HE _ n HN _ hS1 hk hl).mono ?_; rintro e w' ⟨rfl, rfl⟩)
      go_ret
      exact ⟨hbw, .inr ⟨HF.out, rfl⟩⟩

end Go.Proofs.YtkaoeoeloihigaaGreatDoor
