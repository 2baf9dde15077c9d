import Derived.Test.YtkaoeoeloihigaaGreatDoorVTreeL
namespace Go.Proofs.YtkaoeoeloihigaaGreatDoor
open Go.RowKit

theorem Mill.noES {ks : List Int} (o : Int) (k : Int) (hk : k = 10 ∨ k = 11 ∨ k = 14 ∨ k = 15 ∨ k = 16 ∨ k = 17 ∨ k = 18 ∨ k = 19) (h : ks.all Mill.isE = false) : Mill.fits k o ks = false := by
  have : ks ≠ [] := by intro h0; subst h0; simp at h
  have hl : ks.length ≠ 0 := by intro h0; exact this (List.eq_nil_of_length_eq_zero h0)
  rcases hk with rfl | rfl | rfl | rfl | rfl | rfl | rfl | rfl <;> simp [Mill.fits, Mill.oneE_iff, h] <;> simpa using hl

set_option maxRecDepth 100000 in
set_option maxHeartbeats 2000000 in
theorem grownStatement_10 (o t y : Int) (x : ByteArray) (k : Int) (P : Nat → Prop) (us : List Value) (ks : List Int) (S : Value) (n : Nat) (HN : Hid (ks.length = n)) (w : World) (hP : ∀ g, P g → g < w.heap.size) (hS : Mill.Sl P w S n us) (hk : Mill.Kinded us ks) (hl : n ≤ 1000000) :
    Calls Tryz.prog 50 #[Mill.ndV ⟨10, o, t, y, x, k⟩, S] w fun e w' => Mill.Grown P w ⟨10, o, t, y, x, k⟩ us ks e w' := by
  have hbw := (Below.refl w.heap.size w).alloc (Nat.le_refl _) (.cells #[.int .i64 10, .int .i64 o, .int .i64 t, .int .i64 y, .string x, .int .i64 k] 68)
  have hS1 := hS.alloc hP (.cells #[.int .i64 10, .int .i64 o, .int .i64 t, .int .i64 y, .string x, .int .i64 k] 68)
  obtain ⟨a, c, rfl, hc⟩ := hS
  have hul : us.length = n := by rw [hk.1]; exact HN.out
  simp only [Mill.ndV]
  cases hE : ks.all Mill.isE with
  | false =>
    have HE : Hid (ks.all Mill.isE = false) := hE
    have HF : Hid (Mill.fits 10 o ks = false) := Mill.noES o 10 (by omega) hE
    clear hE
    go_enter Tryz.func50, Tryz.ntmps50
    go_wp2_with (go_at_call 51; refine (allValue_is false P us ks HE _ n HN _ hS1 hk hl).mono ?_; rintro e w' ⟨rfl, rfl⟩)
    go_ret
    exact ⟨hbw, .inr ⟨HF.out, rfl⟩⟩
  | true =>
    have HE : Hid (ks.all Mill.isE = true) := hE
    by_cases h1 : n = 1
    · subst h1
      have HF : Hid (Mill.fits 10 o ks = true) := by rw [Hid]; have := HN.out; simp [Mill.fits, Mill.oneE_iff, this, hE]
      clear hE
      obtain ⟨tu, yu, rfl⟩ := Mill.us1 hk hul
      obtain ⟨g, rfl, hg, c0⟩ := hc 0 _ rfl
      have hg2 := hP g hg
      clear hc
      go_enter Tryz.func50, Tryz.ntmps50
      go_wp2_with (go_at_call 51; refine (allValue_is true P _ ks HE _ 1 HN _ hS1 hk hl).mono ?_; rintro e w' ⟨rfl, rfl⟩)
      go_quiet (fail)
      go_wp2
      go_ret
      refine ⟨Mill.below_drewN _ hbw, .inl ⟨HF.out, _, rfl, by simp, by simp, _, rfl, by simp [Mill.Inner]⟩⟩
    · have HF : Hid (Mill.fits 10 o ks = false) := by rw [Hid]; have := HN.out; simp [Mill.fits, Mill.oneE_iff, this, h1]
      have h1' : ((n : Int) == 1) = false := by simpa using (by omega : ¬ (n : Int) = 1)
      clear hE h1 hul
      go_enter Tryz.func50, Tryz.ntmps50
      go_wp2_with (go_at_call 51; refine (allValue_is true P us ks HE _ n HN _ hS1 hk hl).mono ?_; rintro e w' ⟨rfl, rfl⟩)
      go_ret
      exact ⟨hbw, .inr ⟨HF.out, rfl⟩⟩

set_option maxRecDepth 100000 in
set_option maxHeartbeats 2000000 in
theorem grownStatement_11 (o t y : Int) (x : ByteArray) (k : Int) (P : Nat → Prop) (us : List Value) (ks : List Int) (S : Value) (n : Nat) (HN : Hid (ks.length = n)) (w : World) (hP : ∀ g, P g → g < w.heap.size) (hS : Mill.Sl P w S n us) (hk : Mill.Kinded us ks) (hl : n ≤ 1000000) :
    Calls Tryz.prog 50 #[Mill.ndV ⟨11, o, t, y, x, k⟩, S] w fun e w' => Mill.Grown P w ⟨11, o, t, y, x, k⟩ us ks e w' := by
  have hbw := (Below.refl w.heap.size w).alloc (Nat.le_refl _) (.cells #[.int .i64 11, .int .i64 o, .int .i64 t, .int .i64 y, .string x, .int .i64 k] 68)
  have hS1 := hS.alloc hP (.cells #[.int .i64 11, .int .i64 o, .int .i64 t, .int .i64 y, .string x, .int .i64 k] 68)
  obtain ⟨a, c, rfl, hc⟩ := hS
  have hul : us.length = n := by rw [hk.1]; exact HN.out
  simp only [Mill.ndV]
  cases hE : ks.all Mill.isE with
  | false =>
    have HE : Hid (ks.all Mill.isE = false) := hE
    have HF : Hid (Mill.fits 11 o ks = false) := Mill.noES o 11 (by omega) hE
    clear hE
    go_enter Tryz.func50, Tryz.ntmps50
    go_wp2_with (go_at_call 51; refine (allValue_is false P us ks HE _ n HN _ hS1 hk hl).mono ?_; rintro e w' ⟨rfl, rfl⟩)
    go_ret
    exact ⟨hbw, .inr ⟨HF.out, rfl⟩⟩
  | true =>
    have HE : Hid (ks.all Mill.isE = true) := hE
    by_cases h1 : n = 1
    · subst h1
      have HF : Hid (Mill.fits 11 o ks = true) := by rw [Hid]; have := HN.out; simp [Mill.fits, Mill.oneE_iff, this, hE]
      clear hE
      obtain ⟨tu, yu, rfl⟩ := Mill.us1 hk hul
      obtain ⟨g, rfl, hg, c0⟩ := hc 0 _ rfl
      have hg2 := hP g hg
      clear hc
      go_enter Tryz.func50, Tryz.ntmps50
      go_wp2_with (go_at_call 51; refine (allValue_is true P _ ks HE _ 1 HN _ hS1 hk hl).mono ?_; rintro e w' ⟨rfl, rfl⟩)
      go_quiet (fail)
      go_wp2
      go_ret
      refine ⟨Mill.below_drewN _ hbw, .inl ⟨HF.out, _, rfl, by simp, by simp, _, rfl, by simp [Mill.Inner]⟩⟩
    · have HF : Hid (Mill.fits 11 o ks = false) := by rw [Hid]; have := HN.out; simp [Mill.fits, Mill.oneE_iff, this, h1]
      have h1' : ((n : Int) == 1) = false := by simpa using (by omega : ¬ (n : Int) = 1)
      clear hE h1 hul
      go_enter Tryz.func50, Tryz.ntmps50
      go_wp2_with (go_at_call 51; refine (allValue_is true P us ks HE _ n HN _ hS1 hk hl).mono ?_; rintro e w' ⟨rfl, rfl⟩)
      go_ret
      exact ⟨hbw, .inr ⟨HF.out, rfl⟩⟩

set_option maxRecDepth 100000 in
set_option maxHeartbeats 2000000 in
theorem grownStatement_14 (o t y : Int) (x : ByteArray) (k : Int) (P : Nat → Prop) (us : List Value) (ks : List Int) (S : Value) (n : Nat) (HN : Hid (ks.length = n)) (w : World) (hP : ∀ g, P g → g < w.heap.size) (hS : Mill.Sl P w S n us) (hk : Mill.Kinded us ks) (hl : n ≤ 1000000) :
    Calls Tryz.prog 50 #[Mill.ndV ⟨14, o, t, y, x, k⟩, S] w fun e w' => Mill.Grown P w ⟨14, o, t, y, x, k⟩ us ks e w' := by
  have hbw := (Below.refl w.heap.size w).alloc (Nat.le_refl _) (.cells #[.int .i64 14, .int .i64 o, .int .i64 t, .int .i64 y, .string x, .int .i64 k] 68)
  have hS1 := hS.alloc hP (.cells #[.int .i64 14, .int .i64 o, .int .i64 t, .int .i64 y, .string x, .int .i64 k] 68)
  obtain ⟨a, c, rfl, hc⟩ := hS
  have hul : us.length = n := by rw [hk.1]; exact HN.out
  simp only [Mill.ndV]
  cases hE : ks.all Mill.isE with
  | false =>
    have HE : Hid (ks.all Mill.isE = false) := hE
    have HF : Hid (Mill.fits 14 o ks = false) := Mill.noES o 14 (by omega) hE
    clear hE
    go_enter Tryz.func50, Tryz.ntmps50
    go_wp2_with (go_at_call 51; refine (allValue_is false P us ks HE _ n HN _ hS1 hk hl).mono ?_; rintro e w' ⟨rfl, rfl⟩)
    go_ret
    exact ⟨hbw, .inr ⟨HF.out, rfl⟩⟩
  | true =>
    have HE : Hid (ks.all Mill.isE = true) := hE
    by_cases h1 : n = 0
    · subst h1
      have HF : Hid (Mill.fits 14 o ks = true) := by rw [Hid]; have := HN.out; simp [Mill.fits, this]
      clear hE
      obtain rfl := Mill.us0 hul
      clear hc
      go_enter Tryz.func50, Tryz.ntmps50
      go_wp2_with (go_at_call 51; refine (allValue_is true P _ ks HE _ 0 HN _ hS1 hk hl).mono ?_; rintro e w' ⟨rfl, rfl⟩)
      go_ret
      refine ⟨hbw, .inl ⟨HF.out, _, rfl, by simp, by simp, _, rfl, by simp [Mill.Inner]⟩⟩
    · have HF : Hid (Mill.fits 14 o ks = false) := by rw [Hid]; have := HN.out; simp [Mill.fits, this, h1]
      have h1' : ((n : Int) == 0) = false := by simpa using (by omega : ¬ (n : Int) = 0)
      clear hE h1 hul
      go_enter Tryz.func50, Tryz.ntmps50
      go_wp2_with (go_at_call 51; refine (allValue_is true P us ks HE _ n HN _ hS1 hk hl).mono ?_; rintro e w' ⟨rfl, rfl⟩)
      go_ret
      exact ⟨hbw, .inr ⟨HF.out, rfl⟩⟩

set_option maxRecDepth 100000 in
set_option maxHeartbeats 2000000 in
theorem grownStatement_15 (o t y : Int) (x : ByteArray) (k : Int) (P : Nat → Prop) (us : List Value) (ks : List Int) (S : Value) (n : Nat) (HN : Hid (ks.length = n)) (w : World) (hP : ∀ g, P g → g < w.heap.size) (hS : Mill.Sl P w S n us) (hk : Mill.Kinded us ks) (hl : n ≤ 1000000) :
    Calls Tryz.prog 50 #[Mill.ndV ⟨15, o, t, y, x, k⟩, S] w fun e w' => Mill.Grown P w ⟨15, o, t, y, x, k⟩ us ks e w' := by
  have hbw := (Below.refl w.heap.size w).alloc (Nat.le_refl _) (.cells #[.int .i64 15, .int .i64 o, .int .i64 t, .int .i64 y, .string x, .int .i64 k] 68)
  have hS1 := hS.alloc hP (.cells #[.int .i64 15, .int .i64 o, .int .i64 t, .int .i64 y, .string x, .int .i64 k] 68)
  obtain ⟨a, c, rfl, hc⟩ := hS
  have hul : us.length = n := by rw [hk.1]; exact HN.out
  simp only [Mill.ndV]
  cases hE : ks.all Mill.isE with
  | false =>
    have HE : Hid (ks.all Mill.isE = false) := hE
    have HF : Hid (Mill.fits 15 o ks = false) := Mill.noES o 15 (by omega) hE
    clear hE
    go_enter Tryz.func50, Tryz.ntmps50
    go_wp2_with (go_at_call 51; refine (allValue_is false P us ks HE _ n HN _ hS1 hk hl).mono ?_; rintro e w' ⟨rfl, rfl⟩)
    go_ret
    exact ⟨hbw, .inr ⟨HF.out, rfl⟩⟩
  | true =>
    have HE : Hid (ks.all Mill.isE = true) := hE
    by_cases h1 : n = 0
    · subst h1
      have HF : Hid (Mill.fits 15 o ks = true) := by rw [Hid]; have := HN.out; simp [Mill.fits, this]
      clear hE
      obtain rfl := Mill.us0 hul
      clear hc
      go_enter Tryz.func50, Tryz.ntmps50
      go_wp2_with (go_at_call 51; refine (allValue_is true P _ ks HE _ 0 HN _ hS1 hk hl).mono ?_; rintro e w' ⟨rfl, rfl⟩)
      go_ret
      refine ⟨hbw, .inl ⟨HF.out, _, rfl, by simp, by simp, _, rfl, by simp [Mill.Inner]⟩⟩
    · have HF : Hid (Mill.fits 15 o ks = false) := by rw [Hid]; have := HN.out; simp [Mill.fits, this, h1]
      have h1' : ((n : Int) == 0) = false := by simpa using (by omega : ¬ (n : Int) = 0)
      clear hE h1 hul
      go_enter Tryz.func50, Tryz.ntmps50
      go_wp2_with (go_at_call 51; refine (allValue_is true P us ks HE _ n HN _ hS1 hk hl).mono ?_; rintro e w' ⟨rfl, rfl⟩)
      go_ret
      exact ⟨hbw, .inr ⟨HF.out, rfl⟩⟩

set_option maxRecDepth 100000 in
set_option maxHeartbeats 2000000 in
theorem grownStatement_17 (o t y : Int) (x : ByteArray) (k : Int) (P : Nat → Prop) (us : List Value) (ks : List Int) (S : Value) (n : Nat) (HN : Hid (ks.length = n)) (w : World) (hP : ∀ g, P g → g < w.heap.size) (hS : Mill.Sl P w S n us) (hk : Mill.Kinded us ks) (hl : n ≤ 1000000) :
    Calls Tryz.prog 50 #[Mill.ndV ⟨17, o, t, y, x, k⟩, S] w fun e w' => Mill.Grown P w ⟨17, o, t, y, x, k⟩ us ks e w' := by
  have hbw := (Below.refl w.heap.size w).alloc (Nat.le_refl _) (.cells #[.int .i64 17, .int .i64 o, .int .i64 t, .int .i64 y, .string x, .int .i64 k] 68)
  have hS1 := hS.alloc hP (.cells #[.int .i64 17, .int .i64 o, .int .i64 t, .int .i64 y, .string x, .int .i64 k] 68)
  obtain ⟨a, c, rfl, hc⟩ := hS
  have hul : us.length = n := by rw [hk.1]; exact HN.out
  simp only [Mill.ndV]
  cases hE : ks.all Mill.isE with
  | false =>
    have HE : Hid (ks.all Mill.isE = false) := hE
    have HF : Hid (Mill.fits 17 o ks = false) := Mill.noES o 17 (by omega) hE
    clear hE
    go_enter Tryz.func50, Tryz.ntmps50
    go_wp2_with (go_at_call 51; refine (allValue_is false P us ks HE _ n HN _ hS1 hk hl).mono ?_; rintro e w' ⟨rfl, rfl⟩)
    go_ret
    exact ⟨hbw, .inr ⟨HF.out, rfl⟩⟩
  | true =>
    have HE : Hid (ks.all Mill.isE = true) := hE
    by_cases h1 : n = 1
    · subst h1
      have HF : Hid (Mill.fits 17 o ks = true) := by rw [Hid]; have := HN.out; simp [Mill.fits, Mill.oneE_iff, this, hE]
      clear hE
      obtain ⟨tu, yu, rfl⟩ := Mill.us1 hk hul
      obtain ⟨g, rfl, hg, c0⟩ := hc 0 _ rfl
      have hg2 := hP g hg
      clear hc
      go_enter Tryz.func50, Tryz.ntmps50
      go_wp2_with (go_at_call 51; refine (allValue_is true P _ ks HE _ 1 HN _ hS1 hk hl).mono ?_; rintro e w' ⟨rfl, rfl⟩)
      go_ret
      refine ⟨hbw, .inl ⟨HF.out, _, rfl, by simp, by simp, _, rfl, by simp [Mill.Inner]⟩⟩
    · have HF : Hid (Mill.fits 17 o ks = false) := by rw [Hid]; have := HN.out; simp [Mill.fits, Mill.oneE_iff, this, h1]
      have h1' : ((n : Int) == 1) = false := by simpa using (by omega : ¬ (n : Int) = 1)
      clear hE h1 hul
      go_enter Tryz.func50, Tryz.ntmps50
      go_wp2_with (go_at_call 51; refine (allValue_is true P us ks HE _ n HN _ hS1 hk hl).mono ?_; rintro e w' ⟨rfl, rfl⟩)
      go_ret
      exact ⟨hbw, .inr ⟨HF.out, rfl⟩⟩

set_option maxRecDepth 100000 in
set_option maxHeartbeats 2000000 in
theorem grownStatement_18 (o t y : Int) (x : ByteArray) (k : Int) (P : Nat → Prop) (us : List Value) (ks : List Int) (S : Value) (n : Nat) (HN : Hid (ks.length = n)) (w : World) (hP : ∀ g, P g → g < w.heap.size) (hS : Mill.Sl P w S n us) (hk : Mill.Kinded us ks) (hl : n ≤ 1000000) :
    Calls Tryz.prog 50 #[Mill.ndV ⟨18, o, t, y, x, k⟩, S] w fun e w' => Mill.Grown P w ⟨18, o, t, y, x, k⟩ us ks e w' := by
  have hbw := (Below.refl w.heap.size w).alloc (Nat.le_refl _) (.cells #[.int .i64 18, .int .i64 o, .int .i64 t, .int .i64 y, .string x, .int .i64 k] 68)
  have hS1 := hS.alloc hP (.cells #[.int .i64 18, .int .i64 o, .int .i64 t, .int .i64 y, .string x, .int .i64 k] 68)
  obtain ⟨a, c, rfl, hc⟩ := hS
  have hul : us.length = n := by rw [hk.1]; exact HN.out
  simp only [Mill.ndV]
  cases hE : ks.all Mill.isE with
  | false =>
    have HE : Hid (ks.all Mill.isE = false) := hE
    have HF : Hid (Mill.fits 18 o ks = false) := Mill.noES o 18 (by omega) hE
    clear hE
    go_enter Tryz.func50, Tryz.ntmps50
    go_wp2_with (go_at_call 51; refine (allValue_is false P us ks HE _ n HN _ hS1 hk hl).mono ?_; rintro e w' ⟨rfl, rfl⟩)
    go_ret
    exact ⟨hbw, .inr ⟨HF.out, rfl⟩⟩
  | true =>
    have HE : Hid (ks.all Mill.isE = true) := hE
    by_cases h1 : n = 2
    · subst h1
      have HF : Hid (Mill.fits 18 o ks = true) := by rw [Hid]; have := HN.out; simp [Mill.fits, this, hE]
      clear hE
      obtain ⟨tu, yu, tv, yv, rfl⟩ := Mill.us2 hk hul
      obtain ⟨g, rfl, hg, c0⟩ := hc 0 _ rfl
      obtain ⟨g', hg', _, c1⟩ := hc 1 _ rfl
      cases hg'
      have hg2 := hP g hg
      clear hc
      go_enter Tryz.func50, Tryz.ntmps50
      go_wp2_with (go_at_call 51; refine (allValue_is true P _ ks HE _ 2 HN _ hS1 hk hl).mono ?_; rintro e w' ⟨rfl, rfl⟩)
      go_quiet (fail)
      go_wp2
      go_ret
      refine ⟨Mill.below_drewN _ hbw, .inl ⟨HF.out, _, rfl, by simp, by simp, _, rfl, by simp [Mill.Inner]⟩⟩
    · have HF : Hid (Mill.fits 18 o ks = false) := by rw [Hid]; have := HN.out; simp [Mill.fits, this, h1]
      have h1' : ((n : Int) == 2) = false := by simpa using (by omega : ¬ (n : Int) = 2)
      clear hE h1 hul
      go_enter Tryz.func50, Tryz.ntmps50
      go_wp2_with (go_at_call 51; refine (allValue_is true P us ks HE _ n HN _ hS1 hk hl).mono ?_; rintro e w' ⟨rfl, rfl⟩)
      go_ret
      exact ⟨hbw, .inr ⟨HF.out, rfl⟩⟩

set_option maxRecDepth 100000 in
set_option maxHeartbeats 2000000 in
theorem grownStatement_19 (o t y : Int) (x : ByteArray) (k : Int) (P : Nat → Prop) (us : List Value) (ks : List Int) (S : Value) (n : Nat) (HN : Hid (ks.length = n)) (w : World) (hP : ∀ g, P g → g < w.heap.size) (hS : Mill.Sl P w S n us) (hk : Mill.Kinded us ks) (hl : n ≤ 1000000) :
    Calls Tryz.prog 50 #[Mill.ndV ⟨19, o, t, y, x, k⟩, S] w fun e w' => Mill.Grown P w ⟨19, o, t, y, x, k⟩ us ks e w' := by
  have hbw := (Below.refl w.heap.size w).alloc (Nat.le_refl _) (.cells #[.int .i64 19, .int .i64 o, .int .i64 t, .int .i64 y, .string x, .int .i64 k] 68)
  have hS1 := hS.alloc hP (.cells #[.int .i64 19, .int .i64 o, .int .i64 t, .int .i64 y, .string x, .int .i64 k] 68)
  obtain ⟨a, c, rfl, hc⟩ := hS
  have hul : us.length = n := by rw [hk.1]; exact HN.out
  simp only [Mill.ndV]
  cases hE : ks.all Mill.isE with
  | false =>
    have HE : Hid (ks.all Mill.isE = false) := hE
    have HF : Hid (Mill.fits 19 o ks = false) := Mill.noES o 19 (by omega) hE
    clear hE
    go_enter Tryz.func50, Tryz.ntmps50
    go_wp2_with (go_at_call 51; refine (allValue_is false P us ks HE _ n HN _ hS1 hk hl).mono ?_; rintro e w' ⟨rfl, rfl⟩)
    go_ret
    exact ⟨hbw, .inr ⟨HF.out, rfl⟩⟩
  | true =>
    have HE : Hid (ks.all Mill.isE = true) := hE
    by_cases h1 : n = 1
    · subst h1
      have HF : Hid (Mill.fits 19 o ks = true) := by rw [Hid]; have := HN.out; simp [Mill.fits, Mill.oneE_iff, this, hE]
      clear hE
      obtain ⟨tu, yu, rfl⟩ := Mill.us1 hk hul
      obtain ⟨g, rfl, hg, c0⟩ := hc 0 _ rfl
      have hg2 := hP g hg
      clear hc
      go_enter Tryz.func50, Tryz.ntmps50
      go_wp2_with (go_at_call 51; refine (allValue_is true P _ ks HE _ 1 HN _ hS1 hk hl).mono ?_; rintro e w' ⟨rfl, rfl⟩)
      go_ret
      refine ⟨hbw, .inl ⟨HF.out, _, rfl, by simp, by simp, _, rfl, by simp [Mill.Inner]⟩⟩
    · have HF : Hid (Mill.fits 19 o ks = false) := by rw [Hid]; have := HN.out; simp [Mill.fits, Mill.oneE_iff, this, h1]
      have h1' : ((n : Int) == 1) = false := by simpa using (by omega : ¬ (n : Int) = 1)
      clear hE h1 hul
      go_enter Tryz.func50, Tryz.ntmps50
      go_wp2_with (go_at_call 51; refine (allValue_is true P us ks HE _ n HN _ hS1 hk hl).mono ?_; rintro e w' ⟨rfl, rfl⟩)
      go_ret
      exact ⟨hbw, .inr ⟨HF.out, rfl⟩⟩

set_option maxRecDepth 100000 in
set_option maxHeartbeats 2000000 in
theorem grownStatement_16 (o t y : Int) (x : ByteArray) (k : Int) (P : Nat → Prop) (us : List Value) (ks : List Int) (S : Value) (n : Nat) (HN : Hid (ks.length = n)) (w : World) (hP : ∀ g, P g → g < w.heap.size) (hS : Mill.Sl P w S n us) (hk : Mill.Kinded us ks) (hl : n ≤ 1000000) :
    Calls Tryz.prog 50 #[Mill.ndV ⟨16, o, t, y, x, k⟩, S] w fun e w' => Mill.Grown P w ⟨16, o, t, y, x, k⟩ us ks e w' := by
  have hbw := (Below.refl w.heap.size w).alloc (Nat.le_refl _) (.cells #[.int .i64 16, .int .i64 o, .int .i64 t, .int .i64 y, .string x, .int .i64 k] 68)
  have hS1 := hS.alloc hP (.cells #[.int .i64 16, .int .i64 o, .int .i64 t, .int .i64 y, .string x, .int .i64 k] 68)
  obtain ⟨a, c, rfl, hc⟩ := hS
  have hul : us.length = n := by rw [hk.1]; exact HN.out
  simp only [Mill.ndV]
  cases hE : ks.all Mill.isE with
  | false =>
    have HE : Hid (ks.all Mill.isE = false) := hE
    have HF : Hid (Mill.fits 16 o ks = false) := Mill.noES o 16 (by omega) hE
    clear hE
    go_enter Tryz.func50, Tryz.ntmps50
    go_wp2_with (go_at_call 51; refine (allValue_is false P us ks HE _ n HN _ hS1 hk hl).mono ?_; rintro e w' ⟨rfl, rfl⟩)
    go_ret
    exact ⟨hbw, .inr ⟨HF.out, rfl⟩⟩
  | true =>
    have HE : Hid (ks.all Mill.isE = true) := hE
    by_cases h0 : n = 0
    · subst h0
      have HF : Hid (Mill.fits 16 o ks = true) := by rw [Hid]; have := HN.out; simp [Mill.fits, this, hE]
      clear hE
      obtain rfl := Mill.us0 hul
      clear hc
      go_enter Tryz.func50, Tryz.ntmps50
      go_wp2_with (go_at_call 51; refine (allValue_is true P _ ks HE _ 0 HN _ hS1 hk hl).mono ?_; rintro e w' ⟨rfl, rfl⟩)
      go_ret
      refine ⟨hbw, .inl ⟨HF.out, _, rfl, by simp, by simp, _, rfl, by simp [Mill.Inner]⟩⟩
    · by_cases h1 : n = 1
      · subst h1
        have HF : Hid (Mill.fits 16 o ks = true) := by rw [Hid]; have := HN.out; simp [Mill.fits, this, hE]
        clear hE h0
        obtain ⟨tu, yu, rfl⟩ := Mill.us1 hk hul
        obtain ⟨g, rfl, hg, c0⟩ := hc 0 _ rfl
        have hg2 := hP g hg
        clear hc
        go_enter Tryz.func50, Tryz.ntmps50
        go_wp2_with (go_at_call 51; refine (allValue_is true P _ ks HE _ 1 HN _ hS1 hk hl).mono ?_; rintro e w' ⟨rfl, rfl⟩)
        go_ret
        refine ⟨hbw, .inl ⟨HF.out, _, rfl, by simp, by simp, _, rfl, by simp [Mill.Inner]⟩⟩
      · have HF : Hid (Mill.fits 16 o ks = false) := by
          rw [Hid]; have := HN.out
          have h2 : ¬ n ≤ 1 := by omega
          simp [Mill.fits, this, h2]
        have h0' : ((n : Int) == 0) = false := by simpa using (by omega : ¬ (n : Int) = 0)
        have h1' : ((n : Int) == 1) = false := by simpa using (by omega : ¬ (n : Int) = 1)
        clear hE h1 h0 hul
        go_enter Tryz.func50, Tryz.ntmps50
        go_wp2_with (go_at_call 51; refine (allValue_is true P us ks HE _ n HN _ hS1 hk hl).mono ?_; rintro e w' ⟨rfl, rfl⟩)
        go_ret
        exact ⟨hbw, .inr ⟨HF.out, rfl⟩⟩

end Go.Proofs.YtkaoeoeloihigaaGreatDoor
