import Derived.Test.YtkaoeoeloihigaaGreatDoorVTreeD
namespace Go.Proofs.YtkaoeoeloihigaaGreatDoor
open Go.RowKit

theorem l2AllE_is (ks : List Int) (b : Bool) (HB : Hid (ks.all Mill.isE = b)) (v : Value) (B n : Nat) (HN : Hid (ks.length = n)) (w : World) (h : w.ownsRow B 3 1 v n (Mill.ints ks)) (hl : n ≤ 1000000) :
    Calls Tryz.prog 41 #[v] w fun e w' => e = .returned (.bool b) ∧ w = w' := by
  rw [← HB.out]; exact l2AllE_any ks v B n HN w h hl

set_option maxRecDepth 100000 in
set_option maxHeartbeats 1000000 in
theorem l2Fits_6 (o t y : Int) (x : ByteArray) (k : Int) (ks : List Int) (v : Value) (B n : Nat) (HN : Hid (ks.length = n)) (w : World) (h : w.ownsRow B 3 1 v n (Mill.ints ks)) (hl : n ≤ 1000000) :
    Calls Tryz.prog 21 #[Mill.ndV ⟨6, o, t, y, x, k⟩, v] w fun e w' => e = .returned (.bool (Mill.fits 6 o ks)) ∧ Below w.heap.size w w' := by
  obtain ⟨a, cap, rfl, _⟩ := Mill.ints_at h HN.out
  by_cases h1 : n = 2
  · have HF : Hid (Mill.fits 6 o ks = ks.all Mill.isE) := by rw [Hid]; have := HN.out; simp [Mill.fits, this, h1]
    subst h1
    simp only [Mill.ndV]
    go_enter Tryz.func21, Tryz.ntmps21
    go_wp2_with (first | (go_at_call 41; refine (l2AllE_any ks _ B _ HN _ (h.alloc _) hl).mono ?_; rintro e w' ⟨rfl, rfl⟩))
    go_ret
    exact ⟨Mill.ret_bool HF.out.symm, (Below.refl _ w).alloc (Nat.le_refl _) _⟩
  · have HF : Hid (Mill.fits 6 o ks = false) := by rw [Hid]; have := HN.out; simp [Mill.fits, this, h1]
    have h1' : ((n : Int) == 2) = false := by simpa using (by omega : ¬ (n : Int) = 2)
    clear h1
    simp only [Mill.ndV]
    go_enter Tryz.func21, Tryz.ntmps21
    go_wp2_with (first | (go_at_call 41; refine (l2AllE_any ks _ B _ HN _ (h.alloc _) hl).mono ?_; rintro e w' ⟨rfl, rfl⟩))
    go_ret
    exact ⟨Mill.ret_bool HF.out.symm, (Below.refl _ w).alloc (Nat.le_refl _) _⟩

set_option maxRecDepth 100000 in
set_option maxHeartbeats 1000000 in
theorem l2Fits_18 (o t y : Int) (x : ByteArray) (k : Int) (ks : List Int) (v : Value) (B n : Nat) (HN : Hid (ks.length = n)) (w : World) (h : w.ownsRow B 3 1 v n (Mill.ints ks)) (hl : n ≤ 1000000) :
    Calls Tryz.prog 21 #[Mill.ndV ⟨18, o, t, y, x, k⟩, v] w fun e w' => e = .returned (.bool (Mill.fits 18 o ks)) ∧ Below w.heap.size w w' := by
  obtain ⟨a, cap, rfl, _⟩ := Mill.ints_at h HN.out
  by_cases h1 : n = 2
  · have HF : Hid (Mill.fits 18 o ks = ks.all Mill.isE) := by rw [Hid]; have := HN.out; simp [Mill.fits, this, h1]
    subst h1
    simp only [Mill.ndV]
    go_enter Tryz.func21, Tryz.ntmps21
    go_wp2_with (first | (go_at_call 41; refine (l2AllE_any ks _ B _ HN _ (h.alloc _) hl).mono ?_; rintro e w' ⟨rfl, rfl⟩))
    go_ret
    exact ⟨Mill.ret_bool HF.out.symm, (Below.refl _ w).alloc (Nat.le_refl _) _⟩
  · have HF : Hid (Mill.fits 18 o ks = false) := by rw [Hid]; have := HN.out; simp [Mill.fits, this, h1]
    have h1' : ((n : Int) == 2) = false := by simpa using (by omega : ¬ (n : Int) = 2)
    clear h1
    simp only [Mill.ndV]
    go_enter Tryz.func21, Tryz.ntmps21
    go_wp2_with (first | (go_at_call 41; refine (l2AllE_any ks _ B _ HN _ (h.alloc _) hl).mono ?_; rintro e w' ⟨rfl, rfl⟩))
    go_ret
    exact ⟨Mill.ret_bool HF.out.symm, (Below.refl _ w).alloc (Nat.le_refl _) _⟩

set_option maxRecDepth 100000 in
set_option maxHeartbeats 1000000 in
theorem l2Fits_7 (o t y : Int) (x : ByteArray) (k : Int) (ks : List Int) (v : Value) (B n : Nat) (HN : Hid (ks.length = n)) (w : World) (h : w.ownsRow B 3 1 v n (Mill.ints ks)) (hl : n ≤ 1000000) :
    Calls Tryz.prog 21 #[Mill.ndV ⟨7, o, t, y, x, k⟩, v] w fun e w' => e = .returned (.bool (Mill.fits 7 o ks)) ∧ Below w.heap.size w w' := by
  obtain ⟨a, cap, rfl, _⟩ := Mill.ints_at h HN.out
  by_cases h1 : n ≤ 8
  · have HF : Hid (Mill.fits 7 o ks = ks.all Mill.isE) := by rw [Hid]; have := HN.out; simp [Mill.fits, this, h1]
    have h1' : (n : Int) ≤ 8 := by omega
    simp only [Mill.ndV]
    go_enter Tryz.func21, Tryz.ntmps21
    go_wp2_with (first | (go_at_call 41; refine (l2AllE_any ks _ B _ HN _ (h.alloc _) hl).mono ?_; rintro e w' ⟨rfl, rfl⟩))
    go_ret
    exact ⟨Mill.ret_bool HF.out.symm, (Below.refl _ w).alloc (Nat.le_refl _) _⟩
  · have HF : Hid (Mill.fits 7 o ks = false) := by rw [Hid]; have := HN.out; simp [Mill.fits, this, h1]
    have h1' : ¬ (n : Int) ≤ 8 := by omega
    simp only [Mill.ndV]
    go_enter Tryz.func21, Tryz.ntmps21
    go_wp2_with (first | (go_at_call 41; refine (l2AllE_any ks _ B _ HN _ (h.alloc _) hl).mono ?_; rintro e w' ⟨rfl, rfl⟩))
    go_ret
    exact ⟨Mill.ret_bool HF.out.symm, (Below.refl _ w).alloc (Nat.le_refl _) _⟩

set_option maxRecDepth 100000 in
set_option maxHeartbeats 1000000 in
theorem l2Fits_16 (o t y : Int) (x : ByteArray) (k : Int) (ks : List Int) (v : Value) (B n : Nat) (HN : Hid (ks.length = n)) (w : World) (h : w.ownsRow B 3 1 v n (Mill.ints ks)) (hl : n ≤ 1000000) :
    Calls Tryz.prog 21 #[Mill.ndV ⟨16, o, t, y, x, k⟩, v] w fun e w' => e = .returned (.bool (Mill.fits 16 o ks)) ∧ Below w.heap.size w w' := by
  obtain ⟨a, cap, rfl, _⟩ := Mill.ints_at h HN.out
  by_cases h1 : n ≤ 1
  · have HF : Hid (Mill.fits 16 o ks = ks.all Mill.isE) := by rw [Hid]; have := HN.out; simp [Mill.fits, this, h1]
    have h1' : (n : Int) ≤ 1 := by omega
    simp only [Mill.ndV]
    go_enter Tryz.func21, Tryz.ntmps21
    go_wp2_with (first | (go_at_call 41; refine (l2AllE_any ks _ B _ HN _ (h.alloc _) hl).mono ?_; rintro e w' ⟨rfl, rfl⟩))
    go_ret
    exact ⟨Mill.ret_bool HF.out.symm, (Below.refl _ w).alloc (Nat.le_refl _) _⟩
  · have HF : Hid (Mill.fits 16 o ks = false) := by rw [Hid]; have := HN.out; simp [Mill.fits, this, h1]
    have h1' : ¬ (n : Int) ≤ 1 := by omega
    simp only [Mill.ndV]
    go_enter Tryz.func21, Tryz.ntmps21
    go_wp2_with (first | (go_at_call 41; refine (l2AllE_any ks _ B _ HN _ (h.alloc _) hl).mono ?_; rintro e w' ⟨rfl, rfl⟩))
    go_ret
    exact ⟨Mill.ret_bool HF.out.symm, (Below.refl _ w).alloc (Nat.le_refl _) _⟩

set_option maxRecDepth 100000 in
set_option maxHeartbeats 1000000 in
theorem l2Fits_8 (o t y : Int) (x : ByteArray) (k : Int) (ks : List Int) (v : Value) (B n : Nat) (HN : Hid (ks.length = n)) (w : World) (h : w.ownsRow B 3 1 v n (Mill.ints ks)) (hl : n ≤ 1000000) :
    Calls Tryz.prog 21 #[Mill.ndV ⟨8, o, t, y, x, k⟩, v] w fun e w' => e = .returned (.bool (Mill.fits 8 o ks)) ∧ Below w.heap.size w w' := by
  obtain ⟨a, cap, rfl, _⟩ := Mill.ints_at h HN.out
  by_cases h1 : (n : Int) = Mill.builtKids o
  · have HF : Hid (Mill.fits 8 o ks = ks.all Mill.isE) := by rw [Hid]; have := HN.out; simp [Mill.fits, this, h1]
    have h1' : ((n : Int) == Mill.builtKids o) = true := by simpa using h1
    simp only [Mill.ndV]
    go_enter Tryz.func21, Tryz.ntmps21
    go_wp2_with (first | (go_at_call 42; refine (l1BuiltWord_any _ _).mono ?_; rintro e w' ⟨rfl, rfl⟩) | (go_at_call 41; refine (l2AllE_any ks _ B _ HN _ (h.alloc _) hl).mono ?_; rintro e w' ⟨rfl, rfl⟩))
    go_ret
    exact ⟨Mill.ret_bool HF.out.symm, (Below.refl _ w).alloc (Nat.le_refl _) _⟩
  · have HF : Hid (Mill.fits 8 o ks = false) := by rw [Hid]; have := HN.out; simp [Mill.fits, this, h1]
    have h1' : ((n : Int) == Mill.builtKids o) = false := by simpa using h1
    simp only [Mill.ndV]
    go_enter Tryz.func21, Tryz.ntmps21
    go_wp2_with (first | (go_at_call 42; refine (l1BuiltWord_any _ _).mono ?_; rintro e w' ⟨rfl, rfl⟩) | (go_at_call 41; refine (l2AllE_any ks _ B _ HN _ (h.alloc _) hl).mono ?_; rintro e w' ⟨rfl, rfl⟩))
    go_ret
    exact ⟨Mill.ret_bool HF.out.symm, (Below.refl _ w).alloc (Nat.le_refl _) _⟩

set_option maxRecDepth 100000 in
set_option maxHeartbeats 1000000 in
theorem l2Fits_20 (o t y : Int) (x : ByteArray) (k : Int) (ks : List Int) (v : Value) (B n : Nat) (HN : Hid (ks.length = n)) (w : World) (h : w.ownsRow B 3 1 v n (Mill.ints ks)) (_hl : n ≤ 1000000) :
    Calls Tryz.prog 21 #[Mill.ndV ⟨20, o, t, y, x, k⟩, v] w fun e w' => e = .returned (.bool (Mill.fits 20 o ks)) ∧ Below w.heap.size w w' := by
  obtain ⟨a, cap, rfl, hc⟩ := Mill.ints_at h HN.out
  clear h
  by_cases h1 : n = 1
  · obtain ⟨g, rfl, _, hg2, hcell⟩ := hc 0 (by omega)
    have h0 : 0 < ks.length := by rw [HN.out]; omega
    have HF : Hid (Mill.fits 20 o ks = (ks[0] == 7)) := by
      have hlen := HN.out
      match ks, h0, hlen with
      | [a], _, _ => rw [Hid]; simp [Mill.fits, Mill.doK]
      | a :: b :: r, _, hlen => simp at hlen; omega
    generalize ks[0] = z at *
    clear hc
    have h1' : (n : Int) = 1 := by omega
    simp only [Mill.ndV]
    go_enter Tryz.func21, Tryz.ntmps21
    go_wp2
    go_ret
    exact ⟨Mill.ret_bool HF.out.symm, (Below.refl _ w).alloc (Nat.le_refl _) _⟩
  · have HF : Hid (Mill.fits 20 o ks = false) := by
      have hlen := HN.out
      match ks, hlen with
      | [], _ => rw [Hid]; simp [Mill.fits, Mill.doK]
      | [a], hlen => simp at hlen; omega
      | a :: b :: r, _ => rw [Hid]; simp [Mill.fits, Mill.doK]
    clear hc
    have h1' : ((n : Int) == 1) = false := by simpa using (by omega : ¬ (n : Int) = 1)
    simp only [Mill.ndV]
    go_enter Tryz.func21, Tryz.ntmps21
    go_wp2
    go_ret
    exact ⟨Mill.ret_bool HF.out.symm, (Below.refl _ w).alloc (Nat.le_refl _) _⟩

set_option maxRecDepth 100000 in
set_option maxHeartbeats 1000000 in
theorem l2Fits_21 (o t y : Int) (x : ByteArray) (k : Int) (ks : List Int) (v : Value) (B n : Nat) (HN : Hid (ks.length = n)) (w : World) (h : w.ownsRow B 3 1 v n (Mill.ints ks)) (_hl : n ≤ 1000000) :
    Calls Tryz.prog 21 #[Mill.ndV ⟨21, o, t, y, x, k⟩, v] w fun e w' => e = .returned (.bool (Mill.fits 21 o ks)) ∧ Below w.heap.size w w' := by
  obtain ⟨a, cap, rfl, hc⟩ := Mill.ints_at h HN.out
  clear h
  have HF : Hid (Mill.fits 21 o ks = ks.all Mill.isS) := by rw [Hid]; simp [Mill.fits]
  simp only [Mill.ndV]
  go_enter Tryz.func21, Tryz.ntmps21
  go_wp2
  go_loop [8] (fun t => ∃ i : Nat, i ≤ n ∧ t = .int .i64 (i : Int) ∧ (ks.drop i).all Mill.isS = ks.all Mill.isS) (fun t => n - (intOf t).toNat)
  case atStart => exact ⟨0, by omega, rfl, rfl⟩
  case round =>
    obtain ⟨i, hi, rfl, hf⟩ := hrel
    by_cases hlt : i < n
    · obtain ⟨g, rfl, _, hg2, hcell⟩ := hc i hlt
      have hil : i < ks.length := by rw [HN.out]; exact hlt
      rw [List.drop_eq_getElem_cons hil, List.all_cons] at hf
      clear hc
      cases hE : Mill.isS ks[i] with
      | true =>
        have HR : Hid ((ks.drop (i + 1)).all Mill.isS = ks.all Mill.isS) := by rw [hE] at hf; exact hf
        clear hf
        generalize ks[i] = x at *
        go_wp2_with (go_at_call 43; refine (l2S_any _ _).mono ?_; rintro e w' ⟨rfl, rfl⟩; rw [hE])
        go_round
        case rel => exact ⟨i + 1, by omega, by go_num, HR.out⟩
        case measure => simp [intOf]; omega
      | false =>
        have HR : Hid (Mill.fits 21 o ks = false) := by rw [Hid, HF.out, ← hf, hE]; simp
        clear hf
        generalize ks[i] = x at *
        go_wp2_with (go_at_call 43; refine (l2S_any _ _).mono ?_; rintro e w' ⟨rfl, rfl⟩; rw [hE])
        go_ret
        exact ⟨Mill.ret_bool HR.out.symm, (Below.refl _ w).alloc (Nat.le_refl _) _⟩
    · have HR : Hid (Mill.fits 21 o ks = true) := by
        rw [List.drop_of_length_le (by rw [HN.out]; omega)] at hf; rw [Hid, HF.out, ← hf]; simp
      clear hf hc
      go_wp2
      go_ret
      exact ⟨Mill.ret_bool HR.out.symm, (Below.refl _ w).alloc (Nat.le_refl _) _⟩

set_option maxRecDepth 100000 in
set_option maxHeartbeats 1000000 in
theorem l2Fits_24 (o t y : Int) (x : ByteArray) (k : Int) (ks : List Int) (v : Value) (B n : Nat) (HN : Hid (ks.length = n)) (w : World) (h : w.ownsRow B 3 1 v n (Mill.ints ks)) (_hl : n ≤ 1000000) :
    Calls Tryz.prog 21 #[Mill.ndV ⟨24, o, t, y, x, k⟩, v] w fun e w' => e = .returned (.bool (Mill.fits 24 o ks)) ∧ Below w.heap.size w w' := by
  obtain ⟨a, cap, rfl, hc⟩ := Mill.ints_at h HN.out
  clear h
  have HF : Hid (Mill.fits 24 o ks = (ks.all (fun k => k == 23) && decide (1 ≤ n) && decide (n ≤ 60))) := by rw [Hid]; have := HN.out; simp [Mill.fits, this]
  simp only [Mill.ndV]
  go_enter Tryz.func21, Tryz.ntmps21
  go_wp2
  go_loop [10] (fun t => ∃ i : Nat, i ≤ n ∧ t = .int .i64 (i : Int) ∧ (ks.drop i).all (fun k => k == 23) = ks.all (fun k => k == 23)) (fun t => n - (intOf t).toNat)
  case atStart => exact ⟨0, by omega, rfl, rfl⟩
  case round =>
    obtain ⟨i, hi, rfl, hf⟩ := hrel
    by_cases hlt : i < n
    · obtain ⟨g, rfl, _, hg2, hcell⟩ := hc i hlt
      have hil : i < ks.length := by rw [HN.out]; exact hlt
      rw [List.drop_eq_getElem_cons hil, List.all_cons] at hf
      clear hc
      cases hE : (ks[i] == 23) with
      | true =>
        have HR : Hid ((ks.drop (i + 1)).all (fun k => k == 23) = ks.all (fun k => k == 23)) := by rw [hE] at hf; exact hf
        clear hf
        generalize ks[i] = x at *
        have hE' : (x != 23) = false := by simpa [bne] using hE
        go_wp2
        go_round
        case rel => exact ⟨i + 1, by omega, by go_num, HR.out⟩
        case measure => simp [intOf]; omega
      | false =>
        have HR : Hid (Mill.fits 24 o ks = false) := by rw [Hid, HF.out, ← hf, hE]; simp
        clear hf
        generalize ks[i] = x at *
        have hE' : (x != 23) = true := by simpa [bne] using hE
        go_wp2
        go_ret
        exact ⟨Mill.ret_bool HR.out.symm, (Below.refl _ w).alloc (Nat.le_refl _) _⟩
    · have HR : Hid (Mill.fits 24 o ks = (decide (1 ≤ n) && decide (n ≤ 60))) := by
        rw [List.drop_of_length_le (by rw [HN.out]; omega)] at hf; rw [Hid, HF.out, ← hf]; simp
      clear hf hc
      go_wp2
      all_goals go_ret
      all_goals exact ⟨Mill.ret_bool (by rw [HR.out]; go_light; rw [Bool.eq_iff_iff]; simp; omega), (Below.refl _ w).alloc (Nat.le_refl _) _⟩

end Go.Proofs.YtkaoeoeloihigaaGreatDoor
