import Derived.Test.YtkaoeoeloihigaaGreatDoorVTreeE
namespace Go.Proofs.YtkaoeoeloihigaaGreatDoor
open Go.RowKit

theorem l2E_is (x : Int) (b : Bool) (h : Hid (Mill.isE x = b)) (w : World) :
    Calls Tryz.prog 40 #[.int .i64 x] w fun e w' => e = .returned (.bool b) ∧ w = w' := by
  rw [← h.out]; exact l2E_any x w
theorem Mill.len2 (ks : List Int) (h : ks.length = 2) : ∃ a b, ks = [a, b] := by
  match ks, h with
  | [a, b], _ => exact ⟨a, b, rfl⟩
theorem Mill.len3 (ks : List Int) (h : ks.length = 3) : ∃ a b c, ks = [a, b, c] := by
  match ks, h with
  | [a, b, c], _ => exact ⟨a, b, c, rfl⟩
theorem Mill.ifK_no (ks : List Int) (h2 : ks.length ≠ 2) (h3 : ks.length ≠ 3) : Mill.ifK ks = false := by
  unfold Mill.ifK
  split
  · simp at h2
  · simp at h3
  · rfl
theorem Mill.whileK_no (ks : List Int) (h2 : ks.length ≠ 2) : Mill.whileK ks = false := by
  unfold Mill.whileK
  split
  · simp at h2
  · rfl

set_option maxRecDepth 100000 in
set_option maxHeartbeats 2000000 in
theorem l2Fits_13 (o t y : Int) (x : ByteArray) (k : Int) (ks : List Int) (v : Value) (B n : Nat) (HN : Hid (ks.length = n)) (w : World) (h : w.ownsRow B 3 1 v n (Mill.ints ks)) (_hl : n ≤ 1000000) :
    Calls Tryz.prog 21 #[Mill.ndV ⟨13, o, t, y, x, k⟩, v] w fun e w' => e = .returned (.bool (Mill.fits 13 o ks)) ∧ Below w.heap.size w w' := by
  obtain ⟨a, cap, rfl, hc⟩ := Mill.ints_at h HN.out
  clear h
  by_cases h1 : n = 2
  · subst h1
    obtain ⟨p, q, rfl⟩ := Mill.len2 ks HN.out
    obtain ⟨g, rfl, _, hg2, c0⟩ := hc 0 (by omega)
    obtain ⟨g', hg', _, _, c1⟩ := hc 1 (by omega)
    cases hg'
    simp only [List.getElem_cons_zero, List.getElem_cons_succ] at c0 c1
    clear hc
    have HF : Hid (Mill.fits 13 o [p, q] = (Mill.isE p && (q == 21))) := by rw [Hid]; simp [Mill.fits, Mill.whileK]
    simp only [Mill.ndV]
    cases hE : Mill.isE p
    all_goals
      go_enter Tryz.func21, Tryz.ntmps21
      go_wp2_with (go_at_call 40; refine (l2E_any _ _).mono ?_; rintro e w' ⟨rfl, rfl⟩; rw [hE])
      go_ret
      exact ⟨Mill.ret_bool (by rw [HF.out, hE]; simp), (Below.refl _ w).alloc (Nat.le_refl _) _⟩
  · have HF : Hid (Mill.fits 13 o ks = false) := by rw [Hid]; simp [Mill.fits]; exact Mill.whileK_no ks (by rw [HN.out]; exact h1)
    clear hc
    have h1' : ((n : Int) == 2) = false := by simpa using (by omega : ¬ (n : Int) = 2)
    clear h1
    simp only [Mill.ndV]
    go_enter Tryz.func21, Tryz.ntmps21
    go_wp2_with fail
    go_ret
    exact ⟨Mill.ret_bool HF.out.symm, (Below.refl _ w).alloc (Nat.le_refl _) _⟩

set_option maxRecDepth 100000 in
set_option maxHeartbeats 2000000 in
theorem l2Fits_12 (o t y : Int) (x : ByteArray) (k : Int) (ks : List Int) (v : Value) (B n : Nat) (HN : Hid (ks.length = n)) (w : World) (h : w.ownsRow B 3 1 v n (Mill.ints ks)) (_hl : n ≤ 1000000) :
    Calls Tryz.prog 21 #[Mill.ndV ⟨12, o, t, y, x, k⟩, v] w fun e w' => e = .returned (.bool (Mill.fits 12 o ks)) ∧ Below w.heap.size w w' := by
  obtain ⟨a, cap, rfl, hc⟩ := Mill.ints_at h HN.out
  clear h
  by_cases h1 : n = 2
  · subst h1
    obtain ⟨p, q, rfl⟩ := Mill.len2 ks HN.out
    obtain ⟨g, rfl, _, hg2, c0⟩ := hc 0 (by omega)
    obtain ⟨g', hg', _, _, c1⟩ := hc 1 (by omega)
    cases hg'
    simp only [List.getElem_cons_zero, List.getElem_cons_succ] at c0 c1
    clear hc
    have HF : Hid (Mill.fits 12 o [p, q] = (Mill.isE p && (q == 21))) := by rw [Hid]; simp [Mill.fits, Mill.ifK]
    simp only [Mill.ndV]
    cases hE : Mill.isE p <;> cases hq : (q == 21)
    all_goals
      go_enter Tryz.func21, Tryz.ntmps21
      go_wp2_with (go_at_call 40; refine (l2E_any _ _).mono ?_; rintro e w' ⟨rfl, rfl⟩; rw [hE])
      go_ret
      exact ⟨Mill.ret_bool (by rw [HF.out, hE]; simp_all), (Below.refl _ w).alloc (Nat.le_refl _) _⟩
  · by_cases h2 : n = 3
    · subst h2
      obtain ⟨p, q, r, rfl⟩ := Mill.len3 ks HN.out
      obtain ⟨g, rfl, _, hg2, c0⟩ := hc 0 (by omega)
      obtain ⟨g', hg', _, _, c1⟩ := hc 1 (by omega)
      cases hg'
      obtain ⟨g', hg', _, _, c2⟩ := hc 2 (by omega)
      cases hg'
      simp only [List.getElem_cons_zero, List.getElem_cons_succ] at c0 c1 c2
      clear hc h1
      have HF : Hid (Mill.fits 12 o [p, q, r] = (Mill.isE p && (q == 21) && ((r == 21) || (r == 12)))) := by rw [Hid]; simp [Mill.fits, Mill.ifK]
      simp only [Mill.ndV]
      cases hE : Mill.isE p <;> cases hq : (q == 21)
      all_goals
        go_enter Tryz.func21, Tryz.ntmps21
        go_wp2_with (go_at_call 40; refine (l2E_any _ _).mono ?_; rintro e w' ⟨rfl, rfl⟩; rw [hE])
        all_goals go_ret
        all_goals exact ⟨Mill.ret_bool (by rw [HF.out, hE]; go_light; simp_all), (Below.refl _ w).alloc (Nat.le_refl _) _⟩
    · have HF : Hid (Mill.fits 12 o ks = false) := by rw [Hid]; simp [Mill.fits]; exact Mill.ifK_no ks (by rw [HN.out]; exact h1) (by rw [HN.out]; exact h2)
      clear hc
      simp only [Mill.ndV]
      by_cases h3 : n < 2
      · have h3' : ¬ (2 : Int) ≤ (n : Int) := by omega
        clear h1 h2 h3
        go_enter Tryz.func21, Tryz.ntmps21
        go_wp2_with fail
        go_ret
        exact ⟨Mill.ret_bool HF.out.symm, (Below.refl _ w).alloc (Nat.le_refl _) _⟩
      · have h3' : (2 : Int) ≤ (n : Int) := by omega
        have h4' : ¬ (n : Int) ≤ 3 := by omega
        clear h1 h2 h3
        go_enter Tryz.func21, Tryz.ntmps21
        go_wp2_with fail
        go_ret
        exact ⟨Mill.ret_bool HF.out.symm, (Below.refl _ w).alloc (Nat.le_refl _) _⟩

set_option maxRecDepth 100000 in
set_option maxHeartbeats 2000000 in
theorem l2Fits_23 (o t y : Int) (x : ByteArray) (k : Int) (ks : List Int) (v : Value) (B n : Nat) (HN : Hid (ks.length = n)) (w : World) (h : w.ownsRow B 3 1 v n (Mill.ints ks)) (hl : n ≤ 1000000) :
    Calls Tryz.prog 21 #[Mill.ndV ⟨23, o, t, y, x, k⟩, v] w fun e w' => e = .returned (.bool (Mill.fits 23 o ks)) ∧ Below w.heap.size w w' := by
  obtain ⟨a, cap, rfl, hc⟩ := Mill.ints_at h HN.out
  clear h
  simp only [Mill.ndV]
  by_cases h1 : n = 0
  · have HF : Hid (Mill.fits 23 o ks = false) := by
      have h0 : ks = [] := List.eq_nil_of_length_eq_zero (by rw [HN.out]; exact h1)
      rw [Hid, h0]; simp [Mill.fits, Mill.fnK]
    subst h1
    clear hc
    go_enter Tryz.func21, Tryz.ntmps21
    go_wp2
    refine wp_loop_rounds 1 ?_
    rw [rounds_succ]
    go_wp2
    go_ret
    exact ⟨Mill.ret_bool HF.out.symm, (Below.refl _ w).alloc (Nat.le_refl _) _⟩
  · obtain ⟨gl, rfl, _, hg2, cl⟩ := hc (n - 1) (by omega)
    have hne : ks ≠ [] := by intro h0; have := HN.out; rw [h0] at this; simp at this; omega
    have hlast : ks[n - 1]'(by rw [HN.out]; omega) = ks.getLast hne := by
      rw [List.getLast_eq_getElem]; simp only [HN.out]
    rw [hlast] at cl
    obtain ⟨z, hz⟩ : ∃ z, z = ks.getLast hne := ⟨_, rfl⟩
    rw [← hz] at cl
    have HF : Hid (Mill.fits 23 o ks = ((z == 21) && decide (n ≤ 9) && ks.dropLast.all (fun k => k == 22))) := by
      rw [Hid]; have := HN.out; simp [Mill.fits, Mill.fnK, List.getLast?_eq_some_getLast hne, ← hz, this]
    clear hz hlast
    have hn1 : ((n : Int) - 1).toNat = n - 1 := by omega
    go_enter Tryz.func21, Tryz.ntmps21
    go_wp2
    go_loop [9] (fun t => ∃ i : Nat, i ≤ n - 1 ∧ t = .int .i64 (i : Int) ∧ (ks.dropLast.drop i).all (fun k => k == 22) = ks.dropLast.all (fun k => k == 22)) (fun t => n - (intOf t).toNat)
    case atStart => exact ⟨0, by omega, rfl, rfl⟩
    case round =>
      obtain ⟨i, hi, rfl, hf⟩ := hrel
      by_cases hlt : i + 1 < n
      · obtain ⟨g, hg, _, _, hcell⟩ := hc i (by omega)
        cases hg
        have hil : i < ks.dropLast.length := by rw [List.length_dropLast, HN.out]; omega
        rw [List.drop_eq_getElem_cons hil, List.all_cons, List.getElem_dropLast] at hf
        clear hc
        cases hE : (ks[i]'(by rw [HN.out]; omega) == 22) with
        | true =>
          have HR : Hid ((ks.dropLast.drop (i + 1)).all (fun k => k == 22) = ks.dropLast.all (fun k => k == 22)) := by rw [hE] at hf; exact hf
          clear hf
          generalize ks[i]'(by rw [HN.out]; omega) = x at *
          have hE' : (x != 22) = false := by simpa [bne] using hE
          go_wp2
          go_round
          case rel => exact ⟨i + 1, by omega, by go_num, HR.out⟩
          case measure => simp [intOf]; omega
        | false =>
          have HR : Hid (Mill.fits 23 o ks = false) := by rw [Hid, HF.out, ← hf, hE]; simp
          clear hf
          generalize ks[i]'(by rw [HN.out]; omega) = x at *
          have hE' : (x != 22) = true := by simpa [bne] using hE
          go_wp2
          go_ret
          exact ⟨Mill.ret_bool HR.out.symm, (Below.refl _ w).alloc (Nat.le_refl _) _⟩
      · have HR : Hid (Mill.fits 23 o ks = ((z == 21) && decide (n ≤ 9))) := by
          rw [List.drop_of_length_le (by rw [List.length_dropLast, HN.out]; omega)] at hf; rw [Hid, HF.out, ← hf]; simp
        clear hf hc
        have h5 : (1 : Int) ≤ (n : Int) := by omega
        by_cases h9 : n ≤ 9
        · have h9' : (n : Int) - 1 ≤ 8 := by omega
          go_wp2
          go_ret
          exact ⟨Mill.ret_bool (by rw [HR.out]; simp [h9]), (Below.refl _ w).alloc (Nat.le_refl _) _⟩
        · have h9' : ¬ (n : Int) - 1 ≤ 8 := by omega
          go_wp2
          go_ret
          exact ⟨Mill.ret_bool (by rw [HR.out]; simp [h9]), (Below.refl _ w).alloc (Nat.le_refl _) _⟩

set_option maxRecDepth 100000 in
set_option maxHeartbeats 2000000 in
theorem l2Fits_other (c : Int) (hc : c < 1 ∨ 24 < c) (o t y : Int) (x : ByteArray) (k : Int) (ks : List Int) (v : Value) (B n : Nat) (HN : Hid (ks.length = n)) (w : World) (h : w.ownsRow B 3 1 v n (Mill.ints ks)) (_hl : n ≤ 1000000) :
    Calls Tryz.prog 21 #[Mill.ndV ⟨c, o, t, y, x, k⟩, v] w fun e w' => e = .returned (.bool (Mill.fits c o ks)) ∧ Below w.heap.size w w' := by
  have HF : Hid (Mill.fits c o ks = false) := by
    have hn : ∀ m : Int, 1 ≤ m → m ≤ 24 → c ≠ m := fun m h1 h2 => by omega
    rw [Hid]; simp [Mill.fits, hn]
  have hn : ∀ m : Int, 1 ≤ m → m ≤ 24 → c ≠ m := fun m h1 h2 => by omega
  have n1 := hn 1 (by omega) (by omega); have n2 := hn 2 (by omega) (by omega); have n3 := hn 3 (by omega) (by omega); have n4 := hn 4 (by omega) (by omega); have n5 := hn 5 (by omega) (by omega); have n6 := hn 6 (by omega) (by omega); have n7 := hn 7 (by omega) (by omega); have n8 := hn 8 (by omega) (by omega); have n9 := hn 9 (by omega) (by omega); have n10 := hn 10 (by omega) (by omega); have n11 := hn 11 (by omega) (by omega); have n12 := hn 12 (by omega) (by omega); have n13 := hn 13 (by omega) (by omega); have n14 := hn 14 (by omega) (by omega); have n15 := hn 15 (by omega) (by omega); have n16 := hn 16 (by omega) (by omega); have n17 := hn 17 (by omega) (by omega); have n18 := hn 18 (by omega) (by omega); have n19 := hn 19 (by omega) (by omega); have n20 := hn 20 (by omega) (by omega); have n21 := hn 21 (by omega) (by omega); have n22 := hn 22 (by omega) (by omega); have n23 := hn 23 (by omega) (by omega); have n24 := hn 24 (by omega) (by omega)
  clear hn hc
  obtain ⟨a, cap, rfl, _⟩ := Mill.ints_at h HN.out
  clear h
  simp only [Mill.ndV]
  go_enter Tryz.func21, Tryz.ntmps21
  go_wp2
  go_ret
  exact ⟨Mill.ret_bool HF.out.symm, (Below.refl _ w).alloc (Nat.le_refl _) _⟩

theorem Mill.kinds24 (c : Int) : c = 1 ∨ c = 2 ∨ c = 3 ∨ c = 4 ∨ c = 5 ∨ c = 6 ∨ c = 7 ∨ c = 8 ∨ c = 9 ∨ c = 10 ∨ c = 11 ∨ c = 12 ∨ c = 13 ∨ c = 14 ∨ c = 15 ∨ c = 16 ∨ c = 17 ∨ c = 18 ∨ c = 19 ∨ c = 20 ∨ c = 21 ∨ c = 22 ∨ c = 23 ∨ c = 24 ∨ (c < 1 ∨ 24 < c) := by omega

theorem l2Fits_any (d : Mill.Nd) (ks : List Int) (v : Value) (B n : Nat) (HN : Hid (ks.length = n)) (w : World) (h : w.ownsRow B 3 1 v n (Mill.ints ks)) (hl : n ≤ 1000000) :
    Calls Tryz.prog 21 #[Mill.ndV d, v] w fun e w' => e = .returned (.bool (Mill.fits d.kind d.op ks)) ∧ Below w.heap.size w w' := by
  obtain ⟨c, o, t, y, x, k⟩ := d
  rcases Mill.kinds24 c with rfl | rfl | rfl | rfl | rfl | rfl | rfl | rfl | rfl | rfl | rfl | rfl | rfl | rfl | rfl | rfl | rfl | rfl | rfl | rfl | rfl | rfl | rfl | rfl | hc
  · exact l2Fits_1 o t y x k ks v B n HN w h hl
  · exact l2Fits_2 o t y x k ks v B n HN w h hl
  · exact l2Fits_3 o t y x k ks v B n HN w h hl
  · exact l2Fits_4 o t y x k ks v B n HN w h hl
  · exact l2Fits_5 o t y x k ks v B n HN w h hl
  · exact l2Fits_6 o t y x k ks v B n HN w h hl
  · exact l2Fits_7 o t y x k ks v B n HN w h hl
  · exact l2Fits_8 o t y x k ks v B n HN w h hl
  · exact l2Fits_9 o t y x k ks v B n HN w h hl
  · exact l2Fits_10 o t y x k ks v B n HN w h hl
  · exact l2Fits_11 o t y x k ks v B n HN w h hl
  · exact l2Fits_12 o t y x k ks v B n HN w h hl
  · exact l2Fits_13 o t y x k ks v B n HN w h hl
  · exact l2Fits_14 o t y x k ks v B n HN w h hl
  · exact l2Fits_15 o t y x k ks v B n HN w h hl
  · exact l2Fits_16 o t y x k ks v B n HN w h hl
  · exact l2Fits_17 o t y x k ks v B n HN w h hl
  · exact l2Fits_18 o t y x k ks v B n HN w h hl
  · exact l2Fits_19 o t y x k ks v B n HN w h hl
  · exact l2Fits_20 o t y x k ks v B n HN w h hl
  · exact l2Fits_21 o t y x k ks v B n HN w h hl
  · exact l2Fits_22 o t y x k ks v B n HN w h hl
  · exact l2Fits_23 o t y x k ks v B n HN w h hl
  · exact l2Fits_24 o t y x k ks v B n HN w h hl
  · exact l2Fits_other c hc o t y x k ks v B n HN w h hl

end Go.Proofs.YtkaoeoeloihigaaGreatDoor
