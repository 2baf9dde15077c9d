import Derived.Test.YtkaoeoeloihigaaGreatDoorVTreeC
namespace Go.Proofs.YtkaoeoeloihigaaGreatDoor
open Go.RowKit

def Mill.ints (ks : List Int) : List Value := ks.map (fun x => Value.int .i64 x)
theorem Mill.ints_at {w : World} {B n : Nat} {v : Value} {ks : List Int} {e : TypeId} (h : w.ownsRow B e 1 v n (Mill.ints ks)) (hn : ks.length = n) :
    ∃ a cap, v = .slice a n cap ∧ ∀ i (hi : i < n), ∃ g, a = some ⟨g, 0, none⟩ ∧ B ≤ g ∧ g < w.heap.size ∧ w.cell? ⟨g, i, none⟩ = some (.int .i64 (ks[i]'(hn ▸ hi))) := by
  rcases h.2 with ⟨rfl, h0⟩ | ⟨g, cap, cur, rfl, hg, hgg, _⟩
  · exact ⟨none, 0, by rw [h0], fun i hi => by omega⟩
  · refine ⟨_, _, rfl, fun i hi => ⟨g, rfl, hg, (Array.getElem?_eq_some_iff.1 hgg).1, ?_⟩⟩
    rw [h.cellAt i (by omega)]
    simp [Mill.ints, hn, hi]

set_option maxHeartbeats 1000000 in
theorem l2AllE_any (ks : List Int) (v : Value) (B n : Nat) (HN : Hid (ks.length = n)) (w : World) (h : w.ownsRow B 3 1 v n (Mill.ints ks)) (hl : n ≤ 1000000) :
    Calls Tryz.prog 41 #[v] w fun e w' => e = .returned (.bool (ks.all Mill.isE)) ∧ w = w' := by
  obtain ⟨a, cap, rfl, hc⟩ := Mill.ints_at h HN.out
  clear h
  go_enter Tryz.func41, Tryz.ntmps41
  go_wp2
  go_loop [3] (fun t => ∃ i : Nat, i ≤ n ∧ t = .int .i64 (i : Int) ∧ (ks.drop i).all Mill.isE = ks.all Mill.isE) (fun t => n - (intOf t).toNat)
  case atStart => exact ⟨0, by omega, rfl, rfl⟩
  case round =>
    obtain ⟨i, hi, rfl, hf⟩ := hrel
    by_cases hlt : i < n
    · obtain ⟨g, rfl, _, _, hcell⟩ := hc i hlt
      have hil : i < ks.length := by rw [HN.out]; exact hlt
      rw [List.drop_eq_getElem_cons hil, List.all_cons] at hf
      clear hc
      cases hE : Mill.isE ks[i] with
      | true =>
        have HF : Hid ((ks.drop (i + 1)).all Mill.isE = ks.all Mill.isE) := by rw [hE] at hf; exact hf
        clear hf
        generalize ks[i] = x at *
        go_wp2_with (go_at_call 40; refine (l2E_any _ _).mono ?_; rintro e w' ⟨rfl, rfl⟩; rw [hE])
        go_round
        case rel => exact ⟨i + 1, by omega, by go_num, HF.out⟩
        case measure => simp [intOf]; omega
      | false =>
        have HF : Hid (ks.all Mill.isE = false) := by rw [hE] at hf; rw [Hid, ← hf]; rfl
        clear hf
        generalize ks[i] = x at *
        go_wp2_with (go_at_call 40; refine (l2E_any _ _).mono ?_; rintro e w' ⟨rfl, rfl⟩; rw [hE])
        go_ret
        exact ⟨Mill.ret_bool HF.out.symm, rfl⟩
    · have HF : Hid (ks.all Mill.isE = true) := by
        rw [List.drop_of_length_le (by rw [HN.out]; omega)] at hf; rw [Hid, ← hf]; rfl
      clear hf hc
      go_wp2
      go_ret
      exact ⟨Mill.ret_bool HF.out.symm, rfl⟩

def Mill.oneE (ks : List Int) : Bool := match ks with | [a] => Mill.isE a | _ => false
def Mill.ifK (ks : List Int) : Bool := match ks with | [a, b] => Mill.isE a && (b == 21) | [a, b, c] => Mill.isE a && (b == 21) && ((c == 21) || (c == 12)) | _ => false
def Mill.whileK (ks : List Int) : Bool := match ks with | [a, b] => Mill.isE a && (b == 21) | _ => false
def Mill.doK (ks : List Int) : Bool := match ks with | [a] => (a == 7) | _ => false
def Mill.fnK (ks : List Int) : Bool := match ks.getLast? with | none => false | some l => (l == 21) && decide (ks.length ≤ 9) && ks.dropLast.all (fun k => k == 22)
def Mill.fits (kind op : Int) (ks : List Int) : Bool :=
  if kind = 1 ∨ kind = 2 ∨ kind = 3 ∨ kind = 4 ∨ kind = 14 ∨ kind = 15 ∨ kind = 22 then decide (ks.length = 0)
  else if kind = 5 ∨ kind = 9 ∨ kind = 10 ∨ kind = 11 ∨ kind = 17 ∨ kind = 19 then Mill.oneE ks
  else if kind = 6 ∨ kind = 18 then decide (ks.length = 2) && ks.all Mill.isE
  else if kind = 7 then decide (ks.length ≤ 8) && ks.all Mill.isE
  else if kind = 8 then decide ((ks.length : Int) = Mill.builtKids op) && ks.all Mill.isE
  else if kind = 12 then Mill.ifK ks
  else if kind = 13 then Mill.whileK ks
  else if kind = 16 then decide (ks.length ≤ 1) && ks.all Mill.isE
  else if kind = 20 then Mill.doK ks
  else if kind = 21 then ks.all Mill.isS
  else if kind = 23 then Mill.fnK ks
  else if kind = 24 then ks.all (fun k => k == 23) && decide (1 ≤ ks.length) && decide (ks.length ≤ 60)
  else false

set_option maxRecDepth 100000 in
set_option maxHeartbeats 1000000 in
theorem l2Fits_1 (o t y : Int) (x : ByteArray) (k : Int) (ks : List Int) (v : Value) (B n : Nat) (HN : Hid (ks.length = n)) (w : World) (h : w.ownsRow B 3 1 v n (Mill.ints ks)) (_hl : n ≤ 1000000) :
    Calls Tryz.prog 21 #[Mill.ndV ⟨1, o, t, y, x, k⟩, v] w fun e w' => e = .returned (.bool (Mill.fits 1 o ks)) ∧ Below w.heap.size w w' := by
  have HF : Hid (Mill.fits 1 o ks = ((n : Int) == 0)) := by rw [Hid, Bool.eq_iff_iff]; simp [Mill.fits, ← HN.out]
  obtain ⟨a, cap, rfl, _⟩ := Mill.ints_at h HN.out
  clear h
  simp only [Mill.ndV]
  go_enter Tryz.func21, Tryz.ntmps21
  go_wp2
  go_ret
  exact ⟨Mill.ret_bool HF.out.symm, (Below.refl _ w).alloc (Nat.le_refl _) _⟩

set_option maxRecDepth 100000 in
set_option maxHeartbeats 1000000 in
theorem l2Fits_2 (o t y : Int) (x : ByteArray) (k : Int) (ks : List Int) (v : Value) (B n : Nat) (HN : Hid (ks.length = n)) (w : World) (h : w.ownsRow B 3 1 v n (Mill.ints ks)) (_hl : n ≤ 1000000) :
    Calls Tryz.prog 21 #[Mill.ndV ⟨2, o, t, y, x, k⟩, v] w fun e w' => e = .returned (.bool (Mill.fits 2 o ks)) ∧ Below w.heap.size w w' := by
  have HF : Hid (Mill.fits 2 o ks = ((n : Int) == 0)) := by rw [Hid, Bool.eq_iff_iff]; simp [Mill.fits, ← HN.out]
  obtain ⟨a, cap, rfl, _⟩ := Mill.ints_at h HN.out
  clear h
  simp only [Mill.ndV]
  go_enter Tryz.func21, Tryz.ntmps21
  go_wp2
  go_ret
  exact ⟨Mill.ret_bool HF.out.symm, (Below.refl _ w).alloc (Nat.le_refl _) _⟩

set_option maxRecDepth 100000 in
set_option maxHeartbeats 1000000 in
theorem l2Fits_3 (o t y : Int) (x : ByteArray) (k : Int) (ks : List Int) (v : Value) (B n : Nat) (HN : Hid (ks.length = n)) (w : World) (h : w.ownsRow B 3 1 v n (Mill.ints ks)) (_hl : n ≤ 1000000) :
    Calls Tryz.prog 21 #[Mill.ndV ⟨3, o, t, y, x, k⟩, v] w fun e w' => e = .returned (.bool (Mill.fits 3 o ks)) ∧ Below w.heap.size w w' := by
  have HF : Hid (Mill.fits 3 o ks = ((n : Int) == 0)) := by rw [Hid, Bool.eq_iff_iff]; simp [Mill.fits, ← HN.out]
  obtain ⟨a, cap, rfl, _⟩ := Mill.ints_at h HN.out
  clear h
  simp only [Mill.ndV]
  go_enter Tryz.func21, Tryz.ntmps21
  go_wp2
  go_ret
  exact ⟨Mill.ret_bool HF.out.symm, (Below.refl _ w).alloc (Nat.le_refl _) _⟩

set_option maxRecDepth 100000 in
set_option maxHeartbeats 1000000 in
theorem l2Fits_4 (o t y : Int) (x : ByteArray) (k : Int) (ks : List Int) (v : Value) (B n : Nat) (HN : Hid (ks.length = n)) (w : World) (h : w.ownsRow B 3 1 v n (Mill.ints ks)) (_hl : n ≤ 1000000) :
    Calls Tryz.prog 21 #[Mill.ndV ⟨4, o, t, y, x, k⟩, v] w fun e w' => e = .returned (.bool (Mill.fits 4 o ks)) ∧ Below w.heap.size w w' := by
  have HF : Hid (Mill.fits 4 o ks = ((n : Int) == 0)) := by rw [Hid, Bool.eq_iff_iff]; simp [Mill.fits, ← HN.out]
  obtain ⟨a, cap, rfl, _⟩ := Mill.ints_at h HN.out
  clear h
  simp only [Mill.ndV]
  go_enter Tryz.func21, Tryz.ntmps21
  go_wp2
  go_ret
  exact ⟨Mill.ret_bool HF.out.symm, (Below.refl _ w).alloc (Nat.le_refl _) _⟩

set_option maxRecDepth 100000 in
set_option maxHeartbeats 1000000 in
theorem l2Fits_14 (o t y : Int) (x : ByteArray) (k : Int) (ks : List Int) (v : Value) (B n : Nat) (HN : Hid (ks.length = n)) (w : World) (h : w.ownsRow B 3 1 v n (Mill.ints ks)) (_hl : n ≤ 1000000) :
    Calls Tryz.prog 21 #[Mill.ndV ⟨14, o, t, y, x, k⟩, v] w fun e w' => e = .returned (.bool (Mill.fits 14 o ks)) ∧ Below w.heap.size w w' := by
  have HF : Hid (Mill.fits 14 o ks = ((n : Int) == 0)) := by rw [Hid, Bool.eq_iff_iff]; simp [Mill.fits, ← HN.out]
  obtain ⟨a, cap, rfl, _⟩ := Mill.ints_at h HN.out
  clear h
  simp only [Mill.ndV]
  go_enter Tryz.func21, Tryz.ntmps21
  go_wp2
  go_ret
  exact ⟨Mill.ret_bool HF.out.symm, (Below.refl _ w).alloc (Nat.le_refl _) _⟩

set_option maxRecDepth 100000 in
set_option maxHeartbeats 1000000 in
theorem l2Fits_15 (o t y : Int) (x : ByteArray) (k : Int) (ks : List Int) (v : Value) (B n : Nat) (HN : Hid (ks.length = n)) (w : World) (h : w.ownsRow B 3 1 v n (Mill.ints ks)) (_hl : n ≤ 1000000) :
    Calls Tryz.prog 21 #[Mill.ndV ⟨15, o, t, y, x, k⟩, v] w fun e w' => e = .returned (.bool (Mill.fits 15 o ks)) ∧ Below w.heap.size w w' := by
  have HF : Hid (Mill.fits 15 o ks = ((n : Int) == 0)) := by rw [Hid, Bool.eq_iff_iff]; simp [Mill.fits, ← HN.out]
  obtain ⟨a, cap, rfl, _⟩ := Mill.ints_at h HN.out
  clear h
  simp only [Mill.ndV]
  go_enter Tryz.func21, Tryz.ntmps21
  go_wp2
  go_ret
  exact ⟨Mill.ret_bool HF.out.symm, (Below.refl _ w).alloc (Nat.le_refl _) _⟩

set_option maxRecDepth 100000 in
set_option maxHeartbeats 1000000 in
theorem l2Fits_22 (o t y : Int) (x : ByteArray) (k : Int) (ks : List Int) (v : Value) (B n : Nat) (HN : Hid (ks.length = n)) (w : World) (h : w.ownsRow B 3 1 v n (Mill.ints ks)) (_hl : n ≤ 1000000) :
    Calls Tryz.prog 21 #[Mill.ndV ⟨22, o, t, y, x, k⟩, v] w fun e w' => e = .returned (.bool (Mill.fits 22 o ks)) ∧ Below w.heap.size w w' := by
  have HF : Hid (Mill.fits 22 o ks = ((n : Int) == 0)) := by rw [Hid, Bool.eq_iff_iff]; simp [Mill.fits, ← HN.out]
  obtain ⟨a, cap, rfl, _⟩ := Mill.ints_at h HN.out
  clear h
  simp only [Mill.ndV]
  go_enter Tryz.func21, Tryz.ntmps21
  go_wp2
  go_ret
  exact ⟨Mill.ret_bool HF.out.symm, (Below.refl _ w).alloc (Nat.le_refl _) _⟩

set_option maxRecDepth 100000 in
set_option maxHeartbeats 1000000 in
theorem l2Fits_5 (o t y : Int) (x : ByteArray) (k : Int) (ks : List Int) (v : Value) (B n : Nat) (HN : Hid (ks.length = n)) (w : World) (h : w.ownsRow B 3 1 v n (Mill.ints ks)) (_hl : n ≤ 1000000) :
    Calls Tryz.prog 21 #[Mill.ndV ⟨5, o, t, y, x, k⟩, v] w fun e w' => e = .returned (.bool (Mill.fits 5 o ks)) ∧ Below w.heap.size w w' := by
  obtain ⟨a, cap, rfl, hc⟩ := Mill.ints_at h HN.out
  clear h
  by_cases h1 : n = 1
  · obtain ⟨g, rfl, _, hg2, hcell⟩ := hc 0 (by omega)
    have h0 : 0 < ks.length := by rw [HN.out]; omega
    have HF : Hid (Mill.fits 5 o ks = Mill.isE ks[0]) := by
      have hlen := HN.out
      match ks, h0, hlen with
      | [a], _, _ => rw [Hid]; simp [Mill.fits, Mill.oneE]
      | a :: b :: r, _, hlen => simp at hlen; omega
    generalize ks[0] = z at *
    clear hc
    have h1' : (n : Int) = 1 := by omega
    simp only [Mill.ndV]
    go_enter Tryz.func21, Tryz.ntmps21
    go_wp2_with (go_at_call 40; refine (l2E_any _ _).mono ?_; rintro e w' ⟨rfl, rfl⟩)
    go_ret
    exact ⟨Mill.ret_bool HF.out.symm, (Below.refl _ w).alloc (Nat.le_refl _) _⟩
  · have HF : Hid (Mill.fits 5 o ks = false) := by
      have hlen := HN.out
      match ks, hlen with
      | [], _ => rw [Hid]; simp [Mill.fits, Mill.oneE]
      | [a], hlen => simp at hlen; omega
      | a :: b :: r, _ => rw [Hid]; simp [Mill.fits, Mill.oneE]
    clear hc
    have h1' : ((n : Int) == 1) = false := by simpa using (by omega : ¬ (n : Int) = 1)
    simp only [Mill.ndV]
    go_enter Tryz.func21, Tryz.ntmps21
    go_wp2_with (go_at_call 40; refine (l2E_any _ _).mono ?_; rintro e w' ⟨rfl, rfl⟩)
    go_ret
    exact ⟨Mill.ret_bool HF.out.symm, (Below.refl _ w).alloc (Nat.le_refl _) _⟩

set_option maxRecDepth 100000 in
set_option maxHeartbeats 1000000 in
theorem l2Fits_9 (o t y : Int) (x : ByteArray) (k : Int) (ks : List Int) (v : Value) (B n : Nat) (HN : Hid (ks.length = n)) (w : World) (h : w.ownsRow B 3 1 v n (Mill.ints ks)) (_hl : n ≤ 1000000) :
    Calls Tryz.prog 21 #[Mill.ndV ⟨9, o, t, y, x, k⟩, v] w fun e w' => e = .returned (.bool (Mill.fits 9 o ks)) ∧ Below w.heap.size w w' := by
  obtain ⟨a, cap, rfl, hc⟩ := Mill.ints_at h HN.out
  clear h
  by_cases h1 : n = 1
  · obtain ⟨g, rfl, _, hg2, hcell⟩ := hc 0 (by omega)
    have h0 : 0 < ks.length := by rw [HN.out]; omega
    have HF : Hid (Mill.fits 9 o ks = Mill.isE ks[0]) := by
      have hlen := HN.out
      match ks, h0, hlen with
      | [a], _, _ => rw [Hid]; simp [Mill.fits, Mill.oneE]
      | a :: b :: r, _, hlen => simp at hlen; omega
    generalize ks[0] = z at *
    clear hc
    have h1' : (n : Int) = 1 := by omega
    simp only [Mill.ndV]
    go_enter Tryz.func21, Tryz.ntmps21
    go_wp2_with (go_at_call 40; refine (l2E_any _ _).mono ?_; rintro e w' ⟨rfl, rfl⟩)
    go_ret
    exact ⟨Mill.ret_bool HF.out.symm, (Below.refl _ w).alloc (Nat.le_refl _) _⟩
  · have HF : Hid (Mill.fits 9 o ks = false) := by
      have hlen := HN.out
      match ks, hlen with
      | [], _ => rw [Hid]; simp [Mill.fits, Mill.oneE]
      | [a], hlen => simp at hlen; omega
      | a :: b :: r, _ => rw [Hid]; simp [Mill.fits, Mill.oneE]
    clear hc
    have h1' : ((n : Int) == 1) = false := by simpa using (by omega : ¬ (n : Int) = 1)
    simp only [Mill.ndV]
    go_enter Tryz.func21, Tryz.ntmps21
    go_wp2_with (go_at_call 40; refine (l2E_any _ _).mono ?_; rintro e w' ⟨rfl, rfl⟩)
    go_ret
    exact ⟨Mill.ret_bool HF.out.symm, (Below.refl _ w).alloc (Nat.le_refl _) _⟩

set_option maxRecDepth 100000 in
set_option maxHeartbeats 1000000 in
theorem l2Fits_10 (o t y : Int) (x : ByteArray) (k : Int) (ks : List Int) (v : Value) (B n : Nat) (HN : Hid (ks.length = n)) (w : World) (h : w.ownsRow B 3 1 v n (Mill.ints ks)) (_hl : n ≤ 1000000) :
    Calls Tryz.prog 21 #[Mill.ndV ⟨10, o, t, y, x, k⟩, v] w fun e w' => e = .returned (.bool (Mill.fits 10 o ks)) ∧ Below w.heap.size w w' := by
  obtain ⟨a, cap, rfl, hc⟩ := Mill.ints_at h HN.out
  clear h
  by_cases h1 : n = 1
  · obtain ⟨g, rfl, _, hg2, hcell⟩ := hc 0 (by omega)
    have h0 : 0 < ks.length := by rw [HN.out]; omega
    have HF : Hid (Mill.fits 10 o ks = Mill.isE ks[0]) := by
      have hlen := HN.out
      match ks, h0, hlen with
      | [a], _, _ => rw [Hid]; simp [Mill.fits, Mill.oneE]
      | a :: b :: r, _, hlen => simp at hlen; omega
    generalize ks[0] = z at *
    clear hc
    have h1' : (n : Int) = 1 := by omega
    simp only [Mill.ndV]
    go_enter Tryz.func21, Tryz.ntmps21
    go_wp2_with (go_at_call 40; refine (l2E_any _ _).mono ?_; rintro e w' ⟨rfl, rfl⟩)
    go_ret
    exact ⟨Mill.ret_bool HF.out.symm, (Below.refl _ w).alloc (Nat.le_refl _) _⟩
  · have HF : Hid (Mill.fits 10 o ks = false) := by
      have hlen := HN.out
      match ks, hlen with
      | [], _ => rw [Hid]; simp [Mill.fits, Mill.oneE]
      | [a], hlen => simp at hlen; omega
      | a :: b :: r, _ => rw [Hid]; simp [Mill.fits, Mill.oneE]
    clear hc
    have h1' : ((n : Int) == 1) = false := by simpa using (by omega : ¬ (n : Int) = 1)
    simp only [Mill.ndV]
    go_enter Tryz.func21, Tryz.ntmps21
    go_wp2_with (go_at_call 40; refine (l2E_any _ _).mono ?_; rintro e w' ⟨rfl, rfl⟩)
    go_ret
    exact ⟨Mill.ret_bool HF.out.symm, (Below.refl _ w).alloc (Nat.le_refl _) _⟩

set_option maxRecDepth 100000 in
set_option maxHeartbeats 1000000 in
theorem l2Fits_11 (o t y : Int) (x : ByteArray) (k : Int) (ks : List Int) (v : Value) (B n : Nat) (HN : Hid (ks.length = n)) (w : World) (h : w.ownsRow B 3 1 v n (Mill.ints ks)) (_hl : n ≤ 1000000) :
    Calls Tryz.prog 21 #[Mill.ndV ⟨11, o, t, y, x, k⟩, v] w fun e w' => e = .returned (.bool (Mill.fits 11 o ks)) ∧ Below w.heap.size w w' := by
  obtain ⟨a, cap, rfl, hc⟩ := Mill.ints_at h HN.out
  clear h
  by_cases h1 : n = 1
  · obtain ⟨g, rfl, _, hg2, hcell⟩ := hc 0 (by omega)
    have h0 : 0 < ks.length := by rw [HN.out]; omega
    have HF : Hid (Mill.fits 11 o ks = Mill.isE ks[0]) := by
      have hlen := HN.out
      match ks, h0, hlen with
      | [a], _, _ => rw [Hid]; simp [Mill.fits, Mill.oneE]
      | a :: b :: r, _, hlen => simp at hlen; omega
    generalize ks[0] = z at *
    clear hc
    have h1' : (n : Int) = 1 := by omega
    simp only [Mill.ndV]
    go_enter Tryz.func21, Tryz.ntmps21
    go_wp2_with (go_at_call 40; refine (l2E_any _ _).mono ?_; rintro e w' ⟨rfl, rfl⟩)
    go_ret
    exact ⟨Mill.ret_bool HF.out.symm, (Below.refl _ w).alloc (Nat.le_refl _) _⟩
  · have HF : Hid (Mill.fits 11 o ks = false) := by
      have hlen := HN.out
      match ks, hlen with
      | [], _ => rw [Hid]; simp [Mill.fits, Mill.oneE]
      | [a], hlen => simp at hlen; omega
      | a :: b :: r, _ => rw [Hid]; simp [Mill.fits, Mill.oneE]
    clear hc
    have h1' : ((n : Int) == 1) = false := by simpa using (by omega : ¬ (n : Int) = 1)
    simp only [Mill.ndV]
    go_enter Tryz.func21, Tryz.ntmps21
    go_wp2_with (go_at_call 40; refine (l2E_any _ _).mono ?_; rintro e w' ⟨rfl, rfl⟩)
    go_ret
    exact ⟨Mill.ret_bool HF.out.symm, (Below.refl _ w).alloc (Nat.le_refl _) _⟩

set_option maxRecDepth 100000 in
set_option maxHeartbeats 1000000 in
theorem l2Fits_17 (o t y : Int) (x : ByteArray) (k : Int) (ks : List Int) (v : Value) (B n : Nat) (HN : Hid (ks.length = n)) (w : World) (h : w.ownsRow B 3 1 v n (Mill.ints ks)) (_hl : n ≤ 1000000) :
    Calls Tryz.prog 21 #[Mill.ndV ⟨17, o, t, y, x, k⟩, v] w fun e w' => e = .returned (.bool (Mill.fits 17 o ks)) ∧ Below w.heap.size w w' := by
  obtain ⟨a, cap, rfl, hc⟩ := Mill.ints_at h HN.out
  clear h
  by_cases h1 : n = 1
  · obtain ⟨g, rfl, _, hg2, hcell⟩ := hc 0 (by omega)
    have h0 : 0 < ks.length := by rw [HN.out]; omega
    have HF : Hid (Mill.fits 17 o ks = Mill.isE ks[0]) := by
      have hlen := HN.out
      match ks, h0, hlen with
      | [a], _, _ => rw [Hid]; simp [Mill.fits, Mill.oneE]
      | a :: b :: r, _, hlen => simp at hlen; omega
    generalize ks[0] = z at *
    clear hc
    have h1' : (n : Int) = 1 := by omega
    simp only [Mill.ndV]
    go_enter Tryz.func21, Tryz.ntmps21
    go_wp2_with (go_at_call 40; refine (l2E_any _ _).mono ?_; rintro e w' ⟨rfl, rfl⟩)
    go_ret
    exact ⟨Mill.ret_bool HF.out.symm, (Below.refl _ w).alloc (Nat.le_refl _) _⟩
  · have HF : Hid (Mill.fits 17 o ks = false) := by
      have hlen := HN.out
      match ks, hlen with
      | [], _ => rw [Hid]; simp [Mill.fits, Mill.oneE]
      | [a], hlen => simp at hlen; omega
      | a :: b :: r, _ => rw [Hid]; simp [Mill.fits, Mill.oneE]
    clear hc
    have h1' : ((n : Int) == 1) = false := by simpa using (by omega : ¬ (n : Int) = 1)
    simp only [Mill.ndV]
    go_enter Tryz.func21, Tryz.ntmps21
    go_wp2_with (go_at_call 40; refine (l2E_any _ _).mono ?_; rintro e w' ⟨rfl, rfl⟩)
    go_ret
    exact ⟨Mill.ret_bool HF.out.symm, (Below.refl _ w).alloc (Nat.le_refl _) _⟩

set_option maxRecDepth 100000 in
set_option maxHeartbeats 1000000 in
theorem l2Fits_19 (o t y : Int) (x : ByteArray) (k : Int) (ks : List Int) (v : Value) (B n : Nat) (HN : Hid (ks.length = n)) (w : World) (h : w.ownsRow B 3 1 v n (Mill.ints ks)) (_hl : n ≤ 1000000) :
    Calls Tryz.prog 21 #[Mill.ndV ⟨19, o, t, y, x, k⟩, v] w fun e w' => e = .returned (.bool (Mill.fits 19 o ks)) ∧ Below w.heap.size w w' := by
  obtain ⟨a, cap, rfl, hc⟩ := Mill.ints_at h HN.out
  clear h
  by_cases h1 : n = 1
  · obtain ⟨g, rfl, _, hg2, hcell⟩ := hc 0 (by omega)
    have h0 : 0 < ks.length := by rw [HN.out]; omega
    have HF : Hid (Mill.fits 19 o ks = Mill.isE ks[0]) := by
      have hlen := HN.out
      match ks, h0, hlen with
      | [a], _, _ => rw [Hid]; simp [Mill.fits, Mill.oneE]
      | a :: b :: r, _, hlen => simp at hlen; omega
    generalize ks[0] = z at *
    clear hc
    have h1' : (n : Int) = 1 := by omega
    simp only [Mill.ndV]
    go_enter Tryz.func21, Tryz.ntmps21
    go_wp2_with (go_at_call 40; refine (l2E_any _ _).mono ?_; rintro e w' ⟨rfl, rfl⟩)
    go_ret
    exact ⟨Mill.ret_bool HF.out.symm, (Below.refl _ w).alloc (Nat.le_refl _) _⟩
  · have HF : Hid (Mill.fits 19 o ks = false) := by
      have hlen := HN.out
      match ks, hlen with
      | [], _ => rw [Hid]; simp [Mill.fits, Mill.oneE]
      | [a], hlen => simp at hlen; omega
      | a :: b :: r, _ => rw [Hid]; simp [Mill.fits, Mill.oneE]
    clear hc
    have h1' : ((n : Int) == 1) = false := by simpa using (by omega : ¬ (n : Int) = 1)
    simp only [Mill.ndV]
    go_enter Tryz.func21, Tryz.ntmps21
    go_wp2_with (go_at_call 40; refine (l2E_any _ _).mono ?_; rintro e w' ⟨rfl, rfl⟩)
    go_ret
    exact ⟨Mill.ret_bool HF.out.symm, (Below.refl _ w).alloc (Nat.le_refl _) _⟩

end Go.Proofs.YtkaoeoeloihigaaGreatDoor
