import Derived.Test.YtchfddnfpfgfbaaJobC
namespace Go.Proofs.Ytchfddnfpfgfbaa
open Go.RowKit

def Jb.sz (a : ByteArray) (xs : List ByteArray) (l : Int) : Int := if l - (a.size : Int) < 0 then -1 else if l - (a.size : Int) - (xs.length : Int) < 0 then -1 else Jb.szL xs (l - (a.size : Int) - (xs.length : Int))
theorem Jb.szL_le (xs : List ByteArray) (l : Int) (h : 0 ≤ Jb.szL xs l) : Jb.szL xs l ≤ l ∧ ∀ d ∈ xs, (d.size : Int) ≤ l := by
  induction xs generalizing l with
  | nil => exact ⟨Int.le_refl _, fun d hd => by cases hd⟩
  | cons x r ih =>
    rw [Jb.szL] at h ⊢
    by_cases hl : l - (x.size : Int) < 0
    · rw [if_pos hl] at h; omega
    · rw [if_neg hl] at h ⊢
      obtain ⟨h1, h2⟩ := ih _ h
      refine ⟨by omega, fun d hd => ?_⟩
      rcases List.mem_cons.1 hd with rfl | hd
      · omega
      · have := h2 d hd; omega
theorem Jb.szL_sign (xs : List ByteArray) (l : Int) (h : 0 ≤ l) : Jb.szL xs l = -1 ∨ 0 ≤ Jb.szL xs l := by
  induction xs generalizing l with
  | nil => exact .inr h
  | cons x r ih =>
    rw [Jb.szL]
    by_cases hl : l - (x.size : Int) < 0
    · rw [if_pos hl]; exact .inl rfl
    · rw [if_neg hl]; exact ih _ (by omega)
theorem Jb.sz_le (a : ByteArray) (xs : List ByteArray) (l : Int) (h : 0 ≤ Jb.sz a xs l) : (a.size : Int) ≤ l ∧ (xs.length : Int) ≤ l ∧ ∀ d ∈ xs, (d.size : Int) ≤ l := by
  unfold Jb.sz at h
  by_cases h1 : l - (a.size : Int) < 0
  · rw [if_pos h1] at h; omega
  · rw [if_neg h1] at h
    by_cases h2 : l - (a.size : Int) - (xs.length : Int) < 0
    · rw [if_pos h2] at h; omega
    · rw [if_neg h2] at h
      have := (Jb.szL_le xs _ h).2
      exact ⟨by omega, by omega, fun d hd => by have := this d hd; omega⟩
set_option maxRecDepth 100000 in
set_option maxHeartbeats 1000000 in
theorem Jb.szJob_any (a : ByteArray) (xs : List ByteArray) (v : Value) (l : Int) (ha : a.size ≤ 9223372036854775807) (h0 : 0 ≤ l) (h1 : l ≤ 1048576) (hn : xs.length ≤ 9223372036854775807) (hx : ∀ d ∈ xs, d.size ≤ 9223372036854775807) (w : World) (hN : Jb.Off w v xs) :
    Calls Try.prog 5 #[.agg #[.string a, v], .int .i64 l] w fun e w' => e = .returned (.int .i64 (Jb.sz a xs l)) ∧ Below w.heap.size w w' := by
  have hal : ∀ o : Obj, Below w.heap.size w (w.alloc o) := fun o => (Below.refl _ w).alloc (Nat.le_refl _) o
  unfold Jb.sz
  by_cases hq : l - (a.size : Int) < 0
  · rw [if_pos hq]
    obtain ⟨p, cap, rfl, hc⟩ := hN
    clear hc
    go_enter Try.func5, Try.ntmps5
    go_wp2
    go_ret
    exact ⟨rfl, hal _⟩
  · rw [if_neg hq]
    have hN2 : ∀ o, Jb.Off (w.alloc o) v xs := fun o => hN.below (hal o)
    obtain ⟨p, cap, hv, hc⟩ := hN
    clear hc
    subst hv
    obtain ⟨q, HQ⟩ : ∃ q, Hid ((if l - (a.size : Int) - (xs.length : Int) < 0 then -1 else Jb.szL xs (l - (a.size : Int) - (xs.length : Int))) = q) := ⟨_, (rfl : _ = _)⟩
    rw [HQ.out]
    have HS : Hid (∀ w, Jb.Off w (.slice p xs.length cap) xs → Calls Try.prog 14 #[.slice p xs.length cap, .int .i64 (l - (a.size : Int))] w fun e w' => e = .returned (.int .i64 q) ∧ Below w.heap.size w w') := fun w h => by
      have := Jb.szStringS_any xs (.slice p xs.length cap) (l - (a.size : Int)) (by omega) (by omega) hn hx w h
      rw [HQ.out] at this; exact this
    have hqv : q = -1 ∨ 0 ≤ q := by
      rw [← HQ.out]
      by_cases h2 : l - (a.size : Int) - (xs.length : Int) < 0
      · rw [if_pos h2]; exact .inl rfl
      · rw [if_neg h2]; exact Jb.szL_sign xs _ (by omega)
    have HN2 : Hid (∀ o, Jb.Off (w.alloc o) (.slice p xs.length cap) xs) := hN2
    clear HQ hN2
    revert HS HN2
    generalize xs.length = n
    intro HS HN2
    by_cases hq2 : q < 0
    · have hq3 : q = -1 := by omega
      subst hq3
      go_enter Try.func5, Try.ntmps5
      go_wp2_with (go_at_call 14; (refine (HS.out _ (HN2.out _)).mono ?_; rintro e w1 ⟨rfl, hb1⟩; simp only [World.size_alloc] at hb1))
      go_ret
      exact ⟨rfl, (hal _).trans (hb1.mono (by omega))⟩
    · go_enter Try.func5, Try.ntmps5
      go_wp2_with (go_at_call 14; (refine (HS.out _ (HN2.out _)).mono ?_; rintro e w1 ⟨rfl, hb1⟩; simp only [World.size_alloc] at hb1))
      go_ret
      exact ⟨rfl, (hal _).trans (hb1.mono (by omega))⟩
theorem Jb.rowLen {w : World} {B e size n : Nat} {v : Value} {xs : List Value} (h : w.ownsRow B e size v n xs) : ∃ a cap, v = .slice a n cap := by
  rcases h.2 with ⟨rfl, h0⟩ | ⟨g, cap, cur, rfl, _⟩
  · exact ⟨none, 0, by rw [h0]⟩
  · exact ⟨_, _, rfl⟩
theorem Jb.own_off {w : World} {B e : Nat} {v : Value} {xs : List ByteArray} (h : w.ownsRow B e 1 v xs.length (xs.map Value.string)) : Jb.Off w v xs := by
  have hc := h
  rcases h.2 with ⟨rfl, h0⟩ | ⟨g, cap, cur, rfl, hg, hgg, _⟩
  · exact ⟨none, 0, by rw [h0], fun i hi => by omega⟩
  · refine ⟨_, _, rfl, fun i hi => ⟨g, 0, rfl, ?_, ?_⟩⟩
    · exact (Array.getElem?_eq_some_iff.1 hgg).1
    · rw [Nat.zero_add, hc.cellAt i (by omega), List.getElem?_map, List.getElem?_eq_getElem hi]; rfl
set_option maxRecDepth 100000 in
set_option maxHeartbeats 1000000 in
theorem Jb.toJob_any (a : ByteArray) (xs : List ByteArray) (v : Value) (w : World) (hN : Jb.Off w v xs) (hl : xs.length ≤ 1048576) :
    Calls Try.prog 7 #[.agg #[.string a, v]] w fun e w' => ∃ v', e = .returned (.agg #[.string a, v']) ∧ Jb.Off w' v' xs ∧ Below w.heap.size w w' := by
  have hN1 : ∀ o1 o2 o3 : Obj, Jb.Off (((w.alloc o1).alloc o2).alloc o3) v xs := fun o1 o2 o3 => hN.below ((((Below.refl w.heap.size w).alloc (Nat.le_refl _) o1).alloc (by simp) o2).alloc (by simp only [World.size_alloc]; omega) o3)
  have hvs : ∃ a c, v = .slice a xs.length c := by obtain ⟨a, c, h, _⟩ := hN; exact ⟨a, c, h⟩
  obtain ⟨p, c, rfl⟩ := hvs
  clear hN
  have HN1 : Hid (∀ o1 o2 o3 : Obj, Jb.Off (((w.alloc o1).alloc o2).alloc o3) (.slice p xs.length c) xs) := hN1
  clear hN1
  go_enter Try.func7, Try.ntmps7
  go_wp2_with (go_at_call 16; (refine (Jb.toStringS_any xs _ _ (HN1.out _ _ _) hl).mono ?_; rintro e w1 ⟨v', rfl, own, hb⟩; obtain ⟨a', c', hv'⟩ := Jb.rowLen own; subst hv'; simp only [World.size_alloc] at own hb; have x0 : w1.cell? ⟨w.heap.size + 1, 0, none⟩ = some (.string ⟨#[]⟩) := (by rw [hb.cell (p := ⟨w.heap.size + 1, 0, none⟩) (by simp only; omega)]; simp [go_sem]); have x1 : w1.cell? ⟨w.heap.size + 1, 1, none⟩ = some (.slice none 0 0) := (by rw [hb.cell (p := ⟨w.heap.size + 1, 1, none⟩) (by simp only; omega)]; simp [go_sem]); have y0 : w1.cell? ⟨w.heap.size + 1 + 1, 0, none⟩ = some (.string a) := (by rw [hb.cell (p := ⟨w.heap.size + 1 + 1, 0, none⟩) (by simp only; omega)]; simp [go_sem]); have y1 : w1.cell? ⟨w.heap.size + 1 + 1, 1, none⟩ = some (.slice none 0 0) := (by rw [hb.cell (p := ⟨w.heap.size + 1 + 1, 1, none⟩) (by simp only; omega)]; simp [go_sem]); have z0 : w1.frozen? ⟨w.heap.size + 1, 0, none⟩ = false := (by rw [hb.frozen (p := ⟨w.heap.size + 1, 0, none⟩) (by simp only; omega)]; simp [go_sem]); have z1 : w1.frozen? ⟨w.heap.size + 1, 1, none⟩ = false := (by rw [hb.frozen (p := ⟨w.heap.size + 1, 1, none⟩) (by simp only; omega)]; simp [go_sem]); have z2 : w1.frozen? ⟨w.heap.size + 1 + 1, 1, none⟩ = false := (by rw [hb.frozen (p := ⟨w.heap.size + 1 + 1, 1, none⟩) (by simp only; omega)]; simp [go_sem])))
  have hz := hb.size
  simp only [World.size_alloc] at hz
  have hb1 : Below w.heap.size w w1 := ((((Below.refl w.heap.size w).alloc (Nat.le_refl _) _).alloc (by simp) _).alloc (by simp only [World.size_alloc]; omega) _).trans (hb.mono (by omega))
  refine bodyPost_ret (v := .agg #[.string a, .slice a' xs.length c']) (by simp [results, Try.results7, go_sem, x0, x1]) rfl ⟨_, rfl, ?_, ?_⟩
  · exact Jb.own_off (ownsRow_setCell_below (ownsRow_setCell_below (ownsRow_setCell_below own (a := ⟨w.heap.size + 1 + 1, 1, none⟩) (by simp only; omega) _) (a := ⟨w.heap.size + 1, 0, none⟩) (by simp only; omega) _) (a := ⟨w.heap.size + 1, 1, none⟩) (by simp only; omega) _)
  · exact ((hb1.setCell (p := ⟨w.heap.size + 1 + 1, 1, none⟩) (by simp only; omega) _).setCell (p := ⟨w.heap.size + 1, 0, none⟩) (by simp only; omega) _).setCell (p := ⟨w.heap.size + 1, 1, none⟩) (by simp only; omega) _
set_option maxRecDepth 100000 in
set_option maxHeartbeats 1000000 in
theorem Jb.eqJob_same (a : ByteArray) (xs : List ByteArray) (v v' : Value) (w : World) (hN : Jb.Off w v xs) (hN' : Jb.Off w v' xs) (hl : xs.length ≤ 1048576) :
    Calls Try.prog 9 #[.agg #[.string a, v], .agg #[.string a, v']] w fun e w' => e = .returned (.bool true) ∧ Below w.heap.size w w' := by
  have hal : ∀ o o2 : Obj, Below w.heap.size w ((w.alloc o).alloc o2) := fun o o2 => ((Below.refl _ w).alloc (Nat.le_refl _) o).alloc (by simp) o2
  have hvs : ∃ a c, v = .slice a xs.length c := by obtain ⟨a, c, h, _⟩ := hN; exact ⟨a, c, h⟩
  have hvs' : ∃ a c, v' = .slice a xs.length c := by obtain ⟨a, c, h, _⟩ := hN'; exact ⟨a, c, h⟩
  obtain ⟨p, c, rfl⟩ := hvs
  obtain ⟨p2, c2, rfl⟩ := hvs'
  have HA : Hid (∀ o1 o2 : Obj, Jb.Off ((w.alloc o1).alloc o2) (.slice p xs.length c) xs) := fun _ _ => hN.below (hal _ _)
  have HB : Hid (∀ o1 o2 : Obj, Jb.Off ((w.alloc o1).alloc o2) (.slice p2 xs.length c2) xs) := fun _ _ => hN'.below (hal _ _)
  clear hN hN'
  go_enter Try.func9, Try.ntmps9
  go_wp2_with (go_at_call 18; (refine (Jb.eqStringS_same xs _ _ _ (HA.out _ _) (HB.out _ _) hl).mono ?_; rintro e w1 ⟨rfl, hb1⟩; simp only [World.size_alloc] at hb1))
  go_ret
  exact ⟨rfl, (hal _ _).trans (hb1.mono (by omega))⟩
end Go.Proofs.Ytchfddnfpfgfbaa
