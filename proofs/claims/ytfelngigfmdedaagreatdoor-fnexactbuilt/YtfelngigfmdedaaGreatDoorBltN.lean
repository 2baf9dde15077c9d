import Derived.Test.YtfelngigfmdedaaGreatDoorBltL
namespace Go.Proofs.YtfelngigfmdedaaGreatDoor
open Go.RowKit

theorem Val.ext_size (s : ByteArray) (i j : Nat) : (s.extract i j).size ≤ s.size := by
  rw [ByteArray.size_extract]; omega
theorem Val.dec_size (t n : Int) : (Val.dec t n).length ≤ 21 := by
  have hb := Val.abs_bd t n
  have := Val.decLen20 (Val.abs t n).toNat (by omega)
  unfold Val.dec
  split
  · simp; omega
  · omega
theorem Val.built_size (op : Int) (vs : List Val.V) : (Val.built op vs).1.text.size ≤ 3000 := by
  unfold Val.built
  split
  · rename_i h
    obtain ⟨h6, h12, hall, hf⟩ := h
    unfold Val.builtOk
    split
    · exact Nat.zero_le _
    · rename_i a r
      split
      · exact Nat.zero_le _
      · split
        · split
          · split <;> exact Nat.zero_le _
          · exact Nat.zero_le _
        · split
          · rename_i h8
            split
            · split
              · subst h8
                exact Nat.le_trans (Val.ext_size _ _ _) (Val.first_text 8 a _ (by decide) hf hall)
              · exact Nat.zero_le _
            · exact Nat.zero_le _
          · split
            · split <;> exact Nat.zero_le _
            · split
              · show (1 : Nat) ≤ 3000
                decide
              · split
                · have := Val.dec_size a.type a.n
                  show (Val.dec a.type a.n).toArray.size ≤ 3000
                  simp; omega
                · split <;> exact Nat.zero_le _
  · exact Nat.zero_le _
theorem Val.built_zero (op : Int) (vs : List Val.V) (h0 : (Val.built op vs).2.size ≠ 0) : (Val.built op vs).1 = Val.zero := by
  unfold Val.built at h0 ⊢
  split at h0
  · rename_i h
    rw [if_pos h]
    unfold Val.builtOk at h0 ⊢
    cases vs with
    | nil => rfl
    | cons a r =>
      simp only at h0 ⊢
      split at h0
      · exact absurd rfl h0
      · rename_i h6
        rw [if_neg h6]
        split at h0
        · rename_i h7
          rw [if_pos h7]
          cases r with
          | nil => rfl
          | cons b r =>
            simp only at h0 ⊢
            split at h0
            · exact absurd rfl h0
            · rename_i hc; rw [if_neg hc]
        · rename_i h7
          rw [if_neg h7]
          split at h0
          · rename_i h8
            rw [if_pos h8]
            match r, h0 with
            | [], _ => rfl
            | [b], _ => rfl
            | b :: c :: r, h0 =>
              simp only at h0 ⊢
              split at h0
              · exact absurd rfl h0
              · rename_i hc; rw [if_neg hc]
          · rename_i h8
            rw [if_neg h8]
            split at h0
            · rename_i h9
              rw [if_pos h9]
              cases r with
              | nil => rfl
              | cons b r => exact absurd rfl h0
            · rename_i h9
              rw [if_neg h9]
              split at h0
              · exact absurd rfl h0
              · rename_i h10
                rw [if_neg h10]
                split at h0
                · exact absurd rfl h0
                · rename_i h11
                  rw [if_neg h11]
                  split at h0
                  · exact absurd rfl h0
                  · rename_i hc; rw [if_neg hc]
  · rename_i h
    rw [if_neg h]
set_option maxRecDepth 100000 in
set_option maxHeartbeats 1000000 in
theorem Val.implBuiltF_ok (op : Int) (a : Option Addr) (n cap : Nat) (rt rn : Int) (rx : ByteArray) (hrx : rx.size ≤ 1048576) (w : World)
    (hI : Hid (∀ w1, Below w.heap.size w w1 → Calls Tryz.prog 20 #[.int .i64 op, .slice a n cap] w1 fun e w' => e = .returned (.tuple #[.agg #[.int .i64 rt, .int .i64 rn, .string rx], .nilIface]) ∧ Below w1.heap.size w1 w')) :
    Calls Tryz.prog 7 #[.int .i64 op, .slice a n cap] w fun e w' => e = .returned (.tuple #[.agg #[.int .i64 rt, .int .i64 rn, .string rx], .string ⟨#[]⟩]) ∧ Below w.heap.size w w' := by
  go_enter Tryz.func7, Tryz.ntmps7
  go_wp2_with (first
    | (go_at_call 20; (refine (hI.out _ ((Below.refl _ _).alloc (Nat.le_refl _) _)).mono ?_; rintro e w1 ⟨rfl, hb1⟩; simp only [World.size_alloc] at hb1))
    | (go_at_call 19; (refine (Val.told_val _ _ _ hrx w1).mono ?_; rintro e w2 ⟨rfl, hb2⟩; have hb3 : Below (w.heap.size + 1) (w.alloc (.cells #[.int .i64 0, .int .i64 0, .string ⟨#[]⟩] 25)) w2 := (hb1.trans (hb2.mono (by have := hb1.size; simpa using this))); obtain ⟨⟨d0, d1, d2⟩, l0, l1, l2⟩ := Val.row3' hb3)))
  exact bodyPost_ret (v := .tuple #[.agg #[.int .i64 rt, .int .i64 rn, .string rx], .string ⟨#[]⟩]) (by simp [results, Tryz.results7, go_sem, d0, d1, d2]) rfl ⟨rfl, Val.set3w (Val.alloc1 hb3) _ _ _⟩
set_option maxRecDepth 100000 in
set_option maxHeartbeats 1000000 in
theorem Val.implBuiltF_err (op : Int) (a : Option Addr) (n cap : Nat) (y : ByteArray) (w : World)
    (hI : Hid (∀ w1, Below w.heap.size w w1 → Calls Tryz.prog 20 #[.int .i64 op, .slice a n cap] w1 fun e w' => (∃ b o, e = .returned (.tuple #[.agg #[.int .i64 0, .int .i64 0, .string ⟨#[]⟩], .iface 121 (.pointer (some ⟨b, o, none⟩))]) ∧ b < w1.heap.size ∧ w1.cell? ⟨b, o, none⟩ = some (.string y)) ∧ Below w1.heap.size w1 w')) :
    Calls Tryz.prog 7 #[.int .i64 op, .slice a n cap] w fun e w' => e = .returned (.tuple #[.agg #[.int .i64 0, .int .i64 0, .string ⟨#[]⟩], .string y]) ∧ Below w.heap.size w w' := by
  go_enter Tryz.func7, Tryz.ntmps7
  go_wp2_with (first
    | (go_at_call 20; (refine (hI.out _ ((Below.refl _ _).alloc (Nat.le_refl _) _)).mono ?_; rintro e w1 ⟨⟨b, o, rfl, hbl, hbc⟩, hb1⟩; have hbc1 : w1.cell? ⟨b, o, none⟩ = some (.string y) := (by rw [hb1.cell (p := ⟨b, o, none⟩) hbl]; exact hbc); have hbl1 : b < w1.heap.size := (by have := hb1.size; omega); clear hbc; simp only [World.size_alloc] at hb1))
    | (go_at_call 19; (refine (Val.told_err _ _ _ b o y w1 hbl1 hbc1).mono ?_; rintro e w2 ⟨rfl, hb2⟩; have hb3 : Below (w.heap.size + 1) (w.alloc (.cells #[.int .i64 0, .int .i64 0, .string ⟨#[]⟩] 25)) w2 := (hb1.trans (hb2.mono (by have := hb1.size; simpa using this))); obtain ⟨⟨d0, d1, d2⟩, l0, l1, l2⟩ := Val.row3' hb3)))
  exact bodyPost_ret (v := .tuple #[.agg #[.int .i64 0, .int .i64 0, .string ⟨#[]⟩], .string y]) (by simp [results, Tryz.results7, go_sem, d0, d1, d2]) rfl ⟨rfl, Val.set3w (Val.alloc1 hb3) _ _ _⟩
theorem Val.implBuilt_any (op : Int) (vs : List Val.V) (v : Value) (hl : vs.length ≤ 1048576) (hr : ∀ d ∈ vs, -9223372036854775808 ≤ d.n ∧ d.n ≤ 9223372036854775807) (w : World) (hG : Val.GB w) (hV : Val.VsAt w v vs) :
    Calls Tryz.prog 7 #[.int .i64 op, v] w fun e w' => e = .returned (Val.ansV (Val.built op vs)) ∧ Below w.heap.size w w' := by
  have hV0 := hV
  obtain ⟨a, cap, rfl, _⟩ := hV
  have hin : ∀ w1, Below w.heap.size w w1 → Calls Tryz.prog 20 #[.int .i64 op, .slice a vs.length cap] w1 fun e w' => Val.BRes w1 (Val.built op vs) e ∧ Below w1.heap.size w1 w' := fun w1 hb => by
    obtain ⟨a', cap', he, hc⟩ := Val.vsAt_below hV0 hb
    injection he with h1 h2 h3
    subst h1
    subst h3
    exact Val.implBuilt_in op vs _ _ w1 vs.length rfl hl hr (hG.next hb) hc
  have hsz := Val.built_size op vs
  have hzr := Val.built_zero op vs
  generalize hb : Val.built op vs = r at *
  obtain ⟨⟨rt, rn, rx⟩, ry⟩ := r
  by_cases h0 : ry.size = 0
  · have hry : ry = ⟨#[]⟩ := by
      apply ByteArray.ext
      exact Array.eq_empty_of_size_eq_zero h0
    subst hry
    exact Val.implBuiltF_ok op a _ cap rt rn rx (by simp only at hsz; omega) w (fun w1 hb1 => (hin w1 hb1).mono (by
      rintro e w' ⟨h, h2⟩
      rw [Val.BRes, if_pos (show (⟨#[]⟩ : ByteArray).size = 0 from rfl)] at h
      exact ⟨h, h2⟩))
  · have hz : (⟨rt, rn, rx⟩ : Val.V) = Val.zero := hzr h0
    rw [hz]
    exact Val.implBuiltF_err op a _ cap ry w (fun w1 hb1 => (hin w1 hb1).mono (by
      rintro e w' ⟨h, h2⟩
      rw [Val.BRes, if_neg h0] at h
      exact ⟨h.2, h2⟩))
end Go.Proofs.YtfelngigfmdedaaGreatDoor
