import Derived.Test.YtkaoeoeloihigaaGreatDoorVTreeO
namespace Go.Proofs.YtkaoeoeloihigaaGreatDoor
open Go.RowKit

theorem Mill.ite_imp {c : Prop} [Decidable c] {A A' B B' : Prop} (h1 : A → A') (h2 : B → B') : (if c then A else B) → (if c then A' else B') := by
  by_cases h : c
  · rw [if_pos h, if_pos h]; exact h1
  · rw [if_neg h, if_neg h]; exact h2
theorem Mill.Inner.below {P Q : Nat → Prop} {w w' : World} {d : Mill.Nd} {us : List Value} {x : Value} (h : Mill.Inner P w d us x) (hQ : ∀ g, P g → Q g) (hc : ∀ g, P g → w'.heap[g]? = w.heap[g]?) : Mill.Inner Q w' d us x := by
  unfold Mill.Inner at h ⊢
  exact (Mill.ite_imp id (Mill.ite_imp id (Mill.ite_imp id (Mill.ite_imp id (Mill.ite_imp id (Mill.ite_imp id (Mill.ite_imp (fun ⟨S, h1, h2⟩ => ⟨S, h1.below hQ hc, h2⟩) (Mill.ite_imp (fun ⟨S, h1, h2⟩ => ⟨S, h1.below hQ hc, h2⟩) (Mill.ite_imp id (Mill.ite_imp id (Mill.ite_imp id (Mill.ite_imp id (Mill.ite_imp id (Mill.ite_imp id (Mill.ite_imp id (Mill.ite_imp id (Mill.ite_imp id (Mill.ite_imp (fun ⟨S, h1, h2⟩ => ⟨S, h1.below hQ hc, h2⟩) (Mill.ite_imp id (Mill.ite_imp (fun ⟨ps, SP, SB, h1, h2, h3⟩ => ⟨ps, SP, SB, h1, h2.below hQ hc, h3⟩) (fun ⟨fs, SF, h1, h2, h3⟩ => ⟨fs, SF, h1, h2.below hQ hc, h3⟩))))))))))))))))))))) h
theorem Mill.Shape.below {P Q : Nat → Prop} {w w' : World} {d : Mill.Nd} {us : List Value} {v : Value} (h : Mill.Shape P w d us v) (hQ : ∀ g, P g → Q g) (hc : ∀ g, P g → w'.heap[g]? = w.heap[g]?) : Mill.Shape Q w' d us v := by
  obtain ⟨h1, h2, x, hv, hx⟩ := h
  exact ⟨h1, h2, x, hv, hx.below hQ hc⟩
theorem Mill.Grown.from {P : Nat → Prop} {w w1 w' : World} {d : Mill.Nd} {us : List Value} {ks : List Int} {e : Ending} (h : Mill.Grown P w1 d us ks e w') (hb : Below w.heap.size w w1) : Mill.Grown P w d us ks e w' := by
  obtain ⟨h1, h2⟩ := h
  refine ⟨hb.trans (h1.mono hb.size), ?_⟩
  rcases h2 with ⟨h3, v, h4, h5⟩ | h3
  · exact .inl ⟨h3, v, h4, h5.below (fun g hg => by rcases hg with hg | hg; exact .inl hg; exact .inr ⟨Nat.le_trans hb.size hg.1, hg.2⟩) (fun g _ => rfl)⟩
  · exact .inr h3

set_option maxRecDepth 100000 in
set_option maxHeartbeats 4000000 in
theorem grown_value (c o t y : Int) (x : ByteArray) (k : Int) (h1 : 1 ≤ c) (h2 : c ≤ 9) (ho : c = 8 → 1 ≤ o ∧ o ≤ 12) (P : Nat → Prop) (us : List Value) (ks : List Int) (S : Value) (n : Nat) (HN : Hid (ks.length = n)) (w : World) (hW : Mill.Builts w) (hP : ∀ g, P g → g < w.heap.size) (hS : Mill.Sl P w S n us) (hk : Mill.Kinded us ks) (hl : n ≤ 1000000) :
    Calls Tryz.prog 49 #[Mill.ndV ⟨c, o, t, y, x, k⟩, S] w fun e w' => Mill.Grown P w ⟨c, o, t, y, x, k⟩ us ks e w' := by
  have : c = 1 ∨ c = 2 ∨ c = 3 ∨ c = 4 ∨ c = 5 ∨ c = 6 ∨ c = 7 ∨ c = 8 ∨ c = 9 := by omega
  rcases this with rfl | rfl | rfl | rfl | rfl | rfl | rfl | rfl | rfl
  · exact grownValue_1 o t y x k P us ks S n HN w hP hS hk hl
  · exact grownValue_2 o t y x k P us ks S n HN w hP hS hk hl
  · exact grownValue_3 o t y x k P us ks S n HN w hP hS hk hl
  · exact grownValue_4 o t y x k P us ks S n HN w hP hS hk hl
  · exact grownValue_5 o t y x k P us ks S n HN w hP hS hk hl
  · exact grownValue_6 o t y x k P us ks S n HN w hP hS hk hl
  · exact grownValue_7 o t y x k P us ks S n HN w hP hS hk hl
  · exact grownValue_8 o t y x k (ho rfl) P us ks S n HN w hW hP hS hk hl
  · exact grownValue_9 o t y x k P us ks S n HN w hP hS hk hl
theorem grown_statement (c o t y : Int) (x : ByteArray) (k : Int) (h1 : 10 ≤ c) (h2 : c ≤ 20) (P : Nat → Prop) (us : List Value) (ks : List Int) (S : Value) (n : Nat) (HN : Hid (ks.length = n)) (w : World) (hP : ∀ g, P g → g < w.heap.size) (hS : Mill.Sl P w S n us) (hk : Mill.Kinded us ks) (hl : n ≤ 1000000) :
    Calls Tryz.prog 50 #[Mill.ndV ⟨c, o, t, y, x, k⟩, S] w fun e w' => Mill.Grown P w ⟨c, o, t, y, x, k⟩ us ks e w' := by
  have : c = 10 ∨ c = 11 ∨ c = 12 ∨ c = 13 ∨ c = 14 ∨ c = 15 ∨ c = 16 ∨ c = 17 ∨ c = 18 ∨ c = 19 ∨ c = 20 := by omega
  rcases this with rfl | rfl | rfl | rfl | rfl | rfl | rfl | rfl | rfl | rfl | rfl
  · exact grownStatement_10 o t y x k P us ks S n HN w hP hS hk hl
  · exact grownStatement_11 o t y x k P us ks S n HN w hP hS hk hl
  · exact grownStatement_12 o t y x k P us ks S n HN w hP hS hk
  · exact grownStatement_13 o t y x k P us ks S n HN w hP hS hk
  · exact grownStatement_14 o t y x k P us ks S n HN w hP hS hk hl
  · exact grownStatement_15 o t y x k P us ks S n HN w hP hS hk hl
  · exact grownStatement_16 o t y x k P us ks S n HN w hP hS hk hl
  · exact grownStatement_17 o t y x k P us ks S n HN w hP hS hk hl
  · exact grownStatement_18 o t y x k P us ks S n HN w hP hS hk hl
  · exact grownStatement_19 o t y x k P us ks S n HN w hP hS hk hl
  · exact grownStatement_20 o t y x k P us ks S n HN w hP hS hk

def Mill.Cap (S : Value) (n : Nat) : Prop := ∀ a c, S = .slice a n c → n ≤ c

set_option maxRecDepth 100000 in
set_option maxHeartbeats 4000000 in
theorem grown_any (c o t y : Int) (x : ByteArray) (k : Int) (ho : c = 8 → 1 ≤ o ∧ o ≤ 12) (P : Nat → Prop) (us : List Value) (ks : List Int) (S : Value) (n : Nat) (HN : Hid (ks.length = n)) (w : World) (hW : Mill.Builts w) (hP : ∀ g, P g → g < w.heap.size) (hS : Mill.Sl P w S n us) (hcap : Mill.Cap S n) (hk : Mill.Kinded us ks) (hl : n ≤ 1000000) :
    Calls Tryz.prog 27 #[Mill.ndV ⟨c, o, t, y, x, k⟩, S] w fun e w' => Mill.Grown P w ⟨c, o, t, y, x, k⟩ us ks e w' := by
  have hbw := (Below.refl w.heap.size w).alloc (Nat.le_refl _) (.cells #[.int .i64 c, .int .i64 o, .int .i64 t, .int .i64 y, .string x, .int .i64 k] 68)
  have hS1 := hS.alloc hP (.cells #[.int .i64 c, .int .i64 o, .int .i64 t, .int .i64 y, .string x, .int .i64 k] 68)
  have hP1 : ∀ g, P g → g < (w.alloc (.cells #[.int .i64 c, .int .i64 o, .int .i64 t, .int .i64 y, .string x, .int .i64 k] 68)).heap.size := fun g h => by have := hP g h; rw [World.size_alloc]; omega
  have hW1 : Mill.Builts (w.alloc (.cells #[.int .i64 c, .int .i64 o, .int .i64 t, .int .i64 y, .string x, .int .i64 k] 68)) := ⟨fun m h1 h2 => by rw [World.cell?_alloc_past _ _ _ hW.2]; exact hW.1 m h1 h2, by rw [World.size_alloc]; have := hW.2; omega⟩
  have hul : us.length = n := by rw [hk.1]; exact HN.out
  by_cases h1 : 1 ≤ c ∧ c ≤ 9
  · obtain ⟨h1, h2⟩ := h1
    simp only [Mill.ndV]
    go_enter Tryz.func27, Tryz.ntmps27
    go_wp2_with (go_at_call 49; refine (grown_value c o t y x k h1 h2 ho P us ks S n HN _ hW1 hP1 hS1 hk hl).mono ?_; intro e w' hg; have hg' := Mill.Grown.from hg hbw; clear hg; obtain ⟨v, rfl⟩ : ∃ v, e = .returned v := by { rcases hg'.2 with ⟨_, v, h, _⟩ | ⟨_, h⟩; exact ⟨v, h⟩; exact ⟨_, h⟩ })
    go_ret
    exact hg'
  · by_cases h2 : 10 ≤ c ∧ c ≤ 20
    · obtain ⟨h3, h4⟩ := h2
      have h5 : ¬ c ≤ 9 := by omega
      clear h1
      simp only [Mill.ndV]
      go_enter Tryz.func27, Tryz.ntmps27
      go_wp2_with (go_at_call 50; refine (grown_statement c o t y x k h3 h4 P us ks S n HN _ hP1 hS1 hk hl).mono ?_; intro e w' hg; have hg' := Mill.Grown.from hg hbw; clear hg; obtain ⟨v, rfl⟩ : ∃ v, e = .returned v := by { rcases hg'.2 with ⟨_, v, h, _⟩ | ⟨_, h⟩; exact ⟨v, h⟩; exact ⟨_, h⟩ })
      go_ret
      exact hg'
    · by_cases h21 : c = 21
      · subst h21
        obtain ⟨b, HB⟩ : ∃ b, Hid (ks.all Mill.isS = b) := ⟨_, (rfl : ks.all Mill.isS = _)⟩
        have HF : Hid (Mill.fits 21 o ks = b) := by rw [Hid]; simp [Mill.fits]; exact HB.out
        obtain ⟨a, cc, rfl, hc⟩ := hS
        clear hc h1 h2
        simp only [Mill.ndV]
        cases b with
        | false =>
          go_enter Tryz.func27, Tryz.ntmps27
          go_wp2_with (go_at_call 51; refine (allStatement_is false P us ks HB _ n HN _ hS1 hk hl).mono ?_; rintro e w' ⟨rfl, rfl⟩)
          go_ret
          exact ⟨hbw, .inr ⟨HF.out, rfl⟩⟩
        | true =>
          go_enter Tryz.func27, Tryz.ntmps27
          go_wp2_with (go_at_call 51; refine (allStatement_is true P us ks HB _ n HN _ hS1 hk hl).mono ?_; rintro e w' ⟨rfl, rfl⟩)
          go_ret
          refine ⟨hbw, .inl ⟨HF.out, _, rfl, by simp, by simp, _, rfl, ?_⟩⟩
          have hS2 := hS1.below (Q := fun g => P g ∨ (w.heap.size ≤ g ∧ g < (w.alloc (.cells #[.int .i64 21, .int .i64 o, .int .i64 t, .int .i64 y, .string x, .int .i64 k] 68)).heap.size)) (fun g h => .inl h) (fun g h => rfl)
          rw [← hul] at hS2
          unfold Mill.Inner
          simp (decide := true) only [if_false, if_true]
          exact ⟨_, hS2, by rw [hul]⟩
      · by_cases h22 : c = 22
        · subst h22
          obtain ⟨a, cc, rfl, hc⟩ := hS
          clear hc h1 h2
          simp only [Mill.ndV]
          by_cases h0 : n = 0
          · subst h0
            have HF : Hid (Mill.fits 22 o ks = true) := by rw [Hid]; have := HN.out; simp [Mill.fits, this]
            obtain rfl := Mill.us0 hul
            go_enter Tryz.func27, Tryz.ntmps27
            go_wp2_with fail
            go_ret
            exact ⟨hbw, .inl ⟨HF.out, _, rfl, by simp, by simp, _, rfl, by simp [Mill.Inner]⟩⟩
          · have HF : Hid (Mill.fits 22 o ks = false) := by rw [Hid]; have := HN.out; simp [Mill.fits, this, h0]
            have h0' : ((n : Int) == 0) = false := by simpa using (by omega : ¬ (n : Int) = 0)
            clear h0 hul
            go_enter Tryz.func27, Tryz.ntmps27
            go_wp2_with fail
            go_ret
            exact ⟨hbw, .inr ⟨HF.out, rfl⟩⟩
        · by_cases h23 : c = 23
          · subst h23
            have HK : Hid (Mill.fits 23 o ks = Mill.fnK ks) := by rw [Hid]; simp [Mill.fits]
            clear h1 h2
            cases hK : Mill.fnK ks with
            | true =>
              rw [hK] at HK
              simp only [Mill.ndV]
              go_enter Tryz.func27, Tryz.ntmps27
              go_wp2_with (go_at_call 53; refine (grownFn_any 23 o t y x k P us ks S n HN _ hP1 hS1 hcap hk hl).mono ?_; rintro e w' ⟨hb2, hg⟩; rw [hK] at hg; obtain ⟨_, x', rfl, ps, SP, SB, e1, e2, rfl, e4, e5⟩ := hg.resolve_right (by simp))
              go_ret
              refine ⟨hbw.trans (hb2.mono (by rw [World.size_alloc]; omega)), .inl ⟨HK.out, _, rfl, by simp, by simp, _, rfl, ?_⟩⟩
              unfold Mill.Inner
              simp (decide := true) only [if_false, if_true]
              exact ⟨ps, SP, SB, e1, e2.below (fun g h => .inr ⟨by have := h.1; rw [World.size_alloc] at this; omega, h.2⟩) (fun g _ => rfl), rfl⟩
            | false =>
              rw [hK] at HK
              simp only [Mill.ndV]
              go_enter Tryz.func27, Tryz.ntmps27
              go_wp2_with (go_at_call 53; refine (grownFn_any 23 o t y x k P us ks S n HN _ hP1 hS1 hcap hk hl).mono ?_; rintro e w' ⟨hb2, hg⟩; rw [hK] at hg; obtain ⟨_, rfl⟩ := hg.resolve_left (by simp))
              go_ret
              exact ⟨hbw.trans (hb2.mono (by rw [World.size_alloc]; omega)), .inr ⟨HK.out, rfl⟩⟩
          · by_cases h24 : c = 24
            · subst h24
              have HK : Hid (Mill.fits 24 o ks = Mill.progK ks) := by rw [Hid]; simp [Mill.fits, Mill.progK]
              clear h1 h2 h21 h22 h23
              cases hK : Mill.progK ks with
              | true =>
                rw [hK] at HK
                simp only [Mill.ndV]
                go_enter Tryz.func27, Tryz.ntmps27
                go_wp2_with (go_at_call 54; refine (grownProgram_any P us ks S n HN _ hP1 hS1 hk).mono ?_; rintro e w' ⟨hb2, hg⟩; rw [hK] at hg; obtain ⟨_, x', rfl, fs, SF, e1, e2, rfl, e4⟩ := hg.resolve_right (by simp))
                go_ret
                refine ⟨hbw.trans (hb2.mono (by rw [World.size_alloc]; omega)), .inl ⟨HK.out, _, rfl, by simp, by simp, _, rfl, ?_⟩⟩
                unfold Mill.Inner
                simp (decide := true) only [if_false]
                exact ⟨fs, SF, e1, e2.below (fun g h => .inr ⟨by have := h.1; rw [World.size_alloc] at this; omega, h.2⟩) (fun g _ => rfl), rfl⟩
              | false =>
                rw [hK] at HK
                simp only [Mill.ndV]
                go_enter Tryz.func27, Tryz.ntmps27
                go_wp2_with (go_at_call 54; refine (grownProgram_any P us ks S n HN _ hP1 hS1 hk).mono ?_; rintro e w' ⟨hb2, hg⟩; rw [hK] at hg; obtain ⟨_, rfl⟩ := hg.resolve_left (by simp))
                go_ret
                exact ⟨hbw.trans (hb2.mono (by rw [World.size_alloc]; omega)), .inr ⟨HK.out, rfl⟩⟩
            · have hn : ∀ m : Int, 1 ≤ m → m ≤ 24 → c ≠ m := fun m h3 h4 => by omega
              have HF : Hid (Mill.fits c o ks = false) := by rw [Hid]; simp [Mill.fits, hn]
              have e1 : ¬ (1 ≤ c ∧ c ≤ 9) := h1
              have hcc : c < 1 ∨ 24 < c := by omega
              obtain ⟨a, cc, rfl, hc⟩ := hS
              clear hc hn e1 h1 h2
              simp only [Mill.ndV]
              rcases hcc with hcc | hcc
              · have g1 : ¬ 1 ≤ c := by omega
                have g2 : ¬ 10 ≤ c := by omega
                go_enter Tryz.func27, Tryz.ntmps27
                go_wp2_with fail
                go_ret
                exact ⟨hbw, .inr ⟨HF.out, rfl⟩⟩
              · have g1 : ¬ c ≤ 9 := by omega
                have g2 : ¬ c ≤ 20 := by omega
                have g3 : 1 ≤ c := by omega
                have g4 : 10 ≤ c := by omega
                go_enter Tryz.func27, Tryz.ntmps27
                go_wp2_with fail
                go_ret
                exact ⟨hbw, .inr ⟨HF.out, rfl⟩⟩

end Go.Proofs.YtkaoeoeloihigaaGreatDoor
