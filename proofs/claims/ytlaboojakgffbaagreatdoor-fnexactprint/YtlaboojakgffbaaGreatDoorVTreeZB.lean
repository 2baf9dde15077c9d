import Derived.Test.YtlaboojakgffbaaGreatDoorVTreeZA
namespace Go.Proofs.YtlaboojakgffbaaGreatDoor
open Go.RowKit

def Mill.LevelsTo (n : Nat) : Prop := ∀ (t : Mill.Tr) (v : Value) (w : World) (P : Nat → Prop), t.high < n → (∀ g, P g → g < w.heap.size) → Mill.Rep P w t v →
  Calls Tryz.prog 30 #[v] w fun e w' => e = .returned (.int .i64 ((t.high : Int) + 1)) ∧ Below w.heap.size w w'
theorem Mill.highs_step (ts : List Mill.Tr) (i : Nat) (h : i < ts.length) : Mill.Tr.highs (ts.take (i + 1)) = max (Mill.Tr.highs (ts.take i)) (ts[i].high + 1) := by
  rw [← List.take_append_getElem h, Mill.highs_app]
  simp [Mill.Tr.highs]
theorem Mill.max_if (p q : Nat) : Value.int .i64 (if (p : Int) < (q : Int) + 1 then (q : Int) + 1 else (p : Int)) = .int .i64 ((max p (q + 1) : Nat) : Int) := by
  congr 1
  split <;> omega
theorem Mill.highs_take (ts : List Mill.Tr) (i : Nat) : Mill.Tr.highs (ts.take i) ≤ Mill.Tr.highs ts := by
  have h := Mill.highs_app (ts.take i) (ts.drop i)
  rw [List.take_append_drop] at h
  omega

set_option maxRecDepth 100000 in
set_option maxHeartbeats 1000000 in
theorem levels_1 (n : Nat) (hn : n ≤ 200000) (ih : Mill.LevelsTo n) (o t y : Int) (x : ByteArray) (k : Int) (P : Nat → Prop) (ts : List Mill.Tr) (us : List Value) (X : Value) (w : World) (hP : ∀ g, P g → g < w.heap.size) (hk : Mill.Kinded us (ts.map (fun t => t.nd.kind))) (hl : (23 : Int) ≤ 1 → us.length ≤ 60) (hl2 : us.length ≤ 100000) (hI : Mill.Inner P w ⟨1, o, t, y, x, k⟩ us X) (hR : Mill.Reps P w ts us) (hh : Mill.Tr.highs ts ≤ n) :
    Calls Tryz.prog 30 #[.iface 122 X] w fun e w' => e = .returned (.int .i64 ((Mill.Tr.highs ts : Int) + 1)) ∧ Below w.heap.size w w' := by
  have hm := Tryz.meth_intNode
  have hpt := pt_1 o t y x k P us _ X w hP hk hl hI
  have hul := Mill.Reps.len ts us hR
  obtain ⟨m, HM⟩ : ∃ m, Hid (us.length = m) := ⟨_, (rfl : us.length = _)⟩
  have hml : m ≤ 100000 := by rw [← HM.out]; exact hl2
  have hmt : ts.length = m := by rw [← hul]; exact HM.out
  have hRa := Mill.Reps.at ts us hR
  clear hI hk hl hl2 hul hR
  go_enter Tryz.func30, Tryz.ntmps30
  go_wp2_with (go_at_call 136; refine hpt.mono ?_; rintro e w1 ⟨S, rfl, hb, hS⟩; rw [HM.out] at hS; obtain ⟨sa, sc, rfl, hcl⟩ := hS; generalize Mill.takenN _ us.length = D; rcases D with ⟨c', o', t', y', x', k'⟩; simp only [Mill.ndV])
  have hz := hb.size
  have hba : Below w.heap.size w (w1.alloc (.cells #[.int .i64 c', .int .i64 o', .int .i64 t', .int .i64 y', .string x', .int .i64 k'] 68)) := hb.alloc hz _
  have hcell : ∀ (W : World), Below w1.heap.size w1 W → ∀ (j : Nat) u, us[j]? = some u → ∃ g, sa = some ⟨g, 0, none⟩ ∧ W.cell? ⟨g, j, none⟩ = some u := fun W hW j u hj => by
    obtain ⟨g, ha, hg, hq⟩ := hcl j u hj
    have hg1 : g < w1.heap.size := by
      rcases hg with hg | hg
      · have := hP g hg; omega
      · exact hg.2
    exact ⟨g, ha, by rw [hW.cell (p := ⟨g, j, none⟩) hg1]; exact hq⟩
  clear hcl hpt hm
  have HC : Hid (∀ (W : World), Below w1.heap.size w1 W → ∀ (j : Nat) u, us[j]? = some u → ∃ g, sa = some ⟨g, 0, none⟩ ∧ W.cell? ⟨g, j, none⟩ = some u) := hcell
  have HR : Hid (∀ (i : Nat) (h : i < ts.length), ∃ u, us[i]? = some u ∧ Mill.Rep P w ts[i] u) := hRa
  clear hcell hRa
  go_loopw [5, 15] (fun tm tv wr => ∃ i : Nat, i ≤ m ∧ tv = .int .i64 (i : Int) ∧ tm = .int .i64 (Mill.Tr.highs (ts.take i) : Int) ∧ Below w1.heap.size w1 wr) (fun _ tv _ => m - (intOf tv).toNat)
  case atStart => exact ⟨0, by omega, rfl, rfl, (Below.refl _ w1).alloc (Nat.le_refl _) _⟩
  case round =>
    obtain ⟨i, hi, rfl, rfl, hbw⟩ := hrel
    have hzr := hbw.size
    by_cases hlt : i < m
    · have hit : i < ts.length := by omega
      obtain ⟨u, hu, hr⟩ := HR.out i hit
      obtain ⟨g, rfl, hc⟩ := HC.out wr hbw i u hu
      have hbwr : Below w.heap.size w wr := hb.trans (hbw.mono hz)
      have hr1 : Mill.Rep P wr ts[i] u := Mill.Rep.below (fun g h => h) (fun g h => hbwr.block g (hP g h)) _ _ hr
      have hlv := Mill.highs_at ts i hit
      have hih := ih ts[i] u wr P (by omega) (fun g h => by have := hP g h; omega) hr1
      have HS : Hid (Mill.Tr.highs (ts.take (i + 1)) = max (Mill.Tr.highs (ts.take i)) (ts[i].high + 1)) := Mill.highs_step ts i hit
      have hbd : Mill.Tr.highs (ts.take i) ≤ 200000 := Nat.le_trans (Mill.highs_take ts i) (by omega)
      have hbd2 : ts[i].high ≤ 200000 := by omega
      clear hr hr1 HR HC hlv hu
      generalize ts[i].high = q at *
      generalize Mill.Tr.highs (ts.take i) = p at *
      go_wp2_with (go_at_call 30; refine hih.mono ?_; rintro e w2 ⟨rfl, hb2⟩)
      go_roundw
      case rel => exact ⟨i + 1, by omega, by go_num, by rw [HS.out]; exact Mill.max_if p q, hbw.trans (hb2.mono hzr)⟩
      case measure => simp [intOf]; omega
    · have hie : i = m := by omega
      subst hie
      have hT : ts.take i = ts := List.take_of_length_le (by omega)
      rw [hT]
      have hbd : Mill.Tr.highs ts ≤ 200000 := by omega
      clear HR HC hT
      go_wp2
      go_ret
      exact ⟨rfl, hb.trans (hbw.mono hz)⟩

set_option maxRecDepth 100000 in
set_option maxHeartbeats 1000000 in
theorem levels_2 (n : Nat) (hn : n ≤ 200000) (ih : Mill.LevelsTo n) (o t y : Int) (x : ByteArray) (k : Int) (P : Nat → Prop) (ts : List Mill.Tr) (us : List Value) (X : Value) (w : World) (hP : ∀ g, P g → g < w.heap.size) (hk : Mill.Kinded us (ts.map (fun t => t.nd.kind))) (hl : (23 : Int) ≤ 2 → us.length ≤ 60) (hl2 : us.length ≤ 100000) (hI : Mill.Inner P w ⟨2, o, t, y, x, k⟩ us X) (hR : Mill.Reps P w ts us) (hh : Mill.Tr.highs ts ≤ n) :
    Calls Tryz.prog 30 #[.iface 124 X] w fun e w' => e = .returned (.int .i64 ((Mill.Tr.highs ts : Int) + 1)) ∧ Below w.heap.size w w' := by
  have hm := Tryz.meth_textNode
  have hpt := pt_2 o t y x k P us _ X w hP hk hl hI
  have hul := Mill.Reps.len ts us hR
  obtain ⟨m, HM⟩ : ∃ m, Hid (us.length = m) := ⟨_, (rfl : us.length = _)⟩
  have hml : m ≤ 100000 := by rw [← HM.out]; exact hl2
  have hmt : ts.length = m := by rw [← hul]; exact HM.out
  have hRa := Mill.Reps.at ts us hR
  clear hI hk hl hl2 hul hR
  go_enter Tryz.func30, Tryz.ntmps30
  go_wp2_with (go_at_call 137; refine hpt.mono ?_; rintro e w1 ⟨S, rfl, hb, hS⟩; rw [HM.out] at hS; obtain ⟨sa, sc, rfl, hcl⟩ := hS; generalize Mill.takenN _ us.length = D; rcases D with ⟨c', o', t', y', x', k'⟩; simp only [Mill.ndV])
  have hz := hb.size
  have hba : Below w.heap.size w (w1.alloc (.cells #[.int .i64 c', .int .i64 o', .int .i64 t', .int .i64 y', .string x', .int .i64 k'] 68)) := hb.alloc hz _
  have hcell : ∀ (W : World), Below w1.heap.size w1 W → ∀ (j : Nat) u, us[j]? = some u → ∃ g, sa = some ⟨g, 0, none⟩ ∧ W.cell? ⟨g, j, none⟩ = some u := fun W hW j u hj => by
    obtain ⟨g, ha, hg, hq⟩ := hcl j u hj
    have hg1 : g < w1.heap.size := by
      rcases hg with hg | hg
      · have := hP g hg; omega
      · exact hg.2
    exact ⟨g, ha, by rw [hW.cell (p := ⟨g, j, none⟩) hg1]; exact hq⟩
  clear hcl hpt hm
  have HC : Hid (∀ (W : World), Below w1.heap.size w1 W → ∀ (j : Nat) u, us[j]? = some u → ∃ g, sa = some ⟨g, 0, none⟩ ∧ W.cell? ⟨g, j, none⟩ = some u) := hcell
  have HR : Hid (∀ (i : Nat) (h : i < ts.length), ∃ u, us[i]? = some u ∧ Mill.Rep P w ts[i] u) := hRa
  clear hcell hRa
  go_loopw [5, 15] (fun tm tv wr => ∃ i : Nat, i ≤ m ∧ tv = .int .i64 (i : Int) ∧ tm = .int .i64 (Mill.Tr.highs (ts.take i) : Int) ∧ Below w1.heap.size w1 wr) (fun _ tv _ => m - (intOf tv).toNat)
  case atStart => exact ⟨0, by omega, rfl, rfl, (Below.refl _ w1).alloc (Nat.le_refl _) _⟩
  case round =>
    obtain ⟨i, hi, rfl, rfl, hbw⟩ := hrel
    have hzr := hbw.size
    by_cases hlt : i < m
    · have hit : i < ts.length := by omega
      obtain ⟨u, hu, hr⟩ := HR.out i hit
      obtain ⟨g, rfl, hc⟩ := HC.out wr hbw i u hu
      have hbwr : Below w.heap.size w wr := hb.trans (hbw.mono hz)
      have hr1 : Mill.Rep P wr ts[i] u := Mill.Rep.below (fun g h => h) (fun g h => hbwr.block g (hP g h)) _ _ hr
      have hlv := Mill.highs_at ts i hit
      have hih := ih ts[i] u wr P (by omega) (fun g h => by have := hP g h; omega) hr1
      have HS : Hid (Mill.Tr.highs (ts.take (i + 1)) = max (Mill.Tr.highs (ts.take i)) (ts[i].high + 1)) := Mill.highs_step ts i hit
      have hbd : Mill.Tr.highs (ts.take i) ≤ 200000 := Nat.le_trans (Mill.highs_take ts i) (by omega)
      have hbd2 : ts[i].high ≤ 200000 := by omega
      clear hr hr1 HR HC hlv hu
      generalize ts[i].high = q at *
      generalize Mill.Tr.highs (ts.take i) = p at *
      go_wp2_with (go_at_call 30; refine hih.mono ?_; rintro e w2 ⟨rfl, hb2⟩)
      go_roundw
      case rel => exact ⟨i + 1, by omega, by go_num, by rw [HS.out]; exact Mill.max_if p q, hbw.trans (hb2.mono hzr)⟩
      case measure => simp [intOf]; omega
    · have hie : i = m := by omega
      subst hie
      have hT : ts.take i = ts := List.take_of_length_le (by omega)
      rw [hT]
      have hbd : Mill.Tr.highs ts ≤ 200000 := by omega
      clear HR HC hT
      go_wp2
      go_ret
      exact ⟨rfl, hb.trans (hbw.mono hz)⟩

set_option maxRecDepth 100000 in
set_option maxHeartbeats 1000000 in
theorem levels_3 (n : Nat) (hn : n ≤ 200000) (ih : Mill.LevelsTo n) (o t y : Int) (x : ByteArray) (k : Int) (P : Nat → Prop) (ts : List Mill.Tr) (us : List Value) (X : Value) (w : World) (hP : ∀ g, P g → g < w.heap.size) (hk : Mill.Kinded us (ts.map (fun t => t.nd.kind))) (hl : (23 : Int) ≤ 3 → us.length ≤ 60) (hl2 : us.length ≤ 100000) (hI : Mill.Inner P w ⟨3, o, t, y, x, k⟩ us X) (hR : Mill.Reps P w ts us) (hh : Mill.Tr.highs ts ≤ n) :
    Calls Tryz.prog 30 #[.iface 126 X] w fun e w' => e = .returned (.int .i64 ((Mill.Tr.highs ts : Int) + 1)) ∧ Below w.heap.size w w' := by
  have hm := Tryz.meth_boolNode
  have hpt := pt_3 o t y x k P us _ X w hP hk hl hI
  have hul := Mill.Reps.len ts us hR
  obtain ⟨m, HM⟩ : ∃ m, Hid (us.length = m) := ⟨_, (rfl : us.length = _)⟩
  have hml : m ≤ 100000 := by rw [← HM.out]; exact hl2
  have hmt : ts.length = m := by rw [← hul]; exact HM.out
  have hRa := Mill.Reps.at ts us hR
  clear hI hk hl hl2 hul hR
  go_enter Tryz.func30, Tryz.ntmps30
  go_wp2_with (go_at_call 138; refine hpt.mono ?_; rintro e w1 ⟨S, rfl, hb, hS⟩; rw [HM.out] at hS; obtain ⟨sa, sc, rfl, hcl⟩ := hS; generalize Mill.takenN _ us.length = D; rcases D with ⟨c', o', t', y', x', k'⟩; simp only [Mill.ndV])
  have hz := hb.size
  have hba : Below w.heap.size w (w1.alloc (.cells #[.int .i64 c', .int .i64 o', .int .i64 t', .int .i64 y', .string x', .int .i64 k'] 68)) := hb.alloc hz _
  have hcell : ∀ (W : World), Below w1.heap.size w1 W → ∀ (j : Nat) u, us[j]? = some u → ∃ g, sa = some ⟨g, 0, none⟩ ∧ W.cell? ⟨g, j, none⟩ = some u := fun W hW j u hj => by
    obtain ⟨g, ha, hg, hq⟩ := hcl j u hj
    have hg1 : g < w1.heap.size := by
      rcases hg with hg | hg
      · have := hP g hg; omega
      · exact hg.2
    exact ⟨g, ha, by rw [hW.cell (p := ⟨g, j, none⟩) hg1]; exact hq⟩
  clear hcl hpt hm
  have HC : Hid (∀ (W : World), Below w1.heap.size w1 W → ∀ (j : Nat) u, us[j]? = some u → ∃ g, sa = some ⟨g, 0, none⟩ ∧ W.cell? ⟨g, j, none⟩ = some u) := hcell
  have HR : Hid (∀ (i : Nat) (h : i < ts.length), ∃ u, us[i]? = some u ∧ Mill.Rep P w ts[i] u) := hRa
  clear hcell hRa
  go_loopw [5, 15] (fun tm tv wr => ∃ i : Nat, i ≤ m ∧ tv = .int .i64 (i : Int) ∧ tm = .int .i64 (Mill.Tr.highs (ts.take i) : Int) ∧ Below w1.heap.size w1 wr) (fun _ tv _ => m - (intOf tv).toNat)
  case atStart => exact ⟨0, by omega, rfl, rfl, (Below.refl _ w1).alloc (Nat.le_refl _) _⟩
  case round =>
    obtain ⟨i, hi, rfl, rfl, hbw⟩ := hrel
    have hzr := hbw.size
    by_cases hlt : i < m
    · have hit : i < ts.length := by omega
      obtain ⟨u, hu, hr⟩ := HR.out i hit
      obtain ⟨g, rfl, hc⟩ := HC.out wr hbw i u hu
      have hbwr : Below w.heap.size w wr := hb.trans (hbw.mono hz)
      have hr1 : Mill.Rep P wr ts[i] u := Mill.Rep.below (fun g h => h) (fun g h => hbwr.block g (hP g h)) _ _ hr
      have hlv := Mill.highs_at ts i hit
      have hih := ih ts[i] u wr P (by omega) (fun g h => by have := hP g h; omega) hr1
      have HS : Hid (Mill.Tr.highs (ts.take (i + 1)) = max (Mill.Tr.highs (ts.take i)) (ts[i].high + 1)) := Mill.highs_step ts i hit
      have hbd : Mill.Tr.highs (ts.take i) ≤ 200000 := Nat.le_trans (Mill.highs_take ts i) (by omega)
      have hbd2 : ts[i].high ≤ 200000 := by omega
      clear hr hr1 HR HC hlv hu
      generalize ts[i].high = q at *
      generalize Mill.Tr.highs (ts.take i) = p at *
      go_wp2_with (go_at_call 30; refine hih.mono ?_; rintro e w2 ⟨rfl, hb2⟩)
      go_roundw
      case rel => exact ⟨i + 1, by omega, by go_num, by rw [HS.out]; exact Mill.max_if p q, hbw.trans (hb2.mono hzr)⟩
      case measure => simp [intOf]; omega
    · have hie : i = m := by omega
      subst hie
      have hT : ts.take i = ts := List.take_of_length_le (by omega)
      rw [hT]
      have hbd : Mill.Tr.highs ts ≤ 200000 := by omega
      clear HR HC hT
      go_wp2
      go_ret
      exact ⟨rfl, hb.trans (hbw.mono hz)⟩

set_option maxRecDepth 100000 in
set_option maxHeartbeats 1000000 in
theorem levels_4 (n : Nat) (hn : n ≤ 200000) (ih : Mill.LevelsTo n) (o t y : Int) (x : ByteArray) (k : Int) (P : Nat → Prop) (ts : List Mill.Tr) (us : List Value) (X : Value) (w : World) (hP : ∀ g, P g → g < w.heap.size) (hk : Mill.Kinded us (ts.map (fun t => t.nd.kind))) (hl : (23 : Int) ≤ 4 → us.length ≤ 60) (hl2 : us.length ≤ 100000) (hI : Mill.Inner P w ⟨4, o, t, y, x, k⟩ us X) (hR : Mill.Reps P w ts us) (hh : Mill.Tr.highs ts ≤ n) :
    Calls Tryz.prog 30 #[.iface 128 X] w fun e w' => e = .returned (.int .i64 ((Mill.Tr.highs ts : Int) + 1)) ∧ Below w.heap.size w w' := by
  have hm := Tryz.meth_nameNode
  have hpt := pt_4 o t y x k P us _ X w hP hk hl hI
  have hul := Mill.Reps.len ts us hR
  obtain ⟨m, HM⟩ : ∃ m, Hid (us.length = m) := ⟨_, (rfl : us.length = _)⟩
  have hml : m ≤ 100000 := by rw [← HM.out]; exact hl2
  have hmt : ts.length = m := by rw [← hul]; exact HM.out
  have hRa := Mill.Reps.at ts us hR
  clear hI hk hl hl2 hul hR
  go_enter Tryz.func30, Tryz.ntmps30
  go_wp2_with (go_at_call 139; refine hpt.mono ?_; rintro e w1 ⟨S, rfl, hb, hS⟩; rw [HM.out] at hS; obtain ⟨sa, sc, rfl, hcl⟩ := hS; generalize Mill.takenN _ us.length = D; rcases D with ⟨c', o', t', y', x', k'⟩; simp only [Mill.ndV])
  have hz := hb.size
  have hba : Below w.heap.size w (w1.alloc (.cells #[.int .i64 c', .int .i64 o', .int .i64 t', .int .i64 y', .string x', .int .i64 k'] 68)) := hb.alloc hz _
  have hcell : ∀ (W : World), Below w1.heap.size w1 W → ∀ (j : Nat) u, us[j]? = some u → ∃ g, sa = some ⟨g, 0, none⟩ ∧ W.cell? ⟨g, j, none⟩ = some u := fun W hW j u hj => by
    obtain ⟨g, ha, hg, hq⟩ := hcl j u hj
    have hg1 : g < w1.heap.size := by
      rcases hg with hg | hg
      · have := hP g hg; omega
      · exact hg.2
    exact ⟨g, ha, by rw [hW.cell (p := ⟨g, j, none⟩) hg1]; exact hq⟩
  clear hcl hpt hm
  have HC : Hid (∀ (W : World), Below w1.heap.size w1 W → ∀ (j : Nat) u, us[j]? = some u → ∃ g, sa = some ⟨g, 0, none⟩ ∧ W.cell? ⟨g, j, none⟩ = some u) := hcell
  have HR : Hid (∀ (i : Nat) (h : i < ts.length), ∃ u, us[i]? = some u ∧ Mill.Rep P w ts[i] u) := hRa
  clear hcell hRa
  go_loopw [5, 15] (fun tm tv wr => ∃ i : Nat, i ≤ m ∧ tv = .int .i64 (i : Int) ∧ tm = .int .i64 (Mill.Tr.highs (ts.take i) : Int) ∧ Below w1.heap.size w1 wr) (fun _ tv _ => m - (intOf tv).toNat)
  case atStart => exact ⟨0, by omega, rfl, rfl, (Below.refl _ w1).alloc (Nat.le_refl _) _⟩
  case round =>
    obtain ⟨i, hi, rfl, rfl, hbw⟩ := hrel
    have hzr := hbw.size
    by_cases hlt : i < m
    · have hit : i < ts.length := by omega
      obtain ⟨u, hu, hr⟩ := HR.out i hit
      obtain ⟨g, rfl, hc⟩ := HC.out wr hbw i u hu
      have hbwr : Below w.heap.size w wr := hb.trans (hbw.mono hz)
      have hr1 : Mill.Rep P wr ts[i] u := Mill.Rep.below (fun g h => h) (fun g h => hbwr.block g (hP g h)) _ _ hr
      have hlv := Mill.highs_at ts i hit
      have hih := ih ts[i] u wr P (by omega) (fun g h => by have := hP g h; omega) hr1
      have HS : Hid (Mill.Tr.highs (ts.take (i + 1)) = max (Mill.Tr.highs (ts.take i)) (ts[i].high + 1)) := Mill.highs_step ts i hit
      have hbd : Mill.Tr.highs (ts.take i) ≤ 200000 := Nat.le_trans (Mill.highs_take ts i) (by omega)
      have hbd2 : ts[i].high ≤ 200000 := by omega
      clear hr hr1 HR HC hlv hu
      generalize ts[i].high = q at *
      generalize Mill.Tr.highs (ts.take i) = p at *
      go_wp2_with (go_at_call 30; refine hih.mono ?_; rintro e w2 ⟨rfl, hb2⟩)
      go_roundw
      case rel => exact ⟨i + 1, by omega, by go_num, by rw [HS.out]; exact Mill.max_if p q, hbw.trans (hb2.mono hzr)⟩
      case measure => simp [intOf]; omega
    · have hie : i = m := by omega
      subst hie
      have hT : ts.take i = ts := List.take_of_length_le (by omega)
      rw [hT]
      have hbd : Mill.Tr.highs ts ≤ 200000 := by omega
      clear HR HC hT
      go_wp2
      go_ret
      exact ⟨rfl, hb.trans (hbw.mono hz)⟩

set_option maxRecDepth 100000 in
set_option maxHeartbeats 1000000 in
theorem levels_5 (n : Nat) (hn : n ≤ 200000) (ih : Mill.LevelsTo n) (o t y : Int) (x : ByteArray) (k : Int) (P : Nat → Prop) (ts : List Mill.Tr) (us : List Value) (X : Value) (w : World) (hP : ∀ g, P g → g < w.heap.size) (hk : Mill.Kinded us (ts.map (fun t => t.nd.kind))) (hl : (23 : Int) ≤ 5 → us.length ≤ 60) (hl2 : us.length ≤ 100000) (hI : Mill.Inner P w ⟨5, o, t, y, x, k⟩ us X) (hR : Mill.Reps P w ts us) (hh : Mill.Tr.highs ts ≤ n) :
    Calls Tryz.prog 30 #[.iface 130 X] w fun e w' => e = .returned (.int .i64 ((Mill.Tr.highs ts : Int) + 1)) ∧ Below w.heap.size w w' := by
  have hm := Tryz.meth_unNode
  have hpt := pt_5 o t y x k P us _ X w hP hk hl hI
  have hul := Mill.Reps.len ts us hR
  obtain ⟨m, HM⟩ : ∃ m, Hid (us.length = m) := ⟨_, (rfl : us.length = _)⟩
  have hml : m ≤ 100000 := by rw [← HM.out]; exact hl2
  have hmt : ts.length = m := by rw [← hul]; exact HM.out
  have hRa := Mill.Reps.at ts us hR
  clear hI hk hl hl2 hul hR
  go_enter Tryz.func30, Tryz.ntmps30
  go_wp2_with (go_at_call 140; refine hpt.mono ?_; rintro e w1 ⟨S, rfl, hb, hS⟩; rw [HM.out] at hS; obtain ⟨sa, sc, rfl, hcl⟩ := hS; generalize Mill.takenN _ us.length = D; rcases D with ⟨c', o', t', y', x', k'⟩; simp only [Mill.ndV])
  have hz := hb.size
  have hba : Below w.heap.size w (w1.alloc (.cells #[.int .i64 c', .int .i64 o', .int .i64 t', .int .i64 y', .string x', .int .i64 k'] 68)) := hb.alloc hz _
  have hcell : ∀ (W : World), Below w1.heap.size w1 W → ∀ (j : Nat) u, us[j]? = some u → ∃ g, sa = some ⟨g, 0, none⟩ ∧ W.cell? ⟨g, j, none⟩ = some u := fun W hW j u hj => by
    obtain ⟨g, ha, hg, hq⟩ := hcl j u hj
    have hg1 : g < w1.heap.size := by
      rcases hg with hg | hg
      · have := hP g hg; omega
      · exact hg.2
    exact ⟨g, ha, by rw [hW.cell (p := ⟨g, j, none⟩) hg1]; exact hq⟩
  clear hcl hpt hm
  have HC : Hid (∀ (W : World), Below w1.heap.size w1 W → ∀ (j : Nat) u, us[j]? = some u → ∃ g, sa = some ⟨g, 0, none⟩ ∧ W.cell? ⟨g, j, none⟩ = some u) := hcell
  have HR : Hid (∀ (i : Nat) (h : i < ts.length), ∃ u, us[i]? = some u ∧ Mill.Rep P w ts[i] u) := hRa
  clear hcell hRa
  go_loopw [5, 15] (fun tm tv wr => ∃ i : Nat, i ≤ m ∧ tv = .int .i64 (i : Int) ∧ tm = .int .i64 (Mill.Tr.highs (ts.take i) : Int) ∧ Below w1.heap.size w1 wr) (fun _ tv _ => m - (intOf tv).toNat)
  case atStart => exact ⟨0, by omega, rfl, rfl, (Below.refl _ w1).alloc (Nat.le_refl _) _⟩
  case round =>
    obtain ⟨i, hi, rfl, rfl, hbw⟩ := hrel
    have hzr := hbw.size
    by_cases hlt : i < m
    · have hit : i < ts.length := by omega
      obtain ⟨u, hu, hr⟩ := HR.out i hit
      obtain ⟨g, rfl, hc⟩ := HC.out wr hbw i u hu
      have hbwr : Below w.heap.size w wr := hb.trans (hbw.mono hz)
      have hr1 : Mill.Rep P wr ts[i] u := Mill.Rep.below (fun g h => h) (fun g h => hbwr.block g (hP g h)) _ _ hr
      have hlv := Mill.highs_at ts i hit
      have hih := ih ts[i] u wr P (by omega) (fun g h => by have := hP g h; omega) hr1
      have HS : Hid (Mill.Tr.highs (ts.take (i + 1)) = max (Mill.Tr.highs (ts.take i)) (ts[i].high + 1)) := Mill.highs_step ts i hit
      have hbd : Mill.Tr.highs (ts.take i) ≤ 200000 := Nat.le_trans (Mill.highs_take ts i) (by omega)
      have hbd2 : ts[i].high ≤ 200000 := by omega
      clear hr hr1 HR HC hlv hu
      generalize ts[i].high = q at *
      generalize Mill.Tr.highs (ts.take i) = p at *
      go_wp2_with (go_at_call 30; refine hih.mono ?_; rintro e w2 ⟨rfl, hb2⟩)
      go_roundw
      case rel => exact ⟨i + 1, by omega, by go_num, by rw [HS.out]; exact Mill.max_if p q, hbw.trans (hb2.mono hzr)⟩
      case measure => simp [intOf]; omega
    · have hie : i = m := by omega
      subst hie
      have hT : ts.take i = ts := List.take_of_length_le (by omega)
      rw [hT]
      have hbd : Mill.Tr.highs ts ≤ 200000 := by omega
      clear HR HC hT
      go_wp2
      go_ret
      exact ⟨rfl, hb.trans (hbw.mono hz)⟩

set_option maxRecDepth 100000 in
set_option maxHeartbeats 1000000 in
theorem levels_6 (n : Nat) (hn : n ≤ 200000) (ih : Mill.LevelsTo n) (o t y : Int) (x : ByteArray) (k : Int) (P : Nat → Prop) (ts : List Mill.Tr) (us : List Value) (X : Value) (w : World) (hP : ∀ g, P g → g < w.heap.size) (hk : Mill.Kinded us (ts.map (fun t => t.nd.kind))) (hl : (23 : Int) ≤ 6 → us.length ≤ 60) (hl2 : us.length ≤ 100000) (hI : Mill.Inner P w ⟨6, o, t, y, x, k⟩ us X) (hR : Mill.Reps P w ts us) (hh : Mill.Tr.highs ts ≤ n) :
    Calls Tryz.prog 30 #[.iface 132 X] w fun e w' => e = .returned (.int .i64 ((Mill.Tr.highs ts : Int) + 1)) ∧ Below w.heap.size w w' := by
  have hm := Tryz.meth_binNode
  have hpt := pt_6 o t y x k P us _ X w hP hk hl hI
  have hul := Mill.Reps.len ts us hR
  obtain ⟨m, HM⟩ : ∃ m, Hid (us.length = m) := ⟨_, (rfl : us.length = _)⟩
  have hml : m ≤ 100000 := by rw [← HM.out]; exact hl2
  have hmt : ts.length = m := by rw [← hul]; exact HM.out
  have hRa := Mill.Reps.at ts us hR
  clear hI hk hl hl2 hul hR
  go_enter Tryz.func30, Tryz.ntmps30
  go_wp2_with (go_at_call 141; refine hpt.mono ?_; rintro e w1 ⟨S, rfl, hb, hS⟩; rw [HM.out] at hS; obtain ⟨sa, sc, rfl, hcl⟩ := hS; generalize Mill.takenN _ us.length = D; rcases D with ⟨c', o', t', y', x', k'⟩; simp only [Mill.ndV])
  have hz := hb.size
  have hba : Below w.heap.size w (w1.alloc (.cells #[.int .i64 c', .int .i64 o', .int .i64 t', .int .i64 y', .string x', .int .i64 k'] 68)) := hb.alloc hz _
  have hcell : ∀ (W : World), Below w1.heap.size w1 W → ∀ (j : Nat) u, us[j]? = some u → ∃ g, sa = some ⟨g, 0, none⟩ ∧ W.cell? ⟨g, j, none⟩ = some u := fun W hW j u hj => by
    obtain ⟨g, ha, hg, hq⟩ := hcl j u hj
    have hg1 : g < w1.heap.size := by
      rcases hg with hg | hg
      · have := hP g hg; omega
      · exact hg.2
    exact ⟨g, ha, by rw [hW.cell (p := ⟨g, j, none⟩) hg1]; exact hq⟩
  clear hcl hpt hm
  have HC : Hid (∀ (W : World), Below w1.heap.size w1 W → ∀ (j : Nat) u, us[j]? = some u → ∃ g, sa = some ⟨g, 0, none⟩ ∧ W.cell? ⟨g, j, none⟩ = some u) := hcell
  have HR : Hid (∀ (i : Nat) (h : i < ts.length), ∃ u, us[i]? = some u ∧ Mill.Rep P w ts[i] u) := hRa
  clear hcell hRa
  go_loopw [5, 15] (fun tm tv wr => ∃ i : Nat, i ≤ m ∧ tv = .int .i64 (i : Int) ∧ tm = .int .i64 (Mill.Tr.highs (ts.take i) : Int) ∧ Below w1.heap.size w1 wr) (fun _ tv _ => m - (intOf tv).toNat)
  case atStart => exact ⟨0, by omega, rfl, rfl, (Below.refl _ w1).alloc (Nat.le_refl _) _⟩
  case round =>
    obtain ⟨i, hi, rfl, rfl, hbw⟩ := hrel
    have hzr := hbw.size
    by_cases hlt : i < m
    · have hit : i < ts.length := by omega
      obtain ⟨u, hu, hr⟩ := HR.out i hit
      obtain ⟨g, rfl, hc⟩ := HC.out wr hbw i u hu
      have hbwr : Below w.heap.size w wr := hb.trans (hbw.mono hz)
      have hr1 : Mill.Rep P wr ts[i] u := Mill.Rep.below (fun g h => h) (fun g h => hbwr.block g (hP g h)) _ _ hr
      have hlv := Mill.highs_at ts i hit
      have hih := ih ts[i] u wr P (by omega) (fun g h => by have := hP g h; omega) hr1
      have HS : Hid (Mill.Tr.highs (ts.take (i + 1)) = max (Mill.Tr.highs (ts.take i)) (ts[i].high + 1)) := Mill.highs_step ts i hit
      have hbd : Mill.Tr.highs (ts.take i) ≤ 200000 := Nat.le_trans (Mill.highs_take ts i) (by omega)
      have hbd2 : ts[i].high ≤ 200000 := by omega
      clear hr hr1 HR HC hlv hu
      generalize ts[i].high = q at *
      generalize Mill.Tr.highs (ts.take i) = p at *
      go_wp2_with (go_at_call 30; refine hih.mono ?_; rintro e w2 ⟨rfl, hb2⟩)
      go_roundw
      case rel => exact ⟨i + 1, by omega, by go_num, by rw [HS.out]; exact Mill.max_if p q, hbw.trans (hb2.mono hzr)⟩
      case measure => simp [intOf]; omega
    · have hie : i = m := by omega
      subst hie
      have hT : ts.take i = ts := List.take_of_length_le (by omega)
      rw [hT]
      have hbd : Mill.Tr.highs ts ≤ 200000 := by omega
      clear HR HC hT
      go_wp2
      go_ret
      exact ⟨rfl, hb.trans (hbw.mono hz)⟩

set_option maxRecDepth 100000 in
set_option maxHeartbeats 1000000 in
theorem levels_7 (n : Nat) (hn : n ≤ 200000) (ih : Mill.LevelsTo n) (o t y : Int) (x : ByteArray) (k : Int) (P : Nat → Prop) (ts : List Mill.Tr) (us : List Value) (X : Value) (w : World) (hP : ∀ g, P g → g < w.heap.size) (hk : Mill.Kinded us (ts.map (fun t => t.nd.kind))) (hl : (23 : Int) ≤ 7 → us.length ≤ 60) (hl2 : us.length ≤ 100000) (hI : Mill.Inner P w ⟨7, o, t, y, x, k⟩ us X) (hR : Mill.Reps P w ts us) (hh : Mill.Tr.highs ts ≤ n) :
    Calls Tryz.prog 30 #[.iface 134 X] w fun e w' => e = .returned (.int .i64 ((Mill.Tr.highs ts : Int) + 1)) ∧ Below w.heap.size w w' := by
  have hm := Tryz.meth_callNode
  have hpt := pt_7 o t y x k P us _ X w hP hk hl hI
  have hul := Mill.Reps.len ts us hR
  obtain ⟨m, HM⟩ : ∃ m, Hid (us.length = m) := ⟨_, (rfl : us.length = _)⟩
  have hml : m ≤ 100000 := by rw [← HM.out]; exact hl2
  have hmt : ts.length = m := by rw [← hul]; exact HM.out
  have hRa := Mill.Reps.at ts us hR
  clear hI hk hl hl2 hul hR
  go_enter Tryz.func30, Tryz.ntmps30
  go_wp2_with (go_at_call 142; refine hpt.mono ?_; rintro e w1 ⟨S, rfl, hb, hS⟩; rw [HM.out] at hS; obtain ⟨sa, sc, rfl, hcl⟩ := hS; generalize Mill.takenN _ us.length = D; rcases D with ⟨c', o', t', y', x', k'⟩; simp only [Mill.ndV])
  have hz := hb.size
  have hba : Below w.heap.size w (w1.alloc (.cells #[.int .i64 c', .int .i64 o', .int .i64 t', .int .i64 y', .string x', .int .i64 k'] 68)) := hb.alloc hz _
  have hcell : ∀ (W : World), Below w1.heap.size w1 W → ∀ (j : Nat) u, us[j]? = some u → ∃ g, sa = some ⟨g, 0, none⟩ ∧ W.cell? ⟨g, j, none⟩ = some u := fun W hW j u hj => by
    obtain ⟨g, ha, hg, hq⟩ := hcl j u hj
    have hg1 : g < w1.heap.size := by
      rcases hg with hg | hg
      · have := hP g hg; omega
      · exact hg.2
    exact ⟨g, ha, by rw [hW.cell (p := ⟨g, j, none⟩) hg1]; exact hq⟩
  clear hcl hpt hm
  have HC : Hid (∀ (W : World), Below w1.heap.size w1 W → ∀ (j : Nat) u, us[j]? = some u → ∃ g, sa = some ⟨g, 0, none⟩ ∧ W.cell? ⟨g, j, none⟩ = some u) := hcell
  have HR : Hid (∀ (i : Nat) (h : i < ts.length), ∃ u, us[i]? = some u ∧ Mill.Rep P w ts[i] u) := hRa
  clear hcell hRa
  go_loopw [5, 15] (fun tm tv wr => ∃ i : Nat, i ≤ m ∧ tv = .int .i64 (i : Int) ∧ tm = .int .i64 (Mill.Tr.highs (ts.take i) : Int) ∧ Below w1.heap.size w1 wr) (fun _ tv _ => m - (intOf tv).toNat)
  case atStart => exact ⟨0, by omega, rfl, rfl, (Below.refl _ w1).alloc (Nat.le_refl _) _⟩
  case round =>
    obtain ⟨i, hi, rfl, rfl, hbw⟩ := hrel
    have hzr := hbw.size
    by_cases hlt : i < m
    · have hit : i < ts.length := by omega
      obtain ⟨u, hu, hr⟩ := HR.out i hit
      obtain ⟨g, rfl, hc⟩ := HC.out wr hbw i u hu
      have hbwr : Below w.heap.size w wr := hb.trans (hbw.mono hz)
      have hr1 : Mill.Rep P wr ts[i] u := Mill.Rep.below (fun g h => h) (fun g h => hbwr.block g (hP g h)) _ _ hr
      have hlv := Mill.highs_at ts i hit
      have hih := ih ts[i] u wr P (by omega) (fun g h => by have := hP g h; omega) hr1
      have HS : Hid (Mill.Tr.highs (ts.take (i + 1)) = max (Mill.Tr.highs (ts.take i)) (ts[i].high + 1)) := Mill.highs_step ts i hit
      have hbd : Mill.Tr.highs (ts.take i) ≤ 200000 := Nat.le_trans (Mill.highs_take ts i) (by omega)
      have hbd2 : ts[i].high ≤ 200000 := by omega
      clear hr hr1 HR HC hlv hu
      generalize ts[i].high = q at *
      generalize Mill.Tr.highs (ts.take i) = p at *
      go_wp2_with (go_at_call 30; refine hih.mono ?_; rintro e w2 ⟨rfl, hb2⟩)
      go_roundw
      case rel => exact ⟨i + 1, by omega, by go_num, by rw [HS.out]; exact Mill.max_if p q, hbw.trans (hb2.mono hzr)⟩
      case measure => simp [intOf]; omega
    · have hie : i = m := by omega
      subst hie
      have hT : ts.take i = ts := List.take_of_length_le (by omega)
      rw [hT]
      have hbd : Mill.Tr.highs ts ≤ 200000 := by omega
      clear HR HC hT
      go_wp2
      go_ret
      exact ⟨rfl, hb.trans (hbw.mono hz)⟩

set_option maxRecDepth 100000 in
set_option maxHeartbeats 1000000 in
theorem levels_8 (n : Nat) (hn : n ≤ 200000) (ih : Mill.LevelsTo n) (o t y : Int) (x : ByteArray) (k : Int) (P : Nat → Prop) (ts : List Mill.Tr) (us : List Value) (X : Value) (w : World) (hP : ∀ g, P g → g < w.heap.size) (hk : Mill.Kinded us (ts.map (fun t => t.nd.kind))) (hl : (23 : Int) ≤ 8 → us.length ≤ 60) (hl2 : us.length ≤ 100000) (hI : Mill.Inner P w ⟨8, o, t, y, x, k⟩ us X) (hR : Mill.Reps P w ts us) (hh : Mill.Tr.highs ts ≤ n) :
    Calls Tryz.prog 30 #[.iface 139 X] w fun e w' => e = .returned (.int .i64 ((Mill.Tr.highs ts : Int) + 1)) ∧ Below w.heap.size w w' := by
  have hm := Tryz.meth_builtNode
  have hpt := pt_8 o t y x k P us _ X w hP hk hl hI
  have hul := Mill.Reps.len ts us hR
  obtain ⟨m, HM⟩ : ∃ m, Hid (us.length = m) := ⟨_, (rfl : us.length = _)⟩
  have hml : m ≤ 100000 := by rw [← HM.out]; exact hl2
  have hmt : ts.length = m := by rw [← hul]; exact HM.out
  have hRa := Mill.Reps.at ts us hR
  clear hI hk hl hl2 hul hR
  go_enter Tryz.func30, Tryz.ntmps30
  go_wp2_with (go_at_call 143; refine hpt.mono ?_; rintro e w1 ⟨S, rfl, hb, hS⟩; rw [HM.out] at hS; obtain ⟨sa, sc, rfl, hcl⟩ := hS; generalize Mill.takenN _ us.length = D; rcases D with ⟨c', o', t', y', x', k'⟩; simp only [Mill.ndV])
  have hz := hb.size
  have hba : Below w.heap.size w (w1.alloc (.cells #[.int .i64 c', .int .i64 o', .int .i64 t', .int .i64 y', .string x', .int .i64 k'] 68)) := hb.alloc hz _
  have hcell : ∀ (W : World), Below w1.heap.size w1 W → ∀ (j : Nat) u, us[j]? = some u → ∃ g, sa = some ⟨g, 0, none⟩ ∧ W.cell? ⟨g, j, none⟩ = some u := fun W hW j u hj => by
    obtain ⟨g, ha, hg, hq⟩ := hcl j u hj
    have hg1 : g < w1.heap.size := by
      rcases hg with hg | hg
      · have := hP g hg; omega
      · exact hg.2
    exact ⟨g, ha, by rw [hW.cell (p := ⟨g, j, none⟩) hg1]; exact hq⟩
  clear hcl hpt hm
  have HC : Hid (∀ (W : World), Below w1.heap.size w1 W → ∀ (j : Nat) u, us[j]? = some u → ∃ g, sa = some ⟨g, 0, none⟩ ∧ W.cell? ⟨g, j, none⟩ = some u) := hcell
  have HR : Hid (∀ (i : Nat) (h : i < ts.length), ∃ u, us[i]? = some u ∧ Mill.Rep P w ts[i] u) := hRa
  clear hcell hRa
  go_loopw [5, 15] (fun tm tv wr => ∃ i : Nat, i ≤ m ∧ tv = .int .i64 (i : Int) ∧ tm = .int .i64 (Mill.Tr.highs (ts.take i) : Int) ∧ Below w1.heap.size w1 wr) (fun _ tv _ => m - (intOf tv).toNat)
  case atStart => exact ⟨0, by omega, rfl, rfl, (Below.refl _ w1).alloc (Nat.le_refl _) _⟩
  case round =>
    obtain ⟨i, hi, rfl, rfl, hbw⟩ := hrel
    have hzr := hbw.size
    by_cases hlt : i < m
    · have hit : i < ts.length := by omega
      obtain ⟨u, hu, hr⟩ := HR.out i hit
      obtain ⟨g, rfl, hc⟩ := HC.out wr hbw i u hu
      have hbwr : Below w.heap.size w wr := hb.trans (hbw.mono hz)
      have hr1 : Mill.Rep P wr ts[i] u := Mill.Rep.below (fun g h => h) (fun g h => hbwr.block g (hP g h)) _ _ hr
      have hlv := Mill.highs_at ts i hit
      have hih := ih ts[i] u wr P (by omega) (fun g h => by have := hP g h; omega) hr1
      have HS : Hid (Mill.Tr.highs (ts.take (i + 1)) = max (Mill.Tr.highs (ts.take i)) (ts[i].high + 1)) := Mill.highs_step ts i hit
      have hbd : Mill.Tr.highs (ts.take i) ≤ 200000 := Nat.le_trans (Mill.highs_take ts i) (by omega)
      have hbd2 : ts[i].high ≤ 200000 := by omega
      clear hr hr1 HR HC hlv hu
      generalize ts[i].high = q at *
      generalize Mill.Tr.highs (ts.take i) = p at *
      go_wp2_with (go_at_call 30; refine hih.mono ?_; rintro e w2 ⟨rfl, hb2⟩)
      go_roundw
      case rel => exact ⟨i + 1, by omega, by go_num, by rw [HS.out]; exact Mill.max_if p q, hbw.trans (hb2.mono hzr)⟩
      case measure => simp [intOf]; omega
    · have hie : i = m := by omega
      subst hie
      have hT : ts.take i = ts := List.take_of_length_le (by omega)
      rw [hT]
      have hbd : Mill.Tr.highs ts ≤ 200000 := by omega
      clear HR HC hT
      go_wp2
      go_ret
      exact ⟨rfl, hb.trans (hbw.mono hz)⟩

set_option maxRecDepth 100000 in
set_option maxHeartbeats 1000000 in
theorem levels_9 (n : Nat) (hn : n ≤ 200000) (ih : Mill.LevelsTo n) (o t y : Int) (x : ByteArray) (k : Int) (P : Nat → Prop) (ts : List Mill.Tr) (us : List Value) (X : Value) (w : World) (hP : ∀ g, P g → g < w.heap.size) (hk : Mill.Kinded us (ts.map (fun t => t.nd.kind))) (hl : (23 : Int) ≤ 9 → us.length ≤ 60) (hl2 : us.length ≤ 100000) (hI : Mill.Inner P w ⟨9, o, t, y, x, k⟩ us X) (hR : Mill.Reps P w ts us) (hh : Mill.Tr.highs ts ≤ n) :
    Calls Tryz.prog 30 #[.iface 141 X] w fun e w' => e = .returned (.int .i64 ((Mill.Tr.highs ts : Int) + 1)) ∧ Below w.heap.size w w' := by
  have hm := Tryz.meth_convNode
  have hpt := pt_9 o t y x k P us _ X w hP hk hl hI
  have hul := Mill.Reps.len ts us hR
  obtain ⟨m, HM⟩ : ∃ m, Hid (us.length = m) := ⟨_, (rfl : us.length = _)⟩
  have hml : m ≤ 100000 := by rw [← HM.out]; exact hl2
  have hmt : ts.length = m := by rw [← hul]; exact HM.out
  have hRa := Mill.Reps.at ts us hR
  clear hI hk hl hl2 hul hR
  go_enter Tryz.func30, Tryz.ntmps30
  go_wp2_with (go_at_call 144; refine hpt.mono ?_; rintro e w1 ⟨S, rfl, hb, hS⟩; rw [HM.out] at hS; obtain ⟨sa, sc, rfl, hcl⟩ := hS; generalize Mill.takenN _ us.length = D; rcases D with ⟨c', o', t', y', x', k'⟩; simp only [Mill.ndV])
  have hz := hb.size
  have hba : Below w.heap.size w (w1.alloc (.cells #[.int .i64 c', .int .i64 o', .int .i64 t', .int .i64 y', .string x', .int .i64 k'] 68)) := hb.alloc hz _
  have hcell : ∀ (W : World), Below w1.heap.size w1 W → ∀ (j : Nat) u, us[j]? = some u → ∃ g, sa = some ⟨g, 0, none⟩ ∧ W.cell? ⟨g, j, none⟩ = some u := fun W hW j u hj => by
    obtain ⟨g, ha, hg, hq⟩ := hcl j u hj
    have hg1 : g < w1.heap.size := by
      rcases hg with hg | hg
      · have := hP g hg; omega
      · exact hg.2
    exact ⟨g, ha, by rw [hW.cell (p := ⟨g, j, none⟩) hg1]; exact hq⟩
  clear hcl hpt hm
  have HC : Hid (∀ (W : World), Below w1.heap.size w1 W → ∀ (j : Nat) u, us[j]? = some u → ∃ g, sa = some ⟨g, 0, none⟩ ∧ W.cell? ⟨g, j, none⟩ = some u) := hcell
  have HR : Hid (∀ (i : Nat) (h : i < ts.length), ∃ u, us[i]? = some u ∧ Mill.Rep P w ts[i] u) := hRa
  clear hcell hRa
  go_loopw [5, 15] (fun tm tv wr => ∃ i : Nat, i ≤ m ∧ tv = .int .i64 (i : Int) ∧ tm = .int .i64 (Mill.Tr.highs (ts.take i) : Int) ∧ Below w1.heap.size w1 wr) (fun _ tv _ => m - (intOf tv).toNat)
  case atStart => exact ⟨0, by omega, rfl, rfl, (Below.refl _ w1).alloc (Nat.le_refl _) _⟩
  case round =>
    obtain ⟨i, hi, rfl, rfl, hbw⟩ := hrel
    have hzr := hbw.size
    by_cases hlt : i < m
    · have hit : i < ts.length := by omega
      obtain ⟨u, hu, hr⟩ := HR.out i hit
      obtain ⟨g, rfl, hc⟩ := HC.out wr hbw i u hu
      have hbwr : Below w.heap.size w wr := hb.trans (hbw.mono hz)
      have hr1 : Mill.Rep P wr ts[i] u := Mill.Rep.below (fun g h => h) (fun g h => hbwr.block g (hP g h)) _ _ hr
      have hlv := Mill.highs_at ts i hit
      have hih := ih ts[i] u wr P (by omega) (fun g h => by have := hP g h; omega) hr1
      have HS : Hid (Mill.Tr.highs (ts.take (i + 1)) = max (Mill.Tr.highs (ts.take i)) (ts[i].high + 1)) := Mill.highs_step ts i hit
      have hbd : Mill.Tr.highs (ts.take i) ≤ 200000 := Nat.le_trans (Mill.highs_take ts i) (by omega)
      have hbd2 : ts[i].high ≤ 200000 := by omega
      clear hr hr1 HR HC hlv hu
      generalize ts[i].high = q at *
      generalize Mill.Tr.highs (ts.take i) = p at *
      go_wp2_with (go_at_call 30; refine hih.mono ?_; rintro e w2 ⟨rfl, hb2⟩)
      go_roundw
      case rel => exact ⟨i + 1, by omega, by go_num, by rw [HS.out]; exact Mill.max_if p q, hbw.trans (hb2.mono hzr)⟩
      case measure => simp [intOf]; omega
    · have hie : i = m := by omega
      subst hie
      have hT : ts.take i = ts := List.take_of_length_le (by omega)
      rw [hT]
      have hbd : Mill.Tr.highs ts ≤ 200000 := by omega
      clear HR HC hT
      go_wp2
      go_ret
      exact ⟨rfl, hb.trans (hbw.mono hz)⟩

set_option maxRecDepth 100000 in
set_option maxHeartbeats 1000000 in
theorem levels_10 (n : Nat) (hn : n ≤ 200000) (ih : Mill.LevelsTo n) (o t y : Int) (x : ByteArray) (k : Int) (P : Nat → Prop) (ts : List Mill.Tr) (us : List Value) (X : Value) (w : World) (hP : ∀ g, P g → g < w.heap.size) (hk : Mill.Kinded us (ts.map (fun t => t.nd.kind))) (hl : (23 : Int) ≤ 10 → us.length ≤ 60) (hl2 : us.length ≤ 100000) (hI : Mill.Inner P w ⟨10, o, t, y, x, k⟩ us X) (hR : Mill.Reps P w ts us) (hh : Mill.Tr.highs ts ≤ n) :
    Calls Tryz.prog 30 #[.iface 143 X] w fun e w' => e = .returned (.int .i64 ((Mill.Tr.highs ts : Int) + 1)) ∧ Below w.heap.size w w' := by
  have hm := Tryz.meth_letNode
  have hpt := pt_10 o t y x k P us _ X w hP hk hl hI
  have hul := Mill.Reps.len ts us hR
  obtain ⟨m, HM⟩ : ∃ m, Hid (us.length = m) := ⟨_, (rfl : us.length = _)⟩
  have hml : m ≤ 100000 := by rw [← HM.out]; exact hl2
  have hmt : ts.length = m := by rw [← hul]; exact HM.out
  have hRa := Mill.Reps.at ts us hR
  clear hI hk hl hl2 hul hR
  go_enter Tryz.func30, Tryz.ntmps30
  go_wp2_with (go_at_call 145; refine hpt.mono ?_; rintro e w1 ⟨S, rfl, hb, hS⟩; rw [HM.out] at hS; obtain ⟨sa, sc, rfl, hcl⟩ := hS; generalize Mill.takenN _ us.length = D; rcases D with ⟨c', o', t', y', x', k'⟩; simp only [Mill.ndV])
  have hz := hb.size
  have hba : Below w.heap.size w (w1.alloc (.cells #[.int .i64 c', .int .i64 o', .int .i64 t', .int .i64 y', .string x', .int .i64 k'] 68)) := hb.alloc hz _
  have hcell : ∀ (W : World), Below w1.heap.size w1 W → ∀ (j : Nat) u, us[j]? = some u → ∃ g, sa = some ⟨g, 0, none⟩ ∧ W.cell? ⟨g, j, none⟩ = some u := fun W hW j u hj => by
    obtain ⟨g, ha, hg, hq⟩ := hcl j u hj
    have hg1 : g < w1.heap.size := by
      rcases hg with hg | hg
      · have := hP g hg; omega
      · exact hg.2
    exact ⟨g, ha, by rw [hW.cell (p := ⟨g, j, none⟩) hg1]; exact hq⟩
  clear hcl hpt hm
  have HC : Hid (∀ (W : World), Below w1.heap.size w1 W → ∀ (j : Nat) u, us[j]? = some u → ∃ g, sa = some ⟨g, 0, none⟩ ∧ W.cell? ⟨g, j, none⟩ = some u) := hcell
  have HR : Hid (∀ (i : Nat) (h : i < ts.length), ∃ u, us[i]? = some u ∧ Mill.Rep P w ts[i] u) := hRa
  clear hcell hRa
  go_loopw [5, 15] (fun tm tv wr => ∃ i : Nat, i ≤ m ∧ tv = .int .i64 (i : Int) ∧ tm = .int .i64 (Mill.Tr.highs (ts.take i) : Int) ∧ Below w1.heap.size w1 wr) (fun _ tv _ => m - (intOf tv).toNat)
  case atStart => exact ⟨0, by omega, rfl, rfl, (Below.refl _ w1).alloc (Nat.le_refl _) _⟩
  case round =>
    obtain ⟨i, hi, rfl, rfl, hbw⟩ := hrel
    have hzr := hbw.size
    by_cases hlt : i < m
    · have hit : i < ts.length := by omega
      obtain ⟨u, hu, hr⟩ := HR.out i hit
      obtain ⟨g, rfl, hc⟩ := HC.out wr hbw i u hu
      have hbwr : Below w.heap.size w wr := hb.trans (hbw.mono hz)
      have hr1 : Mill.Rep P wr ts[i] u := Mill.Rep.below (fun g h => h) (fun g h => hbwr.block g (hP g h)) _ _ hr
      have hlv := Mill.highs_at ts i hit
      have hih := ih ts[i] u wr P (by omega) (fun g h => by have := hP g h; omega) hr1
      have HS : Hid (Mill.Tr.highs (ts.take (i + 1)) = max (Mill.Tr.highs (ts.take i)) (ts[i].high + 1)) := Mill.highs_step ts i hit
      have hbd : Mill.Tr.highs (ts.take i) ≤ 200000 := Nat.le_trans (Mill.highs_take ts i) (by omega)
      have hbd2 : ts[i].high ≤ 200000 := by omega
      clear hr hr1 HR HC hlv hu
      generalize ts[i].high = q at *
      generalize Mill.Tr.highs (ts.take i) = p at *
      go_wp2_with (go_at_call 30; refine hih.mono ?_; rintro e w2 ⟨rfl, hb2⟩)
      go_roundw
      case rel => exact ⟨i + 1, by omega, by go_num, by rw [HS.out]; exact Mill.max_if p q, hbw.trans (hb2.mono hzr)⟩
      case measure => simp [intOf]; omega
    · have hie : i = m := by omega
      subst hie
      have hT : ts.take i = ts := List.take_of_length_le (by omega)
      rw [hT]
      have hbd : Mill.Tr.highs ts ≤ 200000 := by omega
      clear HR HC hT
      go_wp2
      go_ret
      exact ⟨rfl, hb.trans (hbw.mono hz)⟩

set_option maxRecDepth 100000 in
set_option maxHeartbeats 1000000 in
theorem levels_11 (n : Nat) (hn : n ≤ 200000) (ih : Mill.LevelsTo n) (o t y : Int) (x : ByteArray) (k : Int) (P : Nat → Prop) (ts : List Mill.Tr) (us : List Value) (X : Value) (w : World) (hP : ∀ g, P g → g < w.heap.size) (hk : Mill.Kinded us (ts.map (fun t => t.nd.kind))) (hl : (23 : Int) ≤ 11 → us.length ≤ 60) (hl2 : us.length ≤ 100000) (hI : Mill.Inner P w ⟨11, o, t, y, x, k⟩ us X) (hR : Mill.Reps P w ts us) (hh : Mill.Tr.highs ts ≤ n) :
    Calls Tryz.prog 30 #[.iface 144 X] w fun e w' => e = .returned (.int .i64 ((Mill.Tr.highs ts : Int) + 1)) ∧ Below w.heap.size w w' := by
  have hm := Tryz.meth_setNode
  have hpt := pt_11 o t y x k P us _ X w hP hk hl hI
  have hul := Mill.Reps.len ts us hR
  obtain ⟨m, HM⟩ : ∃ m, Hid (us.length = m) := ⟨_, (rfl : us.length = _)⟩
  have hml : m ≤ 100000 := by rw [← HM.out]; exact hl2
  have hmt : ts.length = m := by rw [← hul]; exact HM.out
  have hRa := Mill.Reps.at ts us hR
  clear hI hk hl hl2 hul hR
  go_enter Tryz.func30, Tryz.ntmps30
  go_wp2_with (go_at_call 146; refine hpt.mono ?_; rintro e w1 ⟨S, rfl, hb, hS⟩; rw [HM.out] at hS; obtain ⟨sa, sc, rfl, hcl⟩ := hS; generalize Mill.takenN _ us.length = D; rcases D with ⟨c', o', t', y', x', k'⟩; simp only [Mill.ndV])
  have hz := hb.size
  have hba : Below w.heap.size w (w1.alloc (.cells #[.int .i64 c', .int .i64 o', .int .i64 t', .int .i64 y', .string x', .int .i64 k'] 68)) := hb.alloc hz _
  have hcell : ∀ (W : World), Below w1.heap.size w1 W → ∀ (j : Nat) u, us[j]? = some u → ∃ g, sa = some ⟨g, 0, none⟩ ∧ W.cell? ⟨g, j, none⟩ = some u := fun W hW j u hj => by
    obtain ⟨g, ha, hg, hq⟩ := hcl j u hj
    have hg1 : g < w1.heap.size := by
      rcases hg with hg | hg
      · have := hP g hg; omega
      · exact hg.2
    exact ⟨g, ha, by rw [hW.cell (p := ⟨g, j, none⟩) hg1]; exact hq⟩
  clear hcl hpt hm
  have HC : Hid (∀ (W : World), Below w1.heap.size w1 W → ∀ (j : Nat) u, us[j]? = some u → ∃ g, sa = some ⟨g, 0, none⟩ ∧ W.cell? ⟨g, j, none⟩ = some u) := hcell
  have HR : Hid (∀ (i : Nat) (h : i < ts.length), ∃ u, us[i]? = some u ∧ Mill.Rep P w ts[i] u) := hRa
  clear hcell hRa
  go_loopw [5, 15] (fun tm tv wr => ∃ i : Nat, i ≤ m ∧ tv = .int .i64 (i : Int) ∧ tm = .int .i64 (Mill.Tr.highs (ts.take i) : Int) ∧ Below w1.heap.size w1 wr) (fun _ tv _ => m - (intOf tv).toNat)
  case atStart => exact ⟨0, by omega, rfl, rfl, (Below.refl _ w1).alloc (Nat.le_refl _) _⟩
  case round =>
    obtain ⟨i, hi, rfl, rfl, hbw⟩ := hrel
    have hzr := hbw.size
    by_cases hlt : i < m
    · have hit : i < ts.length := by omega
      obtain ⟨u, hu, hr⟩ := HR.out i hit
      obtain ⟨g, rfl, hc⟩ := HC.out wr hbw i u hu
      have hbwr : Below w.heap.size w wr := hb.trans (hbw.mono hz)
      have hr1 : Mill.Rep P wr ts[i] u := Mill.Rep.below (fun g h => h) (fun g h => hbwr.block g (hP g h)) _ _ hr
      have hlv := Mill.highs_at ts i hit
      have hih := ih ts[i] u wr P (by omega) (fun g h => by have := hP g h; omega) hr1
      have HS : Hid (Mill.Tr.highs (ts.take (i + 1)) = max (Mill.Tr.highs (ts.take i)) (ts[i].high + 1)) := Mill.highs_step ts i hit
      have hbd : Mill.Tr.highs (ts.take i) ≤ 200000 := Nat.le_trans (Mill.highs_take ts i) (by omega)
      have hbd2 : ts[i].high ≤ 200000 := by omega
      clear hr hr1 HR HC hlv hu
      generalize ts[i].high = q at *
      generalize Mill.Tr.highs (ts.take i) = p at *
      go_wp2_with (go_at_call 30; refine hih.mono ?_; rintro e w2 ⟨rfl, hb2⟩)
      go_roundw
      case rel => exact ⟨i + 1, by omega, by go_num, by rw [HS.out]; exact Mill.max_if p q, hbw.trans (hb2.mono hzr)⟩
      case measure => simp [intOf]; omega
    · have hie : i = m := by omega
      subst hie
      have hT : ts.take i = ts := List.take_of_length_le (by omega)
      rw [hT]
      have hbd : Mill.Tr.highs ts ≤ 200000 := by omega
      clear HR HC hT
      go_wp2
      go_ret
      exact ⟨rfl, hb.trans (hbw.mono hz)⟩

set_option maxRecDepth 100000 in
set_option maxHeartbeats 1000000 in
theorem levels_12 (n : Nat) (hn : n ≤ 200000) (ih : Mill.LevelsTo n) (o t y : Int) (x : ByteArray) (k : Int) (P : Nat → Prop) (ts : List Mill.Tr) (us : List Value) (X : Value) (w : World) (hP : ∀ g, P g → g < w.heap.size) (hk : Mill.Kinded us (ts.map (fun t => t.nd.kind))) (hl : (23 : Int) ≤ 12 → us.length ≤ 60) (hl2 : us.length ≤ 100000) (hI : Mill.Inner P w ⟨12, o, t, y, x, k⟩ us X) (hR : Mill.Reps P w ts us) (hh : Mill.Tr.highs ts ≤ n) :
    Calls Tryz.prog 30 #[.iface 156 X] w fun e w' => e = .returned (.int .i64 ((Mill.Tr.highs ts : Int) + 1)) ∧ Below w.heap.size w w' := by
  have hm := Tryz.meth_ifNode
  have hpt := pt_12 o t y x k P us _ X w hP hk hl hI
  have hul := Mill.Reps.len ts us hR
  obtain ⟨m, HM⟩ : ∃ m, Hid (us.length = m) := ⟨_, (rfl : us.length = _)⟩
  have hml : m ≤ 100000 := by rw [← HM.out]; exact hl2
  have hmt : ts.length = m := by rw [← hul]; exact HM.out
  have hRa := Mill.Reps.at ts us hR
  clear hI hk hl hl2 hul hR
  go_enter Tryz.func30, Tryz.ntmps30
  go_wp2_with (go_at_call 153; refine hpt.mono ?_; rintro e w1 ⟨S, rfl, hb, hS⟩; rw [HM.out] at hS; obtain ⟨sa, sc, rfl, hcl⟩ := hS; generalize Mill.takenN _ us.length = D; rcases D with ⟨c', o', t', y', x', k'⟩; simp only [Mill.ndV])
  have hz := hb.size
  have hba : Below w.heap.size w (w1.alloc (.cells #[.int .i64 c', .int .i64 o', .int .i64 t', .int .i64 y', .string x', .int .i64 k'] 68)) := hb.alloc hz _
  have hcell : ∀ (W : World), Below w1.heap.size w1 W → ∀ (j : Nat) u, us[j]? = some u → ∃ g, sa = some ⟨g, 0, none⟩ ∧ W.cell? ⟨g, j, none⟩ = some u := fun W hW j u hj => by
    obtain ⟨g, ha, hg, hq⟩ := hcl j u hj
    have hg1 : g < w1.heap.size := by
      rcases hg with hg | hg
      · have := hP g hg; omega
      · exact hg.2
    exact ⟨g, ha, by rw [hW.cell (p := ⟨g, j, none⟩) hg1]; exact hq⟩
  clear hcl hpt hm
  have HC : Hid (∀ (W : World), Below w1.heap.size w1 W → ∀ (j : Nat) u, us[j]? = some u → ∃ g, sa = some ⟨g, 0, none⟩ ∧ W.cell? ⟨g, j, none⟩ = some u) := hcell
  have HR : Hid (∀ (i : Nat) (h : i < ts.length), ∃ u, us[i]? = some u ∧ Mill.Rep P w ts[i] u) := hRa
  clear hcell hRa
  go_loopw [5, 15] (fun tm tv wr => ∃ i : Nat, i ≤ m ∧ tv = .int .i64 (i : Int) ∧ tm = .int .i64 (Mill.Tr.highs (ts.take i) : Int) ∧ Below w1.heap.size w1 wr) (fun _ tv _ => m - (intOf tv).toNat)
  case atStart => exact ⟨0, by omega, rfl, rfl, (Below.refl _ w1).alloc (Nat.le_refl _) _⟩
  case round =>
    obtain ⟨i, hi, rfl, rfl, hbw⟩ := hrel
    have hzr := hbw.size
    by_cases hlt : i < m
    · have hit : i < ts.length := by omega
      obtain ⟨u, hu, hr⟩ := HR.out i hit
      obtain ⟨g, rfl, hc⟩ := HC.out wr hbw i u hu
      have hbwr : Below w.heap.size w wr := hb.trans (hbw.mono hz)
      have hr1 : Mill.Rep P wr ts[i] u := Mill.Rep.below (fun g h => h) (fun g h => hbwr.block g (hP g h)) _ _ hr
      have hlv := Mill.highs_at ts i hit
      have hih := ih ts[i] u wr P (by omega) (fun g h => by have := hP g h; omega) hr1
      have HS : Hid (Mill.Tr.highs (ts.take (i + 1)) = max (Mill.Tr.highs (ts.take i)) (ts[i].high + 1)) := Mill.highs_step ts i hit
      have hbd : Mill.Tr.highs (ts.take i) ≤ 200000 := Nat.le_trans (Mill.highs_take ts i) (by omega)
      have hbd2 : ts[i].high ≤ 200000 := by omega
      clear hr hr1 HR HC hlv hu
      generalize ts[i].high = q at *
      generalize Mill.Tr.highs (ts.take i) = p at *
      go_wp2_with (go_at_call 30; refine hih.mono ?_; rintro e w2 ⟨rfl, hb2⟩)
      go_roundw
      case rel => exact ⟨i + 1, by omega, by go_num, by rw [HS.out]; exact Mill.max_if p q, hbw.trans (hb2.mono hzr)⟩
      case measure => simp [intOf]; omega
    · have hie : i = m := by omega
      subst hie
      have hT : ts.take i = ts := List.take_of_length_le (by omega)
      rw [hT]
      have hbd : Mill.Tr.highs ts ≤ 200000 := by omega
      clear HR HC hT
      go_wp2
      go_ret
      exact ⟨rfl, hb.trans (hbw.mono hz)⟩

end Go.Proofs.YtlaboojakgffbaaGreatDoor
