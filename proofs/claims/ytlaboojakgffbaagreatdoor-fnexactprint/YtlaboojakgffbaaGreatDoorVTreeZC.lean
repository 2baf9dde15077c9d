import Derived.Test.YtlaboojakgffbaaGreatDoorVTreeZB
namespace Go.Proofs.YtlaboojakgffbaaGreatDoor
open Go.RowKit

set_option maxRecDepth 100000 in
set_option maxHeartbeats 1000000 in
theorem levels_13 (n : Nat) (hn : n ≤ 200000) (ih : Mill.LevelsTo n) (o t y : Int) (x : ByteArray) (k : Int) (P : Nat → Prop) (ts : List Mill.Tr) (us : List Value) (X : Value) (w : World) (hP : ∀ g, P g → g < w.heap.size) (hk : Mill.Kinded us (ts.map (fun t => t.nd.kind))) (hl : (23 : Int) ≤ 13 → us.length ≤ 60) (hl2 : us.length ≤ 100000) (hI : Mill.Inner P w ⟨13, o, t, y, x, k⟩ us X) (hR : Mill.Reps P w ts us) (hh : Mill.Tr.highs ts ≤ n) :
    Calls Tryz.prog 30 #[.iface 158 X] w fun e w' => e = .returned (.int .i64 ((Mill.Tr.highs ts : Int) + 1)) ∧ Below w.heap.size w w' := by
  have hm := Tryz.meth_whileNode
  have hpt := pt_13 o t y x k P us _ X w hP hk hl hI
  have hul := Mill.Reps.len ts us hR
  obtain ⟨m, HM⟩ : ∃ m, Hid (us.length = m) := ⟨_, (rfl : us.length = _)⟩
  have hml : m ≤ 100000 := by rw [← HM.out]; exact hl2
  have hmt : ts.length = m := by rw [← hul]; exact HM.out
  have hRa := Mill.Reps.at ts us hR
  clear hI hk hl hl2 hul hR
  go_enter Tryz.func30, Tryz.ntmps30
  go_wp2_with (go_at_call 154; refine hpt.mono ?_; rintro e w1 ⟨S, rfl, hb, hS⟩; rw [HM.out] at hS; obtain ⟨sa, sc, rfl, hcl⟩ := hS; generalize Mill.takenN _ us.length = D; rcases D with ⟨c', o', t', y', x', k'⟩; simp only [Mill.ndV])
  have hz := hb.size
  have hba : Below w.heap.size w (w1.alloc (.cells #[.int .i64 c', .int .i64 o', .int .i64 t', .int .i64 y', .string x', .int .i64 k'] 68)) := hb.alloc hz _
  have hcell : ∀ (W : World), Below w1.heap.size w1 W → ∀ (j : Nat) u, us[j]? = some u → ∃ g, sa = some ⟨g, 0, none⟩ ∧ W.cell? ⟨g, j, none⟩ = some u := fun W hW j u hj => by
    obtain ⟨g, ha, hg, hq⟩ := hcl j u hj
    have hg1 : g < w1.heap.size := by
      rcases hg with hg | hg
      · have := hP g hg; omega
      · exact hg.2
    exact ⟨g, ha, by rw [hW.cell (p := ⟨g, j, none⟩) hg1]; exact hq⟩
  clear hcl hpt hm
  have HC : Hid (∀ (W : World), Below w1.heap.size w1 W → ∀ (j : Nat) u, us[j]? = some u → ∃ g, sa = some ⟨g, 0, none⟩ ∧ W.cell? ⟨g, j, none⟩ = some u) := hcell
  have HR : Hid (∀ (i : Nat) (h : i < ts.length), ∃ u, us[i]? = some u ∧ Mill.Rep P w ts[i] u) := hRa
  clear hcell hRa
  go_loopw [5, 15] (fun tm tv wr => ∃ i : Nat, i ≤ m ∧ tv = .int .i64 (i : Int) ∧ tm = .int .i64 (Mill.Tr.highs (ts.take i) : Int) ∧ Below w1.heap.size w1 wr) (fun _ tv _ => m - (intOf tv).toNat)
  case atStart => exact ⟨0, by omega, rfl, rfl, (Below.refl _ w1).alloc (Nat.le_refl _) _⟩
  case round =>
    obtain ⟨i, hi, rfl, rfl, hbw⟩ := hrel
    have hzr := hbw.size
    by_cases hlt : i < m
    · have hit : i < ts.length := by omega
      obtain ⟨u, hu, hr⟩ := HR.out i hit
      obtain ⟨g, rfl, hc⟩ := HC.out wr hbw i u hu
      have hbwr : Below w.heap.size w wr := hb.trans (hbw.mono hz)
      have hr1 : Mill.Rep P wr ts[i] u := Mill.Rep.below (fun g h => h) (fun g h => hbwr.block g (hP g h)) _ _ hr
      have hlv := Mill.highs_at ts i hit
      have hih := ih ts[i] u wr P (by omega) (fun g h => by have := hP g h; omega) hr1
      have HS : Hid (Mill.Tr.highs (ts.take (i + 1)) = max (Mill.Tr.highs (ts.take i)) (ts[i].high + 1)) := Mill.highs_step ts i hit
      have hbd : Mill.Tr.highs (ts.take i) ≤ 200000 := Nat.le_trans (Mill.highs_take ts i) (by omega)
      have hbd2 : ts[i].high ≤ 200000 := by omega
      clear hr hr1 HR HC hlv hu
      generalize ts[i].high = q at *
      generalize Mill.Tr.highs (ts.take i) = p at *
      go_wp2_with (go_at_call 30; refine hih.mono ?_; rintro e w2 ⟨rfl, hb2⟩)
      go_roundw
      case rel => exact ⟨i + 1, by omega, by go_num, by rw [HS.out]; exact Mill.max_if p q, hbw.trans (hb2.mono hzr)⟩
      case measure => simp [intOf]; omega
    · have hie : i = m := by omega
      subst hie
      have hT : ts.take i = ts := List.take_of_length_le (by omega)
      rw [hT]
      have hbd : Mill.Tr.highs ts ≤ 200000 := by omega
      clear HR HC hT
      go_wp2
      go_ret
      exact ⟨rfl, hb.trans (hbw.mono hz)⟩

set_option maxRecDepth 100000 in
set_option maxHeartbeats 1000000 in
theorem levels_14 (n : Nat) (hn : n ≤ 200000) (ih : Mill.LevelsTo n) (o t y : Int) (x : ByteArray) (k : Int) (P : Nat → Prop) (ts : List Mill.Tr) (us : List Value) (X : Value) (w : World) (hP : ∀ g, P g → g < w.heap.size) (hk : Mill.Kinded us (ts.map (fun t => t.nd.kind))) (hl : (23 : Int) ≤ 14 → us.length ≤ 60) (hl2 : us.length ≤ 100000) (hI : Mill.Inner P w ⟨14, o, t, y, x, k⟩ us X) (hR : Mill.Reps P w ts us) (hh : Mill.Tr.highs ts ≤ n) :
    Calls Tryz.prog 30 #[.iface 146 X] w fun e w' => e = .returned (.int .i64 ((Mill.Tr.highs ts : Int) + 1)) ∧ Below w.heap.size w w' := by
  have hm := Tryz.meth_breakNode
  have hpt := pt_14 o t y x k P us _ X w hP hk hl hI
  have hul := Mill.Reps.len ts us hR
  obtain ⟨m, HM⟩ : ∃ m, Hid (us.length = m) := ⟨_, (rfl : us.length = _)⟩
  have hml : m ≤ 100000 := by rw [← HM.out]; exact hl2
  have hmt : ts.length = m := by rw [← hul]; exact HM.out
  have hRa := Mill.Reps.at ts us hR
  clear hI hk hl hl2 hul hR
  go_enter Tryz.func30, Tryz.ntmps30
  go_wp2_with (go_at_call 147; refine hpt.mono ?_; rintro e w1 ⟨S, rfl, hb, hS⟩; rw [HM.out] at hS; obtain ⟨sa, sc, rfl, hcl⟩ := hS; generalize Mill.takenN _ us.length = D; rcases D with ⟨c', o', t', y', x', k'⟩; simp only [Mill.ndV])
  have hz := hb.size
  have hba : Below w.heap.size w (w1.alloc (.cells #[.int .i64 c', .int .i64 o', .int .i64 t', .int .i64 y', .string x', .int .i64 k'] 68)) := hb.alloc hz _
  have hcell : ∀ (W : World), Below w1.heap.size w1 W → ∀ (j : Nat) u, us[j]? = some u → ∃ g, sa = some ⟨g, 0, none⟩ ∧ W.cell? ⟨g, j, none⟩ = some u := fun W hW j u hj => by
    obtain ⟨g, ha, hg, hq⟩ := hcl j u hj
    have hg1 : g < w1.heap.size := by
      rcases hg with hg | hg
      · have := hP g hg; omega
      · exact hg.2
    exact ⟨g, ha, by rw [hW.cell (p := ⟨g, j, none⟩) hg1]; exact hq⟩
  clear hcl hpt hm
  have HC : Hid (∀ (W : World), Below w1.heap.size w1 W → ∀ (j : Nat) u, us[j]? = some u → ∃ g, sa = some ⟨g, 0, none⟩ ∧ W.cell? ⟨g, j, none⟩ = some u) := hcell
  have HR : Hid (∀ (i : Nat) (h : i < ts.length), ∃ u, us[i]? = some u ∧ Mill.Rep P w ts[i] u) := hRa
  clear hcell hRa
  go_loopw [5, 15] (fun tm tv wr => ∃ i : Nat, i ≤ m ∧ tv = .int .i64 (i : Int) ∧ tm = .int .i64 (Mill.Tr.highs (ts.take i) : Int) ∧ Below w1.heap.size w1 wr) (fun _ tv _ => m - (intOf tv).toNat)
  case atStart => exact ⟨0, by omega, rfl, rfl, (Below.refl _ w1).alloc (Nat.le_refl _) _⟩
  case round =>
    obtain ⟨i, hi, rfl, rfl, hbw⟩ := hrel
    have hzr := hbw.size
    by_cases hlt : i < m
    · have hit : i < ts.length := by omega
      obtain ⟨u, hu, hr⟩ := HR.out i hit
      obtain ⟨g, rfl, hc⟩ := HC.out wr hbw i u hu
      have hbwr : Below w.heap.size w wr := hb.trans (hbw.mono hz)
      have hr1 : Mill.Rep P wr ts[i] u := Mill.Rep.below (fun g h => h) (fun g h => hbwr.block g (hP g h)) _ _ hr
      have hlv := Mill.highs_at ts i hit
      have hih := ih ts[i] u wr P (by omega) (fun g h => by have := hP g h; omega) hr1
      have HS : Hid (Mill.Tr.highs (ts.take (i + 1)) = max (Mill.Tr.highs (ts.take i)) (ts[i].high + 1)) := Mill.highs_step ts i hit
      have hbd : Mill.Tr.highs (ts.take i) ≤ 200000 := Nat.le_trans (Mill.highs_take ts i) (by omega)
      have hbd2 : ts[i].high ≤ 200000 := by omega
      clear hr hr1 HR HC hlv hu
      generalize ts[i].high = q at *
      generalize Mill.Tr.highs (ts.take i) = p at *
      go_wp2_with (go_at_call 30; refine hih.mono ?_; rintro e w2 ⟨rfl, hb2⟩)
      go_roundw
      case rel => exact ⟨i + 1, by omega, by go_num, by rw [HS.out]; exact Mill.max_if p q, hbw.trans (hb2.mono hzr)⟩
      case measure => simp [intOf]; omega
    · have hie : i = m := by omega
      subst hie
      have hT : ts.take i = ts := List.take_of_length_le (by omega)
      rw [hT]
      have hbd : Mill.Tr.highs ts ≤ 200000 := by omega
      clear HR HC hT
      go_wp2
      go_ret
      exact ⟨rfl, hb.trans (hbw.mono hz)⟩

set_option maxRecDepth 100000 in
set_option maxHeartbeats 1000000 in
theorem levels_15 (n : Nat) (hn : n ≤ 200000) (ih : Mill.LevelsTo n) (o t y : Int) (x : ByteArray) (k : Int) (P : Nat → Prop) (ts : List Mill.Tr) (us : List Value) (X : Value) (w : World) (hP : ∀ g, P g → g < w.heap.size) (hk : Mill.Kinded us (ts.map (fun t => t.nd.kind))) (hl : (23 : Int) ≤ 15 → us.length ≤ 60) (hl2 : us.length ≤ 100000) (hI : Mill.Inner P w ⟨15, o, t, y, x, k⟩ us X) (hR : Mill.Reps P w ts us) (hh : Mill.Tr.highs ts ≤ n) :
    Calls Tryz.prog 30 #[.iface 147 X] w fun e w' => e = .returned (.int .i64 ((Mill.Tr.highs ts : Int) + 1)) ∧ Below w.heap.size w w' := by
  have hm := Tryz.meth_continueNode
  have hpt := pt_15 o t y x k P us _ X w hP hk hl hI
  have hul := Mill.Reps.len ts us hR
  obtain ⟨m, HM⟩ : ∃ m, Hid (us.length = m) := ⟨_, (rfl : us.length = _)⟩
  have hml : m ≤ 100000 := by rw [← HM.out]; exact hl2
  have hmt : ts.length = m := by rw [← hul]; exact HM.out
  have hRa := Mill.Reps.at ts us hR
  clear hI hk hl hl2 hul hR
  go_enter Tryz.func30, Tryz.ntmps30
  go_wp2_with (go_at_call 148; refine hpt.mono ?_; rintro e w1 ⟨S, rfl, hb, hS⟩; rw [HM.out] at hS; obtain ⟨sa, sc, rfl, hcl⟩ := hS; generalize Mill.takenN _ us.length = D; rcases D with ⟨c', o', t', y', x', k'⟩; simp only [Mill.ndV])
  have hz := hb.size
  have hba : Below w.heap.size w (w1.alloc (.cells #[.int .i64 c', .int .i64 o', .int .i64 t', .int .i64 y', .string x', .int .i64 k'] 68)) := hb.alloc hz _
  have hcell : ∀ (W : World), Below w1.heap.size w1 W → ∀ (j : Nat) u, us[j]? = some u → ∃ g, sa = some ⟨g, 0, none⟩ ∧ W.cell? ⟨g, j, none⟩ = some u := fun W hW j u hj => by
    obtain ⟨g, ha, hg, hq⟩ := hcl j u hj
    have hg1 : g < w1.heap.size := by
      rcases hg with hg | hg
      · have := hP g hg; omega
      · exact hg.2
    exact ⟨g, ha, by rw [hW.cell (p := ⟨g, j, none⟩) hg1]; exact hq⟩
  clear hcl hpt hm
  have HC : Hid (∀ (W : World), Below w1.heap.size w1 W → ∀ (j : Nat) u, us[j]? = some u → ∃ g, sa = some ⟨g, 0, none⟩ ∧ W.cell? ⟨g, j, none⟩ = some u) := hcell
  have HR : Hid (∀ (i : Nat) (h : i < ts.length), ∃ u, us[i]? = some u ∧ Mill.Rep P w ts[i] u) := hRa
  clear hcell hRa
  go_loopw [5, 15] (fun tm tv wr => ∃ i : Nat, i ≤ m ∧ tv = .int .i64 (i : Int) ∧ tm = .int .i64 (Mill.Tr.highs (ts.take i) : Int) ∧ Below w1.heap.size w1 wr) (fun _ tv _ => m - (intOf tv).toNat)
  case atStart => exact ⟨0, by omega, rfl, rfl, (Below.refl _ w1).alloc (Nat.le_refl _) _⟩
  case round =>
    obtain ⟨i, hi, rfl, rfl, hbw⟩ := hrel
    have hzr := hbw.size
    by_cases hlt : i < m
    · have hit : i < ts.length := by omega
      obtain ⟨u, hu, hr⟩ := HR.out i hit
      obtain ⟨g, rfl, hc⟩ := HC.out wr hbw i u hu
      have hbwr : Below w.heap.size w wr := hb.trans (hbw.mono hz)
      have hr1 : Mill.Rep P wr ts[i] u := Mill.Rep.below (fun g h => h) (fun g h => hbwr.block g (hP g h)) _ _ hr
      have hlv := Mill.highs_at ts i hit
      have hih := ih ts[i] u wr P (by omega) (fun g h => by have := hP g h; omega) hr1
      have HS : Hid (Mill.Tr.highs (ts.take (i + 1)) = max (Mill.Tr.highs (ts.take i)) (ts[i].high + 1)) := Mill.highs_step ts i hit
      have hbd : Mill.Tr.highs (ts.take i) ≤ 200000 := Nat.le_trans (Mill.highs_take ts i) (by omega)
      have hbd2 : ts[i].high ≤ 200000 := by omega
      clear hr hr1 HR HC hlv hu
      generalize ts[i].high = q at *
      generalize Mill.Tr.highs (ts.take i) = p at *
      go_wp2_with (go_at_call 30; refine hih.mono ?_; rintro e w2 ⟨rfl, hb2⟩)
      go_roundw
      case rel => exact ⟨i + 1, by omega, by go_num, by rw [HS.out]; exact Mill.max_if p q, hbw.trans (hb2.mono hzr)⟩
      case measure => simp [intOf]; omega
    · have hie : i = m := by omega
      subst hie
      have hT : ts.take i = ts := List.take_of_length_le (by omega)
      rw [hT]
      have hbd : Mill.Tr.highs ts ≤ 200000 := by omega
      clear HR HC hT
      go_wp2
      go_ret
      exact ⟨rfl, hb.trans (hbw.mono hz)⟩

set_option maxRecDepth 100000 in
set_option maxHeartbeats 1000000 in
theorem levels_16 (n : Nat) (hn : n ≤ 200000) (ih : Mill.LevelsTo n) (o t y : Int) (x : ByteArray) (k : Int) (P : Nat → Prop) (ts : List Mill.Tr) (us : List Value) (X : Value) (w : World) (hP : ∀ g, P g → g < w.heap.size) (hk : Mill.Kinded us (ts.map (fun t => t.nd.kind))) (hl : (23 : Int) ≤ 16 → us.length ≤ 60) (hl2 : us.length ≤ 100000) (hI : Mill.Inner P w ⟨16, o, t, y, x, k⟩ us X) (hR : Mill.Reps P w ts us) (hh : Mill.Tr.highs ts ≤ n) :
    Calls Tryz.prog 30 #[.iface 149 X] w fun e w' => e = .returned (.int .i64 ((Mill.Tr.highs ts : Int) + 1)) ∧ Below w.heap.size w w' := by
  have hm := Tryz.meth_returnNode
  have hpt := pt_16 o t y x k P us _ X w hP hk hl hI
  have hul := Mill.Reps.len ts us hR
  obtain ⟨m, HM⟩ : ∃ m, Hid (us.length = m) := ⟨_, (rfl : us.length = _)⟩
  have hml : m ≤ 100000 := by rw [← HM.out]; exact hl2
  have hmt : ts.length = m := by rw [← hul]; exact HM.out
  have hRa := Mill.Reps.at ts us hR
  clear hI hk hl hl2 hul hR
  go_enter Tryz.func30, Tryz.ntmps30
  go_wp2_with (go_at_call 149; refine hpt.mono ?_; rintro e w1 ⟨S, rfl, hb, hS⟩; rw [HM.out] at hS; obtain ⟨sa, sc, rfl, hcl⟩ := hS; generalize Mill.takenN _ us.length = D; rcases D with ⟨c', o', t', y', x', k'⟩; simp only [Mill.ndV])
  have hz := hb.size
  have hba : Below w.heap.size w (w1.alloc (.cells #[.int .i64 c', .int .i64 o', .int .i64 t', .int .i64 y', .string x', .int .i64 k'] 68)) := hb.alloc hz _
  have hcell : ∀ (W : World), Below w1.heap.size w1 W → ∀ (j : Nat) u, us[j]? = some u → ∃ g, sa = some ⟨g, 0, none⟩ ∧ W.cell? ⟨g, j, none⟩ = some u := fun W hW j u hj => by
    obtain ⟨g, ha, hg, hq⟩ := hcl j u hj
    have hg1 : g < w1.heap.size := by
      rcases hg with hg | hg
      · have := hP g hg; omega
      · exact hg.2
    exact ⟨g, ha, by rw [hW.cell (p := ⟨g, j, none⟩) hg1]; exact hq⟩
  clear hcl hpt hm
  have HC : Hid (∀ (W : World), Below w1.heap.size w1 W → ∀ (j : Nat) u, us[j]? = some u → ∃ g, sa = some ⟨g, 0, none⟩ ∧ W.cell? ⟨g, j, none⟩ = some u) := hcell
  have HR : Hid (∀ (i : Nat) (h : i < ts.length), ∃ u, us[i]? = some u ∧ Mill.Rep P w ts[i] u) := hRa
  clear hcell hRa
  go_loopw [5, 15] (fun tm tv wr => ∃ i : Nat, i ≤ m ∧ tv = .int .i64 (i : Int) ∧ tm = .int .i64 (Mill.Tr.highs (ts.take i) : Int) ∧ Below w1.heap.size w1 wr) (fun _ tv _ => m - (intOf tv).toNat)
  case atStart => exact ⟨0, by omega, rfl, rfl, (Below.refl _ w1).alloc (Nat.le_refl _) _⟩
  case round =>
    obtain ⟨i, hi, rfl, rfl, hbw⟩ := hrel
    have hzr := hbw.size
    by_cases hlt : i < m
    · have hit : i < ts.length := by omega
      obtain ⟨u, hu, hr⟩ := HR.out i hit
      obtain ⟨g, rfl, hc⟩ := HC.out wr hbw i u hu
      have hbwr : Below w.heap.size w wr := hb.trans (hbw.mono hz)
      have hr1 : Mill.Rep P wr ts[i] u := Mill.Rep.below (fun g h => h) (fun g h => hbwr.block g (hP g h)) _ _ hr
      have hlv := Mill.highs_at ts i hit
      have hih := ih ts[i] u wr P (by omega) (fun g h => by have := hP g h; omega) hr1
      have HS : Hid (Mill.Tr.highs (ts.take (i + 1)) = max (Mill.Tr.highs (ts.take i)) (ts[i].high + 1)) := Mill.highs_step ts i hit
      have hbd : Mill.Tr.highs (ts.take i) ≤ 200000 := Nat.le_trans (Mill.highs_take ts i) (by omega)
      have hbd2 : ts[i].high ≤ 200000 := by omega
      clear hr hr1 HR HC hlv hu
      generalize ts[i].high = q at *
      generalize Mill.Tr.highs (ts.take i) = p at *
      go_wp2_with (go_at_call 30; refine hih.mono ?_; rintro e w2 ⟨rfl, hb2⟩)
      go_roundw
      case rel => exact ⟨i + 1, by omega, by go_num, by rw [HS.out]; exact Mill.max_if p q, hbw.trans (hb2.mono hzr)⟩
      case measure => simp [intOf]; omega
    · have hie : i = m := by omega
      subst hie
      have hT : ts.take i = ts := List.take_of_length_le (by omega)
      rw [hT]
      have hbd : Mill.Tr.highs ts ≤ 200000 := by omega
      clear HR HC hT
      go_wp2
      go_ret
      exact ⟨rfl, hb.trans (hbw.mono hz)⟩

set_option maxRecDepth 100000 in
set_option maxHeartbeats 1000000 in
theorem levels_17 (n : Nat) (hn : n ≤ 200000) (ih : Mill.LevelsTo n) (o t y : Int) (x : ByteArray) (k : Int) (P : Nat → Prop) (ts : List Mill.Tr) (us : List Value) (X : Value) (w : World) (hP : ∀ g, P g → g < w.heap.size) (hk : Mill.Kinded us (ts.map (fun t => t.nd.kind))) (hl : (23 : Int) ≤ 17 → us.length ≤ 60) (hl2 : us.length ≤ 100000) (hI : Mill.Inner P w ⟨17, o, t, y, x, k⟩ us X) (hR : Mill.Reps P w ts us) (hh : Mill.Tr.highs ts ≤ n) :
    Calls Tryz.prog 30 #[.iface 151 X] w fun e w' => e = .returned (.int .i64 ((Mill.Tr.highs ts : Int) + 1)) ∧ Below w.heap.size w w' := by
  have hm := Tryz.meth_failNode
  have hpt := pt_17 o t y x k P us _ X w hP hk hl hI
  have hul := Mill.Reps.len ts us hR
  obtain ⟨m, HM⟩ : ∃ m, Hid (us.length = m) := ⟨_, (rfl : us.length = _)⟩
  have hml : m ≤ 100000 := by rw [← HM.out]; exact hl2
  have hmt : ts.length = m := by rw [← hul]; exact HM.out
  have hRa := Mill.Reps.at ts us hR
  clear hI hk hl hl2 hul hR
  go_enter Tryz.func30, Tryz.ntmps30
  go_wp2_with (go_at_call 150; refine hpt.mono ?_; rintro e w1 ⟨S, rfl, hb, hS⟩; rw [HM.out] at hS; obtain ⟨sa, sc, rfl, hcl⟩ := hS; generalize Mill.takenN _ us.length = D; rcases D with ⟨c', o', t', y', x', k'⟩; simp only [Mill.ndV])
  have hz := hb.size
  have hba : Below w.heap.size w (w1.alloc (.cells #[.int .i64 c', .int .i64 o', .int .i64 t', .int .i64 y', .string x', .int .i64 k'] 68)) := hb.alloc hz _
  have hcell : ∀ (W : World), Below w1.heap.size w1 W → ∀ (j : Nat) u, us[j]? = some u → ∃ g, sa = some ⟨g, 0, none⟩ ∧ W.cell? ⟨g, j, none⟩ = some u := fun W hW j u hj => by
    obtain ⟨g, ha, hg, hq⟩ := hcl j u hj
    have hg1 : g < w1.heap.size := by
      rcases hg with hg | hg
      · have := hP g hg; omega
      · exact hg.2
    exact ⟨g, ha, by rw [hW.cell (p := ⟨g, j, none⟩) hg1]; exact hq⟩
  clear hcl hpt hm
  have HC : Hid (∀ (W : World), Below w1.heap.size w1 W → ∀ (j : Nat) u, us[j]? = some u → ∃ g, sa = some ⟨g, 0, none⟩ ∧ W.cell? ⟨g, j, none⟩ = some u) := hcell
  have HR : Hid (∀ (i : Nat) (h : i < ts.length), ∃ u, us[i]? = some u ∧ Mill.Rep P w ts[i] u) := hRa
  clear hcell hRa
  go_loopw [5, 15] (fun tm tv wr => ∃ i : Nat, i ≤ m ∧ tv = .int .i64 (i : Int) ∧ tm = .int .i64 (Mill.Tr.highs (ts.take i) : Int) ∧ Below w1.heap.size w1 wr) (fun _ tv _ => m - (intOf tv).toNat)
  case atStart => exact ⟨0, by omega, rfl, rfl, (Below.refl _ w1).alloc (Nat.le_refl _) _⟩
  case round =>
    obtain ⟨i, hi, rfl, rfl, hbw⟩ := hrel
    have hzr := hbw.size
    by_cases hlt : i < m
    · have hit : i < ts.length := by omega
      obtain ⟨u, hu, hr⟩ := HR.out i hit
      obtain ⟨g, rfl, hc⟩ := HC.out wr hbw i u hu
      have hbwr : Below w.heap.size w wr := hb.trans (hbw.mono hz)
      have hr1 : Mill.Rep P wr ts[i] u := Mill.Rep.below (fun g h => h) (fun g h => hbwr.block g (hP g h)) _ _ hr
      have hlv := Mill.highs_at ts i hit
      have hih := ih ts[i] u wr P (by omega) (fun g h => by have := hP g h; omega) hr1
      have HS : Hid (Mill.Tr.highs (ts.take (i + 1)) = max (Mill.Tr.highs (ts.take i)) (ts[i].high + 1)) := Mill.highs_step ts i hit
      have hbd : Mill.Tr.highs (ts.take i) ≤ 200000 := Nat.le_trans (Mill.highs_take ts i) (by omega)
      have hbd2 : ts[i].high ≤ 200000 := by omega
      clear hr hr1 HR HC hlv hu
      generalize ts[i].high = q at *
      generalize Mill.Tr.highs (ts.take i) = p at *
      go_wp2_with (go_at_call 30; refine hih.mono ?_; rintro e w2 ⟨rfl, hb2⟩)
      go_roundw
      case rel => exact ⟨i + 1, by omega, by go_num, by rw [HS.out]; exact Mill.max_if p q, hbw.trans (hb2.mono hzr)⟩
      case measure => simp [intOf]; omega
    · have hie : i = m := by omega
      subst hie
      have hT : ts.take i = ts := List.take_of_length_le (by omega)
      rw [hT]
      have hbd : Mill.Tr.highs ts ≤ 200000 := by omega
      clear HR HC hT
      go_wp2
      go_ret
      exact ⟨rfl, hb.trans (hbw.mono hz)⟩

set_option maxRecDepth 100000 in
set_option maxHeartbeats 1000000 in
theorem levels_18 (n : Nat) (hn : n ≤ 200000) (ih : Mill.LevelsTo n) (o t y : Int) (x : ByteArray) (k : Int) (P : Nat → Prop) (ts : List Mill.Tr) (us : List Value) (X : Value) (w : World) (hP : ∀ g, P g → g < w.heap.size) (hk : Mill.Kinded us (ts.map (fun t => t.nd.kind))) (hl : (23 : Int) ≤ 18 → us.length ≤ 60) (hl2 : us.length ≤ 100000) (hI : Mill.Inner P w ⟨18, o, t, y, x, k⟩ us X) (hR : Mill.Reps P w ts us) (hh : Mill.Tr.highs ts ≤ n) :
    Calls Tryz.prog 30 #[.iface 153 X] w fun e w' => e = .returned (.int .i64 ((Mill.Tr.highs ts : Int) + 1)) ∧ Below w.heap.size w w' := by
  have hm := Tryz.meth_writeNode
  have hpt := pt_18 o t y x k P us _ X w hP hk hl hI
  have hul := Mill.Reps.len ts us hR
  obtain ⟨m, HM⟩ : ∃ m, Hid (us.length = m) := ⟨_, (rfl : us.length = _)⟩
  have hml : m ≤ 100000 := by rw [← HM.out]; exact hl2
  have hmt : ts.length = m := by rw [← hul]; exact HM.out
  have hRa := Mill.Reps.at ts us hR
  clear hI hk hl hl2 hul hR
  go_enter Tryz.func30, Tryz.ntmps30
  go_wp2_with (go_at_call 151; refine hpt.mono ?_; rintro e w1 ⟨S, rfl, hb, hS⟩; rw [HM.out] at hS; obtain ⟨sa, sc, rfl, hcl⟩ := hS; generalize Mill.takenN _ us.length = D; rcases D with ⟨c', o', t', y', x', k'⟩; simp only [Mill.ndV])
  have hz := hb.size
  have hba : Below w.heap.size w (w1.alloc (.cells #[.int .i64 c', .int .i64 o', .int .i64 t', .int .i64 y', .string x', .int .i64 k'] 68)) := hb.alloc hz _
  have hcell : ∀ (W : World), Below w1.heap.size w1 W → ∀ (j : Nat) u, us[j]? = some u → ∃ g, sa = some ⟨g, 0, none⟩ ∧ W.cell? ⟨g, j, none⟩ = some u := fun W hW j u hj => by
    obtain ⟨g, ha, hg, hq⟩ := hcl j u hj
    have hg1 : g < w1.heap.size := by
      rcases hg with hg | hg
      · have := hP g hg; omega
      · exact hg.2
    exact ⟨g, ha, by rw [hW.cell (p := ⟨g, j, none⟩) hg1]; exact hq⟩
  clear hcl hpt hm
  have HC : Hid (∀ (W : World), Below w1.heap.size w1 W → ∀ (j : Nat) u, us[j]? = some u → ∃ g, sa = some ⟨g, 0, none⟩ ∧ W.cell? ⟨g, j, none⟩ = some u) := hcell
  have HR : Hid (∀ (i : Nat) (h : i < ts.length), ∃ u, us[i]? = some u ∧ Mill.Rep P w ts[i] u) := hRa
  clear hcell hRa
  go_loopw [5, 15] (fun tm tv wr => ∃ i : Nat, i ≤ m ∧ tv = .int .i64 (i : Int) ∧ tm = .int .i64 (Mill.Tr.highs (ts.take i) : Int) ∧ Below w1.heap.size w1 wr) (fun _ tv _ => m - (intOf tv).toNat)
  case atStart => exact ⟨0, by omega, rfl, rfl, (Below.refl _ w1).alloc (Nat.le_refl _) _⟩
  case round =>
    obtain ⟨i, hi, rfl, rfl, hbw⟩ := hrel
    have hzr := hbw.size
    by_cases hlt : i < m
    · have hit : i < ts.length := by omega
      obtain ⟨u, hu, hr⟩ := HR.out i hit
      obtain ⟨g, rfl, hc⟩ := HC.out wr hbw i u hu
      have hbwr : Below w.heap.size w wr := hb.trans (hbw.mono hz)
      have hr1 : Mill.Rep P wr ts[i] u := Mill.Rep.below (fun g h => h) (fun g h => hbwr.block g (hP g h)) _ _ hr
      have hlv := Mill.highs_at ts i hit
      have hih := ih ts[i] u wr P (by omega) (fun g h => by have := hP g h; omega) hr1
      have HS : Hid (Mill.Tr.highs (ts.take (i + 1)) = max (Mill.Tr.highs (ts.take i)) (ts[i].high + 1)) := Mill.highs_step ts i hit
      have hbd : Mill.Tr.highs (ts.take i) ≤ 200000 := Nat.le_trans (Mill.highs_take ts i) (by omega)
      have hbd2 : ts[i].high ≤ 200000 := by omega
      clear hr hr1 HR HC hlv hu
      generalize ts[i].high = q at *
      generalize Mill.Tr.highs (ts.take i) = p at *
      go_wp2_with (go_at_call 30; refine hih.mono ?_; rintro e w2 ⟨rfl, hb2⟩)
      go_roundw
      case rel => exact ⟨i + 1, by omega, by go_num, by rw [HS.out]; exact Mill.max_if p q, hbw.trans (hb2.mono hzr)⟩
      case measure => simp [intOf]; omega
    · have hie : i = m := by omega
      subst hie
      have hT : ts.take i = ts := List.take_of_length_le (by omega)
      rw [hT]
      have hbd : Mill.Tr.highs ts ≤ 200000 := by omega
      clear HR HC hT
      go_wp2
      go_ret
      exact ⟨rfl, hb.trans (hbw.mono hz)⟩

set_option maxRecDepth 100000 in
set_option maxHeartbeats 1000000 in
theorem levels_19 (n : Nat) (hn : n ≤ 200000) (ih : Mill.LevelsTo n) (o t y : Int) (x : ByteArray) (k : Int) (P : Nat → Prop) (ts : List Mill.Tr) (us : List Value) (X : Value) (w : World) (hP : ∀ g, P g → g < w.heap.size) (hk : Mill.Kinded us (ts.map (fun t => t.nd.kind))) (hl : (23 : Int) ≤ 19 → us.length ≤ 60) (hl2 : us.length ≤ 100000) (hI : Mill.Inner P w ⟨19, o, t, y, x, k⟩ us X) (hR : Mill.Reps P w ts us) (hh : Mill.Tr.highs ts ≤ n) :
    Calls Tryz.prog 30 #[.iface 154 X] w fun e w' => e = .returned (.int .i64 ((Mill.Tr.highs ts : Int) + 1)) ∧ Below w.heap.size w w' := by
  have hm := Tryz.meth_sayNode
  have hpt := pt_19 o t y x k P us _ X w hP hk hl hI
  have hul := Mill.Reps.len ts us hR
  obtain ⟨m, HM⟩ : ∃ m, Hid (us.length = m) := ⟨_, (rfl : us.length = _)⟩
  have hml : m ≤ 100000 := by rw [← HM.out]; exact hl2
  have hmt : ts.length = m := by rw [← hul]; exact HM.out
  have hRa := Mill.Reps.at ts us hR
  clear hI hk hl hl2 hul hR
  go_enter Tryz.func30, Tryz.ntmps30
  go_wp2_with (go_at_call 152; refine hpt.mono ?_; rintro e w1 ⟨S, rfl, hb, hS⟩; rw [HM.out] at hS; obtain ⟨sa, sc, rfl, hcl⟩ := hS; generalize Mill.takenN _ us.length = D; rcases D with ⟨c', o', t', y', x', k'⟩; simp only [Mill.ndV])
  have hz := hb.size
  have hba : Below w.heap.size w (w1.alloc (.cells #[.int .i64 c', .int .i64 o', .int .i64 t', .int .i64 y', .string x', .int .i64 k'] 68)) := hb.alloc hz _
  have hcell : ∀ (W : World), Below w1.heap.size w1 W → ∀ (j : Nat) u, us[j]? = some u → ∃ g, sa = some ⟨g, 0, none⟩ ∧ W.cell? ⟨g, j, none⟩ = some u := fun W hW j u hj => by
    obtain ⟨g, ha, hg, hq⟩ := hcl j u hj
    have hg1 : g < w1.heap.size := by
      rcases hg with hg | hg
      · have := hP g hg; omega
      · exact hg.2
    exact ⟨g, ha, by rw [hW.cell (p := ⟨g, j, none⟩) hg1]; exact hq⟩
  clear hcl hpt hm
  have HC : Hid (∀ (W : World), Below w1.heap.size w1 W → ∀ (j : Nat) u, us[j]? = some u → ∃ g, sa = some ⟨g, 0, none⟩ ∧ W.cell? ⟨g, j, none⟩ = some u) := hcell
  have HR : Hid (∀ (i : Nat) (h : i < ts.length), ∃ u, us[i]? = some u ∧ Mill.Rep P w ts[i] u) := hRa
  clear hcell hRa
  go_loopw [5, 15] (fun tm tv wr => ∃ i : Nat, i ≤ m ∧ tv = .int .i64 (i : Int) ∧ tm = .int .i64 (Mill.Tr.highs (ts.take i) : Int) ∧ Below w1.heap.size w1 wr) (fun _ tv _ => m - (intOf tv).toNat)
  case atStart => exact ⟨0, by omega, rfl, rfl, (Below.refl _ w1).alloc (Nat.le_refl _) _⟩
  case round =>
    obtain ⟨i, hi, rfl, rfl, hbw⟩ := hrel
    have hzr := hbw.size
    by_cases hlt : i < m
    · have hit : i < ts.length := by omega
      obtain ⟨u, hu, hr⟩ := HR.out i hit
      obtain ⟨g, rfl, hc⟩ := HC.out wr hbw i u hu
      have hbwr : Below w.heap.size w wr := hb.trans (hbw.mono hz)
      have hr1 : Mill.Rep P wr ts[i] u := Mill.Rep.below (fun g h => h) (fun g h => hbwr.block g (hP g h)) _ _ hr
      have hlv := Mill.highs_at ts i hit
      have hih := ih ts[i] u wr P (by omega) (fun g h => by have := hP g h; omega) hr1
      have HS : Hid (Mill.Tr.highs (ts.take (i + 1)) = max (Mill.Tr.highs (ts.take i)) (ts[i].high + 1)) := Mill.highs_step ts i hit
      have hbd : Mill.Tr.highs (ts.take i) ≤ 200000 := Nat.le_trans (Mill.highs_take ts i) (by omega)
      have hbd2 : ts[i].high ≤ 200000 := by omega
      clear hr hr1 HR HC hlv hu
      generalize ts[i].high = q at *
      generalize Mill.Tr.highs (ts.take i) = p at *
      go_wp2_with (go_at_call 30; refine hih.mono ?_; rintro e w2 ⟨rfl, hb2⟩)
      go_roundw
      case rel => exact ⟨i + 1, by omega, by go_num, by rw [HS.out]; exact Mill.max_if p q, hbw.trans (hb2.mono hzr)⟩
      case measure => simp [intOf]; omega
    · have hie : i = m := by omega
      subst hie
      have hT : ts.take i = ts := List.take_of_length_le (by omega)
      rw [hT]
      have hbd : Mill.Tr.highs ts ≤ 200000 := by omega
      clear HR HC hT
      go_wp2
      go_ret
      exact ⟨rfl, hb.trans (hbw.mono hz)⟩

set_option maxRecDepth 100000 in
set_option maxHeartbeats 1000000 in
theorem levels_20 (n : Nat) (hn : n ≤ 200000) (ih : Mill.LevelsTo n) (o t y : Int) (x : ByteArray) (k : Int) (P : Nat → Prop) (ts : List Mill.Tr) (us : List Value) (X : Value) (w : World) (hP : ∀ g, P g → g < w.heap.size) (hk : Mill.Kinded us (ts.map (fun t => t.nd.kind))) (hl : (23 : Int) ≤ 20 → us.length ≤ 60) (hl2 : us.length ≤ 100000) (hI : Mill.Inner P w ⟨20, o, t, y, x, k⟩ us X) (hR : Mill.Reps P w ts us) (hh : Mill.Tr.highs ts ≤ n) :
    Calls Tryz.prog 30 #[.iface 160 X] w fun e w' => e = .returned (.int .i64 ((Mill.Tr.highs ts : Int) + 1)) ∧ Below w.heap.size w w' := by
  have hm := Tryz.meth_doNode
  have hpt := pt_20 o t y x k P us _ X w hP hk hl hI
  have hul := Mill.Reps.len ts us hR
  obtain ⟨m, HM⟩ : ∃ m, Hid (us.length = m) := ⟨_, (rfl : us.length = _)⟩
  have hml : m ≤ 100000 := by rw [← HM.out]; exact hl2
  have hmt : ts.length = m := by rw [← hul]; exact HM.out
  have hRa := Mill.Reps.at ts us hR
  clear hI hk hl hl2 hul hR
  go_enter Tryz.func30, Tryz.ntmps30
  go_wp2_with (go_at_call 155; refine hpt.mono ?_; rintro e w1 ⟨S, rfl, hb, hS⟩; rw [HM.out] at hS; obtain ⟨sa, sc, rfl, hcl⟩ := hS; generalize Mill.takenN _ us.length = D; rcases D with ⟨c', o', t', y', x', k'⟩; simp only [Mill.ndV])
  have hz := hb.size
  have hba : Below w.heap.size w (w1.alloc (.cells #[.int .i64 c', .int .i64 o', .int .i64 t', .int .i64 y', .string x', .int .i64 k'] 68)) := hb.alloc hz _
  have hcell : ∀ (W : World), Below w1.heap.size w1 W → ∀ (j : Nat) u, us[j]? = some u → ∃ g, sa = some ⟨g, 0, none⟩ ∧ W.cell? ⟨g, j, none⟩ = some u := fun W hW j u hj => by
    obtain ⟨g, ha, hg, hq⟩ := hcl j u hj
    have hg1 : g < w1.heap.size := by
      rcases hg with hg | hg
      · have := hP g hg; omega
      · exact hg.2
    exact ⟨g, ha, by rw [hW.cell (p := ⟨g, j, none⟩) hg1]; exact hq⟩
  clear hcl hpt hm
  have HC : Hid (∀ (W : World), Below w1.heap.size w1 W → ∀ (j : Nat) u, us[j]? = some u → ∃ g, sa = some ⟨g, 0, none⟩ ∧ W.cell? ⟨g, j, none⟩ = some u) := hcell
  have HR : Hid (∀ (i : Nat) (h : i < ts.length), ∃ u, us[i]? = some u ∧ Mill.Rep P w ts[i] u) := hRa
  clear hcell hRa
  go_loopw [5, 15] (fun tm tv wr => ∃ i : Nat, i ≤ m ∧ tv = .int .i64 (i : Int) ∧ tm = .int .i64 (Mill.Tr.highs (ts.take i) : Int) ∧ Below w1.heap.size w1 wr) (fun _ tv _ => m - (intOf tv).toNat)
  case atStart => exact ⟨0, by omega, rfl, rfl, (Below.refl _ w1).alloc (Nat.le_refl _) _⟩
  case round =>
    obtain ⟨i, hi, rfl, rfl, hbw⟩ := hrel
    have hzr := hbw.size
    by_cases hlt : i < m
    · have hit : i < ts.length := by omega
      obtain ⟨u, hu, hr⟩ := HR.out i hit
      obtain ⟨g, rfl, hc⟩ := HC.out wr hbw i u hu
      have hbwr : Below w.heap.size w wr := hb.trans (hbw.mono hz)
      have hr1 : Mill.Rep P wr ts[i] u := Mill.Rep.below (fun g h => h) (fun g h => hbwr.block g (hP g h)) _ _ hr
      have hlv := Mill.highs_at ts i hit
      have hih := ih ts[i] u wr P (by omega) (fun g h => by have := hP g h; omega) hr1
      have HS : Hid (Mill.Tr.highs (ts.take (i + 1)) = max (Mill.Tr.highs (ts.take i)) (ts[i].high + 1)) := Mill.highs_step ts i hit
      have hbd : Mill.Tr.highs (ts.take i) ≤ 200000 := Nat.le_trans (Mill.highs_take ts i) (by omega)
      have hbd2 : ts[i].high ≤ 200000 := by omega
      clear hr hr1 HR HC hlv hu
      generalize ts[i].high = q at *
      generalize Mill.Tr.highs (ts.take i) = p at *
      go_wp2_with (go_at_call 30; refine hih.mono ?_; rintro e w2 ⟨rfl, hb2⟩)
      go_roundw
      case rel => exact ⟨i + 1, by omega, by go_num, by rw [HS.out]; exact Mill.max_if p q, hbw.trans (hb2.mono hzr)⟩
      case measure => simp [intOf]; omega
    · have hie : i = m := by omega
      subst hie
      have hT : ts.take i = ts := List.take_of_length_le (by omega)
      rw [hT]
      have hbd : Mill.Tr.highs ts ≤ 200000 := by omega
      clear HR HC hT
      go_wp2
      go_ret
      exact ⟨rfl, hb.trans (hbw.mono hz)⟩

set_option maxRecDepth 100000 in
set_option maxHeartbeats 1000000 in
theorem levels_21 (n : Nat) (hn : n ≤ 200000) (ih : Mill.LevelsTo n) (o t y : Int) (x : ByteArray) (k : Int) (P : Nat → Prop) (ts : List Mill.Tr) (us : List Value) (X : Value) (w : World) (hP : ∀ g, P g → g < w.heap.size) (hk : Mill.Kinded us (ts.map (fun t => t.nd.kind))) (hl : (23 : Int) ≤ 21 → us.length ≤ 60) (hl2 : us.length ≤ 100000) (hI : Mill.Inner P w ⟨21, o, t, y, x, k⟩ us X) (hR : Mill.Reps P w ts us) (hh : Mill.Tr.highs ts ≤ n) :
    Calls Tryz.prog 30 #[.iface 58 X] w fun e w' => e = .returned (.int .i64 ((Mill.Tr.highs ts : Int) + 1)) ∧ Below w.heap.size w w' := by
  have hm := Tryz.meth_blockNode
  have hpt := pt_21 o t y x k P us _ X w hP hk hl hI
  have hul := Mill.Reps.len ts us hR
  obtain ⟨m, HM⟩ : ∃ m, Hid (us.length = m) := ⟨_, (rfl : us.length = _)⟩
  have hml : m ≤ 100000 := by rw [← HM.out]; exact hl2
  have hmt : ts.length = m := by rw [← hul]; exact HM.out
  have hRa := Mill.Reps.at ts us hR
  clear hI hk hl hl2 hul hR
  go_enter Tryz.func30, Tryz.ntmps30
  go_wp2_with (go_at_call 133; refine hpt.mono ?_; rintro e w1 ⟨S, rfl, hb, hS⟩; rw [HM.out] at hS; obtain ⟨sa, sc, rfl, hcl⟩ := hS; generalize Mill.takenN _ us.length = D; rcases D with ⟨c', o', t', y', x', k'⟩; simp only [Mill.ndV])
  have hz := hb.size
  have hba : Below w.heap.size w (w1.alloc (.cells #[.int .i64 c', .int .i64 o', .int .i64 t', .int .i64 y', .string x', .int .i64 k'] 68)) := hb.alloc hz _
  have hcell : ∀ (W : World), Below w1.heap.size w1 W → ∀ (j : Nat) u, us[j]? = some u → ∃ g, sa = some ⟨g, 0, none⟩ ∧ W.cell? ⟨g, j, none⟩ = some u := fun W hW j u hj => by
    obtain ⟨g, ha, hg, hq⟩ := hcl j u hj
    have hg1 : g < w1.heap.size := by
      rcases hg with hg | hg
      · have := hP g hg; omega
      · exact hg.2
    exact ⟨g, ha, by rw [hW.cell (p := ⟨g, j, none⟩) hg1]; exact hq⟩
  clear hcl hpt hm
  have HC : Hid (∀ (W : World), Below w1.heap.size w1 W → ∀ (j : Nat) u, us[j]? = some u → ∃ g, sa = some ⟨g, 0, none⟩ ∧ W.cell? ⟨g, j, none⟩ = some u) := hcell
  have HR : Hid (∀ (i : Nat) (h : i < ts.length), ∃ u, us[i]? = some u ∧ Mill.Rep P w ts[i] u) := hRa
  clear hcell hRa
  go_loopw [5, 15] (fun tm tv wr => ∃ i : Nat, i ≤ m ∧ tv = .int .i64 (i : Int) ∧ tm = .int .i64 (Mill.Tr.highs (ts.take i) : Int) ∧ Below w1.heap.size w1 wr) (fun _ tv _ => m - (intOf tv).toNat)
  case atStart => exact ⟨0, by omega, rfl, rfl, (Below.refl _ w1).alloc (Nat.le_refl _) _⟩
  case round =>
    obtain ⟨i, hi, rfl, rfl, hbw⟩ := hrel
    have hzr := hbw.size
    by_cases hlt : i < m
    · have hit : i < ts.length := by omega
      obtain ⟨u, hu, hr⟩ := HR.out i hit
      obtain ⟨g, rfl, hc⟩ := HC.out wr hbw i u hu
      have hbwr : Below w.heap.size w wr := hb.trans (hbw.mono hz)
      have hr1 : Mill.Rep P wr ts[i] u := Mill.Rep.below (fun g h => h) (fun g h => hbwr.block g (hP g h)) _ _ hr
      have hlv := Mill.highs_at ts i hit
      have hih := ih ts[i] u wr P (by omega) (fun g h => by have := hP g h; omega) hr1
      have HS : Hid (Mill.Tr.highs (ts.take (i + 1)) = max (Mill.Tr.highs (ts.take i)) (ts[i].high + 1)) := Mill.highs_step ts i hit
      have hbd : Mill.Tr.highs (ts.take i) ≤ 200000 := Nat.le_trans (Mill.highs_take ts i) (by omega)
      have hbd2 : ts[i].high ≤ 200000 := by omega
      clear hr hr1 HR HC hlv hu
      generalize ts[i].high = q at *
      generalize Mill.Tr.highs (ts.take i) = p at *
      go_wp2_with (go_at_call 30; refine hih.mono ?_; rintro e w2 ⟨rfl, hb2⟩)
      go_roundw
      case rel => exact ⟨i + 1, by omega, by go_num, by rw [HS.out]; exact Mill.max_if p q, hbw.trans (hb2.mono hzr)⟩
      case measure => simp [intOf]; omega
    · have hie : i = m := by omega
      subst hie
      have hT : ts.take i = ts := List.take_of_length_le (by omega)
      rw [hT]
      have hbd : Mill.Tr.highs ts ≤ 200000 := by omega
      clear HR HC hT
      go_wp2
      go_ret
      exact ⟨rfl, hb.trans (hbw.mono hz)⟩

set_option maxRecDepth 100000 in
set_option maxHeartbeats 1000000 in
theorem levels_22 (n : Nat) (hn : n ≤ 200000) (ih : Mill.LevelsTo n) (o t y : Int) (x : ByteArray) (k : Int) (P : Nat → Prop) (ts : List Mill.Tr) (us : List Value) (X : Value) (w : World) (hP : ∀ g, P g → g < w.heap.size) (hk : Mill.Kinded us (ts.map (fun t => t.nd.kind))) (hl : (23 : Int) ≤ 22 → us.length ≤ 60) (hl2 : us.length ≤ 100000) (hI : Mill.Inner P w ⟨22, o, t, y, x, k⟩ us X) (hR : Mill.Reps P w ts us) (hh : Mill.Tr.highs ts ≤ n) :
    Calls Tryz.prog 30 #[.iface 85 X] w fun e w' => e = .returned (.int .i64 ((Mill.Tr.highs ts : Int) + 1)) ∧ Below w.heap.size w w' := by
  have hm := Tryz.meth_paramNode
  have hpt := pt_22 o t y x k P us _ X w hP hk hl hI
  have hul := Mill.Reps.len ts us hR
  obtain ⟨m, HM⟩ : ∃ m, Hid (us.length = m) := ⟨_, (rfl : us.length = _)⟩
  have hml : m ≤ 100000 := by rw [← HM.out]; exact hl2
  have hmt : ts.length = m := by rw [← hul]; exact HM.out
  have hRa := Mill.Reps.at ts us hR
  clear hI hk hl hl2 hul hR
  go_enter Tryz.func30, Tryz.ntmps30
  go_wp2_with (go_at_call 135; refine hpt.mono ?_; rintro e w1 ⟨S, rfl, hb, hS⟩; rw [HM.out] at hS; obtain ⟨sa, sc, rfl, hcl⟩ := hS; generalize Mill.takenN _ us.length = D; rcases D with ⟨c', o', t', y', x', k'⟩; simp only [Mill.ndV])
  have hz := hb.size
  have hba : Below w.heap.size w (w1.alloc (.cells #[.int .i64 c', .int .i64 o', .int .i64 t', .int .i64 y', .string x', .int .i64 k'] 68)) := hb.alloc hz _
  have hcell : ∀ (W : World), Below w1.heap.size w1 W → ∀ (j : Nat) u, us[j]? = some u → ∃ g, sa = some ⟨g, 0, none⟩ ∧ W.cell? ⟨g, j, none⟩ = some u := fun W hW j u hj => by
    obtain ⟨g, ha, hg, hq⟩ := hcl j u hj
    have hg1 : g < w1.heap.size := by
      rcases hg with hg | hg
      · have := hP g hg; omega
      · exact hg.2
    exact ⟨g, ha, by rw [hW.cell (p := ⟨g, j, none⟩) hg1]; exact hq⟩
  clear hcl hpt hm
  have HC : Hid (∀ (W : World), Below w1.heap.size w1 W → ∀ (j : Nat) u, us[j]? = some u → ∃ g, sa = some ⟨g, 0, none⟩ ∧ W.cell? ⟨g, j, none⟩ = some u) := hcell
  have HR : Hid (∀ (i : Nat) (h : i < ts.length), ∃ u, us[i]? = some u ∧ Mill.Rep P w ts[i] u) := hRa
  clear hcell hRa
  go_loopw [5, 15] (fun tm tv wr => ∃ i : Nat, i ≤ m ∧ tv = .int .i64 (i : Int) ∧ tm = .int .i64 (Mill.Tr.highs (ts.take i) : Int) ∧ Below w1.heap.size w1 wr) (fun _ tv _ => m - (intOf tv).toNat)
  case atStart => exact ⟨0, by omega, rfl, rfl, (Below.refl _ w1).alloc (Nat.le_refl _) _⟩
  case round =>
    obtain ⟨i, hi, rfl, rfl, hbw⟩ := hrel
    have hzr := hbw.size
    by_cases hlt : i < m
    · have hit : i < ts.length := by omega
      obtain ⟨u, hu, hr⟩ := HR.out i hit
      obtain ⟨g, rfl, hc⟩ := HC.out wr hbw i u hu
      have hbwr : Below w.heap.size w wr := hb.trans (hbw.mono hz)
      have hr1 : Mill.Rep P wr ts[i] u := Mill.Rep.below (fun g h => h) (fun g h => hbwr.block g (hP g h)) _ _ hr
      have hlv := Mill.highs_at ts i hit
      have hih := ih ts[i] u wr P (by omega) (fun g h => by have := hP g h; omega) hr1
      have HS : Hid (Mill.Tr.highs (ts.take (i + 1)) = max (Mill.Tr.highs (ts.take i)) (ts[i].high + 1)) := Mill.highs_step ts i hit
      have hbd : Mill.Tr.highs (ts.take i) ≤ 200000 := Nat.le_trans (Mill.highs_take ts i) (by omega)
      have hbd2 : ts[i].high ≤ 200000 := by omega
      clear hr hr1 HR HC hlv hu
      generalize ts[i].high = q at *
      generalize Mill.Tr.highs (ts.take i) = p at *
      go_wp2_with (go_at_call 30; refine hih.mono ?_; rintro e w2 ⟨rfl, hb2⟩)
      go_roundw
      case rel => exact ⟨i + 1, by omega, by go_num, by rw [HS.out]; exact Mill.max_if p q, hbw.trans (hb2.mono hzr)⟩
      case measure => simp [intOf]; omega
    · have hie : i = m := by omega
      subst hie
      have hT : ts.take i = ts := List.take_of_length_le (by omega)
      rw [hT]
      have hbd : Mill.Tr.highs ts ≤ 200000 := by omega
      clear HR HC hT
      go_wp2
      go_ret
      exact ⟨rfl, hb.trans (hbw.mono hz)⟩

set_option maxRecDepth 100000 in
set_option maxHeartbeats 1000000 in
theorem levels_23 (n : Nat) (hn : n ≤ 200000) (ih : Mill.LevelsTo n) (o t y : Int) (x : ByteArray) (k : Int) (P : Nat → Prop) (ts : List Mill.Tr) (us : List Value) (X : Value) (w : World) (hP : ∀ g, P g → g < w.heap.size) (hk : Mill.Kinded us (ts.map (fun t => t.nd.kind))) (hl : (23 : Int) ≤ 23 → us.length ≤ 60) (hl2 : us.length ≤ 100000) (hI : Mill.Inner P w ⟨23, o, t, y, x, k⟩ us X) (hR : Mill.Reps P w ts us) (hh : Mill.Tr.highs ts ≤ n) :
    Calls Tryz.prog 30 #[.iface 60 X] w fun e w' => e = .returned (.int .i64 ((Mill.Tr.highs ts : Int) + 1)) ∧ Below w.heap.size w w' := by
  have hm := Tryz.meth_fnNode
  have hpt := pt_23 o t y x k P us _ X w hP hk hl hI
  have hul := Mill.Reps.len ts us hR
  obtain ⟨m, HM⟩ : ∃ m, Hid (us.length = m) := ⟨_, (rfl : us.length = _)⟩
  have hml : m ≤ 100000 := by rw [← HM.out]; exact hl2
  have hmt : ts.length = m := by rw [← hul]; exact HM.out
  have hRa := Mill.Reps.at ts us hR
  clear hI hk hl hl2 hul hR
  go_enter Tryz.func30, Tryz.ntmps30
  go_wp2_with (go_at_call 134; refine hpt.mono ?_; rintro e w1 ⟨S, rfl, hb, hS⟩; rw [HM.out] at hS; obtain ⟨sa, sc, rfl, hcl⟩ := hS; generalize Mill.takenN _ us.length = D; rcases D with ⟨c', o', t', y', x', k'⟩; simp only [Mill.ndV])
  have hz := hb.size
  have hba : Below w.heap.size w (w1.alloc (.cells #[.int .i64 c', .int .i64 o', .int .i64 t', .int .i64 y', .string x', .int .i64 k'] 68)) := hb.alloc hz _
  have hcell : ∀ (W : World), Below w1.heap.size w1 W → ∀ (j : Nat) u, us[j]? = some u → ∃ g, sa = some ⟨g, 0, none⟩ ∧ W.cell? ⟨g, j, none⟩ = some u := fun W hW j u hj => by
    obtain ⟨g, ha, hg, hq⟩ := hcl j u hj
    have hg1 : g < w1.heap.size := by
      rcases hg with hg | hg
      · have := hP g hg; omega
      · exact hg.2
    exact ⟨g, ha, by rw [hW.cell (p := ⟨g, j, none⟩) hg1]; exact hq⟩
  clear hcl hpt hm
  have HC : Hid (∀ (W : World), Below w1.heap.size w1 W → ∀ (j : Nat) u, us[j]? = some u → ∃ g, sa = some ⟨g, 0, none⟩ ∧ W.cell? ⟨g, j, none⟩ = some u) := hcell
  have HR : Hid (∀ (i : Nat) (h : i < ts.length), ∃ u, us[i]? = some u ∧ Mill.Rep P w ts[i] u) := hRa
  clear hcell hRa
  go_loopw [5, 15] (fun tm tv wr => ∃ i : Nat, i ≤ m ∧ tv = .int .i64 (i : Int) ∧ tm = .int .i64 (Mill.Tr.highs (ts.take i) : Int) ∧ Below w1.heap.size w1 wr) (fun _ tv _ => m - (intOf tv).toNat)
  case atStart => exact ⟨0, by omega, rfl, rfl, (Below.refl _ w1).alloc (Nat.le_refl _) _⟩
  case round =>
    obtain ⟨i, hi, rfl, rfl, hbw⟩ := hrel
    have hzr := hbw.size
    by_cases hlt : i < m
    · have hit : i < ts.length := by omega
      obtain ⟨u, hu, hr⟩ := HR.out i hit
      obtain ⟨g, rfl, hc⟩ := HC.out wr hbw i u hu
      have hbwr : Below w.heap.size w wr := hb.trans (hbw.mono hz)
      have hr1 : Mill.Rep P wr ts[i] u := Mill.Rep.below (fun g h => h) (fun g h => hbwr.block g (hP g h)) _ _ hr
      have hlv := Mill.highs_at ts i hit
      have hih := ih ts[i] u wr P (by omega) (fun g h => by have := hP g h; omega) hr1
      have HS : Hid (Mill.Tr.highs (ts.take (i + 1)) = max (Mill.Tr.highs (ts.take i)) (ts[i].high + 1)) := Mill.highs_step ts i hit
      have hbd : Mill.Tr.highs (ts.take i) ≤ 200000 := Nat.le_trans (Mill.highs_take ts i) (by omega)
      have hbd2 : ts[i].high ≤ 200000 := by omega
      clear hr hr1 HR HC hlv hu
      generalize ts[i].high = q at *
      generalize Mill.Tr.highs (ts.take i) = p at *
      go_wp2_with (go_at_call 30; refine hih.mono ?_; rintro e w2 ⟨rfl, hb2⟩)
      go_roundw
      case rel => exact ⟨i + 1, by omega, by go_num, by rw [HS.out]; exact Mill.max_if p q, hbw.trans (hb2.mono hzr)⟩
      case measure => simp [intOf]; omega
    · have hie : i = m := by omega
      subst hie
      have hT : ts.take i = ts := List.take_of_length_le (by omega)
      rw [hT]
      have hbd : Mill.Tr.highs ts ≤ 200000 := by omega
      clear HR HC hT
      go_wp2
      go_ret
      exact ⟨rfl, hb.trans (hbw.mono hz)⟩

set_option maxRecDepth 100000 in
set_option maxHeartbeats 1000000 in
theorem levels_24 (n : Nat) (hn : n ≤ 200000) (ih : Mill.LevelsTo n) (o t y : Int) (x : ByteArray) (k : Int) (P : Nat → Prop) (ts : List Mill.Tr) (us : List Value) (X : Value) (w : World) (hP : ∀ g, P g → g < w.heap.size) (hk : Mill.Kinded us (ts.map (fun t => t.nd.kind))) (hl : (23 : Int) ≤ 24 → us.length ≤ 60) (hl2 : us.length ≤ 100000) (hI : Mill.Inner P w ⟨24, o, t, y, x, k⟩ us X) (hR : Mill.Reps P w ts us) (hh : Mill.Tr.highs ts ≤ n) :
    Calls Tryz.prog 30 #[.iface 47 X] w fun e w' => e = .returned (.int .i64 ((Mill.Tr.highs ts : Int) + 1)) ∧ Below w.heap.size w w' := by
  have hm := Tryz.meth_programNode
  have hpt := pt_24 o t y x k P us _ X w hP hk hl hI
  have hul := Mill.Reps.len ts us hR
  obtain ⟨m, HM⟩ : ∃ m, Hid (us.length = m) := ⟨_, (rfl : us.length = _)⟩
  have hml : m ≤ 100000 := by rw [← HM.out]; exact hl2
  have hmt : ts.length = m := by rw [← hul]; exact HM.out
  have hRa := Mill.Reps.at ts us hR
  clear hI hk hl hl2 hul hR
  go_enter Tryz.func30, Tryz.ntmps30
  go_wp2_with (go_at_call 130; refine hpt.mono ?_; rintro e w1 ⟨S, rfl, hb, hS⟩; rw [HM.out] at hS; obtain ⟨sa, sc, rfl, hcl⟩ := hS; generalize Mill.takenN _ us.length = D; rcases D with ⟨c', o', t', y', x', k'⟩; simp only [Mill.ndV])
  have hz := hb.size
  have hba : Below w.heap.size w (w1.alloc (.cells #[.int .i64 c', .int .i64 o', .int .i64 t', .int .i64 y', .string x', .int .i64 k'] 68)) := hb.alloc hz _
  have hcell : ∀ (W : World), Below w1.heap.size w1 W → ∀ (j : Nat) u, us[j]? = some u → ∃ g, sa = some ⟨g, 0, none⟩ ∧ W.cell? ⟨g, j, none⟩ = some u := fun W hW j u hj => by
    obtain ⟨g, ha, hg, hq⟩ := hcl j u hj
    have hg1 : g < w1.heap.size := by
      rcases hg with hg | hg
      · have := hP g hg; omega
      · exact hg.2
    exact ⟨g, ha, by rw [hW.cell (p := ⟨g, j, none⟩) hg1]; exact hq⟩
  clear hcl hpt hm
  have HC : Hid (∀ (W : World), Below w1.heap.size w1 W → ∀ (j : Nat) u, us[j]? = some u → ∃ g, sa = some ⟨g, 0, none⟩ ∧ W.cell? ⟨g, j, none⟩ = some u) := hcell
  have HR : Hid (∀ (i : Nat) (h : i < ts.length), ∃ u, us[i]? = some u ∧ Mill.Rep P w ts[i] u) := hRa
  clear hcell hRa
  go_loopw [5, 15] (fun tm tv wr => ∃ i : Nat, i ≤ m ∧ tv = .int .i64 (i : Int) ∧ tm = .int .i64 (Mill.Tr.highs (ts.take i) : Int) ∧ Below w1.heap.size w1 wr) (fun _ tv _ => m - (intOf tv).toNat)
  case atStart => exact ⟨0, by omega, rfl, rfl, (Below.refl _ w1).alloc (Nat.le_refl _) _⟩
  case round =>
    obtain ⟨i, hi, rfl, rfl, hbw⟩ := hrel
    have hzr := hbw.size
    by_cases hlt : i < m
    · have hit : i < ts.length := by omega
      obtain ⟨u, hu, hr⟩ := HR.out i hit
      obtain ⟨g, rfl, hc⟩ := HC.out wr hbw i u hu
      have hbwr : Below w.heap.size w wr := hb.trans (hbw.mono hz)
      have hr1 : Mill.Rep P wr ts[i] u := Mill.Rep.below (fun g h => h) (fun g h => hbwr.block g (hP g h)) _ _ hr
      have hlv := Mill.highs_at ts i hit
      have hih := ih ts[i] u wr P (by omega) (fun g h => by have := hP g h; omega) hr1
      have HS : Hid (Mill.Tr.highs (ts.take (i + 1)) = max (Mill.Tr.highs (ts.take i)) (ts[i].high + 1)) := Mill.highs_step ts i hit
      have hbd : Mill.Tr.highs (ts.take i) ≤ 200000 := Nat.le_trans (Mill.highs_take ts i) (by omega)
      have hbd2 : ts[i].high ≤ 200000 := by omega
      clear hr hr1 HR HC hlv hu
      generalize ts[i].high = q at *
      generalize Mill.Tr.highs (ts.take i) = p at *
      go_wp2_with (go_at_call 30; refine hih.mono ?_; rintro e w2 ⟨rfl, hb2⟩)
      go_roundw
      case rel => exact ⟨i + 1, by omega, by go_num, by rw [HS.out]; exact Mill.max_if p q, hbw.trans (hb2.mono hzr)⟩
      case measure => simp [intOf]; omega
    · have hie : i = m := by omega
      subst hie
      have hT : ts.take i = ts := List.take_of_length_le (by omega)
      rw [hT]
      have hbd : Mill.Tr.highs ts ≤ 200000 := by omega
      clear HR HC hT
      go_wp2
      go_ret
      exact ⟨rfl, hb.trans (hbw.mono hz)⟩

end Go.Proofs.YtlaboojakgffbaaGreatDoor
