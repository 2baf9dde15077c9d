import Derived.Test.YtkaoeoeloihigaaGreatDoorVTreeZA
namespace Go.Proofs.YtkaoeoeloihigaaGreatDoor
open Go.RowKit

def Mill.LevelsTo (n : Nat) : Prop := ∀ (t : Mill.Tr) (v : Value) (w : World) (P : Nat → Prop), t.high < n → (∀ g, P g → g < w.heap.size) → Mill.Rep P w t v →
  Calls Tryz.prog 30 #[v] w fun e w' => e = .returned (.int .i64 ((t.high : Int) + 1)) ∧ Below w.heap.size w w'
theorem Mill.highs_step (ts : List Mill.Tr) (i : Nat) (h : i < ts.length) : Mill.Tr.highs (ts.take (i + 1)) = max (Mill.Tr.highs (ts.take i)) (ts[i].high + 1) := by
  rw [← List.take_append_getElem h, Mill.highs_app]
  simp [Mill.Tr.highs]
theorem Mill.max_if (p q : Nat) : Value.int .i64 (if (p : Int) < (q : Int) + 1 then (q : Int) + 1 else (p : Int)) = .int .i64 ((max p (q + 1) : Nat) : Int) := by
  congr 1
  split <;> omega
theorem Mill.highs_take (ts : List Mill.Tr) (i : Nat) : Mill.Tr.highs (ts.take i) ≤ Mill.Tr.highs ts := by
  have h := Mill.highs_app (ts.take i) (ts.drop i)
  rw [List.take_append_drop] at h
  omega

theorem Tryz.cf_intNode (x : Array Value) (w : World) : (callFunc 136 x).run Tryz.prog w = .ok (.enter 136 x) w := by kernel_rfl
theorem Tryz.cf_textNode (x : Array Value) (w : World) : (callFunc 137 x).run Tryz.prog w = .ok (.enter 137 x) w := by kernel_rfl
theorem Tryz.cf_boolNode (x : Array Value) (w : World) : (callFunc 138 x).run Tryz.prog w = .ok (.enter 138 x) w := by kernel_rfl
theorem Tryz.cf_nameNode (x : Array Value) (w : World) : (callFunc 139 x).run Tryz.prog w = .ok (.enter 139 x) w := by kernel_rfl
theorem Tryz.cf_unNode (x : Array Value) (w : World) : (callFunc 140 x).run Tryz.prog w = .ok (.enter 140 x) w := by kernel_rfl
theorem Tryz.cf_binNode (x : Array Value) (w : World) : (callFunc 141 x).run Tryz.prog w = .ok (.enter 141 x) w := by kernel_rfl
theorem Tryz.cf_callNode (x : Array Value) (w : World) : (callFunc 142 x).run Tryz.prog w = .ok (.enter 142 x) w := by kernel_rfl
theorem Tryz.cf_builtNode (x : Array Value) (w : World) : (callFunc 143 x).run Tryz.prog w = .ok (.enter 143 x) w := by kernel_rfl
theorem Tryz.cf_convNode (x : Array Value) (w : World) : (callFunc 144 x).run Tryz.prog w = .ok (.enter 144 x) w := by kernel_rfl
theorem Tryz.cf_letNode (x : Array Value) (w : World) : (callFunc 145 x).run Tryz.prog w = .ok (.enter 145 x) w := by kernel_rfl
theorem Tryz.cf_setNode (x : Array Value) (w : World) : (callFunc 146 x).run Tryz.prog w = .ok (.enter 146 x) w := by kernel_rfl
theorem Tryz.cf_ifNode (x : Array Value) (w : World) : (callFunc 153 x).run Tryz.prog w = .ok (.enter 153 x) w := by kernel_rfl
theorem Tryz.cf_whileNode (x : Array Value) (w : World) : (callFunc 154 x).run Tryz.prog w = .ok (.enter 154 x) w := by kernel_rfl
theorem Tryz.cf_breakNode (x : Array Value) (w : World) : (callFunc 147 x).run Tryz.prog w = .ok (.enter 147 x) w := by kernel_rfl
theorem Tryz.cf_continueNode (x : Array Value) (w : World) : (callFunc 148 x).run Tryz.prog w = .ok (.enter 148 x) w := by kernel_rfl
theorem Tryz.cf_returnNode (x : Array Value) (w : World) : (callFunc 149 x).run Tryz.prog w = .ok (.enter 149 x) w := by kernel_rfl
theorem Tryz.cf_failNode (x : Array Value) (w : World) : (callFunc 150 x).run Tryz.prog w = .ok (.enter 150 x) w := by kernel_rfl
theorem Tryz.cf_writeNode (x : Array Value) (w : World) : (callFunc 151 x).run Tryz.prog w = .ok (.enter 151 x) w := by kernel_rfl
theorem Tryz.cf_sayNode (x : Array Value) (w : World) : (callFunc 152 x).run Tryz.prog w = .ok (.enter 152 x) w := by kernel_rfl
theorem Tryz.cf_doNode (x : Array Value) (w : World) : (callFunc 155 x).run Tryz.prog w = .ok (.enter 155 x) w := by kernel_rfl
theorem Tryz.cf_blockNode (x : Array Value) (w : World) : (callFunc 133 x).run Tryz.prog w = .ok (.enter 133 x) w := by kernel_rfl
theorem Tryz.cf_paramNode (x : Array Value) (w : World) : (callFunc 135 x).run Tryz.prog w = .ok (.enter 135 x) w := by kernel_rfl
theorem Tryz.cf_fnNode (x : Array Value) (w : World) : (callFunc 134 x).run Tryz.prog w = .ok (.enter 134 x) w := by kernel_rfl
theorem Tryz.cf_programNode (x : Array Value) (w : World) : (callFunc 130 x).run Tryz.prog w = .ok (.enter 130 x) w := by kernel_rfl
set_option maxRecDepth 100000 in
set_option maxHeartbeats 1000000 in
theorem levels_gen (n : Nat) (hn : n ≤ 200000) (ih : Mill.LevelsTo n) (T : TypeId) (f : FuncId) (hm : ∀ (v : Value) (w : World), (method 318 T v "loop.example/kilnmill/impl.parts").run Tryz.prog w = .ok (f, v) w) (hcf : ∀ (x : Array Value) (w : World), (callFunc f x).run Tryz.prog w = .ok (.enter f x) w) (d : Mill.Nd) (P : Nat → Prop) (ts : List Mill.Tr) (us : List Value) (X : Value) (w : World) (hP : ∀ g, P g → g < w.heap.size) (hl2 : us.length ≤ 100000) (hpt : Calls Tryz.prog f #[X] w fun e w' => Mill.Parts P w d us e w') (hR : Mill.Reps P w ts us) (hh : Mill.Tr.highs ts ≤ n) :
    Calls Tryz.prog 30 #[.iface T X] w fun e w' => e = .returned (.int .i64 ((Mill.Tr.highs ts : Int) + 1)) ∧ Below w.heap.size w w' := by
  have hul := Mill.Reps.len ts us hR
  obtain ⟨m, HM⟩ : ∃ m, Hid (us.length = m) := ⟨_, (rfl : us.length = _)⟩
  have hml : m ≤ 100000 := by rw [← HM.out]; exact hl2
  have hmt : ts.length = m := by rw [← hul]; exact HM.out
  have hRa := Mill.Reps.at ts us hR
  clear hl2 hul hR
  go_enter Tryz.func30, Tryz.ntmps30
  go_wp2_with (refine hpt.mono ?_; rintro e w1 ⟨S, rfl, hb, hS⟩; rw [HM.out] at hS; obtain ⟨sa, sc, rfl, hcl⟩ := hS; generalize Mill.takenN _ us.length = D; rcases D with ⟨c', o', t', y', x', k'⟩; simp only [Mill.ndV])
  have hz := hb.size
  have hba : Below w.heap.size w (w1.alloc (.cells #[.int .i64 c', .int .i64 o', .int .i64 t', .int .i64 y', .string x', .int .i64 k'] 68)) := hb.alloc hz _
  have hcell : ∀ (W : World), Below w1.heap.size w1 W → ∀ (j : Nat) u, us[j]? = some u → ∃ g, sa = some ⟨g, 0, none⟩ ∧ W.cell? ⟨g, j, none⟩ = some u := fun W hW j u hj => by
    obtain ⟨g, ha, hg, hq⟩ := hcl j u hj
    have hg1 : g < w1.heap.size := by
      rcases hg with hg | hg
      · have := hP g hg; omega
      · exact hg.2
    exact ⟨g, ha, by rw [hW.cell (p := ⟨g, j, none⟩) hg1]; exact hq⟩
  clear hcl hpt hm hcf
  have HC : Hid (∀ (W : World), Below w1.heap.size w1 W → ∀ (j : Nat) u, us[j]? = some u → ∃ g, sa = some ⟨g, 0, none⟩ ∧ W.cell? ⟨g, j, none⟩ = some u) := hcell
  have HR : Hid (∀ (i : Nat) (h : i < ts.length), ∃ u, us[i]? = some u ∧ Mill.Rep P w ts[i] u) := hRa
  clear hcell hRa
  go_loopw [5, 15] (fun tm tv wr => ∃ i : Nat, i ≤ m ∧ tv = .int .i64 (i : Int) ∧ tm = .int .i64 (Mill.Tr.highs (ts.take i) : Int) ∧ Below w1.heap.size w1 wr) (fun _ tv _ => m - (intOf tv).toNat)
  case atStart => exact ⟨0, by omega, rfl, rfl, (Below.refl _ w1).alloc (Nat.le_refl _) _⟩
  case round =>
    obtain ⟨i, hi, rfl, rfl, hbw⟩ := hrel
    have hzr := hbw.size
    by_cases hlt : i < m
    · have hit : i < ts.length := by omega
      obtain ⟨u, hu, hr⟩ := HR.out i hit
      obtain ⟨g, rfl, hc⟩ := HC.out wr hbw i u hu
      have hbwr : Below w.heap.size w wr := hb.trans (hbw.mono hz)
      have hr1 : Mill.Rep P wr ts[i] u := Mill.Rep.below (fun g h => h) (fun g h => hbwr.block g (hP g h)) _ _ hr
      have hlv := Mill.highs_at ts i hit
      have hih := ih ts[i] u wr P (by omega) (fun g h => by have := hP g h; omega) hr1
      have HS : Hid (Mill.Tr.highs (ts.take (i + 1)) = max (Mill.Tr.highs (ts.take i)) (ts[i].high + 1)) := Mill.highs_step ts i hit
      have hbd : Mill.Tr.highs (ts.take i) ≤ 200000 := Nat.le_trans (Mill.highs_take ts i) (by omega)
      have hbd2 : ts[i].high ≤ 200000 := by omega
      clear hr hr1 HR HC hlv hu
      generalize ts[i].high = q at *
      generalize Mill.Tr.highs (ts.take i) = p at *
      go_wp2_with (go_at_call 30; refine hih.mono ?_; rintro e w2 ⟨rfl, hb2⟩)
      go_roundw
      case rel => exact ⟨i + 1, by omega, by go_num, by rw [HS.out]; exact Mill.max_if p q, hbw.trans (hb2.mono hzr)⟩
      case measure => simp [intOf]; omega
    · have hie : i = m := by omega
      subst hie
      have hT : ts.take i = ts := List.take_of_length_le (by omega)
      rw [hT]
      have hbd : Mill.Tr.highs ts ≤ 200000 := by omega
      clear HR HC hT
      go_wp2
      go_ret
      exact ⟨rfl, hb.trans (hbw.mono hz)⟩

end Go.Proofs.YtkaoeoeloihigaaGreatDoor
