import Derived.Test.YtkaoeoeloihigaaGreatDoorVTreeZC
namespace Go.Proofs.YtkaoeoeloihigaaGreatDoor
open Go.RowKit

theorem Mill.levels_zero : Mill.LevelsTo 0 := fun t v w P h => by omega
theorem Mill.levels_succ (n : Nat) (hn : n ≤ 200000) (ih : Mill.LevelsTo n) : Mill.LevelsTo (n + 1) := by
  intro t v w P ht hP hr
  obtain ⟨d, ks⟩ := t
  rw [Mill.Rep] at hr
  obtain ⟨us, ⟨h1, h2, X, rfl, hI⟩, hk, hl, hl2, hR⟩ := hr
  obtain ⟨c, o, t, y, x, k⟩ := d
  have hh : Mill.Tr.highs ks ≤ n := by rw [Mill.Tr.high] at ht; omega
  have hhe : (Mill.Tr.node ⟨c, o, t, y, x, k⟩ ks).high = Mill.Tr.highs ks := by rw [Mill.Tr.high]
  rw [hhe]
  simp only at h1 h2 hl ⊢
  rcases Mill.kind24 c h1 h2 with rfl | rfl | rfl | rfl | rfl | rfl | rfl | rfl | rfl | rfl | rfl | rfl | rfl | rfl | rfl | rfl | rfl | rfl | rfl | rfl | rfl | rfl | rfl | rfl
  · exact levels_gen n hn ih _ _ Tryz.meth_intNode Tryz.cf_intNode ⟨1, o, t, y, x, k⟩ P ks us X w hP hl2 (pt_1 o t y x k P us _ X w hP hk hl hI) hR hh
  · exact levels_gen n hn ih _ _ Tryz.meth_textNode Tryz.cf_textNode ⟨2, o, t, y, x, k⟩ P ks us X w hP hl2 (pt_2 o t y x k P us _ X w hP hk hl hI) hR hh
  · exact levels_gen n hn ih _ _ Tryz.meth_boolNode Tryz.cf_boolNode ⟨3, o, t, y, x, k⟩ P ks us X w hP hl2 (pt_3 o t y x k P us _ X w hP hk hl hI) hR hh
  · exact levels_gen n hn ih _ _ Tryz.meth_nameNode Tryz.cf_nameNode ⟨4, o, t, y, x, k⟩ P ks us X w hP hl2 (pt_4 o t y x k P us _ X w hP hk hl hI) hR hh
  · exact levels_gen n hn ih _ _ Tryz.meth_unNode Tryz.cf_unNode ⟨5, o, t, y, x, k⟩ P ks us X w hP hl2 (pt_5 o t y x k P us _ X w hP hk hl hI) hR hh
  · exact levels_gen n hn ih _ _ Tryz.meth_binNode Tryz.cf_binNode ⟨6, o, t, y, x, k⟩ P ks us X w hP hl2 (pt_6 o t y x k P us _ X w hP hk hl hI) hR hh
  · exact levels_gen n hn ih _ _ Tryz.meth_callNode Tryz.cf_callNode ⟨7, o, t, y, x, k⟩ P ks us X w hP hl2 (pt_7 o t y x k P us _ X w hP hk hl hI) hR hh
  · exact levels_gen n hn ih _ _ Tryz.meth_builtNode Tryz.cf_builtNode ⟨8, o, t, y, x, k⟩ P ks us X w hP hl2 (pt_8 o t y x k P us _ X w hP hk hl hI) hR hh
  · exact levels_gen n hn ih _ _ Tryz.meth_convNode Tryz.cf_convNode ⟨9, o, t, y, x, k⟩ P ks us X w hP hl2 (pt_9 o t y x k P us _ X w hP hk hl hI) hR hh
  · exact levels_gen n hn ih _ _ Tryz.meth_letNode Tryz.cf_letNode ⟨10, o, t, y, x, k⟩ P ks us X w hP hl2 (pt_10 o t y x k P us _ X w hP hk hl hI) hR hh
  · exact levels_gen n hn ih _ _ Tryz.meth_setNode Tryz.cf_setNode ⟨11, o, t, y, x, k⟩ P ks us X w hP hl2 (pt_11 o t y x k P us _ X w hP hk hl hI) hR hh
  · exact levels_gen n hn ih _ _ Tryz.meth_ifNode Tryz.cf_ifNode ⟨12, o, t, y, x, k⟩ P ks us X w hP hl2 (pt_12 o t y x k P us _ X w hP hk hl hI) hR hh
  · exact levels_gen n hn ih _ _ Tryz.meth_whileNode Tryz.cf_whileNode ⟨13, o, t, y, x, k⟩ P ks us X w hP hl2 (pt_13 o t y x k P us _ X w hP hk hl hI) hR hh
  · exact levels_gen n hn ih _ _ Tryz.meth_breakNode Tryz.cf_breakNode ⟨14, o, t, y, x, k⟩ P ks us X w hP hl2 (pt_14 o t y x k P us _ X w hP hk hl hI) hR hh
  · exact levels_gen n hn ih _ _ Tryz.meth_continueNode Tryz.cf_continueNode ⟨15, o, t, y, x, k⟩ P ks us X w hP hl2 (pt_15 o t y x k P us _ X w hP hk hl hI) hR hh
  · exact levels_gen n hn ih _ _ Tryz.meth_returnNode Tryz.cf_returnNode ⟨16, o, t, y, x, k⟩ P ks us X w hP hl2 (pt_16 o t y x k P us _ X w hP hk hl hI) hR hh
  · exact levels_gen n hn ih _ _ Tryz.meth_failNode Tryz.cf_failNode ⟨17, o, t, y, x, k⟩ P ks us X w hP hl2 (pt_17 o t y x k P us _ X w hP hk hl hI) hR hh
  · exact levels_gen n hn ih _ _ Tryz.meth_writeNode Tryz.cf_writeNode ⟨18, o, t, y, x, k⟩ P ks us X w hP hl2 (pt_18 o t y x k P us _ X w hP hk hl hI) hR hh
  · exact levels_gen n hn ih _ _ Tryz.meth_sayNode Tryz.cf_sayNode ⟨19, o, t, y, x, k⟩ P ks us X w hP hl2 (pt_19 o t y x k P us _ X w hP hk hl hI) hR hh
  · exact levels_gen n hn ih _ _ Tryz.meth_doNode Tryz.cf_doNode ⟨20, o, t, y, x, k⟩ P ks us X w hP hl2 (pt_20 o t y x k P us _ X w hP hk hl hI) hR hh
  · exact levels_gen n hn ih _ _ Tryz.meth_blockNode Tryz.cf_blockNode ⟨21, o, t, y, x, k⟩ P ks us X w hP hl2 (pt_21 o t y x k P us _ X w hP hk hl hI) hR hh
  · exact levels_gen n hn ih _ _ Tryz.meth_paramNode Tryz.cf_paramNode ⟨22, o, t, y, x, k⟩ P ks us X w hP hl2 (pt_22 o t y x k P us _ X w hP hk hl hI) hR hh
  · exact levels_gen n hn ih _ _ Tryz.meth_fnNode Tryz.cf_fnNode ⟨23, o, t, y, x, k⟩ P ks us X w hP hl2 (pt_23 o t y x k P us _ X w hP hk hl hI) hR hh
  · exact levels_gen n hn ih _ _ Tryz.meth_programNode Tryz.cf_programNode ⟨24, o, t, y, x, k⟩ P ks us X w hP hl2 (pt_24 o t y x k P us _ X w hP hk hl hI) hR hh
theorem Mill.levels_to : ∀ n, n ≤ 200000 → Mill.LevelsTo n
  | 0, _ => Mill.levels_zero
  | n + 1, h => Mill.levels_succ n (by omega) (Mill.levels_to n (by omega))
theorem levels_any (t : Mill.Tr) (v : Value) (w : World) (P : Nat → Prop) (hh : t.high < 200000) (hP : ∀ g, P g → g < w.heap.size) (hr : Mill.Rep P w t v) :
    Calls Tryz.prog 30 #[v] w fun e w' => e = .returned (.int .i64 ((t.high : Int) + 1)) ∧ Below w.heap.size w w' :=
  Mill.levels_to 200000 (Nat.le_refl _) t v w P hh hP hr

theorem Tryz.eqNilB (w : World) : (binOp .eql 56 (.slice none 0 0) (.slice none 0 0)).run Tryz.prog w = .ok (.bool true) w := by kernel_rfl
theorem Tryz.neNilB (a : Addr) (n c : Nat) (w : World) : (binOp .eql 56 (.slice (some a) n c) (.slice none 0 0)).run Tryz.prog w = .ok (.bool false) w := by kernel_rfl

set_option maxRecDepth 100000 in
set_option maxHeartbeats 1000000 in
theorem CloneB_any (tb off m c : Nat) (us : List Value) (w : World) (hu : us.length = m) (hm : m ≤ 100000) (hone : ∀ u ∈ us, u.oneCell' = true) (hcell : ∀ (j : Nat) u, us[j]? = some u → w.cell? ⟨tb, off + j, none⟩ = some u) (htb : tb < w.heap.size) :
    Calls Tryz.prog 28 #[.slice (some ⟨tb, off, none⟩) m c] w fun e w' => ∃ S, e = .returned S ∧ w'.ownsRow w.heap.size 77 1 S m us ∧ Below w.heap.size w w' := by
  obtain ⟨i0, hi0, hz0, hz1, hz2⟩ := info_parts Tryz.infoBranch
  have o0 : (w.alloc (.cells #[] 77)).ownsRow w.heap.size 77 1 (.slice (some ⟨w.heap.size, 0, none⟩) 0 0) 0 [] := by simpa using World.ownsRow_made (base := w.heap.size) (e := 77) (size := 1) w #[] 0 (Nat.le_refl _) (by decide) rfl
  have hc1 : ∀ (j : Nat) u, us[j]? = some u → (w.alloc (.cells #[] 77)).cell? ((⟨tb, off, none⟩ : Addr).add j) = some u := by
    intro j u hj
    have hadd : (⟨tb, off, none⟩ : Addr).add j = ⟨tb, off + j, none⟩ := by unfold Addr.add; split <;> simp_all
    rw [hadd, World.cell?_alloc_past _ _ _ htb]; exact hcell j u hj
  clear hcell
  have hq := Tryz.neNilB
  go_enter Tryz.func28, Tryz.ntmps28
  go_wp2_with (at_builtin; (refine wpList_append_own _ rfl _ _ 56 rfl w.heap.size 77 i0 .nilIface 1 16 Tryz.underlying56 hi0 hz0 hz1 hz2 rfl (by decide) _ 0 [] rfl o0 ⟨tb, off, none⟩ m c us rfl (by omega) hc1 hone (by unfold maxLen; omega) (by omega) (by simp only [World.size_alloc]; omega) ?_; intro v' w3 hown' hgrow3 _))
  go_ret
  exact ⟨_, rfl, by simpa using hown', Below.grown ((Below.refl _ w).alloc (Nat.le_refl _) _) hgrow3 (by simp only [World.size_alloc]; omega) (fun j hj => by cases hj; exact Nat.le_refl _)⟩

set_option maxRecDepth 100000 in
set_option maxHeartbeats 1000000 in
theorem CloneB_nil (w : World) :
    Calls Tryz.prog 28 #[.slice none 0 0] w fun e w' => e = .returned (.slice none 0 0) ∧ w = w' := by
  have hq := Tryz.eqNilB
  go_enter Tryz.func28, Tryz.ntmps28
  go_wp2
  go_ret
  exact ⟨rfl, rfl⟩

end Go.Proofs.YtkaoeoeloihigaaGreatDoor
