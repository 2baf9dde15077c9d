import Derived.Test.YtkaoeoeloihigaaGreatDoorVTreeN
namespace Go.Proofs.YtkaoeoeloihigaaGreatDoor
open Go.RowKit

theorem Tryz.infoParam : (Tryz.prog.info? 85).map (fun i => (i.zero, i.size, i.bytes)) = some (some (.agg #[.string ByteArray.empty, .int .i64 0]), 2, 24) := by kernel_rfl
theorem Tryz.infoFn : (Tryz.prog.info? 60).map (fun i => (i.zero, i.size, i.bytes)) = some (some (.agg #[.string ByteArray.empty, .int .i64 0, .slice none 0 0, .slice none 0 0]), 4, 72) := by kernel_rfl

theorem Mill.cell2_new (w : World) (o : Obj) (a b : Value) (t : TypeId) (j : Nat) (u : Value) (h : [a, b][j]? = some u) : ((w.alloc o).alloc (.cells #[a, b] t)).cell? ((⟨w.heap.size + 1, 0, none⟩ : Addr).add j) = some u := by
  have hadd : (⟨w.heap.size + 1, 0, none⟩ : Addr).add j = ⟨(w.alloc o).heap.size, j, none⟩ := by unfold Addr.add; split <;> simp_all
  rw [hadd, cell_of_row _ _ _ #[a, b] t (0, 0) (heap_alloc_new (w.alloc o) _)]
  simpa using h
theorem Mill.two_one (nm : ByteArray) (pt : Int) : ∀ u ∈ [Value.string nm, .int .i64 pt], u.oneCell' = true := by
  intro u hu
  simp at hu
  rcases hu with rfl | rfl <;> rfl
def Mill.prC (ps : List (ByteArray × Int)) : List Value := ps.flatMap (fun p => [.string p.1, .int .i64 p.2])
theorem Mill.prC_snoc (ps : List (ByteArray × Int)) (p : ByteArray × Int) : Mill.prC (ps ++ [p]) = Mill.prC ps ++ [.string p.1, .int .i64 p.2] := by simp [Mill.prC]
theorem Mill.sl_own {w : World} {B e size n : Nat} {v : Value} {xs : List Value} (h : w.ownsRow B e size v n xs) : Mill.Sl (fun g => B ≤ g ∧ g < w.heap.size) w v n xs := by
  rcases h.2 with ⟨rfl, h0⟩ | ⟨g, cap, cur, rfl, hg, hgg, _⟩
  · refine ⟨none, 0, by rw [h0], fun j u hj => ?_⟩
    have h1 := h.1
    rw [h0] at h1
    have := (List.getElem?_eq_some_iff.1 hj).1
    omega
  · refine ⟨_, _, rfl, fun j u hj => ⟨g, rfl, ⟨hg, (Array.getElem?_eq_some_iff.1 hgg).1⟩, ?_⟩⟩
    have hj2 := (List.getElem?_eq_some_iff.1 hj).1
    rw [h.1] at hj2
    rw [h.cellAt j hj2]; exact hj
theorem Mill.fnK_no (ks : List Int) (h : ks.length = 0 ∨ 9 < ks.length) : Mill.fnK ks = false := by
  rcases h with h | h
  · rw [List.eq_nil_of_length_eq_zero h]; rfl
  · unfold Mill.fnK
    have h9 : ¬ ks.length ≤ 9 := by omega
    split
    · rfl
    · simp [h9]
theorem Mill.fnK_eq (ks : List Int) (m : Nat) (z : Int) (hm : ks.length = m + 1) (hz : ks[m]? = some z) (h9 : m ≤ 8) : Mill.fnK ks = ((z == 21) && (ks.take m).all (fun k => k == 22)) := by
  have hne : ks ≠ [] := by intro h0; subst h0; simp at hm
  have hl : ks.getLast? = some z := by
    rw [List.getLast?_eq_getElem?, hm]; exact hz
  unfold Mill.fnK
  rw [hl]
  simp [List.dropLast_eq_take, hm, h9]
def Mill.FnX (P : Nat → Prop) (w : World) (x : ByteArray) (t : Int) (us : List Value) (X : Value) : Prop := ∃ (ps : List (ByteArray × Int)) (SP SB : Value), us = ps.map Mill.prV ++ [Mill.blV SB] ∧ Mill.Sl P w SP ps.length (Mill.prC ps) ∧ X = .agg #[.string x, .int .i64 t, SP, SB] ∧ (∃ a n c, SP = .slice a n c) ∧ ∃ a n c, SB = .slice a n c

set_option maxRecDepth 100000 in
set_option maxHeartbeats 4000000 in
theorem grownFn_any (c0 o t y : Int) (x : ByteArray) (k : Int) (P : Nat → Prop) (us : List Value) (ks : List Int) (S : Value) (n : Nat) (HN : Hid (ks.length = n)) (w : World) (hP : ∀ g, P g → g < w.heap.size) (hS : Mill.Sl P w S n us) (hcap : ∀ a c, S = .slice a n c → n ≤ c) (hk : Mill.Kinded us ks) (hl : n ≤ 1000000) :
    Calls Tryz.prog 53 #[Mill.ndV ⟨c0, o, t, y, x, k⟩, S] w fun e w' => Mill.GrownT w 60 (Mill.fnK ks) (Mill.FnX (fun g => w.heap.size ≤ g ∧ g < w'.heap.size) w' x t us) e w' := by
  obtain ⟨i0, hi0, hz0, hz1, hz2⟩ := info_parts Tryz.infoParam
  have tb := Tryz.ta_blockNode
  have tp := Tryz.ta_paramNode
  obtain ⟨a, c, rfl, hc⟩ := hS
  have hnc := hcap a c rfl
  clear hcap
  simp only [Mill.ndV]
  by_cases h1 : n = 0
  · have HF : Hid (Mill.fnK ks = false) := Mill.fnK_no ks (.inl (by rw [HN.out]; exact h1))
    subst h1
    clear hc
    go_enter Tryz.func53, Tryz.ntmps53
    go_wp2
    go_ret
    exact ⟨(Below.refl _ w).alloc (Nat.le_refl _) _, .inr ⟨HF.out, rfl⟩⟩
  · by_cases h9 : 9 < n
    · have HF : Hid (Mill.fnK ks = false) := Mill.fnK_no ks (.inr (by rw [HN.out]; exact h9))
      obtain ⟨m, rfl⟩ : ∃ m, n = m + 1 := ⟨n - 1, by omega⟩
      have h9' : (8 : Int) < (m : Int) := by omega
      clear hc
      go_enter Tryz.func53, Tryz.ntmps53
      go_wp2
      go_ret
      exact ⟨(Below.refl _ w).alloc (Nat.le_refl _) _, .inr ⟨HF.out, rfl⟩⟩
    · obtain ⟨m, rfl⟩ : ∃ m, n = m + 1 := ⟨n - 1, by omega⟩
      have hul : us.length = m + 1 := by rw [hk.1]; exact HN.out
      obtain ⟨u, hu⟩ : ∃ u, us[m]? = some u := ⟨_, List.getElem?_eq_getElem (by omega)⟩
      obtain ⟨kl, yl, hl1, hl2, hl3, rfl, hlf⟩ := Mill.us_at hk m u hu
      obtain ⟨g, rfl, hg, cl⟩ := hc m _ hu
      have hg2 := hP g hg
      have HFN : Hid (Mill.fnK ks = ((kl == 21) && (ks.take m).all (fun k => k == 22))) := Mill.fnK_eq ks m kl HN.out hl3 (by omega)
      by_cases h21 : kl = 21
      · subst h21
        obtain ⟨sa, sn, sc, rfl⟩ := hlf.1 rfl
        have ht : Mill.ty 21 = 58 := rfl
        rw [ht] at cl hu
        have hm8 : m ≤ 8 := by omega
        have hmc : m ≤ c := by omega
        clear h1 h9 hl1 hl2 hlf ht
        go_enter Tryz.func53, Tryz.ntmps53
        go_wp2
        generalize hW2 : (w.alloc (.cells #[.int .i64 c0, .int .i64 o, .int .i64 t, .int .i64 y, .string x, .int .i64 k] 68)).alloc (.cells #[.slice sa sn sc] 58) = W2
        have hs2 : W2.heap.size = w.heap.size + 1 + 1 := by rw [← hW2]; simp
        have hbW : Below w.heap.size w W2 := by rw [← hW2]; exact ((Below.refl _ w).alloc (Nat.le_refl _) _).alloc (by simp) _
        have hcell : ∀ {W : World}, Below (w.heap.size + 2) W2 W → ∀ j u, us[j]? = some u → W.cell? ⟨g, j, none⟩ = some u := by
          intro W hW j u hj
          obtain ⟨g', hg', _, hq⟩ := hc j u hj
          cases hg'
          rw [hW.cell (p := ⟨g, j, none⟩) (by simp; omega), hbW.cell (p := ⟨g, j, none⟩) hg2]; exact hq
        clear hc cl
        go_loopw [42] (fun tv wr => ∃ (i : Nat) (ps : List (ByteArray × Int)) (av : Option Addr) (cv : Nat), i ≤ m ∧ tv = .int .i64 (i : Int) ∧ ps.length = i ∧ us.take i = ps.map Mill.prV ∧ (ks.take i).all (fun k => k == 22) = true ∧ wr.ownsRow (w.heap.size + 3) 85 2 (.slice av i cv) i (Mill.prC ps) ∧ Below (w.heap.size + 2) W2 wr ∧ w.heap.size + 3 ≤ wr.heap.size ∧ wr.cell? ⟨w.heap.size + 1 + 1, 0, none⟩ = some (.string x) ∧ wr.cell? ⟨w.heap.size + 1 + 1, 1, none⟩ = some (.int .i64 t) ∧ wr.cell? ⟨w.heap.size + 1 + 1, 2, none⟩ = some (.slice av i cv) ∧ wr.cell? ⟨w.heap.size + 1 + 1, 3, none⟩ = some (.slice sa sn sc) ∧ ∀ j, wr.frozen? ⟨w.heap.size + 1 + 1, j, none⟩ = false) (fun tv _ => m - (intOf tv).toNat)
        case atStart =>
          refine ⟨0, [], none, 0, by omega, rfl, rfl, by simp, by simp, ⟨by simp [Mill.prC], .inl ⟨rfl, rfl⟩⟩, (Below.refl _ W2).alloc (by omega) _, by simp [hs2], ?_, ?_, ?_, ?_, ?_⟩
          all_goals rw [← hs2]; simp [go_sem]
        case round =>
          obtain ⟨i, ps, av, cv, hi, rfl, hpl, hpt, hka, hown, hbw, hsz, q0, q1, q2, q3, qf⟩ := hrel
          by_cases hlt : i < m
          · obtain ⟨u, hui⟩ : ∃ u, us[i]? = some u := ⟨_, List.getElem?_eq_getElem (by omega)⟩
            obtain ⟨kp, yp, hp1, hp2, hp3, rfl, hpf⟩ := Mill.us_at hk i u hui
            have ci := hcell hbw i _ hui
            by_cases h22 : kp = 22
            · subst h22
              obtain ⟨nm, pt, rfl⟩ := hpf.2.2.1 rfl
              have htp : Mill.ty 22 = 85 := rfl
              rw [htp] at ci hui
              have HPT : Hid (us.take (i + 1) = (ps ++ [(nm, pt)]).map Mill.prV) := by
                have hil : i < us.length := by omega
                have h6 : us[i] = Mill.prV (nm, pt) := by
                  rw [List.getElem?_eq_getElem hil] at hui; exact Option.some.inj hui
                rw [Hid, ← List.take_append_getElem hil, h6, hpt, List.map_append]; rfl
              have HKA : Hid ((ks.take (i + 1)).all (fun k => k == 22) = true) := by
                have hil : i < ks.length := by rw [HN.out]; omega
                have h6 : ks[i] = 22 := by rw [List.getElem?_eq_getElem hil] at hp3; exact Option.some.inj hp3
                rw [Hid, ← List.take_append_getElem hil, h6, List.all_append, hka]; rfl
              clear hpt hka hp1 hp2 hp3 hpf htp
              have hsl : w.heap.size + 1 + 1 < wr.heap.size := by omega
              go_wp2_with (first | (at_builtin; (refine wpList_append_own _ rfl _ _ 55 rfl (w.heap.size + 3) 85 i0 (.agg #[.string ByteArray.empty, .int .i64 0]) 2 24 Tryz.underlying55 hi0 hz0 hz1 hz2 rfl (by decide) _ _ _ rfl ((hown.alloc _).alloc _) ⟨wr.heap.size + 1, 0, none⟩ 1 1 [.string nm, .int .i64 pt] rfl rfl (Mill.cell2_new _ _ _ _ _) (Mill.two_one nm pt) (by unfold maxLen; omega) (by omega) (by simp only [World.size_alloc]; omega) ?_; intro v' w3 hown' hgrow3 _; obtain ⟨a', c', hv'⟩ := Mill.rowLen hown'; subst hv'; have hb3 : Below (w.heap.size + 3) wr w3 := Below.grown (((Below.refl _ wr).alloc hsz _).alloc (by simp only [World.size_alloc]; omega) _) hgrow3 (by simp only [World.size_alloc]; omega) (fun j hj => (hown.lt _ hj).1); have d2 : w3.cell? ⟨w.heap.size + 1 + 1, 2, none⟩ = some (.slice av i cv) := (by rw [hb3.cell (p := ⟨w.heap.size + 1 + 1, 2, none⟩) (Nat.lt_succ_self _)]; exact q2); have df : w3.frozen? ⟨w.heap.size + 1 + 1, 2, none⟩ = false := (by rw [hb3.frozen (p := ⟨w.heap.size + 1 + 1, 2, none⟩) (Nat.lt_succ_self _)]; exact qf 2))))
              have hs3 := hb3.size
              go_roundw
              case rel =>
                refine ⟨i + 1, ps ++ [(nm, pt)], a', c', by omega, by go_num, by simp [hpl], HPT.out, HKA.out, ?_, ?_, by simp; omega, ?_, ?_, ?_, ?_, ?_⟩
                · rw [Mill.prC_snoc]; exact ownsRow_setCell_below hown' (a := ⟨w.heap.size + 1 + 1, 2, none⟩) (by simp) _
                · exact (hbw.trans (hb3.mono (by omega))).setCell (p := ⟨w.heap.size + 1 + 1, 2, none⟩) (Nat.le_refl _) _
                · rw [World.cell?_setCell_other _ _ _ _ (by simp), hb3.cell (p := ⟨w.heap.size + 1 + 1, 0, none⟩) (by simp)]; exact q0
                · rw [World.cell?_setCell_other _ _ _ _ (by simp), hb3.cell (p := ⟨w.heap.size + 1 + 1, 1, none⟩) (by simp)]; exact q1
                · exact World.cell?_setCell_same _ _ _ d2
                · rw [World.cell?_setCell_other _ _ _ _ (by simp), hb3.cell (p := ⟨w.heap.size + 1 + 1, 3, none⟩) (by simp)]; exact q3
                · intro j; simp only [World.frozen?_setCell]; rw [hb3.frozen (p := ⟨w.heap.size + 1 + 1, j, none⟩) (by simp)]; exact qf j
              case measure => simp [intOf]; omega
            · have htp : ¬ Mill.ty kp = 85 := Mill.ty_ne hp1 hp2 (j := 22) (by omega) (by omega) h22
              have HF : Hid (Mill.fnK ks = false) := by
                rw [Hid, HFN.out]
                have hmem : kp ∈ ks.take m := List.mem_of_getElem? (i := i) (by rw [List.getElem?_take, if_pos hlt]; exact hp3)
                have : (ks.take m).all (fun k => k == 22) = false := by
                  rw [Bool.eq_false_iff]; intro hall
                  have := List.all_eq_true.1 hall kp hmem
                  simp at this; exact h22 this
                rw [this]; rfl
              go_wp2
              go_ret
              exact ⟨hbW.trans ((hbw.mono (by omega)).alloc (by omega) _), .inr ⟨HF.out, rfl⟩⟩
          · have hie : i = m := by omega
            subst hie
            have HF : Hid (Mill.fnK ks = true) := by rw [Hid, HFN.out, hka]; rfl
            have hbe : Below w.heap.size w wr := hbW.trans (hbw.mono (by omega))
            go_wp2
            go_ret
            refine ⟨hbe, .inl ⟨HF.out, _, rfl, ps, _, _, ?_, ?_, rfl, ⟨_, _, _, rfl⟩, _, _, _, rfl⟩⟩
            · have hsp : us = us.take i ++ [Mill.blV (.slice sa sn sc)] := by
                have hil : i < us.length := by omega
                have h5 : us.take (i + 1) = us := List.take_of_length_le (by omega)
                have h6 : us[i] = Mill.blV (.slice sa sn sc) := by
                  rw [List.getElem?_eq_getElem hil] at hu; exact Option.some.inj hu
                rw [← h6, List.take_append_getElem]; exact h5.symm
              rw [← hpt]; exact hsp
            · rw [hpl]
              exact (Mill.sl_own hown).below (fun g h => ⟨by omega, h.2⟩) (fun g h => rfl)
      · have htb : ¬ Mill.ty kl = 58 := Mill.ty_ne hl1 hl2 (j := 21) (by omega) (by omega) h21
        have HF : Hid (Mill.fnK ks = false) := by rw [Hid, HFN.out]; simp [h21]
        have hm8 : m ≤ 8 := by omega
        clear hc
        go_enter Tryz.func53, Tryz.ntmps53
        go_wp2
        go_ret
        exact ⟨((Below.refl _ w).alloc (Nat.le_refl _) _).alloc (by simp) _, .inr ⟨HF.out, rfl⟩⟩

end Go.Proofs.YtkaoeoeloihigaaGreatDoor

namespace Go.Proofs.YtkaoeoeloihigaaGreatDoor
open Go.RowKit

theorem Mill.cell4_new (w : World) (o : Obj) (a b c d : Value) (t : TypeId) (j : Nat) (u : Value) (h : [a, b, c, d][j]? = some u) : ((w.alloc o).alloc (.cells #[a, b, c, d] t)).cell? ((⟨w.heap.size + 1, 0, none⟩ : Addr).add j) = some u := by
  have hadd : (⟨w.heap.size + 1, 0, none⟩ : Addr).add j = ⟨(w.alloc o).heap.size, j, none⟩ := by unfold Addr.add; split <;> simp_all
  rw [hadd, cell_of_row _ _ _ #[a, b, c, d] t (0, 0) (heap_alloc_new (w.alloc o) _)]
  simpa using h
theorem Mill.four_one (nm : ByteArray) (r : Int) (a a' : Option Addr) (n c n' c' : Nat) : ∀ u ∈ [Value.string nm, .int .i64 r, .slice a n c, .slice a' n' c'], u.oneCell' = true := by
  intro u hu
  simp at hu
  rcases hu with rfl | rfl | rfl | rfl <;> rfl
def Mill.fnC (fs : List Mill.FnR) : List Value := fs.flatMap (fun f => [.string f.name, .int .i64 f.result, f.sp, f.sb])
theorem Mill.fnC_snoc (fs : List Mill.FnR) (f : Mill.FnR) : Mill.fnC (fs ++ [f]) = Mill.fnC fs ++ [.string f.name, .int .i64 f.result, f.sp, f.sb] := by simp [Mill.fnC]
def Mill.progK (ks : List Int) : Bool := ks.all (fun k => k == 23) && decide (1 ≤ ks.length) && decide (ks.length ≤ 60)
def Mill.ProgX (P : Nat → Prop) (w : World) (us : List Value) (X : Value) : Prop := ∃ (fs : List Mill.FnR) (SF : Value), us = fs.map Mill.fnV ∧ Mill.Sl P w SF fs.length (Mill.fnC fs) ∧ X = .agg #[SF] ∧ ∃ a n c, SF = .slice a n c

set_option maxRecDepth 100000 in
set_option maxHeartbeats 4000000 in
theorem grownProgram_any (P : Nat → Prop) (us : List Value) (ks : List Int) (S : Value) (n : Nat) (HN : Hid (ks.length = n)) (w : World) (hP : ∀ g, P g → g < w.heap.size) (hS : Mill.Sl P w S n us) (hk : Mill.Kinded us ks) :
    Calls Tryz.prog 54 #[S] w fun e w' => Mill.GrownT w 47 (Mill.progK ks) (Mill.ProgX (fun g => w.heap.size ≤ g ∧ g < w'.heap.size) w' us) e w' := by
  obtain ⟨i0, hi0, hz0, hz1, hz2⟩ := info_parts Tryz.infoFn
  have tp := Tryz.ta_fnNode
  obtain ⟨a, c, rfl, hc⟩ := hS
  by_cases h1 : n < 1
  · have HF : Hid (Mill.progK ks = false) := by
      have hq : ¬ 1 ≤ ks.length := by rw [HN.out]; omega
      rw [Hid]; simp only [Mill.progK, hq, decide_false, Bool.and_false, Bool.false_and]
    have h1' : (n : Int) < 1 := by omega
    clear hc h1
    go_enter Tryz.func54, Tryz.ntmps54
    go_wp2
    go_ret
    exact ⟨Below.refl _ _, .inr ⟨HF.out, rfl⟩⟩
  · by_cases h60 : 60 < n
    · have HF : Hid (Mill.progK ks = false) := by
        have hq : ¬ ks.length ≤ 60 := by rw [HN.out]; omega
        rw [Hid]; simp only [Mill.progK, hq, decide_false, Bool.and_false]
      have h1' : ¬ (n : Int) < 1 := by omega
      have h2' : (60 : Int) < (n : Int) := by omega
      clear hc h1 h60
      go_enter Tryz.func54, Tryz.ntmps54
      go_wp2
      go_ret
      exact ⟨Below.refl _ _, .inr ⟨HF.out, rfl⟩⟩
    · have hn1 : (1 : Int) ≤ (n : Int) := by omega
      have hn2 : (n : Int) ≤ 60 := by omega
      have HFN : Hid (Mill.progK ks = ks.all (fun k => k == 23)) := by
        have hq1 : 1 ≤ ks.length := by rw [HN.out]; omega
        have hq2 : ks.length ≤ 60 := by rw [HN.out]; omega
        rw [Hid]; simp only [Mill.progK, hq1, hq2, decide_true, Bool.and_true]
      have hul : us.length = n := by rw [hk.1]; exact HN.out
      obtain ⟨g, rfl, hg2⟩ : ∃ g, a = some ⟨g, 0, none⟩ ∧ g < w.heap.size := by
        obtain ⟨u, hu⟩ : ∃ u, us[0]? = some u := ⟨_, List.getElem?_eq_getElem (by omega)⟩
        obtain ⟨g, ha, hg, _⟩ := hc 0 u hu
        exact ⟨g, ha, hP g hg⟩
      have hcell : ∀ {W : World}, Below w.heap.size w W → ∀ j u, us[j]? = some u → W.cell? ⟨g, j, none⟩ = some u := by
        intro W hW j u hj
        obtain ⟨g', hg', _, hq⟩ := hc j u hj
        cases hg'
        rw [hW.cell (p := ⟨g, j, none⟩) hg2]; exact hq
      clear hc
      go_enter Tryz.func54, Tryz.ntmps54
      go_wp2
      go_loopw [18] (fun tv wr => ∃ (i : Nat) (fs : List Mill.FnR) (av : Option Addr) (cv : Nat), i ≤ n ∧ tv = .int .i64 (i : Int) ∧ fs.length = i ∧ us.take i = fs.map Mill.fnV ∧ (ks.take i).all (fun k => k == 23) = true ∧ wr.ownsRow (w.heap.size + 1) 60 4 (.slice av i cv) i (Mill.fnC fs) ∧ Below w.heap.size w wr ∧ w.heap.size + 1 ≤ wr.heap.size ∧ wr.cell? ⟨w.heap.size, 0, none⟩ = some (.slice av i cv) ∧ ∀ j, wr.frozen? ⟨w.heap.size, j, none⟩ = false) (fun tv _ => n - (intOf tv).toNat)
      case atStart =>
        refine ⟨0, [], none, 0, by omega, rfl, rfl, by simp, by simp, ⟨by simp [Mill.fnC], .inl ⟨rfl, rfl⟩⟩, (Below.refl _ w).alloc (Nat.le_refl _) _, by simp, ?_, ?_⟩
        all_goals simp [go_sem]
      case round =>
        obtain ⟨i, fs, av, cv, hi, rfl, hpl, hpt, hka, hown, hbw, hsz, q0, qf⟩ := hrel
        by_cases hlt : i < n
        · obtain ⟨u, hui⟩ : ∃ u, us[i]? = some u := ⟨_, List.getElem?_eq_getElem (by omega)⟩
          obtain ⟨kp, yp, hp1, hp2, hp3, rfl, hpf⟩ := Mill.us_at hk i u hui
          have ci := hcell hbw i _ hui
          clear hcell
          by_cases h22 : kp = 23
          · subst h22
            obtain ⟨nm, r, a1, n1, c1, a2, n2, c2, rfl⟩ := hpf.2.2.2 rfl
            have htp : Mill.ty 23 = 60 := rfl
            rw [htp] at ci hui
            have HPT : Hid (us.take (i + 1) = (fs ++ [(⟨nm, r, a1, n1, c1, a2, n2, c2⟩ : Mill.FnR)]).map Mill.fnV) := by
              have hil : i < us.length := by omega
              have h6 : us[i] = Mill.fnV ⟨nm, r, a1, n1, c1, a2, n2, c2⟩ := by
                rw [List.getElem?_eq_getElem hil] at hui; exact Option.some.inj hui
              rw [Hid, ← List.take_append_getElem hil, h6, hpt, List.map_append]; rfl
            have HKA : Hid ((ks.take (i + 1)).all (fun k => k == 23) = true) := by
              have hil : i < ks.length := by rw [HN.out]; omega
              have h6 : ks[i] = 23 := by rw [List.getElem?_eq_getElem hil] at hp3; exact Option.some.inj hp3
              rw [Hid, ← List.take_append_getElem hil, h6, List.all_append, hka]; rfl
            clear hpt hka hp1 hp2 hp3 hpf htp
            have hsl : w.heap.size < wr.heap.size := by omega
            go_wp2_with (first | (at_builtin; (refine wpList_append_own _ rfl _ _ 45 rfl (w.heap.size + 1) 60 i0 (.agg #[.string ByteArray.empty, .int .i64 0, .slice none 0 0, .slice none 0 0]) 4 72 Tryz.underlying45 hi0 hz0 hz1 hz2 rfl (by decide) _ _ _ rfl ((hown.alloc _).alloc _) ⟨wr.heap.size + 1, 0, none⟩ 1 1 [.string nm, .int .i64 r, .slice a1 n1 c1, .slice a2 n2 c2] rfl rfl (Mill.cell4_new _ _ _ _ _ _ _) (Mill.four_one _ _ _ _ _ _ _ _) (by unfold maxLen; omega) (by omega) (by simp only [World.size_alloc]; omega) ?_; intro v' w3 hown' hgrow3 _; obtain ⟨a', c', hv'⟩ := Mill.rowLen hown'; subst hv'; have hb3 : Below (w.heap.size + 1) wr w3 := Below.grown (((Below.refl _ wr).alloc hsz _).alloc (by simp only [World.size_alloc]; omega) _) hgrow3 (by simp only [World.size_alloc]; omega) (fun j hj => (hown.lt _ hj).1); have d2 : w3.cell? ⟨w.heap.size, 0, none⟩ = some (.slice av i cv) := (by rw [hb3.cell (p := ⟨w.heap.size, 0, none⟩) (Nat.lt_succ_self _)]; exact q0); have df : w3.frozen? ⟨w.heap.size, 0, none⟩ = false := (by rw [hb3.frozen (p := ⟨w.heap.size, 0, none⟩) (Nat.lt_succ_self _)]; exact qf 0))))
            have hs3 := hb3.size
            go_roundw
            case rel =>
              refine ⟨i + 1, fs ++ [⟨nm, r, a1, n1, c1, a2, n2, c2⟩], a', c', by omega, by go_num, by simp [hpl], HPT.out, HKA.out, ?_, ?_, by simp; omega, ?_, ?_⟩
              · rw [Mill.fnC_snoc]; exact ownsRow_setCell_below hown' (a := ⟨w.heap.size, 0, none⟩) (by simp) _
              · exact (hbw.trans (hb3.mono (by omega))).setCell (p := ⟨w.heap.size, 0, none⟩) (Nat.le_refl _) _
              · exact World.cell?_setCell_same _ _ _ d2
              · intro j; simp only [World.frozen?_setCell]; rw [hb3.frozen (p := ⟨w.heap.size, j, none⟩) (by simp)]; exact qf j
            case measure => simp [intOf]; omega
          · have htp : ¬ Mill.ty kp = 60 := Mill.ty_ne hp1 hp2 (j := 23) (by omega) (by omega) h22
            have HF : Hid (Mill.progK ks = false) := by
              rw [Hid, HFN.out, Bool.eq_false_iff]
              intro hall
              have := List.all_eq_true.1 hall kp (List.mem_of_getElem? hp3)
              simp at this; exact h22 this
            go_wp2
            go_ret
            exact ⟨hbw.alloc (by omega) _, .inr ⟨HF.out, rfl⟩⟩
        · have hie : i = n := by omega
          subst hie
          have hT : ks.take i = ks := List.take_of_length_le (by rw [HN.out]; exact Nat.le_refl _)
          have hU : us.take i = us := List.take_of_length_le (by omega)
          rw [hT] at hka
          rw [hU] at hpt
          have HF : Hid (Mill.progK ks = true) := by rw [Hid, HFN.out]; exact hka
          clear hT hU hka
          go_wp2
          go_ret
          refine ⟨hbw, .inl ⟨HF.out, _, rfl, fs, _, hpt, ?_, rfl, _, _, _, rfl⟩⟩
          rw [hpl]
          exact (Mill.sl_own hown).below (fun g h => ⟨by omega, h.2⟩) (fun g h => rfl)

end Go.Proofs.YtkaoeoeloihigaaGreatDoor
