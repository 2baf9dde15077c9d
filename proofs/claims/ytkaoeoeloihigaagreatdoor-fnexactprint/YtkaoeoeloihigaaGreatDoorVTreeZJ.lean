import Derived.Test.YtkaoeoeloihigaaGreatDoorVTreeZF
namespace Go.Proofs.YtkaoeoeloihigaaGreatDoor
open Go.RowKit Go.Maps Go.WideMaps

def Mill.Res (W : World) (B : Nat) : Prop := W.cell? ⟨B, 0, none⟩ = some (.slice none 0 0) ∧ W.frozen? ⟨B, 0, none⟩ = false ∧ B < W.heap.size
theorem Mill.Res.below {W W' : World} {B : Nat} (h : Mill.Res W B) (hb : Below W.heap.size W W') : Mill.Res W' B :=
  ⟨by rw [hb.cell (p := ⟨B, 0, none⟩) h.2.2]; exact h.1, by rw [hb.frozen (p := ⟨B, 0, none⟩) h.2.2]; exact h.2.1, Nat.lt_of_lt_of_le h.2.2 hb.size⟩
theorem Mill.Res.alloc {W : World} {B : Nat} (h : Mill.Res W B) (o : Obj) : Mill.Res (W.alloc o) B := h.below ((Below.refl _ W).alloc (Nat.le_refl _) o)
def Mill.RootPost (w : World) (ns : List Mill.Nd) (e : Ending) (w' : World) : Prop :=
  (∃ ax nx cx, e = .returned (.tuple #[.agg #[.slice ax nx cx], .bool (Mill.rootOk ns)]) ∧ (Mill.rootOk ns = true → ∃ (t : Mill.Tr) (P : Nat → Prop), Mill.growT ns [] = some [t] ∧ (∀ g, P g → g < w'.heap.size) ∧ Mill.Rep P w' t (.iface 47 (.agg #[.slice ax nx cx])))) ∧ Below w.heap.size w w'
theorem Mill.root_no {w w' : World} {ns : List Mill.Nd} (h : Hid (Mill.rootOk ns = false)) (hb : Below w.heap.size w w') : Mill.RootPost w ns (.returned (.tuple #[.agg #[.slice none 0 0], .bool false])) w' :=
  ⟨⟨none, 0, 0, by rw [h.out], fun h2 => by rw [h.out] at h2; cases h2⟩, hb⟩
def Mill.okT : Option (List Mill.Tr) → Bool
  | some [t] => (t.nd.kind == 24) && decide (t.high ≤ 60)
  | _ => false
theorem Mill.rootOk_eq (ns : List Mill.Nd) (h : ns.length ≤ 12001) : Mill.rootOk ns = Mill.okT (Mill.growT ns []) := by
  unfold Mill.rootOk
  simp only [h, decide_true, Bool.true_and]
  cases Mill.growT ns [] with
  | none => rfl
  | some l => rcases l with _ | ⟨t, _ | ⟨u, r⟩⟩ <;> rfl

set_option maxRecDepth 100000 in
set_option maxHeartbeats 4000000 in
theorem rootOf_short (ns : List Mill.Nd) (v : Value) (w : World) (hN : Mill.NodesAt w v ns) (hl : ns.length ≤ 12001) (hs : ∀ d ∈ ns, d.text.size ≤ 1048576) (hG : Mill.Greats w) (hW : Mill.Builts w) :
    Calls Tryz.prog 14 #[.agg #[v]] w fun e w' => Mill.RootPost w ns e w' := by
  obtain ⟨i0, hi0, hz0, hz1, hz2⟩ := info_parts Tryz.infoBranch
  obtain ⟨a, cap, rfl, hc⟩ := hN
  have HR : Hid (Mill.rootOk ns = Mill.okT (Mill.growT ns [])) := Mill.rootOk_eq ns hl
  obtain ⟨n, HN⟩ : ∃ n, Hid (ns.length = n) := ⟨_, (rfl : ns.length = _)⟩
  rw [HN.out] at hl
  simp only [HN.out]
  have hc' : ∀ i (hi : i < n), ∃ g, a = some ⟨g, 0, none⟩ ∧ g < w.heap.size ∧ ∀ j, j < 6 → w.cell? ⟨g, i * 6 + j, none⟩ = (Mill.ndC (ns[i]'(by rw [HN.out]; exact hi)))[j]? := fun i hi => hc i (by rw [HN.out]; exact hi)
  clear hc
  have HC : Hid (∀ i (hi : i < n), ∃ g, a = some ⟨g, 0, none⟩ ∧ g < w.heap.size ∧ ∀ j, j < 6 → w.cell? ⟨g, i * 6 + j, none⟩ = (Mill.ndC (ns[i]'(by rw [HN.out]; exact hi)))[j]?) := hc'
  clear hc'
  have hl' : (n : Int) ≤ 12001 := by omega
  go_enter Tryz.func14, Tryz.ntmps14
  go_wp2_with (go_at_call 25; (refine (takenWords_any _).mono ?_; rintro e w1 ⟨rfl, hM, hb⟩; simp only [World.size_alloc] at hM hb; have r0 : w1.cell? ⟨w.heap.size, 0, none⟩ = some (.slice a n cap) := (by rw [hb.cell (p := ⟨w.heap.size, 0, none⟩) (by simp only; omega)]; simp [go_sem]); have r1 : w1.cell? ⟨w.heap.size + 1, 0, none⟩ = some (.slice none 0 0) := (by rw [hb.cell (p := ⟨w.heap.size + 1, 0, none⟩) (by simp only; omega)]; simp [go_sem]); have s1 : w1.frozen? ⟨w.heap.size + 1, 0, none⟩ = false := (by rw [hb.frozen (p := ⟨w.heap.size + 1, 0, none⟩) (by simp only; omega)]; simp [go_sem]); have hz1' := hb.size; simp only [World.size_alloc] at hz1'))
  have hM1 : Mill.TWords w1 (w.heap.size + 1 + 1) := hM
  have hbw1 : Below w.heap.size w w1 := (((Below.refl _ w).alloc (Nat.le_refl _) _).alloc (by simp) _).trans (hb.mono (by omega))
  go_loopw [5, 21] (fun vt tv wr => ∃ (i : Nat) (st : List Mill.Tr) (vs : List Value), i ≤ n ∧ tv = .int .i64 (i : Int) ∧ st.length ≤ i ∧ wr.ownsRow w1.heap.size 77 1 vt st.length vs ∧ Mill.Reps (Mill.FreeB w1.heap.size wr vt) wr st vs ∧ Mill.Kinded vs (st.map (fun t => t.nd.kind)) ∧ Below w1.heap.size w1 wr ∧ Mill.growT (ns.drop i) st = Mill.growT ns [] ∧ ∀ t ∈ st, t.high < i) (fun _ tv _ => n - (intOf tv).toNat)
  case atStart =>
    refine ⟨0, [], [], by omega, rfl, by simp, ⟨rfl, .inl ⟨rfl, rfl⟩⟩, by rw [Mill.Reps], ⟨rfl, fun i hi => by simp at hi⟩, Below.refl _ _, rfl, by simp⟩
  case round =>
    obtain ⟨i, st, vs, hi, rfl, hsi, hown, hR, hK, hbw, hu, hhi⟩ := hrel
    have HHI : Hid (∀ t ∈ st, t.high < i) := hhi
    clear hhi
    have hRes : Mill.Res wr (w.heap.size + 1) := Mill.Res.below ⟨r1, s1, by omega⟩ hbw
    have hbr : Below w.heap.size w wr := hbw1.trans (hbw.mono hbw1.size)
    by_cases hlt : i < n
    · obtain ⟨g, rfl, hg, hcell⟩ := HC.out i hlt
      have hil : i < ns.length := by rw [HN.out]; exact hlt
      rw [List.drop_eq_getElem_cons hil, Mill.growT] at hu
      have hsd := hs ns[i] (List.getElem_mem hil)
      have hq : ∀ m, m < 6 → wr.cell? ⟨g, i * 6 + m, none⟩ = (Mill.ndC ns[i])[m]? := fun m hm => by rw [hbr.cell (p := ⟨g, i * 6 + m, none⟩) hg, hcell m hm]
      generalize ns[i] = d at *
      have e0 := hq 0 (by omega); have e1 := hq 1 (by omega); have e2 := hq 2 (by omega); have e3 := hq 3 (by omega); have e4 := hq 4 (by omega); have e5 := hq 5 (by omega)
      simp only [Mill.ndC, Nat.add_zero, List.getElem?_cons_zero, List.getElem?_cons_succ] at e0 e1 e2 e3 e4 e5
      clear hq hcell HC
      obtain ⟨L, HL⟩ : ∃ L, Hid (st.length = L) := ⟨_, (rfl : st.length = _)⟩
      rw [HL.out] at hown hsi
      obtain ⟨at', ct, rfl⟩ := Mill.rowLen hown
      have hMr : Mill.TWords (wr.alloc (.cells #[.int .i64 d.kind, .int .i64 d.op, .int .i64 d.type, .int .i64 d.n, .string d.text, .int .i64 d.kids] 68)) (w.heap.size + 1 + 1) := (Mill.tmap_below hM1 hbw).alloc _
      have hGr : Mill.Greats (wr.alloc (.cells #[.int .i64 d.kind, .int .i64 d.op, .int .i64 d.type, .int .i64 d.n, .string d.text, .int .i64 d.kids] 68)) := (hG.below hbr).below ((Below.refl _ wr).alloc (Nat.le_refl _) _)
      have hWr : Mill.Builts (wr.alloc (.cells #[.int .i64 d.kind, .int .i64 d.op, .int .i64 d.type, .int .i64 d.n, .string d.text, .int .i64 d.kids] 68)) := (hW.below hbr).below ((Below.refl _ wr).alloc (Nat.le_refl _) _)
      obtain ⟨qa, ta, _⟩ := hRes.alloc (.cells #[.int .i64 d.kind, .int .i64 d.op, .int .i64 d.type, .int .i64 d.n, .string d.text, .int .i64 d.kids] 68)
      by_cases hk0 : d.kids < 0
      · have HF : Hid (Mill.rootOk ns = false) := by
          have : Mill.stepOk d st = false := by simp [Mill.stepOk]; omega
          rw [this] at hu
          rw [Hid, HR.out, ← hu]; rfl
        clear hu hR hK hown hMr hGr hWr
        go_wp2
        exact bodyPost_ret (v := .tuple #[.agg #[.slice none 0 0], .bool false]) (by simp [results, Tryz.results14, go_sem, qa]) rfl (Mill.root_no HF ((hbr.alloc hbr.size _).setCell (p := ⟨w.heap.size + 1, 0, none⟩) (by simp only; omega) _))
      · by_cases hk1 : (L : Int) < d.kids
        · have HF : Hid (Mill.rootOk ns = false) := by
            have : Mill.stepOk d st = false := by
              have h1 := HL.out
              simp [Mill.stepOk]; omega
            rw [this] at hu
            rw [Hid, HR.out, ← hu]; rfl
          clear hu hR hK hown hMr hGr hWr
          go_wp2
          exact bodyPost_ret (v := .tuple #[.agg #[.slice none 0 0], .bool false]) (by simp [results, Tryz.results14, go_sem, qa]) rfl (Mill.root_no HF ((hbr.alloc hbr.size _).setCell (p := ⟨w.heap.size + 1, 0, none⟩) (by simp only; omega) _))
        · obtain ⟨c, HUR⟩ : ∃ c, Hid (Mill.useR d = c) := ⟨_, (rfl : Mill.useR d = _)⟩
          cases c with
          | false =>
            have HF : Hid (Mill.rootOk ns = false) := by
              have : Mill.stepOk d st = false := by simp [Mill.stepOk, HUR.out]
              rw [this] at hu
              rw [Hid, HR.out, ← hu]; rfl
            clear hu hR hK hown hWr
            go_wp2_with (go_at_call 26; (refine (usesRight_is false _ HUR (w.heap.size + 1 + 1) _ hsd hMr hGr).mono ?_; rintro e w2 ⟨rfl, hb2⟩; obtain ⟨qb, tb, _⟩ := (hRes.alloc _).below hb2; rw [World.size_alloc] at hb2))
            exact bodyPost_ret (v := .tuple #[.agg #[.slice none 0 0], .bool false]) (by simp [results, Tryz.results14, go_sem, qb]) rfl (Mill.root_no HF (((hbr.alloc hbr.size _).trans (hb2.mono (by have := hbr.size; omega))).setCell (p := ⟨w.heap.size + 1, 0, none⟩) (by simp only; omega) _))
          | true =>
            obtain ⟨kd, ko, kt, ky, kx, kk⟩ := d
            simp only at *
            obtain ⟨m, rfl⟩ : ∃ m : Nat, kk = (m : Int) := ⟨kk.toNat, by omega⟩
            have hk0' : ¬ (m : Int) < 0 := by omega
            obtain ⟨p, hp⟩ : ∃ p, L = p + m := ⟨L - m, by omega⟩
            subst hp
            have hKd := hK.drop p
            have hone := hKd.one
            have hvl : vs.length = p + m := by have := hown.1; omega
            have hdl : (vs.drop p).length = m := by rw [List.length_drop]; omega
            have ho : kd = 8 → 1 ≤ ko ∧ ko ≤ 12 := by
              intro h8
              have := HUR.out
              simp [Mill.useR, h8] at this
              exact this
            have HNk : Hid (((st.map (fun t => t.nd.kind)).drop p).length = m) := by rw [Hid, List.length_drop, List.length_map, HL.out]; omega
            obtain ⟨sa, HSA⟩ : ∃ sa, Hid ((if ct = p then at' else at'.map (fun a => a.add p)) = sa) := ⟨_, (rfl : (if ct = p then at' else at'.map (fun a => a.add p)) = _)⟩
            have hsa := HSA.out
            have hs1 : p + m - p = m := by omega
            have hnn := Tryz.ifNeNil
            have hcap := Mill.own_cap hown _ _ rfl
            cases hF : Mill.fits kd ko ((st.map (fun t => t.nd.kind)).drop p) with
            | false =>
              have HF : Hid (Mill.rootOk ns = false) := by rw [Hid, HR.out, Mill.hu_no (p := p) (m := m) rfl HL.out hu (by rw [HUR.out, hF]; rfl)]; rfl
              have hen := Tryz.ifEqNil
              clear hu
              go_wp2_with (first
                | (go_at_call 26; (refine (usesRight_is true _ HUR (w.heap.size + 1 + 1) _ hsd hMr hGr).mono ?_; rintro e w2 ⟨rfl, hb2⟩; obtain ⟨qb, tb, nb⟩ := (hRes.alloc _).below hb2; rw [World.size_alloc] at hb2; obtain ⟨q0, q1, q2, q3, q4, q5⟩ := Mill.nd_cells hb2; have hz2' := hb2.size; rw [World.size_alloc] at hz2')))
              have hbr2 : Below wr.heap.size wr w2 := ((Below.refl _ wr).alloc (Nat.le_refl _) _).trans (hb2.mono (by omega))
              have own2 := Mill.tree_own hown hbr2
              have hW2 : Mill.Builts w2 := hWr.below (by rw [World.size_alloc]; exact hb2)
              have hone' : Hid (∀ u ∈ vs.drop p, u.oneCell' = true) := hone
              clear hone
              go_region_with (first
                | (go_at_call 28; go_loud (refine (clone_u at' p m ct _ sa vs w2.drew HSA own2 hone'.out (by omega)).mono ?_; rintro e w3 ⟨aS, cS, rfl, slS, capS, hbS0⟩; have hbS := Mill.below_undrew hbS0; have hz3 := hbS.size; obtain ⟨s0, s1, s2, s3, s4, s5⟩ := Mill.nd_cells (hb2.trans (hbS.mono hz2'))))
                | (go_at_call 27; (refine (grown_any kd ko kt ky kx (m : Int) ho (fun g => w2.heap.size ≤ g ∧ g < w3.heap.size) (vs.drop p) ((st.map (fun t => t.nd.kind)).drop p) _ m HNk w3 (hW2.below hbS) (fun g h => h.2) slS.out capS hKd (by omega)).mono ?_; rintro e w4 ⟨hb4, hg⟩; rw [hF] at hg; obtain ⟨_, rfl⟩ := hg.resolve_left (by simp))))
              all_goals
                have hb24 : Below (wr.heap.size + 1) (wr.alloc (.cells #[.int .i64 kd, .int .i64 ko, .int .i64 kt, .int .i64 ky, .string kx, .int .i64 (m : Int)] 68)) w4 := (hb2.trans (hbS.mono hz2')).trans (hb4.mono (by omega))
                have hbr4 : Below wr.heap.size wr w4 := ((Below.refl _ wr).alloc (Nat.le_refl _) _).trans (hb24.mono (by omega))
                obtain ⟨qe, te, _⟩ := hRes.below hbr4
                clear hg q0 q1 q2 q3 q4 q5 s0 s1 s2 s3 s4 s5 qa ta qb tb hsa slS
                go_wp2
                exact bodyPost_ret (v := .tuple #[.agg #[.slice none 0 0], .bool false]) (by simp [results, Tryz.results14, go_sem, qe]) rfl (Mill.root_no HF ((hbr.trans (hbr4.mono hbr.size)).setCell (p := ⟨w.heap.size + 1, 0, none⟩) (by simp only; omega) _))
            | true =>
              go_wp2_with (first
                | (go_at_call 26; (refine (usesRight_is true _ HUR (w.heap.size + 1 + 1) _ hsd hMr hGr).mono ?_; rintro e w2 ⟨rfl, hb2⟩; obtain ⟨qb, tb, nb⟩ := (hRes.alloc _).below hb2; rw [World.size_alloc] at hb2; obtain ⟨q0, q1, q2, q3, q4, q5⟩ := Mill.nd_cells hb2; have hz2' := hb2.size; rw [World.size_alloc] at hz2')))
              have hbr2 : Below wr.heap.size wr w2 := ((Below.refl _ wr).alloc (Nat.le_refl _) _).trans (hb2.mono (by omega))
              have own2 := Mill.tree_own hown hbr2
              have hW2 : Mill.Builts w2 := hWr.below (by rw [World.size_alloc]; exact hb2)
              have hone' : Hid (∀ u ∈ vs.drop p, u.oneCell' = true) := hone
              clear hone
              go_region_with (first
                | (go_at_call 28; go_loud (refine (clone_u at' p m ct _ sa vs w2.drew HSA own2 hone'.out (by omega)).mono ?_; rintro e w3 ⟨aS, cS, rfl, slS, capS, hbS0⟩; have hbS := Mill.below_undrew hbS0; have hz3 := hbS.size; obtain ⟨s0, s1, s2, s3, s4, s5⟩ := Mill.nd_cells (hb2.trans (hbS.mono hz2'))))
                | (go_at_call 27; (refine (grown_any kd ko kt ky kx (m : Int) ho (fun g => w2.heap.size ≤ g ∧ g < w3.heap.size) (vs.drop p) ((st.map (fun t => t.nd.kind)).drop p) _ m HNk w3 (hW2.below hbS) (fun g h => h.2) slS.out capS hKd (by omega)).mono ?_; rintro e w4 ⟨hb4, hg⟩; rw [hF] at hg; obtain ⟨_, v, rfl, hsh⟩ := hg.resolve_right (by simp))))
              all_goals
                obtain ⟨k1, k2, X, hvX, hfX⟩ := Mill.form_of hKd hsh
                subst hvX
                have hb24 : Below (wr.heap.size + 1) (wr.alloc (.cells #[.int .i64 kd, .int .i64 ko, .int .i64 kt, .int .i64 ky, .string kx, .int .i64 (m : Int)] 68)) w4 := (hb2.trans (hbS.mono hz2')).trans (hb4.mono (by omega))
                obtain ⟨x0, x1, x2, x3, x4, x5⟩ := Mill.nd_cells hb24
                have hbr4 : Below wr.heap.size wr w4 := ((Below.refl _ wr).alloc (Nat.le_refl _) _).trans (hb24.mono (by omega))
                have hRes4 := hRes.below hbr4
                have hz4 := hb4.size
                obtain ⟨bb, HUA⟩ : ∃ bb, Hid (Mill.ndEq ⟨kd, ko, kt, ky, kx, (m : Int)⟩ (Mill.takenN ⟨kd, ko, kt, ky, kx, (m : Int)⟩ m) = bb) := ⟨_, (rfl : Mill.ndEq _ _ = _)⟩
                have h60 : 23 ≤ kd → (vs.drop p).length ≤ 100000 := fun h23 => by have := Mill.fits60 kd ko _ hF h23; have h3 := HNk.out; omega
                have HSH : Hid (Mill.Shape (fun g => w2.heap.size ≤ g ∧ g < w3.heap.size ∨ w3.heap.size ≤ g ∧ g < w4.heap.size) w4 ⟨kd, ko, kt, ky, kx, (m : Int)⟩ (vs.drop p) (.iface (Mill.ty kd) X)) := hsh
                clear hsh hg q0 q1 q2 q3 q4 q5 s0 s1 s2 s3 s4 s5 qa ta qb tb hsa slS
                have hzw := hbw.size
                have own4 : w4.ownsRow w1.heap.size 77 1 (.slice at' (p + m) ct) (p + m) vs := Mill.tree_own (Mill.tree_own own2 hbS) hb4
                cases bb with
                | false =>
                  have HF : Hid (Mill.rootOk ns = false) := by rw [Hid, HR.out, Mill.hu_no (p := p) (m := m) rfl HL.out hu (by rw [HUR.out, hF, HUA.out]; rfl)]; rfl
                  clear hu
                  go_wp2_with (go_at_call 29; (refine (usesAll_is false _ _ (vs.drop p) _ m hdl HUA _ w4 (fun g h => by omega) hKd h60 HSH.out).mono ?_; rintro e w5 ⟨rfl, hb5⟩; obtain ⟨qe, te, _⟩ := hRes4.below hb5))
                  exact bodyPost_ret (v := .tuple #[.agg #[.slice none 0 0], .bool false]) (by simp [results, Tryz.results14, go_sem, qe]) rfl (Mill.root_no HF (((hbr.trans (hbr4.mono hbr.size)).trans (hb5.mono (by have := hbr.size; omega))).setCell (p := ⟨w.heap.size + 1, 0, none⟩) (by simp only; omega) _))
                | true =>
                  go_wp2_with (first
                    | (go_at_call 29; (refine (usesAll_is true _ _ (vs.drop p) _ m hdl HUA _ w4 (fun g h => by omega) hKd h60 HSH.out).mono ?_; rintro e w5 ⟨rfl, hb5⟩; have hz5 := hb5.size; have ot5 := Mill.own_takeU (Mill.tree_own own4 hb5) p (by omega)))
                    | (at_builtin; go_loud (refine wpList_append_own_at _ rfl _ _ 56 rfl w1.heap.size 77 i0 .nilIface 1 16 Tryz.underlying56 hi0 hz0 hz1 hz2 rfl (by decide) _ p (vs.take p) rfl (ot5.alloc _) ⟨w5.heap.size, 0, none⟩ 1 1 [.iface (Mill.ty kd) X] rfl rfl (cell_one_new _ _ _) (fun u hu => by rw [List.mem_singleton] at hu; subst hu; rfl) (by unfold maxLen; omega) (by omega) (by simp; omega) ?_; intro v6 w6 own6 g6 _ at6)))
                  have HU : Hid (Mill.growT (ns.drop (i + 1)) (st.take p ++ [.node ⟨kd, ko, kt, ky, kx, (m : Int)⟩ (st.drop p)]) = Mill.growT ns []) := Mill.hu_yes rfl HL.out hu HUR.out hF HUA.out
                  have hnext := Mill.round_next hown hR hK hzw (hbr4.trans (hb5.mono (by omega))) hb5 (by omega) hz3 HSH.out hz4 g6 at6 h60 (by omega)
                  have hb6 : Below w1.heap.size w1 w6 := Below.grown (((hbw.trans (hbr4.mono hzw)).trans (hb5.mono (by omega))).alloc (by omega) _) g6 (by rw [World.size_alloc]; omega) (fun k hk => (ot5.lt k hk).1)
                  have hlen : (st.take p ++ [Mill.Tr.node ⟨kd, ko, kt, ky, kx, (m : Int)⟩ (st.drop p)]).length = p + 1 := by have := HL.out; simp; omega
                  have HH := Mill.high_next st ⟨kd, ko, kt, ky, kx, (m : Int)⟩ p i HHI.out
                  go_roundw
                  case rel => exact ⟨i + 1, _, _, by omega, by go_num, by rw [hlen]; omega, by rw [hlen]; exact own6, hnext.1, hnext.2, hb6, HU.out, HH⟩
                  case measure => simp [intOf]; omega
    · have hin : i = n := by omega
      subst hin
      have HG : Hid (Mill.growT ns [] = some st) := by rw [List.drop_of_length_le (by rw [HN.out]; omega), Mill.growT] at hu; exact hu.symm
      clear hu HC
      obtain ⟨qa, ta, _⟩ := hRes
      obtain ⟨at', ct, rfl⟩ := Mill.rowLen hown
      obtain ⟨L, HL⟩ : ∃ L, Hid (st.length = L) := ⟨_, (rfl : st.length = _)⟩
      rw [HL.out] at hown hsi
      simp only [HL.out]
      by_cases hL1 : L = 1
      · subst hL1
        obtain ⟨t, hst⟩ : ∃ t, st = [t] := by
          have h1 := HL.out
          match st, h1 with
          | [t], _ => exact ⟨t, rfl⟩
        subst hst
        obtain ⟨u, hvs⟩ : ∃ u, vs = [u] := by
          have h1 := hown.1
          match vs, h1 with
          | [u], _ => exact ⟨u, rfl⟩
        subst hvs
        obtain ⟨k1, k2, X, hX, hfX⟩ := hK.2 0 (by simp)
        simp only [List.map_cons, List.map_nil, List.getElem_cons_zero, List.getElem?_cons_zero, Option.some.injEq] at k1 k2 hX hfX
        subst hX
        obtain ⟨tb, ct', htv, htb1, htb2⟩ := Mill.rowForm hown (by omega)
        cases htv
        have cu : wr.cell? ⟨tb, 0, none⟩ = some (.iface (Mill.ty t.nd.kind) X) := by rw [hown.cellAt 0 (by omega)]; rfl
        have HOK : Hid (Mill.rootOk ns = ((t.nd.kind == 24) && decide (t.high ≤ 60))) := by rw [Hid, HR.out, HG.out]; rfl
        have hRt : Mill.Rep (Mill.FreeB w1.heap.size wr (.slice (some ⟨tb, 0, none⟩) 1 ct)) wr t (.iface (Mill.ty t.nd.kind) X) := by
          rw [Mill.Reps] at hR
          obtain ⟨u, us', h1, h2, _⟩ := hR
          cases h1; exact h2
        have hht : t.high < 12001 := by have := HHI.out t (by simp); omega
        by_cases h24 : t.nd.kind = 24
        · have ht : Mill.ty t.nd.kind = 47 := by rw [h24]; rfl
          rw [ht] at cu hRt
          obtain ⟨ax, nx, cx, hXS⟩ := Mill.prog_form h24 hRt
          subst hXS
          have hta : ∀ (x : Value) (w : World), (Instr.typeAssert (.iface 47 x) 77 47 true).run Tryz.prog w = .ok (.tuple #[x, .bool true]) w := fun x w => by rw [Tryz.ta_programNode, if_pos rfl]
          clear hR hown hK hfX
          have hRes1 : Mill.Res (wr.alloc (.cells #[.slice ax nx cx] 47)) (w.heap.size + 1) := Mill.Res.alloc ⟨qa, ta, by have := hbr.size; omega⟩ _
          have hRt1 : Mill.Rep (Mill.FreeB w1.heap.size wr (.slice (some ⟨tb, 0, none⟩) 1 ct)) (wr.alloc (.cells #[.slice ax nx cx] 47)) t (.iface 47 (.agg #[.slice ax nx cx])) := Mill.Rep.below (fun g h => h) (fun g h => ((Below.refl wr.heap.size wr).alloc (Nat.le_refl _) _).block g h.2.1) _ _ hRt
          by_cases h60 : t.high ≤ 60
          · have HT : Hid (Mill.rootOk ns = true) := by rw [Hid, HOK.out]; simp [h24, h60]
            go_wp2_with (go_at_call 30; (refine (levels_any t _ _ (Mill.FreeB w1.heap.size wr (.slice (some ⟨tb, 0, none⟩) 1 ct)) (by omega) (fun g h => by have := h.2.1; rw [World.size_alloc]; omega) hRt1).mono ?_; rintro e w2 ⟨rfl, hb2⟩; obtain ⟨qe, te, _⟩ := hRes1.below hb2; rw [World.size_alloc] at hb2; have cr : w2.cell? ⟨wr.heap.size, 0, none⟩ = some (.slice ax nx cx) := (by rw [hb2.cell (p := ⟨wr.heap.size, 0, none⟩) (by simp)]; simp [go_sem])))
            have hz1w := hbw.size
            have hzr := hb2.size
            rw [World.size_alloc] at hzr
            have hbr2 : Below w.heap.size w w2 := (hbr.alloc hbr.size _).trans (hb2.mono (by have := hbr.size; omega))
            refine bodyPost_ret (v := .tuple #[.agg #[.slice ax nx cx], .bool true]) (by simp [results, Tryz.results14, go_sem, qe]) rfl ⟨⟨ax, nx, cx, by rw [HT.out], fun _ => ⟨t, Mill.FreeB w1.heap.size wr (.slice (some ⟨tb, 0, none⟩) 1 ct), HG.out, ?_, ?_⟩⟩, hbr2.setCell (p := ⟨w.heap.size + 1, 0, none⟩) (by simp only; omega) _⟩
            · intro g h
              have := h.2.1
              rw [World.size_setCell]; omega
            · refine Mill.Rep.below (fun g h => h) (fun g h => ?_) _ _ hRt
              have h1 := h.1
              have h2 := h.2.1
              rw [Mill.heap_set _ _ _ _ (by omega), hb2.block g (by omega)]
              exact ((Below.refl wr.heap.size wr).alloc (Nat.le_refl _) _).block g h2
          · have HF : Hid (Mill.rootOk ns = false) := by rw [Hid, HOK.out]; simp; omega
            go_wp2_with (go_at_call 30; (refine (levels_any t _ _ (Mill.FreeB w1.heap.size wr (.slice (some ⟨tb, 0, none⟩) 1 ct)) (by omega) (fun g h => by have := h.2.1; rw [World.size_alloc]; omega) hRt1).mono ?_; rintro e w2 ⟨rfl, hb2⟩; obtain ⟨qe, te, _⟩ := hRes1.below hb2; rw [World.size_alloc] at hb2))
            exact bodyPost_ret (v := .tuple #[.agg #[.slice none 0 0], .bool false]) (by simp [results, Tryz.results14, go_sem, qe]) rfl (Mill.root_no HF (((hbr.alloc hbr.size _).trans (hb2.mono (by have := hbr.size; omega))).setCell (p := ⟨w.heap.size + 1, 0, none⟩) (by simp only; omega) _))
        · have HF : Hid (Mill.rootOk ns = false) := by rw [Hid, HOK.out]; simp [h24]
          have htn : ¬ Mill.ty t.nd.kind = 47 := fun h => h24 (Mill.ty_prog _ k1 k2 h)
          obtain ⟨T, hT⟩ : ∃ T, T = Mill.ty t.nd.kind := ⟨_, rfl⟩
          rw [← hT] at cu htn
          have hta : ∀ (x : Value) (w : World), (Instr.typeAssert (.iface T x) 77 47 true).run Tryz.prog w = .ok (.tuple #[.agg #[.slice none 0 0], .bool false]) w := fun x w => by rw [Tryz.ta_programNode, if_neg htn]
          obtain ⟨qe, te, _⟩ : Mill.Res (wr.alloc (.cells #[.slice none 0 0] 47)) (w.heap.size + 1) := Mill.Res.alloc ⟨qa, ta, by have := hbr.size; omega⟩ _
          clear hR hown hK hfX hRt hT
          go_wp2
          have hlt1 : w.heap.size + 1 < wr.heap.size := by have := hbw.size; omega
          have qf : ((wr.setCell ⟨w.heap.size + 1, 0, none⟩ (.slice none 0 0)).alloc (.cells #[.slice none 0 0] 47)).cell? ⟨w.heap.size + 1, 0, none⟩ = some (.slice none 0 0) := by
            rw [World.cell?_alloc_past _ _ _ (by rw [World.size_setCell]; exact hlt1)]
            simp [go_sem, qa]
          exact bodyPost_ret (v := .tuple #[.agg #[.slice none 0 0], .bool false]) (by simp [results, Tryz.results14, go_sem, qf]) rfl (Mill.root_no HF ((hbr.setCell (p := ⟨w.heap.size + 1, 0, none⟩) (by simp only; omega) _).alloc (by rw [World.size_setCell]; exact hbr.size) _))
      · have HF : Hid (Mill.rootOk ns = false) := by
          rw [Hid, HR.out, HG.out]
          rcases st with _ | ⟨t, _ | ⟨u, r⟩⟩
          · rfl
          · have := HL.out; simp at this; omega
          · rfl
        have hL2 : ((L : Int) != 1) = true := by simp; omega
        go_wp2
        exact bodyPost_ret (v := .tuple #[.agg #[.slice none 0 0], .bool false]) (by simp [results, Tryz.results14, go_sem, qa]) rfl (Mill.root_no HF (hbr.setCell (p := ⟨w.heap.size + 1, 0, none⟩) (by simp only; omega) _))

end Go.Proofs.YtkaoeoeloihigaaGreatDoor
