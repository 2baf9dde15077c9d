import Derived.Test.YtkaoeoeloihigaaGreatDoorVTreeG
namespace Go.Proofs.YtkaoeoeloihigaaGreatDoor
open Go.RowKit

theorem Mill.kidsOf_ok : ∀ (cs : List Int) (i : Nat) (opn : List Nat) (out K : List (List Nat)) (o : List Nat), Mill.kidsOf cs i opn out = some (K, o) → (∀ x ∈ opn, x < i) → opn.length ≤ i → out.length = i → (∀ j (h : j < out.length), (∀ x ∈ out[j], x < j) ∧ out[j].length ≤ j) →
    K.length = i + cs.length ∧ (∀ j (h : j < K.length), (∀ x ∈ K[j], x < j) ∧ K[j].length ≤ j) ∧ ∀ x ∈ o, x < i + cs.length
  | [], i, opn, out, K, o, h, h1, _, h2, h3 => by
    simp only [Mill.kidsOf, Option.some.injEq, Prod.mk.injEq] at h
    obtain ⟨rfl, rfl⟩ := h
    exact ⟨by simpa using h2, h3, by simpa using h1⟩
  | c :: r, i, opn, out, K, o, h, h1, h0, h2, h3 => by
    rw [Mill.kidsOf] at h
    split at h
    · have := Mill.kidsOf_ok r (i + 1) _ _ K o h (by
        intro x hx
        rcases List.mem_append.1 hx with hx | hx
        · have := h1 x (List.mem_of_mem_take hx); omega
        · simp at hx; omega) (by simp; omega) (by simp [h2]) (by
        intro j hj
        by_cases hj2 : j < out.length
        · rw [List.getElem_append_left hj2]; exact h3 j hj2
        · have hj3 : j = out.length := by simp at hj; omega
          subst hj3
          rw [List.getElem_append_right (Nat.le_refl _)]
          simp only [Nat.sub_self, List.getElem_cons_zero]
          refine ⟨fun x hx => ?_, by rw [List.length_drop]; omega⟩
          have := h1 x (List.mem_of_mem_drop hx)
          omega)
      simp only [List.length_cons]
      refine ⟨by omega, this.2.1, fun x hx => by have := this.2.2 x hx; omega⟩
    · cases h
theorem Mill.kidsR_ok {ns : List Mill.Nd} {K : List (List Nat)} {o : List Nat} (h : Mill.kidsR ns = some (K, o)) : 1 ≤ ns.length ∧ ns.length ≤ 12001 ∧ K.length = ns.length ∧ (∀ j (h : j < K.length), (∀ x ∈ K[j], x < j) ∧ K[j].length ≤ j) ∧ ∀ x ∈ o, x < ns.length := by
  unfold Mill.kidsR at h
  split at h
  · rename_i hl
    have := Mill.kidsOf_ok _ 0 [] [] K o h (by simp) (by simp) rfl (by intro j hj; simp at hj)
    simp only [List.length_map, Nat.zero_add] at this
    exact ⟨hl.1, hl.2, this⟩
  · cases h

def Mill.kindAt (ns : List Mill.Nd) (k : Nat) : Int := (ns[k]?.map (·.kind)).getD 0
def Mill.kindsOf (ns : List Mill.Nd) (ks : List Nat) : List Int := ks.map (Mill.kindAt ns)
def Mill.highOf (hs ks : List Nat) : Nat := ks.foldl (fun h k => max h (hs.getD k 0 + 1)) 0
def Mill.nodeOk (ns : List Mill.Nd) (i h : Nat) (ks : List Nat) : Bool := match ns[i]? with
  | none => false
  | some d => decide (h ≤ 60) && Mill.fields d && Mill.fits d.kind d.op (Mill.kindsOf ns ks)
def Mill.validL (ns : List Mill.Nd) : List (List Nat) → Nat → List Nat → Bool
  | [], _, _ => true
  | ks :: r, i, hs => Mill.nodeOk ns i (Mill.highOf hs ks) ks && Mill.validL ns r (i + 1) (hs ++ [Mill.highOf hs ks])
def Mill.valid (ns : List Mill.Nd) : Bool := match Mill.kidsR ns with
  | none => false
  | some (K, o) => decide (o.length = 1) && Mill.validL ns K 0 [] && (Mill.kindAt ns (ns.length - 1) == 24)

theorem Mill.highOf_snoc (hs ks : List Nat) (k : Nat) : Mill.highOf hs (ks ++ [k]) = max (Mill.highOf hs ks) (hs.getD k 0 + 1) := by simp [Mill.highOf]
theorem Mill.highOf_bd (hs : List Nat) (hb : ∀ x ∈ hs, x ≤ 60) (ks : List Nat) : Mill.highOf hs ks ≤ 61 := by
  unfold Mill.highOf
  have : ∀ (ks : List Nat) (a : Nat), a ≤ 61 → ks.foldl (fun h k => max h (hs.getD k 0 + 1)) a ≤ 61 := by
    intro ks
    induction ks with
    | nil => intro a ha; simpa using ha
    | cons k r ih =>
      intro a ha
      simp only [List.foldl_cons]
      refine ih _ ?_
      have : hs.getD k 0 ≤ 60 := by
        rw [List.getD_eq_getElem?_getD]
        cases hk : hs[k]? with
        | none => simp
        | some x => simp; exact hb x (List.mem_of_getElem? hk)
      omega
  exact this ks 0 (by omega)

theorem Mill.tree_own {W W' : World} {B e size n : Nat} {v : Value} {xs : List Value} (h : W.ownsRow B e size v n xs) (hb : Below W.heap.size W W') : W'.ownsRow B e size v n xs := by
  refine ⟨h.1, ?_⟩
  rcases h.2 with hn | ⟨g, cap, cur, hv, hg, hgg, rest⟩
  · exact .inl hn
  · exact .inr ⟨g, cap, cur, hv, hg, by rw [hb.block g (Array.getElem?_eq_some_iff.1 hgg).1]; exact hgg, rest⟩
theorem Mill.tab_below {w w' : World} {B : Nat} {v : Value} {K : List (List Nat)} {vs : List Value} (h : Mill.TabIs w B v K vs) (hb : Below w.heap.size w w') : Mill.TabIs w' B v K vs :=
  ⟨Mill.tree_own h.1 hb, fun i hi => by obtain ⟨u, hu, ho⟩ := h.2 i hi; exact ⟨u, hu, Mill.tree_own ho hb⟩⟩
theorem Mill.nat_at {w : World} {B n : Nat} {v : Value} {ks : List Nat} {e : TypeId} (h : w.ownsRow B e 1 v n (Mill.nats ks)) (hn : ks.length = n) :
    ∃ a cap, v = .slice a n cap ∧ ∀ i (hi : i < n), ∃ g, a = some ⟨g, 0, none⟩ ∧ B ≤ g ∧ g < w.heap.size ∧ w.cell? ⟨g, i, none⟩ = some (.int .i64 ((ks[i]'(hn ▸ hi) : Nat) : Int)) := by
  rcases h.2 with ⟨rfl, h0⟩ | ⟨g, cap, cur, rfl, hg, hgg, _⟩
  · exact ⟨none, 0, by rw [h0], fun i hi => by omega⟩
  · refine ⟨_, _, rfl, fun i hi => ⟨g, rfl, hg, (Array.getElem?_eq_some_iff.1 hgg).1, ?_⟩⟩
    rw [h.cellAt i (by omega)]
    simp [Mill.nats, hn, hi]
theorem Mill.kindAt_eq (ns : List Mill.Nd) (k : Nat) (h : k < ns.length) : Mill.kindAt ns k = ns[k].kind := by simp [Mill.kindAt, h]
theorem Mill.getD_eq (hs : List Nat) (k : Nat) (h : k < hs.length) : hs.getD k 0 = hs[k] := by simp [h]
theorem Mill.ints_app (l m : List Int) : Mill.ints (l ++ m) = Mill.ints l ++ Mill.ints m := by simp [Mill.ints]
theorem Mill.validL_no (ns : List Mill.Nd) (K : List (List Nat)) (i : Nat) (hs : List Nat) (hi : i < K.length) (h : Mill.nodeOk ns i (Mill.highOf hs K[i]) K[i] = false) : Mill.validL ns (K.drop i) i hs = false := by
  rw [List.drop_eq_getElem_cons hi, Mill.validL, h]; rfl
theorem Mill.validL_yes (ns : List Mill.Nd) (K : List (List Nat)) (i : Nat) (hs : List Nat) (hi : i < K.length) (h : Mill.nodeOk ns i (Mill.highOf hs K[i]) K[i] = true) : Mill.validL ns (K.drop i) i hs = Mill.validL ns (K.drop (i + 1)) (i + 1) (hs ++ [Mill.highOf hs K[i]]) := by
  rw [List.drop_eq_getElem_cons hi, Mill.validL, h]; rfl

theorem l2Fields_is (d : Mill.Nd) (b : Bool) (h : Hid (Mill.fields d = b)) (w : World) :
    Calls Tryz.prog 20 #[Mill.ndV d] w fun e w' => e = .returned (.bool b) ∧ Below w.heap.size w w' := by
  rw [← h.out]; exact l2Fields_any d w
theorem l2Fits_is (d : Mill.Nd) (ks : List Int) (b : Bool) (hb : Hid (Mill.fits d.kind d.op ks = b)) (v : Value) (B n : Nat) (HN : Hid (ks.length = n)) (w : World) (h : w.ownsRow B 3 1 v n (Mill.ints ks)) (hl : n ≤ 1000000) :
    Calls Tryz.prog 21 #[Mill.ndV d, v] w fun e w' => e = .returned (.bool b) ∧ Below w.heap.size w w' := by
  rw [← hb.out]; exact l2Fits_any d ks v B n HN w h hl

set_option maxRecDepth 100000 in
set_option maxHeartbeats 4000000 in
theorem specValidTree_any (ns : List Mill.Nd) (v : Value) (w : World) (hN : Mill.NodesAt w v ns) :
    Calls Tryz.prog 10 #[.agg #[v]] w fun e w' => e = .returned (.bool (Mill.valid ns)) ∧ Below w.heap.size w w' := by
  obtain ⟨i0, hi0, hz0, hz1', hz2⟩ := info_parts Tryz.infoInt
  cases hR : Mill.kidsR ns with
  | none =>
    have HV : Hid (Mill.valid ns = false) := by rw [Hid, Mill.valid, hR]
    go_enter Tryz.func10, Tryz.ntmps10
    go_wp2_with (go_at_call 11; refine (l2Kids_any ns v _ (Mill.nodesAt_below hN ((Below.refl _ w).alloc (Nat.le_refl _) _))).mono ?_; rintro e w1 ⟨vo, ok, rfl, hb, hk⟩; rw [hR] at hk; simp only at hk; subst hk; rw [World.size_alloc] at hb)
    go_ret
    exact ⟨Mill.ret_bool HV.out.symm, ((Below.refl _ w).alloc (Nat.le_refl _) _).trans (hb.mono (by omega))⟩
  | some r =>
    obtain ⟨K, o⟩ := r
    by_cases ho : o.length = 1
    · go_enter Tryz.func10, Tryz.ntmps10
      go_wp2_with (go_at_call 11; refine (l2Kids_any ns v _ (Mill.nodesAt_below hN ((Below.refl _ w).alloc (Nat.le_refl _) _))).mono ?_; rintro e w1 ⟨vo, ok, rfl, hb, hk⟩; rw [hR] at hk; simp only [ho, decide_true] at hk; obtain ⟨rfl, vs, htab⟩ := hk; rw [World.size_alloc] at hb htab)
      obtain ⟨hl1, hl2, hK, hKlt, _⟩ := Mill.kidsR_ok hR
      have HV : Hid (Mill.valid ns = (Mill.validL ns K 0 [] && (Mill.kindAt ns (ns.length - 1) == 24))) := by rw [Hid, Mill.valid, hR]; simp [ho]
      have hN1 : Mill.NodesAt w1 v ns := Mill.nodesAt_below hN (((Below.refl _ w).alloc (Nat.le_refl _) _).trans (hb.mono (by omega)))
      have ct1 : w1.cell? ⟨w.heap.size, 0, none⟩ = some v := by rw [hb.cell (p := ⟨w.heap.size, 0, none⟩) (by simp)]; simp [go_sem]
      have hz1 : w.heap.size < w1.heap.size := by have := hb.size; simp at this; omega
      have hb0 : Below w.heap.size w w1 := ((Below.refl _ w).alloc (Nat.le_refl _) _).trans (hb.mono (by omega))
      clear hN hR ho hb
      obtain ⟨av, cv, hv, hnc⟩ := hN1
      obtain ⟨gv, hav, hgv, _⟩ := hnc 0 (by omega)
      subst hav
      have hnc' : ∀ i (hi : i < ns.length) j, j < 6 → w1.cell? ⟨gv, i * 6 + j, none⟩ = (Mill.ndC ns[i])[j]? := fun i hi j hj => by
        obtain ⟨g, hg, _, hcl⟩ := hnc i hi
        cases hg; exact hcl j hj
      clear hnc
      obtain ⟨n, HN⟩ : ∃ n, Hid (ns.length = n) := ⟨_, rfl⟩
      have HK : Hid (K.length = n) := by rw [Hid, hK]; exact HN.out
      rw [HN.out] at hl1 hl2 hv
      subst hv
      have htab1 : w1.ownsRow (w.heap.size + 1) 42 1 vo n vs := by have := htab.1; rwa [HK.out] at this
      obtain ⟨go, co, rfl, _, hgo⟩ := Mill.rowForm htab1 (by omega)
      have hvs : ∀ i (hi : i < n), ∃ u, w1.cell? ⟨go, i, none⟩ = some u ∧ w1.ownsRow (w.heap.size + 1) 3 1 u (K[i]'(by rw [HK.out]; exact hi)).length (Mill.nats (K[i]'(by rw [HK.out]; exact hi))) := fun i hi => by
        obtain ⟨u, hu, ho⟩ := htab.2 i (by rw [HK.out]; exact hi)
        exact ⟨u, by rw [htab1.cellAt i (by omega)]; exact hu, ho⟩
      clear htab htab1
      go_loopw [5, 6] (fun vh t wr => ∃ (i : Nat) (hs : List Nat), i ≤ n ∧ t = .int .i64 (i : Int) ∧ hs.length = i ∧ (∀ x ∈ hs, x ≤ 60) ∧ wr.ownsRow w1.heap.size 3 1 vh i (Mill.nats hs) ∧ Below w1.heap.size w1 wr ∧ Mill.validL ns (K.drop i) i hs = Mill.validL ns K 0 []) (fun _ t _ => n - (intOf t).toNat)
      case atStart =>
        refine ⟨0, [], by omega, rfl, rfl, by simp, ?_, (Below.refl _ w1).alloc (Nat.le_refl _) _, rfl⟩
        simpa [Mill.nats] using World.ownsRow_made (base := w1.heap.size) (e := 3) (size := 1) w1 #[] 0 (Nat.le_refl _) (by decide) rfl
      case round =>
        obtain ⟨i, hs, hi, rfl, hhl, hh60, hown, hbw, hu⟩ := hrel
        obtain ⟨wo, hwo⟩ : ∃ x, x = wr := ⟨_, rfl⟩
        subst hwo
        by_cases hlt : i < n
        · obtain ⟨u, cu1, ou1⟩ := hvs i hlt
          have hiK : i < K.length := by rw [HK.out]; exact hlt
          have hin : i < ns.length := by rw [HN.out]; exact hlt
          obtain ⟨hlti, hqi⟩ := hKlt i hiK
          clear hvs hKlt
          obtain ⟨ks, HKS⟩ : ∃ ks, Hid (K[i] = ks) := ⟨_, (rfl : K[i] = _)⟩
          rw [HKS.out] at ou1 hlti hqi
          obtain ⟨q, HQ⟩ : ∃ q, Hid (ks.length = q) := ⟨_, rfl⟩
          rw [HQ.out] at ou1 hqi
          have cu : wo.cell? ⟨go, i, none⟩ = some u := by rw [hbw.cell (p := ⟨go, i, none⟩) hgo]; exact cu1
          have ou := Mill.tree_own ou1 hbw
          have ct : wo.cell? ⟨w.heap.size, 0, none⟩ = some (.slice (some ⟨gv, 0, none⟩) n cv) := by rw [hbw.cell (p := ⟨w.heap.size, 0, none⟩) hz1]; exact ct1
          have hzr : w1.heap.size ≤ wo.heap.size := hbw.size
          obtain ⟨au, cu2, rfl, hxc⟩ := Mill.nat_at ou HQ.out
          obtain ⟨ah, ch, hvh, hhc⟩ := Mill.nat_at hown hhl
          subst hvh
          go_wp2
          go_loopw [7, 8, 9] (fun vk th tk wq => ∃ j : Nat, j ≤ q ∧ tk = .int .i64 (j : Int) ∧ th = .int .i64 (Mill.highOf hs (ks.take j) : Int) ∧ wq.ownsRow wo.heap.size 3 1 vk j (Mill.ints (Mill.kindsOf ns (ks.take j))) ∧ Below wo.heap.size wo wq) (fun _ _ tk _ => q - (intOf tk).toNat)
          case atStart =>
            refine ⟨0, by omega, rfl, rfl, ?_, (Below.refl _ wo).alloc (Nat.le_refl _) _⟩
            simpa [Mill.ints, Mill.kindsOf] using World.ownsRow_made (base := wo.heap.size) (e := 3) (size := 1) wo #[] 0 (Nat.le_refl _) (by decide) rfl
          case round =>
            obtain ⟨j, hj, rfl, rfl, hok, hbq⟩ := hrel
            have hz : wo.heap.size ≤ wr.heap.size := hbq.size
            by_cases hjq : j < q
            · have hjl : j < ks.length := by rw [HQ.out]; exact hjq
              obtain ⟨gu, rfl, _, hgu, cx⟩ := hxc j hjq
              have hxi := hlti ks[j] (List.getElem_mem hjl)
              have htk : ks.take (j + 1) = ks.take j ++ [ks[j]] := by rw [List.take_add_one]; simp [hjl]
              clear hxc hlti
              obtain ⟨x, hx⟩ : ∃ x, x = ks[j] := ⟨_, rfl⟩
              rw [← hx] at cx hxi htk
              have hxn : x < ns.length := by omega
              have hxh : x < hs.length := by omega
              obtain ⟨gh, rfl, _, hgh, chx⟩ := hhc x (by omega)
              have cgo : wr.cell? ⟨go, i, none⟩ = some (.slice (some ⟨gu, 0, none⟩) q cu2) := by rw [hbq.cell (p := ⟨go, i, none⟩) (by simp; omega)]; exact cu
              have cgu : wr.cell? ⟨gu, j, none⟩ = some (.int .i64 (x : Int)) := by rw [hbq.cell (p := ⟨gu, j, none⟩) hgu]; exact cx
              have cgt : wr.cell? ⟨w.heap.size, 0, none⟩ = some (.slice (some ⟨gv, 0, none⟩) n cv) := by rw [hbq.cell (p := ⟨w.heap.size, 0, none⟩) (by simp; omega)]; exact ct
              have cgn : wr.cell? ⟨gv, x * 6, none⟩ = some (.int .i64 (Mill.kindAt ns x)) := by
                rw [hbq.cell (p := ⟨gv, x * 6, none⟩) (by simp; omega), hbw.cell (p := ⟨gv, x * 6, none⟩) hgv, Mill.kindAt_eq ns x hxn]
                have := hnc' x hxn 0 (by omega)
                simpa [Mill.ndC] using this
              have cgh : wr.cell? ⟨gh, x, none⟩ = some (.int .i64 (hs[x] : Int)) := by rw [hbq.cell (p := ⟨gh, x, none⟩) hgh]; exact chx
              have HH : Hid (Mill.highOf hs (ks.take (j + 1)) = max (Mill.highOf hs (ks.take j)) (hs[x] + 1)) := by rw [Hid, htk, Mill.highOf_snoc, Mill.getD_eq hs x hxh]
              have HI : Hid (Mill.ints (Mill.kindsOf ns (ks.take (j + 1))) = Mill.ints (Mill.kindsOf ns (ks.take j)) ++ [.int .i64 (Mill.kindAt ns x)]) := by rw [Hid, htk, Mill.kindsOf, List.map_append, Mill.ints_app]; rfl
              have h6x : hs[x] ≤ 60 := hh60 _ (List.getElem_mem hxh)
              have h61 : Mill.highOf hs (ks.take j) ≤ 61 := Mill.highOf_bd hs hh60 _
              generalize hs[x] = y at *
              generalize Mill.kindAt ns x = kd at *
              generalize Mill.highOf hs (ks.take j) = H at *
              clear htk hx hhc hnc' ct ct1 cu1
              have hxn' : x < n := by rw [← HN.out]; exact hxn
              by_cases hy : H < y + 1
              · have hy' : (H : Int) < (y : Int) + 1 := by omega
                go_wp2_with fail
                go_region_law (refine Mill.step_append_own rfl (.tmp 34) (.tmp 47) 42 rfl wo.heap.size 3 i0 (.int .i64 0) 1 8 Tryz.underlying42 hi0 hz0 hz1' hz2 rfl (by decide) _ _ _ rfl (by repeat (first | exact hok | apply World.ownsRow.drew | apply World.ownsRow.alloc)) ⟨wr.heap.size, 0, none⟩ 1 1 [.int .i64 kd] rfl rfl (by intro j u hu; exact cell_one_new _ _ _ j u hu) (Mill.int_one _) (by unfold maxLen; omega) (by omega) (by simp; omega) ?_; intro v' w3 hown' hgrow3)
                all_goals
                  have hb3 : Below wo.heap.size wo w3 := Below.grown (by repeat (first | exact hbq | apply Below.drew | (refine Below.alloc ?_ (by simpa using hz) _))) hgrow3 (by simp; omega) (fun j hj => (hok.lt _ hj).1)
                  have dgo : w3.cell? ⟨go, i, none⟩ = some (.slice (some ⟨gu, 0, none⟩) q cu2) := by rw [hb3.cell (p := ⟨go, i, none⟩) (by simp; omega)]; exact cu
                  have dgu : w3.cell? ⟨gu, j, none⟩ = some (.int .i64 (x : Int)) := by rw [hb3.cell (p := ⟨gu, j, none⟩) hgu]; exact cx
                  have dgh : w3.cell? ⟨gh, x, none⟩ = some (.int .i64 (y : Int)) := by rw [hb3.cell (p := ⟨gh, x, none⟩) hgh]; exact chx
                  go_wp2
                  go_roundw
                  case rel => exact ⟨j + 1, by omega, by go_num, by rw [HH.out, Nat.max_eq_right (by omega)]; rfl, by rw [HI.out]; exact hown', hb3⟩
                  case measure => simp [intOf]; omega
              · have hy' : ¬ (H : Int) < (y : Int) + 1 := by omega
                go_wp2_with fail
                go_region_law (refine Mill.step_append_own rfl (.tmp 34) (.tmp 47) 42 rfl wo.heap.size 3 i0 (.int .i64 0) 1 8 Tryz.underlying42 hi0 hz0 hz1' hz2 rfl (by decide) _ _ _ rfl (by repeat (first | exact hok | apply World.ownsRow.drew | apply World.ownsRow.alloc)) ⟨wr.heap.size, 0, none⟩ 1 1 [.int .i64 kd] rfl rfl (by intro j u hu; exact cell_one_new _ _ _ j u hu) (Mill.int_one _) (by unfold maxLen; omega) (by omega) (by simp; omega) ?_; intro v' w3 hown' hgrow3)
                all_goals
                  have hb3 : Below wo.heap.size wo w3 := Below.grown (by repeat (first | exact hbq | apply Below.drew | (refine Below.alloc ?_ (by simpa using hz) _))) hgrow3 (by simp; omega) (fun j hj => (hok.lt _ hj).1)
                  have dgo : w3.cell? ⟨go, i, none⟩ = some (.slice (some ⟨gu, 0, none⟩) q cu2) := by rw [hb3.cell (p := ⟨go, i, none⟩) (by simp; omega)]; exact cu
                  have dgu : w3.cell? ⟨gu, j, none⟩ = some (.int .i64 (x : Int)) := by rw [hb3.cell (p := ⟨gu, j, none⟩) hgu]; exact cx
                  have dgh : w3.cell? ⟨gh, x, none⟩ = some (.int .i64 (y : Int)) := by rw [hb3.cell (p := ⟨gh, x, none⟩) hgh]; exact chx
                  go_wp2
                  go_roundw
                  case rel => exact ⟨j + 1, by omega, by go_num, by rw [HH.out, Nat.max_eq_left (by omega)], by rw [HI.out]; exact hown', hb3⟩
                  case measure => simp [intOf]; omega
            · have hjq2 : j = q := by omega
              subst hjq2
              have hta : ks.take j = ks := List.take_of_length_le (by rw [HQ.out]; exact Nat.le_refl _)
              rw [hta] at hok ⊢
              obtain ⟨d, HD⟩ : ∃ d, Hid (ns[i]? = some d) := ⟨ns[i], List.getElem?_eq_getElem hin⟩
              have hdi : ns[i] = d := by have := HD.out; rw [List.getElem?_eq_getElem hin] at this; exact Option.some.inj this
              have hB : Below w1.heap.size w1 wr := hbw.trans (hbq.mono hzr)
              have cgo : wr.cell? ⟨go, i, none⟩ = some (.slice au j cu2) := by rw [hbq.cell (p := ⟨go, i, none⟩) (by simp; omega)]; exact cu
              have hnd : ∀ {W : World}, Below w1.heap.size w1 W → (W.cell? ⟨w.heap.size, 0, none⟩ = some (.slice (some ⟨gv, 0, none⟩) n cv) ∧ W.cell? ⟨gv, i * 6, none⟩ = some (.int .i64 d.kind) ∧ W.cell? ⟨gv, i * 6 + 1, none⟩ = some (.int .i64 d.op) ∧ W.cell? ⟨gv, i * 6 + 2, none⟩ = some (.int .i64 d.type) ∧ W.cell? ⟨gv, i * 6 + 3, none⟩ = some (.int .i64 d.n) ∧ W.cell? ⟨gv, i * 6 + 4, none⟩ = some (.string d.text) ∧ W.cell? ⟨gv, i * 6 + 5, none⟩ = some (.int .i64 d.kids)) := by
                intro W hW
                have hq : ∀ m, m < 6 → W.cell? ⟨gv, i * 6 + m, none⟩ = (Mill.ndC d)[m]? := fun m hm => by
                  rw [hW.cell (p := ⟨gv, i * 6 + m, none⟩) hgv, hnc' i hin m hm, hdi]
                exact ⟨by rw [hW.cell (p := ⟨w.heap.size, 0, none⟩) hz1]; exact ct1, hq 0 (by omega), hq 1 (by omega), hq 2 (by omega), hq 3 (by omega), hq 4 (by omega), hq 5 (by omega)⟩
              have hownr := Mill.tree_own hown hbq
              have h61 : Mill.highOf hs ks ≤ 61 := Mill.highOf_bd hs hh60 _
              have HNO : Hid (Mill.nodeOk ns i (Mill.highOf hs ks) ks = (decide (Mill.highOf hs ks ≤ 60) && Mill.fields d && Mill.fits d.kind d.op (Mill.kindsOf ns ks))) := by rw [Hid, Mill.nodeOk, HD.out]
              have HQK : Hid ((Mill.kindsOf ns ks).length = j) := by rw [Hid, Mill.kindsOf, List.length_map]; exact HQ.out
              have HNo : Hid (Mill.nodeOk ns i (Mill.highOf hs ks) ks = false → Mill.valid ns = false) := by
                intro h
                have := Mill.validL_no ns K i hs hiK (by rw [HKS.out]; exact h)
                rw [HV.out, ← hu, this]; rfl
              have HYes : Hid (Mill.nodeOk ns i (Mill.highOf hs ks) ks = true → Mill.validL ns (K.drop (i + 1)) (i + 1) (hs ++ [Mill.highOf hs ks]) = Mill.validL ns K 0 []) := by
                intro h
                have := Mill.validL_yes ns K i hs hiK (by rw [HKS.out]; exact h)
                rw [HKS.out] at this
                rw [← this]; exact hu
              have happ : Mill.apart u7 (.slice ah i ch) := by
                intro g h1 h2
                have := (hok.lt g h1).1
                have := (hown.lt g h2).2
                omega
              clear hxc hhc hlti hu hnc' hdi ct ct1 cu cu1 ou ou1 hta
              generalize Mill.highOf hs ks = H at *
              by_cases h60 : H ≤ 60
              · have h60' : ¬ (60 : Int) < (H : Int) := by omega
                cases hF : Mill.fields d with
                | false =>
                  have HF : Hid (Mill.fields d = false) := hF
                  have HE : Hid (Mill.valid ns = false) := HNo.out (by rw [HNO.out, hF]; simp)
                  clear hF
                  go_wp2_with (first
                    | (at_builtin; refine wpList_append_own _ rfl _ _ 42 rfl w1.heap.size 3 i0 (.int .i64 0) 1 8 Tryz.underlying42 hi0 hz0 hz1' hz2 rfl (by decide) _ _ _ rfl (hownr.alloc _) ⟨wr.heap.size, 0, none⟩ 1 1 [.int .i64 (H : Int)] rfl rfl (cell_one_new _ _ _) (Mill.int_one _) (by unfold maxLen; omega) (by omega) (by simp; omega) ?_; intro v' w4 own4 g4 _; have hB4 : Below w1.heap.size w1 w4 := Below.grown (hB.alloc (by omega) _) g4 (by simp; omega) (fun j hj => (hown.lt _ hj).1); obtain ⟨e0, e1, e2, e3, e4, e5, e6⟩ := hnd hB4; have hk4 : w4.ownsRow wo.heap.size 3 1 u7 j (Mill.ints (Mill.kindsOf ns ks)) := Mill.kept (hok.alloc _) g4 happ)
                    | (go_at_call 20; refine (l2Fields_is d false HF _).mono ?_; rintro e w5 ⟨rfl, hb5⟩; have hB5 : Below w1.heap.size w1 w5 := hB4.trans (hb5.mono hB4.size); obtain ⟨f0, f1, f2, f3, f4, f5, f6⟩ := hnd hB5; have hk5 := Mill.tree_own hk4 hb5))
                  go_ret
                  exact ⟨Mill.ret_bool HE.out.symm, hb0.trans (hB5.mono (by omega))⟩
                | true =>
                  have HF : Hid (Mill.fields d = true) := hF
                  cases hT : Mill.fits d.kind d.op (Mill.kindsOf ns ks) with
                  | false =>
                    have HT : Hid (Mill.fits d.kind d.op (Mill.kindsOf ns ks) = false) := hT
                    have HE : Hid (Mill.valid ns = false) := HNo.out (by rw [HNO.out, hF, hT]; simp)
                    clear hF hT
                    go_wp2_with (first
                      | (at_builtin; refine wpList_append_own _ rfl _ _ 42 rfl w1.heap.size 3 i0 (.int .i64 0) 1 8 Tryz.underlying42 hi0 hz0 hz1' hz2 rfl (by decide) _ _ _ rfl (hownr.alloc _) ⟨wr.heap.size, 0, none⟩ 1 1 [.int .i64 (H : Int)] rfl rfl (cell_one_new _ _ _) (Mill.int_one _) (by unfold maxLen; omega) (by omega) (by simp; omega) ?_; intro v' w4 own4 g4 _; have hB4 : Below w1.heap.size w1 w4 := Below.grown (hB.alloc (by omega) _) g4 (by simp; omega) (fun j hj => (hown.lt _ hj).1); obtain ⟨e0, e1, e2, e3, e4, e5, e6⟩ := hnd hB4; have hk4 : w4.ownsRow wo.heap.size 3 1 u7 j (Mill.ints (Mill.kindsOf ns ks)) := Mill.kept (hok.alloc _) g4 happ)
                      | (go_at_call 20; refine (l2Fields_is d true HF _).mono ?_; rintro e w5 ⟨rfl, hb5⟩; have hB5 : Below w1.heap.size w1 w5 := hB4.trans (hb5.mono hB4.size); obtain ⟨f0, f1, f2, f3, f4, f5, f6⟩ := hnd hB5; have hk5 := Mill.tree_own hk4 hb5)
                      | (go_at_call 21; refine (l2Fits_is d (Mill.kindsOf ns ks) false HT u7 wo.heap.size j HQK _ hk5 (by omega)).mono ?_; rintro e w6 ⟨rfl, hb6⟩))
                    go_ret
                    exact ⟨Mill.ret_bool HE.out.symm, hb0.trans ((hB5.trans (hb6.mono hB5.size)).mono (by omega))⟩
                  | true =>
                    have HT : Hid (Mill.fits d.kind d.op (Mill.kindsOf ns ks) = true) := hT
                    have HE := HYes.out (by rw [HNO.out, hF, hT]; simp [h60])
                    have HE' : Hid (Mill.validL ns (K.drop (i + 1)) (i + 1) (hs ++ [H]) = Mill.validL ns K 0 []) := HE
                    clear hF hT HE
                    go_wp2_with (first
                      | (at_builtin; refine wpList_append_own _ rfl _ _ 42 rfl w1.heap.size 3 i0 (.int .i64 0) 1 8 Tryz.underlying42 hi0 hz0 hz1' hz2 rfl (by decide) _ _ _ rfl (hownr.alloc _) ⟨wr.heap.size, 0, none⟩ 1 1 [.int .i64 (H : Int)] rfl rfl (cell_one_new _ _ _) (Mill.int_one _) (by unfold maxLen; omega) (by omega) (by simp; omega) ?_; intro v' w4 own4 g4 _; have hB4 : Below w1.heap.size w1 w4 := Below.grown (hB.alloc (by omega) _) g4 (by simp; omega) (fun j hj => (hown.lt _ hj).1); obtain ⟨e0, e1, e2, e3, e4, e5, e6⟩ := hnd hB4; have hk4 : w4.ownsRow wo.heap.size 3 1 u7 j (Mill.ints (Mill.kindsOf ns ks)) := Mill.kept (hok.alloc _) g4 happ)
                      | (go_at_call 20; refine (l2Fields_is d true HF _).mono ?_; rintro e w5 ⟨rfl, hb5⟩; have hB5 : Below w1.heap.size w1 w5 := hB4.trans (hb5.mono hB4.size); obtain ⟨f0, f1, f2, f3, f4, f5, f6⟩ := hnd hB5; have hk5 := Mill.tree_own hk4 hb5)
                      | (go_at_call 21; refine (l2Fits_is d (Mill.kindsOf ns ks) true HT u7 wo.heap.size j HQK _ hk5 (by omega)).mono ?_; rintro e w6 ⟨rfl, hb6⟩))
                    have own6 := Mill.tree_own (Mill.tree_own own4 hb5) hb6
                    go_roundw
                    case rel =>
                      refine ⟨i + 1, hs ++ [H], by omega, by go_num, by simp [hhl], ?_, ?_, hB5.trans (hb6.mono hB5.size), HE'.out⟩
                      · intro x hx
                        rcases List.mem_append.1 hx with hx | hx
                        · exact hh60 x hx
                        · simp at hx; omega
                      · rw [Mill.nats_app]; exact own6
                    case measure => simp [intOf]; omega
              · have h60' : (60 : Int) < (H : Int) := by omega
                have HE : Hid (Mill.valid ns = false) := HNo.out (by rw [HNO.out]; simp [h60])
                go_wp2_with (first
                  | (at_builtin; refine wpList_append_own _ rfl _ _ 42 rfl w1.heap.size 3 i0 (.int .i64 0) 1 8 Tryz.underlying42 hi0 hz0 hz1' hz2 rfl (by decide) _ _ _ rfl (hownr.alloc _) ⟨wr.heap.size, 0, none⟩ 1 1 [.int .i64 (H : Int)] rfl rfl (cell_one_new _ _ _) (Mill.int_one _) (by unfold maxLen; omega) (by omega) (by simp; omega) ?_; intro v' w4 own4 g4 _; have hB4 : Below w1.heap.size w1 w4 := Below.grown (hB.alloc (by omega) _) g4 (by simp; omega) (fun j hj => (hown.lt _ hj).1); obtain ⟨e0, e1, e2, e3, e4, e5, e6⟩ := hnd hB4; have hk4 : w4.ownsRow wo.heap.size 3 1 u7 j (Mill.ints (Mill.kindsOf ns ks)) := Mill.kept (hok.alloc _) g4 happ))
                go_ret
                exact ⟨Mill.ret_bool HE.out.symm, hb0.trans (hB4.mono (by omega))⟩
        · have hie : i = n := by omega
          subst hie
          have HF : Hid (Mill.valid ns = (Mill.kindAt ns (i - 1) == 24)) := by
            rw [List.drop_of_length_le (by rw [HK.out]; exact Nat.le_refl _)] at hu
            rw [Hid, HV.out, ← hu, HN.out]; rfl
          have hi1 : i - 1 < ns.length := by rw [HN.out]; omega
          have ck : wo.cell? ⟨gv, (i - 1) * 6, none⟩ = some (.int .i64 (Mill.kindAt ns (i - 1))) := by
            rw [hbw.cell (p := ⟨gv, (i - 1) * 6, none⟩) hgv, Mill.kindAt_eq ns (i - 1) hi1]
            have := hnc' (i - 1) hi1 0 (by omega)
            simpa [Mill.ndC] using this
          have ct : wo.cell? ⟨w.heap.size, 0, none⟩ = some (.slice (some ⟨gv, 0, none⟩) i cv) := by rw [hbw.cell (p := ⟨w.heap.size, 0, none⟩) hz1]; exact ct1
          have hw1 : ((i : Int) - 1).toNat = i - 1 := by omega
          have hbe : Below w.heap.size w wo := hb0.trans (hbw.mono (by omega))
          generalize Mill.kindAt ns (i - 1) = kd at *
          clear hu hnc' hvs hKlt
          go_wp2
          go_ret
          exact ⟨Mill.ret_bool HF.out.symm, hbe⟩
    · have HV : Hid (Mill.valid ns = false) := by rw [Hid, Mill.valid, hR]; simp [ho]
      go_enter Tryz.func10, Tryz.ntmps10
      go_wp2_with (go_at_call 11; refine (l2Kids_any ns v _ (Mill.nodesAt_below hN ((Below.refl _ w).alloc (Nat.le_refl _) _))).mono ?_; rintro e w1 ⟨vo, ok, rfl, hb, hk⟩; rw [hR] at hk; simp only [ho, decide_false] at hk; obtain ⟨rfl, vs, htab⟩ := hk; rw [World.size_alloc] at hb)
      go_ret
      exact ⟨Mill.ret_bool HV.out.symm, ((Below.refl _ w).alloc (Nat.le_refl _) _).trans (hb.mono (by omega))⟩

end Go.Proofs.YtkaoeoeloihigaaGreatDoor
