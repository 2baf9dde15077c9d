import Derived.Test.YtfelngigfmdedaaGreatDoorBltK
namespace Go.Proofs.YtfelngigfmdedaaGreatDoor
open Go.RowKit

def Val.BRes (w : World) (r : Val.V × ByteArray) (e : Ending) : Prop :=
  if r.2.size = 0 then e = .returned (.tuple #[Val.v r.1, .nilIface]) else r.1 = Val.zero ∧ ∃ b o, e = .returned (.tuple #[.agg #[.int .i64 0, .int .i64 0, .string ⟨#[]⟩], .iface 121 (.pointer (some ⟨b, o, none⟩))]) ∧ b < w.heap.size ∧ w.cell? ⟨b, o, none⟩ = some (.string r.2)
theorem Val.bres_ok {w : World} {x : Val.V} {e : Ending} (h : e = .returned (.tuple #[Val.v x, .nilIface])) : Val.BRes w (x, ⟨#[]⟩) e := by
  rw [Val.BRes, if_pos (show (⟨#[]⟩ : ByteArray).size = 0 from rfl)]; exact h
theorem Val.bres_err {w : World} {y : ByteArray} {b o : Nat} (hy : y.size ≠ 0) (hb : b < w.heap.size) (hc : w.cell? ⟨b, o, none⟩ = some (.string y)) : Val.BRes w (Val.zero, y) (.returned (.tuple #[.agg #[.int .i64 0, .int .i64 0, .string ⟨#[]⟩], .iface 121 (.pointer (some ⟨b, o, none⟩))])) := by
  rw [Val.BRes, if_neg hy]; exact ⟨rfl, b, o, rfl, hb, hc⟩
theorem Val.valid_type (x : Val.V) (h : Val.valid x = true) : 1 ≤ x.type ∧ x.type ≤ 10 := by
  unfold Val.valid at h
  split at h
  · omega
  · split at h
    · omega
    · simp only [Bool.and_eq_true] at h
      have := h.1.1
      simp [Val.isInt] at this
      omega
theorem Val.dec_valid' (x : Val.V) (hf : Val.fitL (Val.want 11) [x.type] = true) (hv : [x].all Val.valid = true) (hn : -9223372036854775808 ≤ x.n ∧ x.n ≤ 9223372036854775807) : Val.decI x.type x.n = Val.dec x.type x.n := by
  have hx : Val.valid x = true := by simp at hv; exact hv
  have h10 := Val.valid_type x hx
  have hi : Val.isInt x.type = true := by
    simp [Val.want, Val.fitL, Val.fit1] at hf
    rcases hf with h | h
    · omega
    · exact h
  rw [Val.dec_valid x.type x.n x.text hx hi hn]; rfl
set_option maxRecDepth 100000 in
set_option maxHeartbeats 16000000 in
theorem Val.implBuilt_in (op : Int) (vs : List Val.V) (a : Option Addr) (cap : Nat) (w : World) (n : Nat) (HN : Hid (vs.length = n)) (hn : n ≤ 1048576) (HNR : Hid (∀ d ∈ vs, -9223372036854775808 ≤ d.n ∧ d.n ≤ 9223372036854775807)) (HG : Hid (Val.GB w))
    (HC : Hid (∀ i (hi : i < vs.length), ∃ g, a = some ⟨g, 0, none⟩ ∧ g < w.heap.size ∧ ∀ j, j < 3 → w.cell? ⟨g, i * 3 + j, none⟩ = (Val.vC vs[i])[j]?)) :
    Calls Tryz.prog 20 #[.int .i64 op, .slice a n cap] w fun e w' => Val.BRes w (Val.built op vs) e ∧ Below w.heap.size w w' := by
  obtain ⟨i0, hi0, hz0, hz1, hz2⟩ := info_parts Tryz.infoInt
  obtain ⟨r, HR⟩ : ∃ r, Hid (Val.built op vs = r) := ⟨_, (rfl : _ = _)⟩
  rw [HR.out]
  obtain ⟨b, o, hT1, hT2, hT3, hT4⟩ := HG.out.eT
  go_enter Tryz.func20, Tryz.ntmps20
  go_wp2_with fail
  go_loopw [6, 11] (fun th ti wr => ∃ (i : Nat) (hv : Value), ti = .int .i64 (i : Int) ∧ i ≤ n ∧ th = hv ∧ wr.ownsRow (w.heap.size + 1) 3 1 hv i (Val.ints ((vs.map (·.type)).take i)) ∧ (∀ j (hj : j < vs.length), j < i → Val.valid vs[j] = true) ∧ Below (w.heap.size + 1) (w.alloc (.cells #[.int .i64 0, .int .i64 0, .string ⟨#[]⟩] 25)) wr) (fun _ ti _ => n - (intOf ti).toNat)
  case atStart => exact ⟨0, _, rfl, by omega, rfl, ⟨rfl, .inl ⟨rfl, rfl⟩⟩, fun j hj h => by omega, Below.refl _ _⟩
  case round =>
    obtain ⟨i, hv, rfl, hi, rfl, hown, hval, hbw⟩ := hrel
    have HV : Hid (∀ j (hj : j < vs.length), j < i → Val.valid vs[j] = true) := hval
    clear hval
    obtain ⟨ha, hcp, rfl⟩ := Val.rowLen hown
    have hz := hbw.size
    simp only [World.size_alloc] at hz
    have hB := Val.alloc1 hbw
    obtain ⟨⟨r0, r1, r2⟩, k0, k1, k2⟩ := Val.row3' hbw
    by_cases hlt : i < n
    · have hil : i < vs.length := by rw [HN.out]; exact hlt
      have hilm : i < (vs.map (·.type)).length := by simpa using hil
      obtain ⟨g, rfl, hg, hcell⟩ := HC.out i hil
      have hnr := HNR.out vs[i] (List.getElem_mem hil)
      have hq : ∀ m, m < 3 → wr.cell? ⟨g, i * 3 + m, none⟩ = (Val.vC vs[i])[m]? := fun m hm => by rw [hB.cell (p := ⟨g, i * 3 + m, none⟩) hg, hcell m hm]
      have HT : Hid (Val.ints ((vs.map (·.type)).take (i + 1)) = Val.ints ((vs.map (·.type)).take i) ++ [.int .i64 (vs[i]).type]) := by rw [Hid, Val.take_snoc _ i hilm]; simp
      have HVI : Hid (∀ b, Val.valid vs[i] = b → b = true → ∀ j (hj : j < vs.length), j < i + 1 → Val.valid vs[j] = true) := fun b hb1 hb2 j hj hji => by
        by_cases h : j < i
        · exact HV.out j hj h
        · have : j = i := by omega
          subst this; rw [hb1, hb2]
      have HF : Hid (Val.valid vs[i] = false → (Val.zero, Val.typeW) = r) := fun h => by
        rw [← HR.out, Val.built, if_neg]
        rintro ⟨_, _, hall, _⟩
        rw [List.all_eq_true] at hall
        have := hall vs[i] (List.getElem_mem hil)
        rw [h] at this; cases this
      generalize vs[i] = d at *
      have e0 := hq 0 (by omega); have e1 := hq 1 (by omega); have e2 := hq 2 (by omega)
      simp only [Val.vC, Nat.add_zero, List.getElem?_cons_zero, List.getElem?_cons_succ] at e0 e1 e2
      clear hq hcell HC HV
      obtain ⟨dt, dn, dx⟩ := d
      simp only at *
      cases hvd : Val.valid ⟨dt, dn, dx⟩ with
      | false =>
        have HVD : Hid (Val.valid ⟨dt, dn, dx⟩ = false) := hvd
        have HF2 : Hid ((Val.zero, Val.typeW) = r) := HF.out hvd
        clear hvd HF HVI
        go_wp2_with (go_at_call 27; (refine (Val.implValid_is false dt dn dx hnr HVD _).mono ?_; rintro e w1 ⟨rfl, hb1⟩; simp only [World.size_alloc] at hb1; have hbw1 : Below (w.heap.size + 1) (w.alloc (.cells #[.int .i64 0, .int .i64 0, .string ⟨#[]⟩] 25)) w1 := ((hbw.alloc hz _).trans (hb1.mono (by omega))); obtain ⟨⟨s0, s1, s2⟩, l0, l1, l2⟩ := Val.row3' hbw1; have hE1 : w1.cell? ⟨0, 0, none⟩ = some (.iface 121 (.pointer (some ⟨b, o, none⟩))) := (by rw [(Val.alloc1 hbw1).cell (p := ⟨0, 0, none⟩) hT3]; exact hT1)))
        go_region_held3 (fun w' => w'.cell? ⟨0, 0, none⟩ = some (.iface 121 (.pointer (some ⟨b, o, none⟩)))) (first | exact hE1 | exact Val.set3e (by omega) hE1) (fail)
        go_wp2
        rw [← HF2.out]
        exact bodyPost_ret (v := .tuple #[.agg #[.int .i64 0, .int .i64 0, .string ⟨#[]⟩], .iface 121 (.pointer (some ⟨b, o, none⟩))]) (by simp [results, Tryz.results20, go_sem, s0, s1, s2]) rfl ⟨Val.bres_err (by decide) hT4 hT2, by first | exact (Val.set3w (Val.alloc1 hbw1) _ _ _).drew | exact Val.set3w ((Val.alloc1 hbw1).drew) _ _ _⟩
      | true =>
        have HVD : Hid (Val.valid ⟨dt, dn, dx⟩ = true) := hvd
        have HV2 : Hid (∀ j (hj : j < vs.length), j < i + 1 → Val.valid vs[j] = true) := HVI.out true hvd rfl
        clear hvd HF HVI
        go_wp2_with (first
          | (go_at_call 27; (refine (Val.implValid_is true dt dn dx hnr HVD _).mono ?_; rintro e w1 ⟨rfl, hb1⟩; have own1 := Val.own_next (hown.alloc _) hb1; simp only [World.size_alloc] at hb1; have hbw1 : Below (w.heap.size + 1) (w.alloc (.cells #[.int .i64 0, .int .i64 0, .string ⟨#[]⟩] 25)) w1 := ((hbw.alloc hz _).trans (hb1.mono (by omega))); obtain ⟨⟨q0, q1, q2⟩, _, _, _⟩ := Val.row3' hb1; have hzz := hb1.size; simp only [World.size_alloc] at hzz))
          | (at_builtin; (refine wpList_append_own _ rfl _ _ 35 rfl (w.heap.size + 1) 3 i0 (.int .i64 0) 1 8 Tryz.underlying35 hi0 hz0 hz1 hz2 rfl (by decide) _ _ _ rfl (own1.alloc _) ⟨w1.heap.size, 0, none⟩ 1 1 [.int .i64 dt] rfl rfl (cell_one_new _ _ _) (Val.int_one _) (by unfold maxLen; omega) (by omega) (by simp; omega) ?_; intro v' w4 own4 g4 _)))
        have hb4 : Below (w.heap.size + 1) (w.alloc (.cells #[.int .i64 0, .int .i64 0, .string ⟨#[]⟩] 25)) w4 := Below.grown (hbw1.alloc (by omega) _) g4 (by simp; omega) (fun j hj => (own1.lt _ hj).1)
        go_roundw
        case rel => exact ⟨i + 1, _, by go_num, by omega, rfl, by rw [HT.out]; exact own4, HV2.out, hb4⟩
        case measure => simp [intOf]; omega
    · have hie : i = n := by omega
      subst hie
      obtain ⟨ts, HTS⟩ : ∃ ts, Hid (vs.map (·.type) = ts) := ⟨_, (rfl : _ = _)⟩
      have hts : ts.length = i := by rw [← HTS.out, List.length_map, HN.out]
      have hall : vs.all Val.valid = true := by
        rw [List.all_eq_true]
        intro x hx
        obtain ⟨j, hj, rfl⟩ := List.getElem_of_mem hx
        exact HV.out j hj (by rw [← HN.out]; exact hj)
      have htt0 : ∀ t ∈ ts, 1 ≤ t ∧ t ≤ 10 := by
        intro t ht
        rw [← HTS.out] at ht
        obtain ⟨x, hx, rfl⟩ := List.mem_map.1 ht
        exact Val.valid_type x (List.all_eq_true.1 hall x hx)
      rw [HTS.out, List.take_of_length_le (by omega)] at hown
      have hIn : Val.IntsAt wr (.slice ha ts.length hcp) ts := Val.intsAt_own (by rw [hts]; exact hown)
      rw [hts] at hIn
      have HGR : Hid (Val.GB wr) := HG.out.next hB
      have hEr : wr.cell? ⟨0, 0, none⟩ = some (.iface 121 (.pointer (some ⟨b, o, none⟩))) := by rw [hB.cell (p := ⟨0, 0, none⟩) hT3]; exact hT1
      clear HV hown
      by_cases h6 : 6 ≤ op
      · obtain ⟨bt, HBT⟩ : ∃ bt, Hid ((if op ≤ 12 then Val.builtT op ts else 0) = bt) := ⟨_, (rfl : _ = _)⟩
        have HTB : Hid (∀ w1 : World, w1 = wr → Calls Tryz.prog 28 #[.int .i64 op, .slice ha i hcp] w1 fun e w' => e = .returned (.int .i64 bt) ∧ Below w1.heap.size w1 w') := by
          rintro w1 rfl
          have := Val.typeOfBuilt_any op h6 _ ts (by omega) htt0 w1 HGR.out hIn
          rw [HBT.out] at this; exact this
        by_cases hbt : bt = 0
        · subst hbt
          have HF2 : Hid ((Val.zero, Val.typeW) = r) := by
            rw [Hid, ← HR.out, Val.built, if_neg]
            rintro ⟨_, h12, _, h4⟩
            rw [HTS.out] at h4
            have := HBT.out
            rw [if_pos h12, Val.builtT, if_pos h4] at this
            exact Val.gives_ne op this
          clear HC
          go_wp2_with (go_at_call 28; (refine (HTB.out _ rfl).mono ?_; rintro e w1 ⟨rfl, hb1⟩; have hbw1 : Below (w.heap.size + 1) (w.alloc (.cells #[.int .i64 0, .int .i64 0, .string ⟨#[]⟩] 25)) w1 := (hbw.trans (hb1.mono (by omega))); obtain ⟨⟨s0, s1, s2⟩, l0, l1, l2⟩ := Val.row3' hbw1; have hE1 : w1.cell? ⟨0, 0, none⟩ = some (.iface 121 (.pointer (some ⟨b, o, none⟩))) := (by rw [(Val.alloc1 hbw1).cell (p := ⟨0, 0, none⟩) hT3]; exact hT1)))
          go_region_held3 (fun w' => w'.cell? ⟨0, 0, none⟩ = some (.iface 121 (.pointer (some ⟨b, o, none⟩)))) (first | exact hE1 | exact Val.set3e (by omega) hE1) (fail)
          go_wp2
          rw [← HF2.out]
          exact bodyPost_ret (v := .tuple #[.agg #[.int .i64 0, .int .i64 0, .string ⟨#[]⟩], .iface 121 (.pointer (some ⟨b, o, none⟩))]) (by simp [results, Tryz.results20, go_sem, s0, s1, s2]) rfl ⟨Val.bres_err (by decide) hT4 hT2, by first | exact (Val.set3w (Val.alloc1 hbw1) _ _ _).drew | exact Val.set3w ((Val.alloc1 hbw1).drew) _ _ _⟩
        · have h12 : op ≤ 12 := by
            by_cases h : op ≤ 12
            · exact h
            · exact absurd (by rw [← HBT.out, if_neg h]) hbt
          have hf : Val.fitL (Val.want op) ts = true := by
            cases h : Val.fitL (Val.want op) ts with
            | true => rfl
            | false => exact absurd (by rw [← HBT.out, if_pos h12, Val.builtT, h]; rfl) hbt
          have HOK : Hid (Val.builtOk op vs = r) := by rw [Hid, ← HR.out, Val.built, if_pos ⟨h6, h12, hall, by rw [HTS.out]; exact hf⟩]
          have hlen := Val.fitL_len _ _ hf
          have hop : op = 6 ∨ op = 7 ∨ op = 8 ∨ op = 9 ∨ op = 10 ∨ op = 11 ∨ op = 12 := by omega
          rcases hop with rfl | rfl | rfl | rfl | rfl | rfl | rfl
          · have hlen1 : vs.length = 1 := by rw [← HTS.out, List.length_map] at hlen; exact hlen.symm
            obtain ⟨x, rfl⟩ := Val.len1 hlen1
            have hi1 : 1 = i := HN.out
            subst hi1
            obtain ⟨g, rfl, hg, hcell⟩ := HC.out 0 (by simp)
            have hq0 : ∀ m, m < 3 → wr.cell? ⟨g, 0 + m, none⟩ = (Val.vC x)[m]? := fun m hm => by rw [hB.cell (p := ⟨g, 0 + m, none⟩) hg]; exact hcell m hm
            have e0 := hq0 0 (by omega)
            have e1 := hq0 1 (by omega)
            have e2 := hq0 2 (by omega)
            simp only [Val.vC, List.getElem?_cons_zero, List.getElem?_cons_succ, Nat.reduceAdd] at e0 e1 e2
            have htt : ts = [x.type] := HTS.out.symm
            rw [htt] at hf
            have hft : Hid (Val.fitL (Val.want 6) [x.type] = true) := hf
            have hav : Hid ([x].all Val.valid = true) := hall
            clear hf
            have hsz : x.text.size ≤ 3000 := (Val.first_text 6 x [] (by decide) hft.out hav.out)
            clear hcell HC hall htt0 hq0
            obtain ⟨xt, xn, xx⟩ := x
            simp only at *
            have hok : ((⟨10, (xx.size : Int), ⟨#[]⟩⟩, ⟨#[]⟩) : Val.V × ByteArray) = r := HOK.out
            go_wp2_with (go_at_call 28; (refine (HTB.out _ rfl).mono ?_; rintro e w1 ⟨rfl, hb1⟩; have hbw1 : Below (w.heap.size + 1) (w.alloc (.cells #[.int .i64 0, .int .i64 0, .string ⟨#[]⟩] 25)) w1 := (hbw.trans (hb1.mono (by omega))); obtain ⟨⟨s0, s1, s2⟩, l0, l1, l2⟩ := Val.row3' hbw1; have HG1 : Hid (Val.GB w1) := (HG.out.next (Val.alloc1 hbw1)); have q0 : w1.cell? ⟨g, 0, none⟩ = _ := (hb1.cell (p := ⟨g, 0, none⟩) (by simp only; omega)).trans e0; have q1 : w1.cell? ⟨g, 1, none⟩ = _ := (hb1.cell (p := ⟨g, 1, none⟩) (by simp only; omega)).trans e1; have q2 : w1.cell? ⟨g, 2, none⟩ = _ := (hb1.cell (p := ⟨g, 2, none⟩) (by simp only; omega)).trans e2))
            rw [← hok]
            exact bodyPost_ret (v := .tuple #[.agg #[.int .i64 10, .int .i64 (xx.size : Int), .string ⟨#[]⟩], .nilIface]) (by simp [results, Tryz.results20, go_sem, s0, s1, s2]) rfl ⟨Val.bres_ok rfl, Val.set3w (Val.alloc1 hbw1) _ _ _⟩
          · have hlen1 : vs.length = 2 := by rw [← HTS.out, List.length_map] at hlen; exact hlen.symm
            obtain ⟨x, y, rfl⟩ := Val.len2 hlen1
            have hi1 : 2 = i := HN.out
            subst hi1
            obtain ⟨g, rfl, hg, hcell⟩ := HC.out 0 (by simp)
            have hq0 : ∀ m, m < 3 → wr.cell? ⟨g, 0 + m, none⟩ = (Val.vC x)[m]? := fun m hm => by rw [hB.cell (p := ⟨g, 0 + m, none⟩) hg]; exact hcell m hm
            obtain ⟨g1, hg1, _, hcell1⟩ := HC.out 1 (by simp)
            have hgg1 : g = g1 := by injection hg1 with h1; injection h1
            subst hgg1
            have hq1 : ∀ m, m < 3 → wr.cell? ⟨g, 3 + m, none⟩ = (Val.vC y)[m]? := fun m hm => by rw [hB.cell (p := ⟨g, 3 + m, none⟩) hg]; exact hcell1 m hm
            have e0 := hq0 0 (by omega)
            have e1 := hq0 1 (by omega)
            have e2 := hq0 2 (by omega)
            have e3 := hq1 0 (by omega)
            have e4 := hq1 1 (by omega)
            have e5 := hq1 2 (by omega)
            simp only [Val.vC, List.getElem?_cons_zero, List.getElem?_cons_succ, Nat.reduceAdd] at e0 e1 e2 e3 e4 e5
            have htt : ts = [x.type, y.type] := HTS.out.symm
            rw [htt] at hf
            have hft : Hid (Val.fitL (Val.want 7) [x.type, y.type] = true) := hf
            have hav : Hid ([x, y].all Val.valid = true) := hall
            clear hf
            have hsz : x.text.size ≤ 3000 := (Val.first_text 7 x [y] (by decide) hft.out hav.out)
            clear hcell HC hall htt0 hq0 hq1 hg1 hcell1
            obtain ⟨xt, xn, xx⟩ := x
            obtain ⟨yt, yn, yx⟩ := y
            simp only at *
            obtain ⟨b2, o2, hR1, hR2, hR3, hR4⟩ := HG.out.eR
            by_cases hc : 0 ≤ yn ∧ yn < (xx.size : Int)
            · obtain ⟨k, rfl⟩ : ∃ k : Nat, yn = (k : Int) := ⟨yn.toNat, by omega⟩
              have hkx : k < xx.size := by omega
              have hok : ((⟨3, ((xx[k]).toNat : Int), ⟨#[]⟩⟩, ⟨#[]⟩) : Val.V × ByteArray) = r := by rw [← HOK.out]; simp [Val.builtOk, Val.byteAt_get xx k hkx, hkx]
              go_wp2_with (go_at_call 28; (refine (HTB.out _ rfl).mono ?_; rintro e w1 ⟨rfl, hb1⟩; have hbw1 : Below (w.heap.size + 1) (w.alloc (.cells #[.int .i64 0, .int .i64 0, .string ⟨#[]⟩] 25)) w1 := (hbw.trans (hb1.mono (by omega))); obtain ⟨⟨s0, s1, s2⟩, l0, l1, l2⟩ := Val.row3' hbw1; have HG1 : Hid (Val.GB w1) := (HG.out.next (Val.alloc1 hbw1)); have q0 : w1.cell? ⟨g, 0, none⟩ = _ := (hb1.cell (p := ⟨g, 0, none⟩) (by simp only; omega)).trans e0; have q1 : w1.cell? ⟨g, 1, none⟩ = _ := (hb1.cell (p := ⟨g, 1, none⟩) (by simp only; omega)).trans e1; have q2 : w1.cell? ⟨g, 2, none⟩ = _ := (hb1.cell (p := ⟨g, 2, none⟩) (by simp only; omega)).trans e2; have q3 : w1.cell? ⟨g, 3, none⟩ = _ := (hb1.cell (p := ⟨g, 3, none⟩) (by simp only; omega)).trans e3; have q4 : w1.cell? ⟨g, 4, none⟩ = _ := (hb1.cell (p := ⟨g, 4, none⟩) (by simp only; omega)).trans e4; have q5 : w1.cell? ⟨g, 5, none⟩ = _ := (hb1.cell (p := ⟨g, 5, none⟩) (by simp only; omega)).trans e5; have hRw : w1.cell? ⟨3, 0, none⟩ = some (.iface 121 (.pointer (some ⟨b2, o2, none⟩))) := (by rw [(Val.alloc1 hbw1).cell (p := ⟨3, 0, none⟩) hR3]; exact hR1); have hRl : 3 < w1.heap.size := (by have := (Val.alloc1 hbw1).size; omega); have hgl : g < w1.heap.size := (by have := (Val.alloc1 hbw1).size; omega)))
              go_region_held3 (fun w' => w'.cell? ⟨g, 2, none⟩ = some (.string xx) ∧ w'.cell? ⟨g, 4, none⟩ = some (.int .i64 (k : Int))) (first | exact ⟨q2, q4⟩ | exact ⟨z2, z4⟩ | exact ⟨Val.set3o (by omega) z2, Val.set3o (by omega) z4⟩ | exact ⟨Val.set3o (by omega) q2, Val.set3o (by omega) q4⟩) (first | (go_at_call 29; refine (Val.byteAt_yes xx k hkx _).mono ?_; rintro e w2 ⟨rfl, hb2⟩; have hbw2 : Below (w.heap.size + 1) (w.alloc (.cells #[.int .i64 0, .int .i64 0, .string ⟨#[]⟩] 25)) w2 := (hbw1.drew.trans (hb2.mono (by have := hbw1.size; simpa using this))); obtain ⟨⟨t0, t1, t2⟩, m0, m1, m2⟩ := Val.row3' hbw2; have z2 : w2.cell? ⟨g, 2, none⟩ = _ := ((hb2.cell (p := ⟨g, 2, none⟩) hgl).trans q2); have z4 : w2.cell? ⟨g, 4, none⟩ = _ := ((hb2.cell (p := ⟨g, 4, none⟩) hgl).trans q4)))
              go_wp2
              rw [← hok]
              exact bodyPost_ret (v := .tuple #[.agg #[.int .i64 3, .int .i64 ((xx[k]).toNat : Int), .string ⟨#[]⟩], .nilIface]) (by simp [results, Tryz.results20, go_sem, t0, t1, t2]) rfl ⟨Val.bres_ok rfl, Val.set3w (Val.alloc1 hbw2) _ _ _⟩
            · have hok : (Val.zero, Val.rangeW) = r := by rw [← HOK.out]; simp [Val.builtOk]; omega
              go_wp2_with (go_at_call 28; (refine (HTB.out _ rfl).mono ?_; rintro e w1 ⟨rfl, hb1⟩; have hbw1 : Below (w.heap.size + 1) (w.alloc (.cells #[.int .i64 0, .int .i64 0, .string ⟨#[]⟩] 25)) w1 := (hbw.trans (hb1.mono (by omega))); obtain ⟨⟨s0, s1, s2⟩, l0, l1, l2⟩ := Val.row3' hbw1; have HG1 : Hid (Val.GB w1) := (HG.out.next (Val.alloc1 hbw1)); have q0 : w1.cell? ⟨g, 0, none⟩ = _ := (hb1.cell (p := ⟨g, 0, none⟩) (by simp only; omega)).trans e0; have q1 : w1.cell? ⟨g, 1, none⟩ = _ := (hb1.cell (p := ⟨g, 1, none⟩) (by simp only; omega)).trans e1; have q2 : w1.cell? ⟨g, 2, none⟩ = _ := (hb1.cell (p := ⟨g, 2, none⟩) (by simp only; omega)).trans e2; have q3 : w1.cell? ⟨g, 3, none⟩ = _ := (hb1.cell (p := ⟨g, 3, none⟩) (by simp only; omega)).trans e3; have q4 : w1.cell? ⟨g, 4, none⟩ = _ := (hb1.cell (p := ⟨g, 4, none⟩) (by simp only; omega)).trans e4; have q5 : w1.cell? ⟨g, 5, none⟩ = _ := (hb1.cell (p := ⟨g, 5, none⟩) (by simp only; omega)).trans e5; have hRw : w1.cell? ⟨3, 0, none⟩ = some (.iface 121 (.pointer (some ⟨b2, o2, none⟩))) := (by rw [(Val.alloc1 hbw1).cell (p := ⟨3, 0, none⟩) hR3]; exact hR1); have hRl : 3 < w1.heap.size := (by have := (Val.alloc1 hbw1).size; omega); have hgl : g < w1.heap.size := (by have := (Val.alloc1 hbw1).size; omega)))
              go_region_held3 (fun w' => w'.cell? ⟨g, 2, none⟩ = some (.string xx) ∧ w'.cell? ⟨g, 4, none⟩ = some (.int .i64 yn)) (first | exact ⟨q2, q4⟩ | exact ⟨z2, z4⟩ | exact ⟨Val.set3o (by omega) z2, Val.set3o (by omega) z4⟩ | exact ⟨Val.set3o (by omega) q2, Val.set3o (by omega) q4⟩) (first | (go_at_call 29; refine (Val.byteAt_no xx yn hc b2 o2 w1.drew hRl hRw).mono ?_; rintro e w2 ⟨rfl, hb2⟩; have hbw2 : Below (w.heap.size + 1) (w.alloc (.cells #[.int .i64 0, .int .i64 0, .string ⟨#[]⟩] 25)) w2 := (hbw1.drew.trans (hb2.mono (by have := hbw1.size; simpa using this))); obtain ⟨⟨t0, t1, t2⟩, m0, m1, m2⟩ := Val.row3' hbw2; have z2 : w2.cell? ⟨g, 2, none⟩ = _ := ((hb2.cell (p := ⟨g, 2, none⟩) hgl).trans q2); have z4 : w2.cell? ⟨g, 4, none⟩ = _ := ((hb2.cell (p := ⟨g, 4, none⟩) hgl).trans q4)))
              go_wp2
              rw [← hok]
              exact bodyPost_ret (v := .tuple #[.agg #[.int .i64 0, .int .i64 0, .string ⟨#[]⟩], .iface 121 (.pointer (some ⟨b2, o2, none⟩))]) (by simp [results, Tryz.results20, go_sem, t0, t1, t2]) rfl ⟨Val.bres_err (by decide) hR4 hR2, Val.set3w (Val.alloc1 hbw2) _ _ _⟩
          · have hlen1 : vs.length = 3 := by rw [← HTS.out, List.length_map] at hlen; exact hlen.symm
            obtain ⟨x, y, z, rfl⟩ := Val.len3 hlen1
            have hi1 : 3 = i := HN.out
            subst hi1
            obtain ⟨g, rfl, hg, hcell⟩ := HC.out 0 (by simp)
            have hq0 : ∀ m, m < 3 → wr.cell? ⟨g, 0 + m, none⟩ = (Val.vC x)[m]? := fun m hm => by rw [hB.cell (p := ⟨g, 0 + m, none⟩) hg]; exact hcell m hm
            obtain ⟨g1, hg1, _, hcell1⟩ := HC.out 1 (by simp)
            have hgg1 : g = g1 := by injection hg1 with h1; injection h1
            subst hgg1
            have hq1 : ∀ m, m < 3 → wr.cell? ⟨g, 3 + m, none⟩ = (Val.vC y)[m]? := fun m hm => by rw [hB.cell (p := ⟨g, 3 + m, none⟩) hg]; exact hcell1 m hm
            obtain ⟨g2, hg2, _, hcell2⟩ := HC.out 2 (by simp)
            have hgg2 : g = g2 := by injection hg2 with h1; injection h1
            subst hgg2
            have hq2 : ∀ m, m < 3 → wr.cell? ⟨g, 6 + m, none⟩ = (Val.vC z)[m]? := fun m hm => by rw [hB.cell (p := ⟨g, 6 + m, none⟩) hg]; exact hcell2 m hm
            have e0 := hq0 0 (by omega)
            have e1 := hq0 1 (by omega)
            have e2 := hq0 2 (by omega)
            have e3 := hq1 0 (by omega)
            have e4 := hq1 1 (by omega)
            have e5 := hq1 2 (by omega)
            have e6 := hq2 0 (by omega)
            have e7 := hq2 1 (by omega)
            have e8 := hq2 2 (by omega)
            simp only [Val.vC, List.getElem?_cons_zero, List.getElem?_cons_succ, Nat.reduceAdd] at e0 e1 e2 e3 e4 e5 e6 e7 e8
            have htt : ts = [x.type, y.type, z.type] := HTS.out.symm
            rw [htt] at hf
            have hft : Hid (Val.fitL (Val.want 8) [x.type, y.type, z.type] = true) := hf
            have hav : Hid ([x, y, z].all Val.valid = true) := hall
            clear hf
            have hsz : x.text.size ≤ 3000 := (Val.first_text 8 x [y, z] (by decide) hft.out hav.out)
            clear hcell HC hall htt0 hq0 hq1 hq2 hg1 hcell1 hg2 hcell2
            obtain ⟨xt, xn, xx⟩ := x
            obtain ⟨yt, yn, yx⟩ := y
            obtain ⟨zt, zn, zx⟩ := z
            simp only at *
            obtain ⟨b2, o2, hR1, hR2, hR3, hR4⟩ := HG.out.eR
            by_cases hc : 0 ≤ yn ∧ yn ≤ zn ∧ zn ≤ (xx.size : Int)
            · obtain ⟨i, rfl⟩ : ∃ i : Nat, yn = (i : Int) := ⟨yn.toNat, by omega⟩
              obtain ⟨j, rfl⟩ : ∃ j : Nat, zn = (j : Int) := ⟨zn.toNat, by omega⟩
              have hc1 : i ≤ j := by omega
              have hc2 : j ≤ xx.size := by omega
              have hok : ((⟨2, 0, xx.extract i j⟩, ⟨#[]⟩) : Val.V × ByteArray) = r := by rw [← HOK.out]; simp [Val.builtOk, hc1, hc2]
              go_wp2_with (go_at_call 28; (refine (HTB.out _ rfl).mono ?_; rintro e w1 ⟨rfl, hb1⟩; have hbw1 : Below (w.heap.size + 1) (w.alloc (.cells #[.int .i64 0, .int .i64 0, .string ⟨#[]⟩] 25)) w1 := (hbw.trans (hb1.mono (by omega))); obtain ⟨⟨s0, s1, s2⟩, l0, l1, l2⟩ := Val.row3' hbw1; have HG1 : Hid (Val.GB w1) := (HG.out.next (Val.alloc1 hbw1)); have q0 : w1.cell? ⟨g, 0, none⟩ = _ := (hb1.cell (p := ⟨g, 0, none⟩) (by simp only; omega)).trans e0; have q1 : w1.cell? ⟨g, 1, none⟩ = _ := (hb1.cell (p := ⟨g, 1, none⟩) (by simp only; omega)).trans e1; have q2 : w1.cell? ⟨g, 2, none⟩ = _ := (hb1.cell (p := ⟨g, 2, none⟩) (by simp only; omega)).trans e2; have q3 : w1.cell? ⟨g, 3, none⟩ = _ := (hb1.cell (p := ⟨g, 3, none⟩) (by simp only; omega)).trans e3; have q4 : w1.cell? ⟨g, 4, none⟩ = _ := (hb1.cell (p := ⟨g, 4, none⟩) (by simp only; omega)).trans e4; have q5 : w1.cell? ⟨g, 5, none⟩ = _ := (hb1.cell (p := ⟨g, 5, none⟩) (by simp only; omega)).trans e5; have q6 : w1.cell? ⟨g, 6, none⟩ = _ := (hb1.cell (p := ⟨g, 6, none⟩) (by simp only; omega)).trans e6; have q7 : w1.cell? ⟨g, 7, none⟩ = _ := (hb1.cell (p := ⟨g, 7, none⟩) (by simp only; omega)).trans e7; have q8 : w1.cell? ⟨g, 8, none⟩ = _ := (hb1.cell (p := ⟨g, 8, none⟩) (by simp only; omega)).trans e8; have hRw : w1.cell? ⟨3, 0, none⟩ = some (.iface 121 (.pointer (some ⟨b2, o2, none⟩))) := (by rw [(Val.alloc1 hbw1).cell (p := ⟨3, 0, none⟩) hR3]; exact hR1); have hRl : 3 < w1.heap.size := (by have := (Val.alloc1 hbw1).size; omega); have hgl : g < w1.heap.size := (by have := (Val.alloc1 hbw1).size; omega)))
              go_region_held3 (fun w' => w'.cell? ⟨g, 2, none⟩ = some (.string xx) ∧ w'.cell? ⟨g, 4, none⟩ = some (.int .i64 (i : Int)) ∧ w'.cell? ⟨g, 7, none⟩ = some (.int .i64 (j : Int))) (first | exact ⟨q2, q4, q7⟩ | exact ⟨z2, z4, z7⟩ | exact ⟨Val.set3o (by omega) z2, Val.set3o (by omega) z4, Val.set3o (by omega) z7⟩ | exact ⟨Val.set3o (by omega) q2, Val.set3o (by omega) q4, Val.set3o (by omega) q7⟩) (first | (go_at_call 30; refine (Val.cut_yes xx i j hc1 hc2 _).mono ?_; rintro e w2 ⟨rfl, hb2⟩; have hbw2 : Below (w.heap.size + 1) (w.alloc (.cells #[.int .i64 0, .int .i64 0, .string ⟨#[]⟩] 25)) w2 := (hbw1.drew.trans (hb2.mono (by have := hbw1.size; simpa using this))); obtain ⟨⟨t0, t1, t2⟩, m0, m1, m2⟩ := Val.row3' hbw2; have z2 : w2.cell? ⟨g, 2, none⟩ = _ := ((hb2.cell (p := ⟨g, 2, none⟩) hgl).trans q2); have z4 : w2.cell? ⟨g, 4, none⟩ = _ := ((hb2.cell (p := ⟨g, 4, none⟩) hgl).trans q4); have z7 : w2.cell? ⟨g, 7, none⟩ = _ := ((hb2.cell (p := ⟨g, 7, none⟩) hgl).trans q7)))
              go_wp2
              rw [← hok]
              exact bodyPost_ret (v := .tuple #[.agg #[.int .i64 2, .int .i64 0, .string (xx.extract i j)], .nilIface]) (by simp [results, Tryz.results20, go_sem, t0, t1, t2]) rfl ⟨Val.bres_ok rfl, Val.set3w (Val.alloc1 hbw2) _ _ _⟩
            · have hok : (Val.zero, Val.rangeW) = r := by rw [← HOK.out]; simp [Val.builtOk]; omega
              go_wp2_with (go_at_call 28; (refine (HTB.out _ rfl).mono ?_; rintro e w1 ⟨rfl, hb1⟩; have hbw1 : Below (w.heap.size + 1) (w.alloc (.cells #[.int .i64 0, .int .i64 0, .string ⟨#[]⟩] 25)) w1 := (hbw.trans (hb1.mono (by omega))); obtain ⟨⟨s0, s1, s2⟩, l0, l1, l2⟩ := Val.row3' hbw1; have HG1 : Hid (Val.GB w1) := (HG.out.next (Val.alloc1 hbw1)); have q0 : w1.cell? ⟨g, 0, none⟩ = _ := (hb1.cell (p := ⟨g, 0, none⟩) (by simp only; omega)).trans e0; have q1 : w1.cell? ⟨g, 1, none⟩ = _ := (hb1.cell (p := ⟨g, 1, none⟩) (by simp only; omega)).trans e1; have q2 : w1.cell? ⟨g, 2, none⟩ = _ := (hb1.cell (p := ⟨g, 2, none⟩) (by simp only; omega)).trans e2; have q3 : w1.cell? ⟨g, 3, none⟩ = _ := (hb1.cell (p := ⟨g, 3, none⟩) (by simp only; omega)).trans e3; have q4 : w1.cell? ⟨g, 4, none⟩ = _ := (hb1.cell (p := ⟨g, 4, none⟩) (by simp only; omega)).trans e4; have q5 : w1.cell? ⟨g, 5, none⟩ = _ := (hb1.cell (p := ⟨g, 5, none⟩) (by simp only; omega)).trans e5; have q6 : w1.cell? ⟨g, 6, none⟩ = _ := (hb1.cell (p := ⟨g, 6, none⟩) (by simp only; omega)).trans e6; have q7 : w1.cell? ⟨g, 7, none⟩ = _ := (hb1.cell (p := ⟨g, 7, none⟩) (by simp only; omega)).trans e7; have q8 : w1.cell? ⟨g, 8, none⟩ = _ := (hb1.cell (p := ⟨g, 8, none⟩) (by simp only; omega)).trans e8; have hRw : w1.cell? ⟨3, 0, none⟩ = some (.iface 121 (.pointer (some ⟨b2, o2, none⟩))) := (by rw [(Val.alloc1 hbw1).cell (p := ⟨3, 0, none⟩) hR3]; exact hR1); have hRl : 3 < w1.heap.size := (by have := (Val.alloc1 hbw1).size; omega); have hgl : g < w1.heap.size := (by have := (Val.alloc1 hbw1).size; omega)))
              go_region_held3 (fun w' => w'.cell? ⟨g, 2, none⟩ = some (.string xx) ∧ w'.cell? ⟨g, 4, none⟩ = some (.int .i64 yn) ∧ w'.cell? ⟨g, 7, none⟩ = some (.int .i64 zn)) (first | exact ⟨q2, q4, q7⟩ | exact ⟨z2, z4, z7⟩ | exact ⟨Val.set3o (by omega) z2, Val.set3o (by omega) z4, Val.set3o (by omega) z7⟩ | exact ⟨Val.set3o (by omega) q2, Val.set3o (by omega) q4, Val.set3o (by omega) q7⟩) (first | (go_at_call 30; refine (Val.cut_no xx yn zn hc b2 o2 w1.drew hRl hRw).mono ?_; rintro e w2 ⟨rfl, hb2⟩; have hbw2 : Below (w.heap.size + 1) (w.alloc (.cells #[.int .i64 0, .int .i64 0, .string ⟨#[]⟩] 25)) w2 := (hbw1.drew.trans (hb2.mono (by have := hbw1.size; simpa using this))); obtain ⟨⟨t0, t1, t2⟩, m0, m1, m2⟩ := Val.row3' hbw2; have z2 : w2.cell? ⟨g, 2, none⟩ = _ := ((hb2.cell (p := ⟨g, 2, none⟩) hgl).trans q2); have z4 : w2.cell? ⟨g, 4, none⟩ = _ := ((hb2.cell (p := ⟨g, 4, none⟩) hgl).trans q4); have z7 : w2.cell? ⟨g, 7, none⟩ = _ := ((hb2.cell (p := ⟨g, 7, none⟩) hgl).trans q7)))
              go_wp2
              rw [← hok]
              exact bodyPost_ret (v := .tuple #[.agg #[.int .i64 0, .int .i64 0, .string ⟨#[]⟩], .iface 121 (.pointer (some ⟨b2, o2, none⟩))]) (by simp [results, Tryz.results20, go_sem, t0, t1, t2]) rfl ⟨Val.bres_err (by decide) hR4 hR2, Val.set3w (Val.alloc1 hbw2) _ _ _⟩
          · have hlen1 : vs.length = 2 := by rw [← HTS.out, List.length_map] at hlen; exact hlen.symm
            obtain ⟨x, y, rfl⟩ := Val.len2 hlen1
            have hi1 : 2 = i := HN.out
            subst hi1
            obtain ⟨g, rfl, hg, hcell⟩ := HC.out 0 (by simp)
            have hq0 : ∀ m, m < 3 → wr.cell? ⟨g, 0 + m, none⟩ = (Val.vC x)[m]? := fun m hm => by rw [hB.cell (p := ⟨g, 0 + m, none⟩) hg]; exact hcell m hm
            obtain ⟨g1, hg1, _, hcell1⟩ := HC.out 1 (by simp)
            have hgg1 : g = g1 := by injection hg1 with h1; injection h1
            subst hgg1
            have hq1 : ∀ m, m < 3 → wr.cell? ⟨g, 3 + m, none⟩ = (Val.vC y)[m]? := fun m hm => by rw [hB.cell (p := ⟨g, 3 + m, none⟩) hg]; exact hcell1 m hm
            have e0 := hq0 0 (by omega)
            have e1 := hq0 1 (by omega)
            have e2 := hq0 2 (by omega)
            have e3 := hq1 0 (by omega)
            have e4 := hq1 1 (by omega)
            have e5 := hq1 2 (by omega)
            simp only [Val.vC, List.getElem?_cons_zero, List.getElem?_cons_succ, Nat.reduceAdd] at e0 e1 e2 e3 e4 e5
            have htt : ts = [x.type, y.type] := HTS.out.symm
            rw [htt] at hf
            have hft : Hid (Val.fitL (Val.want 9) [x.type, y.type] = true) := hf
            have hav : Hid ([x, y].all Val.valid = true) := hall
            clear hf
            have hsz : x.text.size ≤ 3000 := (Val.first_text 9 x [y] (by decide) hft.out hav.out)
            have hsz2 : y.text.size ≤ 3000 := (Val.second_text x y hft.out hav.out)
            clear hcell HC hall htt0 hq0 hq1 hg1 hcell1
            obtain ⟨xt, xn, xx⟩ := x
            obtain ⟨yt, yn, yx⟩ := y
            simp only at *
            have hok : ((⟨10, Lib.index xx.data.toList yx.data.toList, ⟨#[]⟩⟩, ⟨#[]⟩) : Val.V × ByteArray) = r := by rw [← HOK.out]; simp [Val.builtOk]
            go_wp2_with (go_at_call 28; (refine (HTB.out _ rfl).mono ?_; rintro e w1 ⟨rfl, hb1⟩; have hbw1 : Below (w.heap.size + 1) (w.alloc (.cells #[.int .i64 0, .int .i64 0, .string ⟨#[]⟩] 25)) w1 := (hbw.trans (hb1.mono (by omega))); obtain ⟨⟨s0, s1, s2⟩, l0, l1, l2⟩ := Val.row3' hbw1; have HG1 : Hid (Val.GB w1) := (HG.out.next (Val.alloc1 hbw1)); have q0 : w1.cell? ⟨g, 0, none⟩ = _ := (hb1.cell (p := ⟨g, 0, none⟩) (by simp only; omega)).trans e0; have q1 : w1.cell? ⟨g, 1, none⟩ = _ := (hb1.cell (p := ⟨g, 1, none⟩) (by simp only; omega)).trans e1; have q2 : w1.cell? ⟨g, 2, none⟩ = _ := (hb1.cell (p := ⟨g, 2, none⟩) (by simp only; omega)).trans e2; have q3 : w1.cell? ⟨g, 3, none⟩ = _ := (hb1.cell (p := ⟨g, 3, none⟩) (by simp only; omega)).trans e3; have q4 : w1.cell? ⟨g, 4, none⟩ = _ := (hb1.cell (p := ⟨g, 4, none⟩) (by simp only; omega)).trans e4; have q5 : w1.cell? ⟨g, 5, none⟩ = _ := (hb1.cell (p := ⟨g, 5, none⟩) (by simp only; omega)).trans e5; have HG1d : Hid (Val.GB w1.drew) := (HG1.out.next (Below.refl _ _).drew)))
            go_region_held3 (fun w' => w'.cell? ⟨g, 2, none⟩ = some (.string xx) ∧ w'.cell? ⟨g, 5, none⟩ = some (.string yx)) (first | exact ⟨q2, q5⟩ | exact ⟨z2, z5⟩ | exact ⟨Val.set3o (by omega) z2, Val.set3o (by omega) z5⟩ | exact ⟨Val.set3o (by omega) q2, Val.set3o (by omega) q5⟩) (first | (go_at_call 31; refine (Val.index_any xx yx (by omega) _ HG1d.out).mono ?_; rintro e w' ⟨rfl, rfl⟩))
            go_wp2
            rw [← hok]
            exact bodyPost_ret (v := .tuple #[.agg #[.int .i64 10, .int .i64 (Lib.index xx.data.toList yx.data.toList), .string ⟨#[]⟩], .nilIface]) (by simp [results, Tryz.results20, go_sem, s0, s1, s2]) rfl ⟨Val.bres_ok rfl, by first | exact (Val.set3w (Val.alloc1 hbw1) _ _ _).drew | exact Val.set3w ((Val.alloc1 hbw1).drew) _ _ _⟩
          · have hlen1 : vs.length = 1 := by rw [← HTS.out, List.length_map] at hlen; exact hlen.symm
            obtain ⟨x, rfl⟩ := Val.len1 hlen1
            have hi1 : 1 = i := HN.out
            subst hi1
            obtain ⟨g, rfl, hg, hcell⟩ := HC.out 0 (by simp)
            have hq0 : ∀ m, m < 3 → wr.cell? ⟨g, 0 + m, none⟩ = (Val.vC x)[m]? := fun m hm => by rw [hB.cell (p := ⟨g, 0 + m, none⟩) hg]; exact hcell m hm
            have e0 := hq0 0 (by omega)
            have e1 := hq0 1 (by omega)
            have e2 := hq0 2 (by omega)
            simp only [Val.vC, List.getElem?_cons_zero, List.getElem?_cons_succ, Nat.reduceAdd] at e0 e1 e2
            have htt : ts = [x.type] := HTS.out.symm
            rw [htt] at hf
            have hft : Hid (Val.fitL (Val.want 10) [x.type] = true) := hf
            have hav : Hid ([x].all Val.valid = true) := hall
            clear hf
            have hbyte : 0 ≤ x.n ∧ x.n ≤ 255 := (Val.first_byte x hft.out hav.out)
            clear hcell HC hall htt0 hq0
            obtain ⟨xt, xn, xx⟩ := x
            simp only at *
            have hu8 : IntKind.u8.wrap xn = xn := by show xn % 256 = xn; omega
            have hm8 : xn % 256 = xn := by omega
            have hok : ((⟨2, 0, ⟨#[UInt8.ofNat xn.toNat]⟩⟩, ⟨#[]⟩) : Val.V × ByteArray) = r := by rw [← HOK.out]; simp [Val.builtOk, hm8]
            go_wp2_with (first | (go_at_call 28; (refine (HTB.out _ rfl).mono ?_; rintro e w1 ⟨rfl, hb1⟩; have hbw1 : Below (w.heap.size + 1) (w.alloc (.cells #[.int .i64 0, .int .i64 0, .string ⟨#[]⟩] 25)) w1 := (hbw.trans (hb1.mono (by omega))); obtain ⟨⟨s0, s1, s2⟩, l0, l1, l2⟩ := Val.row3' hbw1; have HG1 : Hid (Val.GB w1) := (HG.out.next (Val.alloc1 hbw1)); have q0 : w1.cell? ⟨g, 0, none⟩ = _ := (hb1.cell (p := ⟨g, 0, none⟩) (by simp only; omega)).trans e0; have q1 : w1.cell? ⟨g, 1, none⟩ = _ := (hb1.cell (p := ⟨g, 1, none⟩) (by simp only; omega)).trans e1; have q2 : w1.cell? ⟨g, 2, none⟩ = _ := (hb1.cell (p := ⟨g, 2, none⟩) (by simp only; omega)).trans e2; have hcv := Val.conv_one w1 xn hbyte.1 hbyte.2; have HBO2 : Hid (Below (w.heap.size + 1) (w.alloc (.cells #[.int .i64 0, .int .i64 0, .string ⟨#[]⟩] 25)) (w1.alloc (.cells #[.int .u8 xn] 5))) := (hbw1.alloc (by have := hbw1.size; simpa using this) _))) | (go_at_call 32; (refine (Val.textValue_any _ _).mono ?_; rintro e w3 ⟨rfl, hb3⟩; have hbw3 : Below (w.heap.size + 1) (w.alloc (.cells #[.int .i64 0, .int .i64 0, .string ⟨#[]⟩] 25)) w3 := (HBO2.out.trans (hb3.mono (by have := HBO2.out.size; simpa using this))); obtain ⟨⟨n0, n1, n2⟩, o0, o1, o2⟩ := Val.row3' hbw3)))
            rw [← hok]
            exact bodyPost_ret (v := .tuple #[.agg #[.int .i64 2, .int .i64 0, .string ⟨#[UInt8.ofNat xn.toNat]⟩], .nilIface]) (by simp [results, Tryz.results20, go_sem, n0, n1, n2]) rfl ⟨Val.bres_ok rfl, Val.set3w (Val.alloc1 hbw3) _ _ _⟩
          · have hlen1 : vs.length = 1 := by rw [← HTS.out, List.length_map] at hlen; exact hlen.symm
            obtain ⟨x, rfl⟩ := Val.len1 hlen1
            have hi1 : 1 = i := HN.out
            subst hi1
            obtain ⟨g, rfl, hg, hcell⟩ := HC.out 0 (by simp)
            have hq0 : ∀ m, m < 3 → wr.cell? ⟨g, 0 + m, none⟩ = (Val.vC x)[m]? := fun m hm => by rw [hB.cell (p := ⟨g, 0 + m, none⟩) hg]; exact hcell m hm
            have e0 := hq0 0 (by omega)
            have e1 := hq0 1 (by omega)
            have e2 := hq0 2 (by omega)
            simp only [Val.vC, List.getElem?_cons_zero, List.getElem?_cons_succ, Nat.reduceAdd] at e0 e1 e2
            have htt : ts = [x.type] := HTS.out.symm
            rw [htt] at hf
            have hft : Hid (Val.fitL (Val.want 11) [x.type] = true) := hf
            have hav : Hid ([x].all Val.valid = true) := hall
            clear hf
            have hnx := HNR.out x (by simp)
            have HDX : Hid (Val.decI x.type x.n = Val.dec x.type x.n) := (Val.dec_valid' x hft.out hav.out hnx)
            clear hcell HC hall htt0 hq0
            obtain ⟨xt, xn, xx⟩ := x
            simp only at *
            have hok : ((⟨2, 0, ⟨(Val.dec xt xn).toArray⟩⟩, ⟨#[]⟩) : Val.V × ByteArray) = r := HOK.out
            go_wp2_with (first | (go_at_call 28; (refine (HTB.out _ rfl).mono ?_; rintro e w1 ⟨rfl, hb1⟩; have hbw1 : Below (w.heap.size + 1) (w.alloc (.cells #[.int .i64 0, .int .i64 0, .string ⟨#[]⟩] 25)) w1 := (hbw.trans (hb1.mono (by omega))); obtain ⟨⟨s0, s1, s2⟩, l0, l1, l2⟩ := Val.row3' hbw1; have HG1 : Hid (Val.GB w1) := (HG.out.next (Val.alloc1 hbw1)); have q0 : w1.cell? ⟨g, 0, none⟩ = _ := (hb1.cell (p := ⟨g, 0, none⟩) (by simp only; omega)).trans e0; have q1 : w1.cell? ⟨g, 1, none⟩ = _ := (hb1.cell (p := ⟨g, 1, none⟩) (by simp only; omega)).trans e1; have q2 : w1.cell? ⟨g, 2, none⟩ = _ := (hb1.cell (p := ⟨g, 2, none⟩) (by simp only; omega)).trans e2)) | (go_at_call 33; (refine (Val.decimal_any xt xn xx hnx _ HG1.out).mono ?_; rintro e w2 ⟨rfl, hb2⟩; rw [HDX.out]; have hbw2 : Below (w.heap.size + 1) (w.alloc (.cells #[.int .i64 0, .int .i64 0, .string ⟨#[]⟩] 25)) w2 := (hbw1.trans (hb2.mono (by have := hbw1.size; simpa using this))); obtain ⟨⟨t0, t1, t2⟩, m0, m1, m2⟩ := Val.row3' hbw2)) | (go_at_call 32; (refine (Val.textValue_any _ _).mono ?_; rintro e w3 ⟨rfl, hb3⟩; have hbw3 : Below (w.heap.size + 1) (w.alloc (.cells #[.int .i64 0, .int .i64 0, .string ⟨#[]⟩] 25)) w3 := (hbw2.trans (hb3.mono (by have := hbw2.size; simpa using this))); obtain ⟨⟨n0, n1, n2⟩, o0, o1, o2⟩ := Val.row3' hbw3)))
            rw [← hok]
            exact bodyPost_ret (v := .tuple #[.agg #[.int .i64 2, .int .i64 0, .string ⟨(Val.dec xt xn).toArray⟩], .nilIface]) (by simp [results, Tryz.results20, go_sem, n0, n1, n2]) rfl ⟨Val.bres_ok rfl, Val.set3w (Val.alloc1 hbw3) _ _ _⟩
          · have hlen1 : vs.length = 1 := by rw [← HTS.out, List.length_map] at hlen; exact hlen.symm
            obtain ⟨x, rfl⟩ := Val.len1 hlen1
            have hi1 : 1 = i := HN.out
            subst hi1
            obtain ⟨g, rfl, hg, hcell⟩ := HC.out 0 (by simp)
            have hq0 : ∀ m, m < 3 → wr.cell? ⟨g, 0 + m, none⟩ = (Val.vC x)[m]? := fun m hm => by rw [hB.cell (p := ⟨g, 0 + m, none⟩) hg]; exact hcell m hm
            have e0 := hq0 0 (by omega)
            have e1 := hq0 1 (by omega)
            have e2 := hq0 2 (by omega)
            simp only [Val.vC, List.getElem?_cons_zero, List.getElem?_cons_succ, Nat.reduceAdd] at e0 e1 e2
            have htt : ts = [x.type] := HTS.out.symm
            rw [htt] at hf
            have hft : Hid (Val.fitL (Val.want 12) [x.type] = true) := hf
            have hav : Hid ([x].all Val.valid = true) := hall
            clear hf
            have hsz : x.text.size ≤ 3000 := (Val.first_text 12 x [] (by decide) hft.out hav.out)
            clear hcell HC hall htt0 hq0
            obtain ⟨xt, xn, xx⟩ := x
            simp only at *
            obtain ⟨b2, o2, hR1, hR2, hR3, hR4⟩ := HG.out.eN
            obtain ⟨pn, pb, HP⟩ : ∃ pn pb, Hid (Val.parse xx = (pn, pb)) := ⟨_, _, (rfl : Val.parse xx = _)⟩
            cases pb with
            | true =>
              have hok : ((⟨10, pn, ⟨#[]⟩⟩, ⟨#[]⟩) : Val.V × ByteArray) = r := by rw [← HOK.out]; simp [Val.builtOk, HP.out]
              go_wp2_with (first | (go_at_call 28; (refine (HTB.out _ rfl).mono ?_; rintro e w1 ⟨rfl, hb1⟩; have hbw1 : Below (w.heap.size + 1) (w.alloc (.cells #[.int .i64 0, .int .i64 0, .string ⟨#[]⟩] 25)) w1 := (hbw.trans (hb1.mono (by omega))); obtain ⟨⟨s0, s1, s2⟩, l0, l1, l2⟩ := Val.row3' hbw1; have HG1 : Hid (Val.GB w1) := (HG.out.next (Val.alloc1 hbw1)); have q0 : w1.cell? ⟨g, 0, none⟩ = _ := (hb1.cell (p := ⟨g, 0, none⟩) (by simp only; omega)).trans e0; have q1 : w1.cell? ⟨g, 1, none⟩ = _ := (hb1.cell (p := ⟨g, 1, none⟩) (by simp only; omega)).trans e1; have q2 : w1.cell? ⟨g, 2, none⟩ = _ := (hb1.cell (p := ⟨g, 2, none⟩) (by simp only; omega)).trans e2; have hRw : w1.cell? ⟨4, 0, none⟩ = some (.iface 121 (.pointer (some ⟨b2, o2, none⟩))) := (by rw [(Val.alloc1 hbw1).cell (p := ⟨4, 0, none⟩) hR3]; exact hR1); have hRl : 4 < w1.heap.size := (by have := (Val.alloc1 hbw1).size; omega); have hgl : g < w1.heap.size := (by have := (Val.alloc1 hbw1).size; omega))) | (go_at_call 34; (refine (Val.number_yes xx (by omega) pn HP.out _ HG1.out).mono ?_; rintro e w2 ⟨rfl, hb2⟩; have hbw2 : Below (w.heap.size + 1) (w.alloc (.cells #[.int .i64 0, .int .i64 0, .string ⟨#[]⟩] 25)) w2 := (hbw1.trans (hb2.mono (by have := hbw1.size; simpa using this))); obtain ⟨⟨t0, t1, t2⟩, m0, m1, m2⟩ := Val.row3' hbw2)))
              rw [← hok]
              exact bodyPost_ret (v := .tuple #[.agg #[.int .i64 10, .int .i64 pn, .string ⟨#[]⟩], .nilIface]) (by simp [results, Tryz.results20, go_sem, t0, t1, t2]) rfl ⟨Val.bres_ok rfl, Val.set3w (Val.alloc1 hbw2) _ _ _⟩
            | false =>
              have hok : (Val.zero, Val.numberW) = r := by rw [← HOK.out]; simp [Val.builtOk, HP.out]
              go_wp2_with (first | (go_at_call 28; (refine (HTB.out _ rfl).mono ?_; rintro e w1 ⟨rfl, hb1⟩; have hbw1 : Below (w.heap.size + 1) (w.alloc (.cells #[.int .i64 0, .int .i64 0, .string ⟨#[]⟩] 25)) w1 := (hbw.trans (hb1.mono (by omega))); obtain ⟨⟨s0, s1, s2⟩, l0, l1, l2⟩ := Val.row3' hbw1; have HG1 : Hid (Val.GB w1) := (HG.out.next (Val.alloc1 hbw1)); have q0 : w1.cell? ⟨g, 0, none⟩ = _ := (hb1.cell (p := ⟨g, 0, none⟩) (by simp only; omega)).trans e0; have q1 : w1.cell? ⟨g, 1, none⟩ = _ := (hb1.cell (p := ⟨g, 1, none⟩) (by simp only; omega)).trans e1; have q2 : w1.cell? ⟨g, 2, none⟩ = _ := (hb1.cell (p := ⟨g, 2, none⟩) (by simp only; omega)).trans e2; have hRw : w1.cell? ⟨4, 0, none⟩ = some (.iface 121 (.pointer (some ⟨b2, o2, none⟩))) := (by rw [(Val.alloc1 hbw1).cell (p := ⟨4, 0, none⟩) hR3]; exact hR1); have hRl : 4 < w1.heap.size := (by have := (Val.alloc1 hbw1).size; omega); have hgl : g < w1.heap.size := (by have := (Val.alloc1 hbw1).size; omega))) | (go_at_call 34; (refine (Val.number_no xx (by omega) (by rw [HP.out]) b2 o2 _ HG1.out hRw hRl).mono ?_; rintro e w2 ⟨rfl, hb2⟩; have hbw2 : Below (w.heap.size + 1) (w.alloc (.cells #[.int .i64 0, .int .i64 0, .string ⟨#[]⟩] 25)) w2 := (hbw1.trans (hb2.mono (by have := hbw1.size; simpa using this))); obtain ⟨⟨t0, t1, t2⟩, m0, m1, m2⟩ := Val.row3' hbw2)))
              rw [← hok]
              exact bodyPost_ret (v := .tuple #[.agg #[.int .i64 0, .int .i64 0, .string ⟨#[]⟩], .iface 121 (.pointer (some ⟨b2, o2, none⟩))]) (by simp [results, Tryz.results20, go_sem, t0, t1, t2]) rfl ⟨Val.bres_err (by decide) hR4 hR2, Val.set3w (Val.alloc1 hbw2) _ _ _⟩
      · have HF2 : Hid ((Val.zero, Val.typeW) = r) := by
          rw [Hid, ← HR.out, Val.built, if_neg]
          rintro ⟨h1, _⟩; exact h6 h1
        clear HC
        go_wp2_with fail
        go_region_held3 (fun w' => w'.cell? ⟨0, 0, none⟩ = some (.iface 121 (.pointer (some ⟨b, o, none⟩)))) (first | exact hEr | exact Val.set3e (by omega) hEr) (fail)
        go_wp2
        rw [← HF2.out]
        exact bodyPost_ret (v := .tuple #[.agg #[.int .i64 0, .int .i64 0, .string ⟨#[]⟩], .iface 121 (.pointer (some ⟨b, o, none⟩))]) (by simp [results, Tryz.results20, go_sem, r0, r1, r2]) rfl ⟨Val.bres_err (by decide) hT4 hT2, by first | exact (Val.set3w (Val.alloc1 hbw) _ _ _).drew | exact Val.set3w ((Val.alloc1 hbw).drew) _ _ _⟩
end Go.Proofs.YtfelngigfmdedaaGreatDoor
