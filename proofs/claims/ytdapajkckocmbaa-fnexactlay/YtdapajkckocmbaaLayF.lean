import Derived.Test.YtdapajkckocmbaaLayE
namespace Go.Proofs.Ytdapajkckocmbaa
open Go.RowKit Go.Maps Go.WideMaps

theorem Bx.lays_mem {fs ss : List Bx.Fl} {d : Bx.Fl} (h : d ∈ Bx.lays fs ss) : d ∈ fs ∨ d ∈ ss := by
  unfold Bx.lays at h
  induction ss generalizing fs with
  | nil => exact .inl h
  | cons a r ih =>
    rcases ih h with h | h
    · rcases Bx.put_mem h with rfl | h
      · exact .inr List.mem_cons_self
      · exact .inl h
    · exact .inr (List.mem_cons_of_mem _ h)
set_option maxRecDepth 100000 in
set_option maxHeartbeats 2000000 in
theorem Bx.implLay_any (fs ss : List Bx.Fl) (v u : Value) (w : World) (hn : fs.length ≤ 1048576) (hx : ∀ d ∈ fs, d.name.size ≤ 1048576 ∧ d.text.size ≤ 1048576) (hm : ss.length ≤ 1048576) (hy : ∀ d ∈ ss, d.name.size ≤ 1048576 ∧ d.text.size ≤ 1048576) (hN : Bx.Off w v fs) (hS : Bx.Off w u ss) :
    Calls Try.prog 18 #[.agg #[v], u] w (Bx.LayPost (Bx.lay fs ss).1 (Bx.lay fs ss).2 w) := by
  have HV : Hid (∀ b w1, Bx.ok fs 40 = b → Bx.Off w1 v fs → Calls Try.prog 10 #[.agg #[v]] w1 fun e w' => e = .returned (.bool b) ∧ Below w1.heap.size w1 w') := fun b w1 hb h => by
    have := Bx.implPlace_any fs v w1 hn hx h
    rw [hb] at this; exact this
  have HN : Hid (∀ W, Below w.heap.size w W → Bx.Off W v fs) := fun W hW => hN.below hW
  have HSS : Hid (∀ W, Below w.heap.size w W → Bx.Off W u ss) := fun W hW => hS.below hW
  have HCF0 : Hid (∀ W, Bx.Off W u ss → Calls Try.prog 38 #[u, .func (Fn.func 39) #[] #[]] W fun e w' => e = .returned (.bool (!ss.all Bx.good)) ∧ Below W.heap.size W w') := fun W h => Bx.noCont_any ss u W hm hy h
  obtain ⟨p, cap, rfl⟩ := hN.slice
  obtain ⟨p2, cap2, rfl, hc⟩ := hS
  have HC : Hid (∀ i (hi : i < ss.length), ∃ g o, p2 = some ⟨g, o, none⟩ ∧ g < w.heap.size ∧ w.cell? ⟨g, o + i * 2, none⟩ = some (.string ss[i].name) ∧ w.cell? ⟨g, o + i * 2 + 1, none⟩ = some (.string ss[i].text)) := hc
  clear hc
  have hal : ∀ o1 o2 : Obj, Below w.heap.size w ((w.alloc o1).alloc o2) := fun o1 o2 => ((Below.refl _ w).alloc (Nat.le_refl _) o1).alloc (by simp) o2
  cases hok : Bx.ok fs 40 with
  | false =>
    have HR : Hid (Bx.lay fs ss = ([], 1)) := by rw [Hid, Bx.lay, if_pos (.inl hok)]
    have HVV : Hid (∀ w1, Bx.Off w1 (.slice p fs.length cap) fs → Calls Try.prog 10 #[.agg #[.slice p fs.length cap]] w1 fun e w' => e = .returned (.bool false) ∧ Below w1.heap.size w1 w') := fun w1 h => HV.out false w1 hok h
    rw [HR.out]
    clear HV hok hx hn hN HR HC HCF0 HSS
    generalize ss.length = m at *
    revert HVV HN
    generalize fs.length = n
    intro HN HVV
    go_enter Try.func18, Try.ntmps18
    go_wp2_with (go_at_call 10; refine (HVV.out _ (HN.out _ (hal _ _))).mono ?_; rintro e w2 ⟨rfl, hb2⟩; simp only [World.size_alloc] at hb2; have p0 := Bx.place_cell0 hb2; have hbw2 : Below w.heap.size w w2 := (hal _ _).trans (hb2.mono (by omega)); have hz2w : w.heap.size + 1 + 1 ≤ w2.heap.size := (by have := hb2.size; simpa using this); obtain ⟨r0, r1⟩ := Bx.res_cell hb2)
    exact bodyPost_ret (v := .tuple #[.agg #[.slice none 0 0], .int .i64 1]) (by simp [results, Try.results18, go_sem, r0]) rfl (Bx.LayPost.none (hbw2.setCell (p := ⟨w.heap.size + 1, 0, none⟩) (by simp only; omega) _))
  | true =>
    have hu := Bx.ok_up hok
    have hl := Bx.ok_len hok
    have HVV : Hid (∀ w1, Bx.Off w1 (.slice p fs.length cap) fs → Calls Try.prog 10 #[.agg #[.slice p fs.length cap]] w1 fun e w' => e = .returned (.bool true) ∧ Below w1.heap.size w1 w') := fun w1 h => HV.out true w1 hok h
    have HBO : Hid (∀ w1, Bx.Off w1 (.slice p fs.length cap) fs → Calls Try.prog 32 #[.agg #[.slice p fs.length cap]] w1 fun e w' => ∃ g, e = .returned (.pointer (some ⟨g, 0, none⟩)) ∧ Bx.Holds w' w1.heap.size g fs fs.length ∧ Below w1.heap.size w1 w') := fun w1 h => Bx.boxOf_any fs hu _ w1 (by omega) (fun d hd => (hx d hd).1) h
    have HZX : Hid (∀ i, ∀ d ∈ Bx.lays fs (ss.take i), d.name.size ≤ 1048576 ∧ d.text.size ≤ 1048576) := fun i d hd => by
      rcases Bx.lays_mem hd with h | h
      · exact hx d h
      · exact hy d (List.mem_of_mem_take h)
    obtain ⟨m, HM⟩ : ∃ m, Hid (ss.length = m) := ⟨_, (rfl : ss.length = _)⟩
    obtain ⟨n, HNN⟩ : ∃ n, Hid (fs.length = n) := ⟨_, (rfl : fs.length = _)⟩
    rw [HM.out] at hm
    rw [HNN.out] at hl
    simp only [HM.out] at HSS HCF0 ⊢
    simp only [HNN.out] at HVV HN HBO ⊢
    clear HV
    by_cases hmm : 40 < m
    · have HR : Hid (Bx.lay fs ss = ([], 1)) := by rw [Hid, Bx.lay, if_pos (.inr (.inl (by rw [HM.out]; exact hmm)))]
      rw [HR.out]
      clear hx hN HR HC hok HCF0 HBO
      have hmm2 : decide ((40 : Int) < (m : Int)) = true := by simp; omega
      go_enter Try.func18, Try.ntmps18
      go_wp2_with (go_at_call 10; refine (HVV.out _ (HN.out _ (hal _ _))).mono ?_; rintro e w2 ⟨rfl, hb2⟩; simp only [World.size_alloc] at hb2; have p0 := Bx.place_cell0 hb2; have hbw2 : Below w.heap.size w w2 := (hal _ _).trans (hb2.mono (by omega)); have hz2w : w.heap.size + 1 + 1 ≤ w2.heap.size := (by have := hb2.size; simpa using this); obtain ⟨r0, r1⟩ := Bx.res_cell hb2)
      exact bodyPost_ret (v := .tuple #[.agg #[.slice none 0 0], .int .i64 1]) (by simp [results, Try.results18, go_sem, r0]) rfl (Bx.LayPost.none (hbw2.setCell (p := ⟨w.heap.size + 1, 0, none⟩) (by simp only; omega) _))
    · have hmm2 : decide ((40 : Int) < (m : Int)) = false := by simp; omega
      cases hag : ss.all Bx.good with
      | false =>
        have HR : Hid (Bx.lay fs ss = ([], 1)) := by rw [Hid, Bx.lay, if_pos (.inr (.inr hag))]
        rw [HR.out]
        rw [hag] at HCF0
        have HCF : Hid (∀ W, Bx.Off W (.slice p2 m cap2) ss → Calls Try.prog 38 #[.slice p2 m cap2, .func (Fn.func 39) #[] #[]] W fun e w' => e = .returned (.bool true) ∧ Below W.heap.size W w') := HCF0
        clear hx hN HR HC hok HCF0 HBO hag
        go_enter Try.func18, Try.ntmps18
        go_wp2_with (first | (go_at_call 10; refine (HVV.out _ (HN.out _ (hal _ _))).mono ?_; rintro e w2 ⟨rfl, hb2⟩; simp only [World.size_alloc] at hb2; have p0 := Bx.place_cell0 hb2; have hbw2 : Below w.heap.size w w2 := (hal _ _).trans (hb2.mono (by omega)); have hz2w : w.heap.size + 1 + 1 ≤ w2.heap.size := (by have := hb2.size; simpa using this); obtain ⟨r0, r1⟩ := Bx.res_cell hb2) | (go_at_call 38; refine (HCF.out w2 (HSS.out w2 hbw2)).mono ?_; rintro e w3 ⟨rfl, hb3⟩; have hbc : Below (w.heap.size + 1 + 1) _ w3 := hb2.trans (hb3.mono hz2w); have hbw3 : Below w.heap.size w w3 := hbw2.trans (hb3.mono hbw2.size); obtain ⟨r2, r3⟩ := Bx.res_cell hbc; have p1 := Bx.place_cell0 hbc; have hz3w : w.heap.size + 1 + 1 ≤ w3.heap.size := (by have := hbc.size; simpa using this); clear r0 r1 p0))
        exact bodyPost_ret (v := .tuple #[.agg #[.slice none 0 0], .int .i64 1]) (by simp [results, Try.results18, go_sem, r2]) rfl (Bx.LayPost.none (hbw3.setCell (p := ⟨w.heap.size + 1, 0, none⟩) (by simp only; omega) _))
      | true =>
        rw [hag] at HCF0
        have HCF : Hid (∀ W, Bx.Off W (.slice p2 m cap2) ss → Calls Try.prog 38 #[.slice p2 m cap2, .func (Fn.func 39) #[] #[]] W fun e w' => e = .returned (.bool false) ∧ Below W.heap.size W w') := HCF0
        have HNO : Hid (¬ (Bx.ok fs 40 = false ∨ 40 < ss.length ∨ ss.all Bx.good = false)) := by
          rw [Hid, hok, hag, HM.out]; simp; omega
        have HU : Hid (Bx.Up fs) := hu
        have HY : Hid (∀ d ∈ ss, d.name.size ≤ 1048576 ∧ d.text.size ≤ 1048576) := hy
        clear hx hN hok HCF0 hag hu hy
        go_enter Try.func18, Try.ntmps18
        go_wp2_with (first | (go_at_call 10; refine (HVV.out _ (HN.out _ (hal _ _))).mono ?_; rintro e w2 ⟨rfl, hb2⟩; simp only [World.size_alloc] at hb2; have p0 := Bx.place_cell0 hb2; have hbw2 : Below w.heap.size w w2 := (hal _ _).trans (hb2.mono (by omega)); have hz2w : w.heap.size + 1 + 1 ≤ w2.heap.size := (by have := hb2.size; simpa using this); obtain ⟨r0, r1⟩ := Bx.res_cell hb2) | (go_at_call 38; refine (HCF.out w2 (HSS.out w2 hbw2)).mono ?_; rintro e w3 ⟨rfl, hb3⟩; have hbc : Below (w.heap.size + 1 + 1) _ w3 := hb2.trans (hb3.mono hz2w); have hbw3 : Below w.heap.size w w3 := hbw2.trans (hb3.mono hbw2.size); obtain ⟨r2, r3⟩ := Bx.res_cell hbc; have p1 := Bx.place_cell0 hbc; have hz3w : w.heap.size + 1 + 1 ≤ w3.heap.size := (by have := hbc.size; simpa using this); clear r0 r1 p0) | (go_at_call 32; refine (HBO.out w3 (HN.out w3 hbw3)).mono ?_; rintro e w4 ⟨g, rfl, hH4, hb4⟩; have hbd : Below (w.heap.size + 1 + 1) _ w4 := hbc.trans (hb4.mono hz3w)))
        have hH4' : Bx.Holds w4 (w.heap.size + 1 + 1) g (Bx.lays fs (ss.take 0)) (n + 0) := by
          obtain ⟨mb, a, k, cp, h1, h2⟩ := hH4
          exact ⟨mb, a, k, cp, h1, h2.blk, Nat.le_trans hz3w h2.le, Nat.le_trans hz3w h2.lem, h2.map, Bx.own_mono h2.row hz3w⟩
        go_loopw [26] (fun t wr => ∃ i : Nat, i ≤ m ∧ t = .int .i64 (i : Int) ∧ Bx.Holds wr (w.heap.size + 1 + 1) g (Bx.lays fs (ss.take i)) (n + i) ∧ Below (w.heap.size + 1 + 1) ((w.alloc (.cells #[.slice p n cap] 29)).alloc (.cells #[.slice none 0 0] 29)) wr) (fun t _ => m - (intOf t).toNat)
        case atStart => exact ⟨0, by omega, rfl, hH4', hbd⟩
        case round =>
          obtain ⟨i, hi, rfl, hH, hbr⟩ := hrel
          have HH : Hid (Bx.Holds wr (w.heap.size + 1 + 1) g (Bx.lays fs (ss.take i)) (n + i)) := hH
          clear hH hH4' hH4
          have hbw : Below w.heap.size w wr := (hal _ _).trans (hbr.mono (by omega))
          have hzr : w.heap.size + 1 + 1 ≤ wr.heap.size := by have := hbr.size; simpa using this
          have hll : (Bx.lays fs (ss.take i)).length ≤ 80 := by
            have h1 := Bx.lays_len fs (ss.take i)
            rw [HNN.out, List.length_take] at h1; omega
          by_cases hlt : i < m
          · have hil : i < ss.length := by rw [HM.out]; exact hlt
            obtain ⟨g2, o2, rfl, hg2, k0, k1⟩ := HC.out i hil
            have e0 : wr.cell? ⟨g2, o2 + i * 2, none⟩ = some (.string ss[i].name) := by rw [hbw.cell (p := ⟨g2, o2 + i * 2, none⟩) hg2, k0]
            have e1 : wr.cell? ⟨g2, o2 + i * 2 + 1, none⟩ = some (.string ss[i].text) := by rw [hbw.cell (p := ⟨g2, o2 + i * 2 + 1, none⟩) hg2, k1]
            have HST : Hid (∀ o : Obj, Calls Try.prog 40 #[.pointer (some ⟨g, 0, none⟩), .agg #[.string ss[i].name, .string ss[i].text]] (wr.alloc o) fun e w' => e = .returned (.tuple #[]) ∧ Bx.Holds w' (w.heap.size + 1 + 1) g (Bx.lays fs (ss.take (i + 1))) (n + (i + 1)) ∧ Below (w.heap.size + 1 + 1) (wr.alloc o) w') := fun o => by
              have := Bx.set_holds (w.heap.size + 1 + 1) g (Bx.lays fs (ss.take i)) (Bx.lays_up HU.out _) (n + i) ss[i].name ss[i].text (wr.alloc o) (by simp; omega) (by omega) (by omega) (HY.out _ (List.getElem_mem hil)).1 (HH.out.below ((Below.refl _ wr).alloc (Nat.le_refl _) o))
              rw [show (⟨ss[i].name, ss[i].text⟩ : Bx.Fl) = ss[i] from rfl, ← Bx.lays_next fs ss i hil] at this
              exact this
            clear k0 k1 HC
            generalize ss[i] = d at *
            go_wp2_with (go_at_call 40; refine (HST.out _).mono ?_; rintro e w6 ⟨rfl, hH6, hb6⟩)
            go_roundw
            case rel => exact ⟨i + 1, by omega, by go_num, hH6, (hbr.alloc hzr _).trans hb6⟩
            case measure => simp [intOf]; omega
          · have hie : i = m := by omega
            subst hie
            have ht : ss.take i = ss := List.take_of_length_le (by rw [HM.out]; omega)
            rw [ht] at HH hll
            have HZ := HZX.out i
            rw [ht] at HZ
            have HPL : Hid (Calls Try.prog 41 #[.pointer (some ⟨g, 0, none⟩)] wr fun e w' => ∃ a c, e = .returned (.agg #[.slice a (Bx.lays fs ss).length c]) ∧ w'.ownsRow wr.heap.size 55 2 (.slice a (Bx.lays fs ss).length c) (Bx.lays fs ss).length (Bx.fCs (Bx.lays fs ss)) ∧ Below wr.heap.size wr w') := Bx.place_any (Bx.lays fs ss) (Bx.lays_up HU.out _) _ g _ wr (by omega) HZ HH.out
            obtain ⟨mb, a7, om, cp7, hom, hbx⟩ := HH.out
            have c1 : wr.cell? ⟨g, 1, none⟩ = some (.slice a7 om cp7) := by simp [World.cell?, hbx.blk]
            have HOM : Hid ((Bx.lays fs ss).length = om) := hom
            obtain ⟨r4, r5⟩ := Bx.res_cell hbr
            clear HC HZ hbx hom
            by_cases ho : 40 < om
            · have HR : Hid (Bx.lay fs ss = ([], 2)) := by rw [Hid, Bx.lay, if_neg HNO.out, if_pos (by rw [HOM.out]; exact ho)]
              have ho2 : decide ((40 : Int) < (om : Int)) = true := by simp; omega
              go_wp2
              refine bodyPost_ret (v := .tuple #[.agg #[.slice none 0 0], .int .i64 2]) (by simp [results, Try.results18, go_sem, r4]) rfl ?_
              rw [HR.out]
              exact Bx.LayPost.none (hbw.setCell (p := ⟨w.heap.size + 1, 0, none⟩) (by simp only; omega) _)
            · have HR : Hid (Bx.lay fs ss = (Bx.lays fs ss, 0)) := by rw [Hid, Bx.lay, if_neg HNO.out, if_neg (by rw [HOM.out]; exact ho)]
              have ho2 : decide ((40 : Int) < (om : Int)) = false := by simp; omega
              rw [HOM.out] at HPL
              go_wp2_with (go_at_call 41; refine HPL.out.mono ?_; rintro e w8 ⟨a8, c8, rfl, hown8, hb8⟩; obtain ⟨r6, r7⟩ := Bx.res_cell (hbr.trans (hb8.mono hzr)); have hbw8 : Below w.heap.size w w8 := hbw.trans (hb8.mono hbw.size))
              refine bodyPost_ret (v := .tuple #[.agg #[.slice a8 om c8], .int .i64 0]) (by simp [results, Try.results18, go_sem, r6]) rfl ?_
              rw [HR.out]
              refine ⟨a8, c8, by rw [HOM.out], ?_, ?_⟩
              · rw [HOM.out]; exact Bx.own_mono (ownsRow_setCell_below hown8 (a := ⟨w.heap.size + 1, 0, none⟩) (by simp only; omega) _) (by omega)
              · exact hbw8.setCell (p := ⟨w.heap.size + 1, 0, none⟩) (by simp only; omega) _
end Go.Proofs.Ytdapajkckocmbaa
