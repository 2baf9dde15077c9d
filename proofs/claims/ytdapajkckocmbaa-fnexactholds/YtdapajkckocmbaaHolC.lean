import Derived.Test.YtdapajkckocmbaaHolB
import Derived.Laws.StructEq
namespace Go.Proofs.Ytdapajkckocmbaa
open Go.RowKit Go.Maps Go.WideMaps

theorem Bx.eq_reply (a c : Int) (b d : ByteArray) (w : World) : (Op.equalIn 10000 34 (.agg #[.int .i64 a, .string b]) (.agg #[.int .i64 c, .string d])).run Try.prog w = .ok (a == c && b.toList == d.toList) w := by
  have u3 := Try.underlying3
  have u9 := Try.underlying9
  have hS : Try.prog.underlying 34 = some (.struct (Try.prog.fieldsOf 34)) := by kernel_rfl
  have hp : Try.prog.stoodInHeld 34 = false := by kernel_rfl
  rw [show (10000 : Nat) = 9999 + 1 from rfl, run_equalIn_agg w 9999 34 _ _ hS hp]
  simp only [Program.fieldsOf, Try.underlying34]
  go_simp
  by_cases h1 : a = c <;> by_cases h2 : b.toList = d.toList <;> simp [h1, h2]
theorem Bx.guard_reply : Try.prog.eqGuardType Try.prog.depth 34 = false := by kernel_rfl
/-- Whether a look is answered so. -/
def Bx.so (fs : List Bx.Fl) (s : Bx.Sn) : Bool := (Bx.see fs s.kind s.name).1 == s.code && (Bx.see fs s.kind s.name).2.toList == s.text.toList
def Bx.holds (fs : List Bx.Fl) (ss : List Bx.Sn) : Bool := Bx.ok fs 40 && ss.all (Bx.so fs)
theorem Bx.all_no {fs : List Bx.Fl} {ss : List Bx.Sn} (i : Nat) (hi : i < ss.length) (h : Bx.so fs ss[i] = false) : ss.all (Bx.so fs) = false := by
  rw [List.all_eq_false]; exact ⟨ss[i], List.getElem_mem hi, by simp [h]⟩
theorem Bx.all_yes {fs : List Bx.Fl} {ss : List Bx.Sn} (h : ∀ i (hi : i < ss.length), Bx.so fs ss[i] = true) : ss.all (Bx.so fs) = true := by
  rw [List.all_eq_true]; intro s hs
  obtain ⟨i, hi, rfl⟩ := List.getElem_of_mem hs
  exact h i hi
set_option maxRecDepth 100000 in
set_option maxHeartbeats 2000000 in
theorem Bx.specHolds_any (fs : List Bx.Fl) (ss : List Bx.Sn) (v u : Value) (w : World) (hn : fs.length ≤ 1048576) (hx : ∀ d ∈ fs, d.name.size ≤ 1048576 ∧ d.text.size ≤ 1048576) (hm : ss.length ≤ 1048576) (hy : ∀ d ∈ ss, d.name.size ≤ 1048576) (hN : Bx.Off w v fs) (hS : Bx.SOff w u ss) :
    Calls Try.prog 24 #[.agg #[v], u] w fun e w' => e = .returned (.bool (Bx.holds fs ss)) ∧ Below w.heap.size w w' := by
  have HV : Hid (∀ b w1, Bx.ok fs 40 = b → Bx.Off w1 v fs → Calls Try.prog 8 #[.agg #[v]] w1 fun e w' => e = .returned (.bool b) ∧ Below w1.heap.size w1 w') := fun b w1 hb h => by
    have := Bx.specPlace_any fs v w1 hn hx h
    rw [hb] at this; exact this
  have HN : Hid (∀ W, Below w.heap.size w W → Bx.Off W v fs) := fun W hW => hN.below hW
  obtain ⟨p, cap, rfl⟩ := hN.slice
  obtain ⟨p2, cap2, rfl, hc⟩ := hS
  have HC : Hid (∀ i (hi : i < ss.length), ∃ g o, p2 = some ⟨g, o, none⟩ ∧ g < w.heap.size ∧ w.cell? ⟨g, o + i * 4, none⟩ = some (.int .i64 ss[i].kind) ∧ w.cell? ⟨g, o + i * 4 + 1, none⟩ = some (.string ss[i].name) ∧ w.cell? ⟨g, o + i * 4 + 2, none⟩ = some (.int .i64 ss[i].code) ∧ w.cell? ⟨g, o + i * 4 + 3, none⟩ = some (.string ss[i].text)) := hc
  clear hc
  have hal : ∀ o1 : Obj, Below w.heap.size w (w.alloc o1) := fun o1 => (Below.refl _ w).alloc (Nat.le_refl _) o1
  cases hok : Bx.ok fs 40 with
  | false =>
    have HR : Hid (Bx.holds fs ss = false) := by rw [Hid, Bx.holds, hok]; rfl
    have HVV : Hid (∀ w1, Bx.Off w1 (.slice p fs.length cap) fs → Calls Try.prog 8 #[.agg #[.slice p fs.length cap]] w1 fun e w' => e = .returned (.bool false) ∧ Below w1.heap.size w1 w') := fun w1 h => HV.out false w1 hok h
    rw [HR.out]
    clear HV hok hx hn hN HR HC
    generalize ss.length = m at *
    revert HVV HN
    generalize fs.length = n
    intro HN HVV
    go_enter Try.func24, Try.ntmps24
    go_wp2_with (go_at_call 8; refine (HVV.out _ (HN.out _ (hal _))).mono ?_; rintro e w2 ⟨rfl, hb2⟩; simp only [World.size_alloc] at hb2; have hb3 : Below w.heap.size w w2 := (hal _).trans (hb2.mono (by omega)))
    go_ret
    exact ⟨rfl, hb3⟩
  | true =>
    have HVV : Hid (∀ w1, Bx.Off w1 (.slice p fs.length cap) fs → Calls Try.prog 8 #[.agg #[.slice p fs.length cap]] w1 fun e w' => e = .returned (.bool true) ∧ Below w1.heap.size w1 w') := fun w1 h => HV.out true w1 hok h
    have HSA : Hid (∀ k x W, x.size ≤ 1048576 → Below w.heap.size w W → Calls Try.prog 12 #[.agg #[.slice p fs.length cap], .int .i64 k, .string x] W fun e w' => e = .returned (.agg #[.int .i64 (Bx.see fs k x).1, .string (Bx.see fs k x).2]) ∧ Below W.heap.size W w') := fun k x W hxx hW => by
      have h := Bx.specSee_any fs (.slice p fs.length cap) k x W hn hx hxx (HN.out W hW)
      unfold Bx.seeP at h; rw [hok, if_pos rfl] at h; exact h
    have HR : Hid (Bx.holds fs ss = ss.all (Bx.so fs)) := by rw [Hid, Bx.holds, hok]; rfl
    rw [HR.out]
    clear HV hok hx hn hN HR
    obtain ⟨m, HM⟩ : ∃ m, Hid (ss.length = m) := ⟨_, (rfl : ss.length = _)⟩
    rw [HM.out] at hm
    simp only [HM.out]
    revert HVV HN HSA
    generalize fs.length = n
    intro HN HVV HSA
    obtain ⟨r, HRA⟩ : ∃ r, Hid (ss.all (Bx.so fs) = r) := ⟨_, (rfl : ss.all (Bx.so fs) = _)⟩
    rw [HRA.out]
    go_enter Try.func24, Try.ntmps24
    go_wp2_with (go_at_call 8; refine (HVV.out _ (HN.out _ (hal _))).mono ?_; rintro e w2 ⟨rfl, hb2⟩; simp only [World.size_alloc] at hb2)
    go_loopw [5] (fun t wr => ∃ i : Nat, i ≤ m ∧ t = .int .i64 (i : Int) ∧ (∀ j (hj : j < ss.length), j < i → Bx.so fs ss[j] = true) ∧ Below (w.heap.size + 1) (w.alloc (.cells #[.slice p n cap] 29)) wr) (fun t _ => m - (intOf t).toNat)
    case atStart => exact ⟨0, by omega, rfl, fun j _ hj => by omega, hb2⟩
    case round =>
      obtain ⟨i, hi, rfl, hno, hbr⟩ := hrel
      have HNO : Hid (∀ j (hj : j < ss.length), j < i → Bx.so fs ss[j] = true) := hno
      clear hno
      have hbw : Below w.heap.size w wr := (hal _).trans (hbr.mono (by omega))
      have hzr : w.heap.size + 1 ≤ wr.heap.size := by have := hbr.size; simpa using this
      by_cases hlt : i < m
      · have hil : i < ss.length := by rw [HM.out]; exact hlt
        obtain ⟨g2, o2, rfl, hg2, k0, k1, k2, k3⟩ := HC.out i hil
        have hyd := hy ss[i] (List.getElem_mem hil)
        obtain ⟨b, HB⟩ : ∃ b, Hid (Bx.so fs ss[i] = b) := ⟨_, (rfl : Bx.so fs ss[i] = _)⟩
        have HBN : Hid (b = false → r = false) := fun hb => by rw [← HRA.out]; exact Bx.all_no i hil (HB.out.trans hb)
        have HBY : Hid (b = true → ∀ j (hj : j < ss.length), j < i + 1 → Bx.so fs ss[j] = true) := fun hb j hj hji => by
          by_cases e : j = i
          · subst e; exact HB.out.trans hb
          · exact HNO.out j hj (by omega)
        have HSE : Hid (∀ W, Below wr.heap.size wr W → Calls Try.prog 12 #[.agg #[.slice p n cap], .int .i64 ss[i].kind, .string ss[i].name] W fun e w' => e = .returned (.agg #[.int .i64 (Bx.see fs ss[i].kind ss[i].name).1, .string (Bx.see fs ss[i].kind ss[i].name).2]) ∧ Below W.heap.size W w') := fun W hW => HSA.out _ _ W hyd (hbw.trans (hW.mono (by omega)))
        have hEQ := fun w => Bx.eq_reply (Bx.see fs ss[i].kind ss[i].name).1 ss[i].code (Bx.see fs ss[i].kind ss[i].name).2 ss[i].text w
        have hHB : ((Bx.see fs ss[i].kind ss[i].name).1 == ss[i].code && (Bx.see fs ss[i].kind ss[i].name).2.toList == ss[i].text.toList) = b := HB.out
        simp only [hHB] at hEQ
        clear hHB HB
        have hgd := Bx.guard_reply
        generalize Bx.see fs ss[i].kind ss[i].name = rr at *
        obtain ⟨rc, rt⟩ := rr
        simp only at hEQ
        have HS : Hid (∀ W, Below wr.heap.size wr W → W.cell? ⟨w.heap.size, 0, none⟩ = some (.slice p n cap) ∧ W.cell? ⟨g2, o2 + i * 4, none⟩ = some (.int .i64 ss[i].kind) ∧ W.cell? ⟨g2, o2 + i * 4 + 1, none⟩ = some (.string ss[i].name) ∧ W.cell? ⟨g2, o2 + i * 4 + 2, none⟩ = some (.int .i64 ss[i].code) ∧ W.cell? ⟨g2, o2 + i * 4 + 3, none⟩ = some (.string ss[i].text)) := fun W hW => by
          have hW2 : Below w.heap.size w W := hbw.trans (hW.mono (by omega))
          exact ⟨by rw [hW.cell (p := ⟨w.heap.size, 0, none⟩) (by simp only; omega)]; exact Bx.row1 hbr, by rw [hW2.cell (p := ⟨g2, o2 + i * 4, none⟩) hg2]; exact k0, by rw [hW2.cell (p := ⟨g2, o2 + i * 4 + 1, none⟩) hg2]; exact k1, by rw [hW2.cell (p := ⟨g2, o2 + i * 4 + 2, none⟩) hg2]; exact k2, by rw [hW2.cell (p := ⟨g2, o2 + i * 4 + 3, none⟩) hg2]; exact k3⟩
        clear k0 k1 k2 k3 HC HSA HNO
        generalize ss[i] = d at *
        cases b with
        | false =>
          have HRR : Hid (false = r) := (HBN.out rfl).symm
          clear HBN HBY
          go_wp2_with fail
          refine wp_region_held_drew (S := (fun W => Below wr.heap.size wr W ∧ W.cell? ⟨w.heap.size, 0, none⟩ = some (.slice p n cap) ∧ W.cell? ⟨g2, o2 + i * 4, none⟩ = some (.int .i64 d.kind) ∧ W.cell? ⟨g2, o2 + i * 4 + 1, none⟩ = some (.string d.name) ∧ W.cell? ⟨g2, o2 + i * 4 + 2, none⟩ = some (.int .i64 d.code) ∧ W.cell? ⟨g2, o2 + i * 4 + 3, none⟩ = some (.string d.text))) (by kernel_rfl) (⟨(Below.refl _ _).drew, HS.out _ (Below.refl _ _).drew⟩) (fun hHeld => ?_)
          refine wpAnyH_take (i := 0) (v := .agg #[.slice p n cap]) rfl (by kernel_rfl) (by kernel_rfl) (by kernel_rfl) (fun _ _ _ h => h) (Or.inl ⟨by rfl, by intro w hSw; go_simp⟩) (by assumption) ?_
          try simp [Act.put]
          refine wpAnyH_take (i := 1) (v := .slice (some ⟨g2, o2, none⟩) m cap2) rfl (by kernel_rfl) (by kernel_rfl) (by kernel_rfl) (fun _ _ _ h => h) (Or.inl ⟨by rfl, by intro w hSw; go_simp⟩) (by assumption) ?_
          try simp [Act.put]
          refine wpAnyH_take (i := 2) (v := .int .i64 (i : Int)) rfl (by kernel_rfl) (by kernel_rfl) (by kernel_rfl) (fun _ _ _ h => h) (Or.inl ⟨by rfl, by intro w hSw; go_simp⟩) (by assumption) ?_
          try simp [Act.put]
          refine wpAnyH_take (i := 3) (v := .pointer (some ⟨g2, o2 + i * 4, none⟩)) rfl (by kernel_rfl) (by kernel_rfl) (by kernel_rfl) (fun _ _ _ h => h) (Or.inl ⟨by rfl, by intro w hSw; go_simp⟩) (by assumption) ?_
          try simp [Act.put]
          refine wpAnyH_take (i := 4) (v := .pointer (some ⟨g2, o2 + i * 4, none⟩)) rfl (by kernel_rfl) (by kernel_rfl) (by kernel_rfl) (fun _ _ _ h => h) (Or.inl ⟨by rfl, by intro w hSw; go_simp⟩) (by assumption) ?_
          try simp [Act.put]
          refine wpAnyH_take (i := 5) (v := .int .i64 d.kind) rfl (by kernel_rfl) (by kernel_rfl) (by kernel_rfl) (fun _ _ _ h => h) (Or.inl ⟨by rfl, by intro w hSw; go_simp⟩) (by assumption) ?_
          try simp [Act.put]
          refine wpAnyH_take (i := 6) (v := .slice (some ⟨g2, o2, none⟩) m cap2) rfl (by kernel_rfl) (by kernel_rfl) (by kernel_rfl) (fun _ _ _ h => h) (Or.inl ⟨by rfl, by intro w hSw; go_simp⟩) (by assumption) ?_
          try simp [Act.put]
          refine wpAnyH_take (i := 7) (v := .int .i64 (i : Int)) rfl (by kernel_rfl) (by kernel_rfl) (by kernel_rfl) (fun _ _ _ h => h) (Or.inl ⟨by rfl, by intro w hSw; go_simp⟩) (by assumption) ?_
          try simp [Act.put]
          refine wpAnyH_take (i := 8) (v := .pointer (some ⟨g2, o2 + i * 4, none⟩)) rfl (by kernel_rfl) (by kernel_rfl) (by kernel_rfl) (fun _ _ _ h => h) (Or.inl ⟨by rfl, by intro w hSw; go_simp⟩) (by assumption) ?_
          try simp [Act.put]
          refine wpAnyH_take (i := 9) (v := .pointer (some ⟨g2, o2 + i * 4 + 1, none⟩)) rfl (by kernel_rfl) (by kernel_rfl) (by kernel_rfl) (fun _ _ _ h => h) (Or.inl ⟨by rfl, by intro w hSw; go_simp⟩) (by assumption) ?_
          try simp [Act.put]
          refine wpAnyH_take (i := 10) (v := .string d.name) rfl (by kernel_rfl) (by kernel_rfl) (by kernel_rfl) (fun _ _ _ h => h) (Or.inl ⟨by rfl, by intro w hSw; go_simp⟩) (by assumption) ?_
          try simp [Act.put]
          refine wpAnyH_take (i := 12) (v := .slice (some ⟨g2, o2, none⟩) m cap2) rfl (by kernel_rfl) (by kernel_rfl) (by kernel_rfl) (fun _ _ _ h => h) (Or.inl ⟨by rfl, by intro w hSw; go_simp⟩) (by assumption) ?_
          try simp [Act.put]
          refine wpAnyH_take (i := 13) (v := .int .i64 (i : Int)) rfl (by kernel_rfl) (by kernel_rfl) (by kernel_rfl) (fun _ _ _ h => h) (Or.inl ⟨by rfl, by intro w hSw; go_simp⟩) (by assumption) ?_
          try simp [Act.put]
          refine wpAnyH_take (i := 14) (v := .pointer (some ⟨g2, o2 + i * 4, none⟩)) rfl (by kernel_rfl) (by kernel_rfl) (by kernel_rfl) (fun _ _ _ h => h) (Or.inl ⟨by rfl, by intro w hSw; go_simp⟩) (by assumption) ?_
          try simp [Act.put]
          refine wpAnyH_take (i := 15) (v := .pointer (some ⟨g2, o2 + i * 4 + 2, none⟩)) rfl (by kernel_rfl) (by kernel_rfl) (by kernel_rfl) (fun _ _ _ h => h) (Or.inl ⟨by rfl, by intro w hSw; go_simp⟩) (by assumption) ?_
          try simp [Act.put]
          refine wpAnyH_take (i := 16) (v := .agg #[.int .i64 d.code, .string d.text]) rfl (by kernel_rfl) (by kernel_rfl) (by kernel_rfl) (fun _ _ _ h => h) (Or.inl ⟨by rfl, by intro w hSw; go_simp⟩) (by assumption) ?_
          try simp [Act.put]
          refine wpAnyH_ready (rs := [11]) (by kernel_rfl) (by simp) ?_
          refine AllReadyH.cons rfl (fun KK hK => ?_) AllReadyH.nil
          go_simp
          (go_at_call 12; refine (HSE.out _ hHeld.1).mono ?_; rintro e w3 ⟨rfl, hb3⟩; have hb4 : Below wr.heap.size wr w3 := hHeld.1.trans (hb3.mono hHeld.1.size))
          go_wp2
          refine hK.out _ _ (⟨hb4, HS.out _ hb4⟩) (fun hHeld => ?_)
          clear hK
          try simp [Act.put]
          refine wpAnyH_take (i := 17) (v := .bool true) rfl (by kernel_rfl) (by kernel_rfl) (by kernel_rfl) (fun _ _ _ h => h) (Or.inl ⟨by rfl, by intro w hSw; go_simp⟩) (by assumption) ?_
          try simp [Act.put]
          refine wpAnyH_done (by kernel_rfl) ?_ _
          go_wp2
          go_ret
          exact ⟨Jb.ret_bool HRR.out, hbw.trans (hb4.mono (by omega))⟩
        | true =>
          have HYY : Hid (∀ j (hj : j < ss.length), j < i + 1 → Bx.so fs ss[j] = true) := HBY.out rfl
          clear HBN HBY
          go_wp2_with fail
          refine wp_region_held_drew (S := (fun W => Below wr.heap.size wr W ∧ W.cell? ⟨w.heap.size, 0, none⟩ = some (.slice p n cap) ∧ W.cell? ⟨g2, o2 + i * 4, none⟩ = some (.int .i64 d.kind) ∧ W.cell? ⟨g2, o2 + i * 4 + 1, none⟩ = some (.string d.name) ∧ W.cell? ⟨g2, o2 + i * 4 + 2, none⟩ = some (.int .i64 d.code) ∧ W.cell? ⟨g2, o2 + i * 4 + 3, none⟩ = some (.string d.text))) (by kernel_rfl) (⟨(Below.refl _ _).drew, HS.out _ (Below.refl _ _).drew⟩) (fun hHeld => ?_)
          refine wpAnyH_take (i := 0) (v := .agg #[.slice p n cap]) rfl (by kernel_rfl) (by kernel_rfl) (by kernel_rfl) (fun _ _ _ h => h) (Or.inl ⟨by rfl, by intro w hSw; go_simp⟩) (by assumption) ?_
          try simp [Act.put]
          refine wpAnyH_take (i := 1) (v := .slice (some ⟨g2, o2, none⟩) m cap2) rfl (by kernel_rfl) (by kernel_rfl) (by kernel_rfl) (fun _ _ _ h => h) (Or.inl ⟨by rfl, by intro w hSw; go_simp⟩) (by assumption) ?_
          try simp [Act.put]
          refine wpAnyH_take (i := 2) (v := .int .i64 (i : Int)) rfl (by kernel_rfl) (by kernel_rfl) (by kernel_rfl) (fun _ _ _ h => h) (Or.inl ⟨by rfl, by intro w hSw; go_simp⟩) (by assumption) ?_
          try simp [Act.put]
          refine wpAnyH_take (i := 3) (v := .pointer (some ⟨g2, o2 + i * 4, none⟩)) rfl (by kernel_rfl) (by kernel_rfl) (by kernel_rfl) (fun _ _ _ h => h) (Or.inl ⟨by rfl, by intro w hSw; go_simp⟩) (by assumption) ?_
          try simp [Act.put]
          refine wpAnyH_take (i := 4) (v := .pointer (some ⟨g2, o2 + i * 4, none⟩)) rfl (by kernel_rfl) (by kernel_rfl) (by kernel_rfl) (fun _ _ _ h => h) (Or.inl ⟨by rfl, by intro w hSw; go_simp⟩) (by assumption) ?_
          try simp [Act.put]
          refine wpAnyH_take (i := 5) (v := .int .i64 d.kind) rfl (by kernel_rfl) (by kernel_rfl) (by kernel_rfl) (fun _ _ _ h => h) (Or.inl ⟨by rfl, by intro w hSw; go_simp⟩) (by assumption) ?_
          try simp [Act.put]
          refine wpAnyH_take (i := 6) (v := .slice (some ⟨g2, o2, none⟩) m cap2) rfl (by kernel_rfl) (by kernel_rfl) (by kernel_rfl) (fun _ _ _ h => h) (Or.inl ⟨by rfl, by intro w hSw; go_simp⟩) (by assumption) ?_
          try simp [Act.put]
          refine wpAnyH_take (i := 7) (v := .int .i64 (i : Int)) rfl (by kernel_rfl) (by kernel_rfl) (by kernel_rfl) (fun _ _ _ h => h) (Or.inl ⟨by rfl, by intro w hSw; go_simp⟩) (by assumption) ?_
          try simp [Act.put]
          refine wpAnyH_take (i := 8) (v := .pointer (some ⟨g2, o2 + i * 4, none⟩)) rfl (by kernel_rfl) (by kernel_rfl) (by kernel_rfl) (fun _ _ _ h => h) (Or.inl ⟨by rfl, by intro w hSw; go_simp⟩) (by assumption) ?_
          try simp [Act.put]
          refine wpAnyH_take (i := 9) (v := .pointer (some ⟨g2, o2 + i * 4 + 1, none⟩)) rfl (by kernel_rfl) (by kernel_rfl) (by kernel_rfl) (fun _ _ _ h => h) (Or.inl ⟨by rfl, by intro w hSw; go_simp⟩) (by assumption) ?_
          try simp [Act.put]
          refine wpAnyH_take (i := 10) (v := .string d.name) rfl (by kernel_rfl) (by kernel_rfl) (by kernel_rfl) (fun _ _ _ h => h) (Or.inl ⟨by rfl, by intro w hSw; go_simp⟩) (by assumption) ?_
          try simp [Act.put]
          refine wpAnyH_take (i := 12) (v := .slice (some ⟨g2, o2, none⟩) m cap2) rfl (by kernel_rfl) (by kernel_rfl) (by kernel_rfl) (fun _ _ _ h => h) (Or.inl ⟨by rfl, by intro w hSw; go_simp⟩) (by assumption) ?_
          try simp [Act.put]
          refine wpAnyH_take (i := 13) (v := .int .i64 (i : Int)) rfl (by kernel_rfl) (by kernel_rfl) (by kernel_rfl) (fun _ _ _ h => h) (Or.inl ⟨by rfl, by intro w hSw; go_simp⟩) (by assumption) ?_
          try simp [Act.put]
          refine wpAnyH_take (i := 14) (v := .pointer (some ⟨g2, o2 + i * 4, none⟩)) rfl (by kernel_rfl) (by kernel_rfl) (by kernel_rfl) (fun _ _ _ h => h) (Or.inl ⟨by rfl, by intro w hSw; go_simp⟩) (by assumption) ?_
          try simp [Act.put]
          refine wpAnyH_take (i := 15) (v := .pointer (some ⟨g2, o2 + i * 4 + 2, none⟩)) rfl (by kernel_rfl) (by kernel_rfl) (by kernel_rfl) (fun _ _ _ h => h) (Or.inl ⟨by rfl, by intro w hSw; go_simp⟩) (by assumption) ?_
          try simp [Act.put]
          refine wpAnyH_take (i := 16) (v := .agg #[.int .i64 d.code, .string d.text]) rfl (by kernel_rfl) (by kernel_rfl) (by kernel_rfl) (fun _ _ _ h => h) (Or.inl ⟨by rfl, by intro w hSw; go_simp⟩) (by assumption) ?_
          try simp [Act.put]
          refine wpAnyH_ready (rs := [11]) (by kernel_rfl) (by simp) ?_
          refine AllReadyH.cons rfl (fun KK hK => ?_) AllReadyH.nil
          go_simp
          (go_at_call 12; refine (HSE.out _ hHeld.1).mono ?_; rintro e w3 ⟨rfl, hb3⟩; have hb4 : Below wr.heap.size wr w3 := hHeld.1.trans (hb3.mono hHeld.1.size))
          go_wp2
          refine hK.out _ _ (⟨hb4, HS.out _ hb4⟩) (fun hHeld => ?_)
          clear hK
          try simp [Act.put]
          refine wpAnyH_take (i := 17) (v := .bool false) rfl (by kernel_rfl) (by kernel_rfl) (by kernel_rfl) (fun _ _ _ h => h) (Or.inl ⟨by rfl, by intro w hSw; go_simp⟩) (by assumption) ?_
          try simp [Act.put]
          refine wpAnyH_done (by kernel_rfl) ?_ _
          go_wp2
          go_roundw
          case rel => exact ⟨i + 1, by omega, by go_num, HYY.out, hbr.trans (hb4.mono (by omega))⟩
          case measure => simp [intOf]; omega
      · have HRR : Hid (true = r) := by rw [Hid, ← HRA.out, Bx.all_yes (fun j hj => HNO.out j hj (by have := HM.out; omega))]
        clear HC HSA HNO
        go_wp2
        go_ret
        exact ⟨Jb.ret_bool HRR.out, hbw⟩
end Go.Proofs.Ytdapajkckocmbaa
