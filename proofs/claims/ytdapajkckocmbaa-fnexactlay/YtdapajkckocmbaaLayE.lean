import Derived.Test.YtdapajkckocmbaaLayD
namespace Go.Proofs.Ytdapajkckocmbaa
open Go.RowKit Go.Maps Go.WideMaps

set_option maxRecDepth 100000 in
set_option maxHeartbeats 1000000 in
theorem Bx.isNoFile_any (a b : ByteArray) (ha : a.size ≤ 1048576) (hb : b.size ≤ 1048576) (w : World) :
    Calls Try.prog 39 #[.agg #[.string a, .string b]] w fun e w' => e = .returned (.bool (!Bx.good ⟨a, b⟩)) ∧ Below w.heap.size w w' := by
  have HI : Hid (∀ W, Calls Try.prog 50 #[.agg #[.string a, .string b]] W fun e w' => e = .returned (.bool (Bx.good ⟨a, b⟩)) ∧ Below W.heap.size W w') := fun W => Bx.isFile_any a b ha hb W
  generalize Bx.good ⟨a, b⟩ = g at *
  go_enter Try.func39, Try.ntmps39
  go_wp2_with (go_at_call 50; refine (HI.out _).mono ?_; rintro e w1 ⟨rfl, hb1⟩; simp only [World.size_alloc] at hb1)
  go_ret
  exact ⟨rfl, ((Below.refl _ w).alloc (Nat.le_refl _) _).trans (hb1.mono (by omega))⟩
set_option maxRecDepth 100000 in
set_option maxHeartbeats 2000000 in
theorem Bx.noIdx_any (ss : List Bx.Fl) (u : Value) (w : World) (hm : ss.length ≤ 1048576) (hy : ∀ d ∈ ss, d.name.size ≤ 1048576 ∧ d.text.size ≤ 1048576) (hS : Bx.Off w u ss) :
    Calls Try.prog 54 #[u, .func (Fn.func 39) #[] #[]] w fun e w' => ∃ r, e = .returned (.int .i64 r) ∧ (decide (0 ≤ r) = !ss.all Bx.good) ∧ Below w.heap.size w w' := by
  obtain ⟨p2, cap2, rfl, hc0⟩ := hS
  have HC : Hid (∀ i (hi : i < ss.length), ∃ g o, p2 = some ⟨g, o, none⟩ ∧ g < w.heap.size ∧ w.cell? ⟨g, o + i * 2, none⟩ = some (.string ss[i].name) ∧ w.cell? ⟨g, o + i * 2 + 1, none⟩ = some (.string ss[i].text)) := hc0
  clear hc0
  have HCL : Hid (∀ W (d : Bx.Fl), d ∈ ss → Calls Try.prog 39 #[.agg #[.string d.name, .string d.text]] W fun e w' => e = .returned (.bool (!Bx.good d)) ∧ Below W.heap.size W w') := fun W d hd => Bx.isNoFile_any d.name d.text (hy d hd).1 (hy d hd).2 W
  obtain ⟨r, HRA⟩ : ∃ r, Hid (ss.all Bx.good = r) := ⟨_, (rfl : ss.all Bx.good = _)⟩
  rw [HRA.out]
  obtain ⟨m, HM⟩ : ∃ m, Hid (ss.length = m) := ⟨_, (rfl : ss.length = _)⟩
  rw [HM.out] at hm
  simp only [HM.out]
  go_enter Try.func54, Try.ntmps54
  go_wp2_with fail
  go_loopw [8] (fun t wr => ∃ i : Nat, i ≤ m ∧ t = .int .i64 (i : Int) ∧ (∀ j (hj : j < ss.length), j < i → Bx.good ss[j] = true) ∧ Below w.heap.size w wr) (fun t _ => m - (intOf t).toNat)
  case atStart => exact ⟨0, by omega, rfl, fun j _ hj => by omega, Below.refl _ _⟩
  case round =>
    obtain ⟨i, hi, rfl, hno, hbw⟩ := hrel
    have HNO : Hid (∀ j (hj : j < ss.length), j < i → Bx.good ss[j] = true) := hno
    clear hno
    have hz := hbw.size
    by_cases hlt : i < m
    · have hltI : (i : Int) < (m : Int) := by omega
      have hil : i < ss.length := by rw [HM.out]; exact hlt
      obtain ⟨g2, o2, rfl, hg2, k0, k1⟩ := HC.out i hil
      have e0 : wr.cell? ⟨g2, o2 + i * 2, none⟩ = some (.string ss[i].name) := by rw [hbw.cell (p := ⟨g2, o2 + i * 2, none⟩) hg2, k0]
      have e1 : wr.cell? ⟨g2, o2 + i * 2 + 1, none⟩ = some (.string ss[i].text) := by rw [hbw.cell (p := ⟨g2, o2 + i * 2 + 1, none⟩) hg2, k1]
      have HCC := HCL.out wr ss[i] (List.getElem_mem hil)
      cases hb : Bx.good ss[i] with
      | false =>
        have HRR : Hid (r = false) := by rw [Hid, ← HRA.out, List.all_eq_false]; exact ⟨ss[i], List.getElem_mem hil, by simp [hb]⟩
        rw [hb] at HCC
        have HCD : Hid (Calls Try.prog 39 #[.agg #[.string ss[i].name, .string ss[i].text]] wr fun e w' => e = .returned (.bool true) ∧ Below wr.heap.size wr w') := HCC
        clear HCC hb k0 k1 HC HCL HNO
        generalize ss[i] = d at *
        go_wp2_with (first | (go_at_call 39; refine HCD.out.mono ?_; rintro e w7 ⟨rfl, hb7⟩))
        go_ret
        exact ⟨_, rfl, by rw [HRR.out]; simp, hbw.trans (hb7.mono hz)⟩
      | true =>
        have HYY : Hid (∀ j (hj : j < ss.length), j < i + 1 → Bx.good ss[j] = true) := fun j hj hji => by
          by_cases e : j = i
          · subst e; exact hb
          · exact HNO.out j hj (by omega)
        rw [hb] at HCC
        have HCD : Hid (Calls Try.prog 39 #[.agg #[.string ss[i].name, .string ss[i].text]] wr fun e w' => e = .returned (.bool false) ∧ Below wr.heap.size wr w') := HCC
        clear HCC hb k0 k1 HC HCL HNO
        generalize ss[i] = d at *
        go_wp2_with (first | (go_at_call 39; refine HCD.out.mono ?_; rintro e w7 ⟨rfl, hb7⟩))
        go_roundw
        case rel => exact ⟨i + 1, by omega, by go_num, HYY.out, hbw.trans (hb7.mono hz)⟩
        case measure => simp [intOf]; omega
    · have hltI : ¬ (i : Int) < (m : Int) := by omega
      have HRR : Hid (r = true) := by
        rw [Hid, ← HRA.out, List.all_eq_true]; intro f hf
        obtain ⟨j, hj, rfl⟩ := List.getElem_of_mem hf
        exact HNO.out j hj (by have := HM.out; omega)
      clear HC HCL HNO
      go_wp2_with fail
      go_ret
      exact ⟨_, rfl, by rw [HRR.out]; simp, hbw⟩
set_option maxRecDepth 100000 in
set_option maxHeartbeats 2000000 in
theorem Bx.noCont_any (ss : List Bx.Fl) (u : Value) (w : World) (hm : ss.length ≤ 1048576) (hy : ∀ d ∈ ss, d.name.size ≤ 1048576 ∧ d.text.size ≤ 1048576) (hS : Bx.Off w u ss) :
    Calls Try.prog 38 #[u, .func (Fn.func 39) #[] #[]] w fun e w' => e = .returned (.bool (!ss.all Bx.good)) ∧ Below w.heap.size w w' := by
  have HI : Hid (Calls Try.prog 54 #[u, .func (Fn.func 39) #[] #[]] w fun e w' => ∃ r, e = .returned (.int .i64 r) ∧ (decide (0 ≤ r) = !ss.all Bx.good) ∧ Below w.heap.size w w') := Bx.noIdx_any ss u w hm hy hS
  obtain ⟨p2, cap2, rfl⟩ := hS.slice
  clear hS hy
  generalize (!ss.all Bx.good) = bb at *
  generalize ss.length = m at *
  go_enter Try.func38, Try.ntmps38
  go_wp2_with (go_at_call 54; refine HI.out.mono ?_; rintro e w1 ⟨r, rfl, hr, hb1⟩; have HR : Hid (decide (0 ≤ r) = bb) := hr; clear hr)
  go_ret
  exact ⟨Jb.ret_bool HR.out, hb1⟩
end Go.Proofs.Ytdapajkckocmbaa
