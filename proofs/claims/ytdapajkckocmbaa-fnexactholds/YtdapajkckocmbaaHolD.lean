import Derived.Test.YtdapajkckocmbaaHolC
namespace Go.Proofs.Ytdapajkckocmbaa
open Go.RowKit Go.Maps Go.WideMaps

set_option maxRecDepth 100000 in
set_option maxHeartbeats 2000000 in
theorem Bx.clos_any (fs : List Bx.Fl) (B g K cb : Nat) (d : Bx.Sn) (w : World) (hl : fs.length ≤ 1000) (hx : ∀ d ∈ fs, d.name.size ≤ 1048576) (hy : d.name.size ≤ 1048576) (hH : Bx.Holds w B g fs K) (hc : w.cell? ⟨cb, 0, none⟩ = some (.pointer (some ⟨g, 0, none⟩))) (hcb : cb < w.heap.size) :
    Calls Try.prog 48 #[.agg #[.int .i64 d.kind, .string d.name, .int .i64 d.code, .string d.text], .pointer (some ⟨cb, 0, none⟩)] w fun e w' => e = .returned (.bool (!Bx.so fs d)) ∧ Below w.heap.size w w' := by
  have hal : Below w.heap.size w (w.alloc (.cells #[.int .i64 d.kind, .string d.name, .int .i64 d.code, .string d.text] 81)) := (Below.refl _ w).alloc (Nat.le_refl _) _
  have HSE : Hid (∀ W, Below (w.heap.size + 1) (w.alloc (.cells #[.int .i64 d.kind, .string d.name, .int .i64 d.code, .string d.text] 81)) W → Calls Try.prog 33 #[.pointer (some ⟨g, 0, none⟩), .int .i64 d.kind, .string d.name] W fun e w' => e = .returned (.agg #[.int .i64 (Bx.see fs d.kind d.name).1, .string (Bx.see fs d.kind d.name).2]) ∧ Below W.heap.size W w') := fun W hW => Bx.see_any B g fs K d.kind d.name W hl hx hy (hH.below (hal.trans (hW.mono (by omega))))
  have HS : Hid (∀ W, Below (w.heap.size + 1) (w.alloc (.cells #[.int .i64 d.kind, .string d.name, .int .i64 d.code, .string d.text] 81)) W → W.cell? ⟨cb, 0, none⟩ = some (.pointer (some ⟨g, 0, none⟩)) ∧ W.cell? ⟨w.heap.size, 0, none⟩ = some (.int .i64 d.kind) ∧ W.cell? ⟨w.heap.size, 1, none⟩ = some (.string d.name) ∧ W.cell? ⟨w.heap.size, 2, none⟩ = some (.int .i64 d.code) ∧ W.cell? ⟨w.heap.size, 3, none⟩ = some (.string d.text)) := fun W hW => by
    have h0 : W.heap[w.heap.size]? = some (.cells #[.int .i64 d.kind, .string d.name, .int .i64 d.code, .string d.text] 81) := (hW.block w.heap.size (by omega)).trans (MapKept.heap_alloc w _).1
    obtain ⟨⟨a0, a1, a2, a3⟩, -⟩ := Bx.cell4 h0
    exact ⟨by rw [(hal.trans (hW.mono (by omega))).cell (p := ⟨cb, 0, none⟩) hcb]; exact hc, a0, a1, a2, a3⟩
  have hEQ := fun w => Bx.eq_reply (Bx.see fs d.kind d.name).1 d.code (Bx.see fs d.kind d.name).2 d.text w
  have hgd := Bx.guard_reply
  obtain ⟨b, hb⟩ : ∃ b, Bx.so fs d = b := ⟨_, rfl⟩
  have hHB : ((Bx.see fs d.kind d.name).1 == d.code && (Bx.see fs d.kind d.name).2.toList == d.text.toList) = b := hb
  rw [hb]
  simp only [hHB] at hEQ
  clear hHB hb hx hH hc
  obtain ⟨bn, hbn⟩ : ∃ bn, (!b) = bn := ⟨_, rfl⟩
  rw [hbn]
  generalize Bx.see fs d.kind d.name = rr at *
  obtain ⟨rc, rt⟩ := rr
  simp only at hEQ
  go_enter Try.func48, Try.ntmps48
  go_wp2_with fail
  refine wp_region_held_drew (S := (fun W => Below (w.heap.size + 1) (w.alloc (.cells #[.int .i64 d.kind, .string d.name, .int .i64 d.code, .string d.text] 81)) W ∧ W.cell? ⟨cb, 0, none⟩ = some (.pointer (some ⟨g, 0, none⟩)) ∧ W.cell? ⟨w.heap.size, 0, none⟩ = some (.int .i64 d.kind) ∧ W.cell? ⟨w.heap.size, 1, none⟩ = some (.string d.name) ∧ W.cell? ⟨w.heap.size, 2, none⟩ = some (.int .i64 d.code) ∧ W.cell? ⟨w.heap.size, 3, none⟩ = some (.string d.text))) (by kernel_rfl) (⟨(Below.refl _ _).drew, HS.out _ (Below.refl _ _).drew⟩) (fun hHeld => ?_)
  refine wpAnyH_take (i := 0) (v := .pointer (some ⟨g, 0, none⟩)) rfl (by kernel_rfl) (by kernel_rfl) (by kernel_rfl) (fun _ _ _ h => h) (Or.inl ⟨by rfl, by intro w hSw; go_simp⟩) (by assumption) ?_
  try simp [Act.put]
  refine wpAnyH_take (i := 1) (v := .pointer (some ⟨w.heap.size, 0, none⟩)) rfl (by kernel_rfl) (by kernel_rfl) (by kernel_rfl) (fun _ _ _ h => h) (Or.inl ⟨by rfl, by intro w hSw; go_simp⟩) (by assumption) ?_
  try simp [Act.put]
  refine wpAnyH_take (i := 2) (v := .int .i64 d.kind) rfl (by kernel_rfl) (by kernel_rfl) (by kernel_rfl) (fun _ _ _ h => h) (Or.inl ⟨by rfl, by intro w hSw; go_simp⟩) (by assumption) ?_
  try simp [Act.put]
  refine wpAnyH_take (i := 3) (v := .pointer (some ⟨w.heap.size, 1, none⟩)) rfl (by kernel_rfl) (by kernel_rfl) (by kernel_rfl) (fun _ _ _ h => h) (Or.inl ⟨by rfl, by intro w hSw; go_simp⟩) (by assumption) ?_
  try simp [Act.put]
  refine wpAnyH_take (i := 4) (v := .string d.name) rfl (by kernel_rfl) (by kernel_rfl) (by kernel_rfl) (fun _ _ _ h => h) (Or.inl ⟨by rfl, by intro w hSw; go_simp⟩) (by assumption) ?_
  try simp [Act.put]
  refine wpAnyH_take (i := 6) (v := .pointer (some ⟨w.heap.size, 2, none⟩)) rfl (by kernel_rfl) (by kernel_rfl) (by kernel_rfl) (fun _ _ _ h => h) (Or.inl ⟨by rfl, by intro w hSw; go_simp⟩) (by assumption) ?_
  try simp [Act.put]
  refine wpAnyH_take (i := 7) (v := .agg #[.int .i64 d.code, .string d.text]) rfl (by kernel_rfl) (by kernel_rfl) (by kernel_rfl) (fun _ _ _ h => h) (Or.inl ⟨by rfl, by intro w hSw; go_simp⟩) (by assumption) ?_
  try simp [Act.put]
  refine wpAnyH_ready (rs := [5]) (by kernel_rfl) (by simp) ?_
  refine AllReadyH.cons rfl (fun KK hK => ?_) AllReadyH.nil
  go_simp
  (go_at_call 33; refine (HSE.out _ hHeld.1).mono ?_; rintro e w3 ⟨rfl, hb3⟩; have hb4 : Below (w.heap.size + 1) (w.alloc (.cells #[.int .i64 d.kind, .string d.name, .int .i64 d.code, .string d.text] 81)) w3 := hHeld.1.trans (hb3.mono (by simp)))
  go_wp2
  refine hK.out _ _ (⟨hb4, HS.out _ hb4⟩) (fun hHeld => ?_)
  clear hK
  try simp [Act.put]
  refine wpAnyH_take (i := 8) (v := .bool bn) rfl (by kernel_rfl) (by kernel_rfl) (by kernel_rfl) (fun _ _ _ h => h) (Or.inl ⟨by rfl, by intro w hSw; go_simp⟩) (by assumption) ?_
  try simp [Act.put]
  refine wpAnyH_take (i := 9) (v := .bool bn) rfl (by kernel_rfl) (by kernel_rfl) (by kernel_rfl) (fun _ _ _ h => h) (Or.inl ⟨by rfl, by intro w hSw; go_simp⟩) (by assumption) ?_
  try simp [Act.put]
  refine wpAnyH_done (by kernel_rfl) ?_ _
  go_wp2
  go_ret
  exact ⟨rfl, hal.trans (hb4.mono (by omega))⟩
set_option maxRecDepth 100000 in
set_option maxHeartbeats 2000000 in
theorem Bx.idx_any (fs : List Bx.Fl) (ss : List Bx.Sn) (B g K cb : Nat) (u : Value) (w : World) (hl : fs.length ≤ 1000) (hx : ∀ d ∈ fs, d.name.size ≤ 1048576) (hm : ss.length ≤ 1048576) (hy : ∀ d ∈ ss, d.name.size ≤ 1048576) (hS : Bx.SOff w u ss) (hH : Bx.Holds w B g fs K) (hc : w.cell? ⟨cb, 0, none⟩ = some (.pointer (some ⟨g, 0, none⟩))) (hcb : cb < w.heap.size) :
    Calls Try.prog 62 #[u, .func (Fn.func 48) #[] #[.pointer (some ⟨cb, 0, none⟩)]] w fun e w' => ∃ r, e = .returned (.int .i64 r) ∧ (decide (0 ≤ r) = !ss.all (Bx.so fs)) ∧ Below w.heap.size w w' := by
  obtain ⟨p2, cap2, rfl, hc0⟩ := hS
  have HC : Hid (∀ i (hi : i < ss.length), ∃ g o, p2 = some ⟨g, o, none⟩ ∧ g < w.heap.size ∧ w.cell? ⟨g, o + i * 4, none⟩ = some (.int .i64 ss[i].kind) ∧ w.cell? ⟨g, o + i * 4 + 1, none⟩ = some (.string ss[i].name) ∧ w.cell? ⟨g, o + i * 4 + 2, none⟩ = some (.int .i64 ss[i].code) ∧ w.cell? ⟨g, o + i * 4 + 3, none⟩ = some (.string ss[i].text)) := hc0
  clear hc0
  have HCL : Hid (∀ W (d : Bx.Sn), Below w.heap.size w W → d.name.size ≤ 1048576 → Calls Try.prog 48 #[.agg #[.int .i64 d.kind, .string d.name, .int .i64 d.code, .string d.text], .pointer (some ⟨cb, 0, none⟩)] W fun e w' => e = .returned (.bool (!Bx.so fs d)) ∧ Below W.heap.size W w') := fun W d hW hd => Bx.clos_any fs B g K cb d W hl hx hd (hH.below hW) (by rw [hW.cell (p := ⟨cb, 0, none⟩) hcb]; exact hc) (Nat.lt_of_lt_of_le hcb hW.size)
  obtain ⟨r, HRA⟩ : ∃ r, Hid (ss.all (Bx.so fs) = r) := ⟨_, (rfl : ss.all (Bx.so fs) = _)⟩
  rw [HRA.out]
  obtain ⟨m, HM⟩ : ∃ m, Hid (ss.length = m) := ⟨_, (rfl : ss.length = _)⟩
  rw [HM.out] at hm
  simp only [HM.out]
  clear hx hH hc
  go_enter Try.func62, Try.ntmps62
  go_wp2_with fail
  go_loopw [8] (fun t wr => ∃ i : Nat, i ≤ m ∧ t = .int .i64 (i : Int) ∧ (∀ j (hj : j < ss.length), j < i → Bx.so fs ss[j] = true) ∧ Below w.heap.size w wr) (fun t _ => m - (intOf t).toNat)
  case atStart => exact ⟨0, by omega, rfl, fun j _ hj => by omega, Below.refl _ _⟩
  case round =>
    obtain ⟨i, hi, rfl, hno, hbw⟩ := hrel
    have HNO : Hid (∀ j (hj : j < ss.length), j < i → Bx.so fs ss[j] = true) := hno
    clear hno
    have hz := hbw.size
    by_cases hlt : i < m
    · have hltI : (i : Int) < (m : Int) := by omega
      have hil : i < ss.length := by rw [HM.out]; exact hlt
      obtain ⟨g2, o2, rfl, hg2, k0, k1, k2, k3⟩ := HC.out i hil
      have e0 : wr.cell? ⟨g2, o2 + i * 4, none⟩ = some (.int .i64 ss[i].kind) := by rw [hbw.cell (p := ⟨g2, o2 + i * 4, none⟩) hg2, k0]
      have e1 : wr.cell? ⟨g2, o2 + i * 4 + 1, none⟩ = some (.string ss[i].name) := by rw [hbw.cell (p := ⟨g2, o2 + i * 4 + 1, none⟩) hg2, k1]
      have e2 : wr.cell? ⟨g2, o2 + i * 4 + 2, none⟩ = some (.int .i64 ss[i].code) := by rw [hbw.cell (p := ⟨g2, o2 + i * 4 + 2, none⟩) hg2, k2]
      have e3 : wr.cell? ⟨g2, o2 + i * 4 + 3, none⟩ = some (.string ss[i].text) := by rw [hbw.cell (p := ⟨g2, o2 + i * 4 + 3, none⟩) hg2, k3]
      have HCC := HCL.out wr ss[i] hbw (hy ss[i] (List.getElem_mem hil))
      cases hb : Bx.so fs ss[i] with
      | false =>
        have HRR : Hid (r = false) := by rw [Hid, ← HRA.out]; exact Bx.all_no i hil hb
        rw [hb] at HCC
        have HCD : Hid (Calls Try.prog 48 #[.agg #[.int .i64 ss[i].kind, .string ss[i].name, .int .i64 ss[i].code, .string ss[i].text], .pointer (some ⟨cb, 0, none⟩)] wr fun e w' => e = .returned (.bool true) ∧ Below wr.heap.size wr w') := HCC
        clear HCC hb k0 k1 k2 k3 HC HCL HNO
        generalize ss[i] = d at *
        go_wp2_with (first | (go_at_call 48; refine HCD.out.mono ?_; rintro e w7 ⟨rfl, hb7⟩))
        go_ret
        exact ⟨_, rfl, by rw [HRR.out]; simp, hbw.trans (hb7.mono hz)⟩
      | true =>
        have HYY : Hid (∀ j (hj : j < ss.length), j < i + 1 → Bx.so fs ss[j] = true) := fun j hj hji => by
          by_cases e : j = i
          · subst e; exact hb
          · exact HNO.out j hj (by omega)
        rw [hb] at HCC
        have HCD : Hid (Calls Try.prog 48 #[.agg #[.int .i64 ss[i].kind, .string ss[i].name, .int .i64 ss[i].code, .string ss[i].text], .pointer (some ⟨cb, 0, none⟩)] wr fun e w' => e = .returned (.bool false) ∧ Below wr.heap.size wr w') := HCC
        clear HCC hb k0 k1 k2 k3 HC HCL HNO
        generalize ss[i] = d at *
        go_wp2_with (first | (go_at_call 48; refine HCD.out.mono ?_; rintro e w7 ⟨rfl, hb7⟩))
        go_roundw
        case rel => exact ⟨i + 1, by omega, by go_num, HYY.out, hbw.trans (hb7.mono hz)⟩
        case measure => simp [intOf]; omega
    · have hltI : ¬ (i : Int) < (m : Int) := by omega
      have HRR : Hid (r = true) := by rw [Hid, ← HRA.out, Bx.all_yes (fun j hj => HNO.out j hj (by have := HM.out; omega))]
      clear HC HCL HNO
      go_wp2_with fail
      go_ret
      exact ⟨_, rfl, by rw [HRR.out]; simp, hbw⟩
set_option maxRecDepth 100000 in
set_option maxHeartbeats 2000000 in
theorem Bx.cont_any (fs : List Bx.Fl) (ss : List Bx.Sn) (B g K cb : Nat) (u : Value) (w : World) (hl : fs.length ≤ 1000) (hx : ∀ d ∈ fs, d.name.size ≤ 1048576) (hm : ss.length ≤ 1048576) (hy : ∀ d ∈ ss, d.name.size ≤ 1048576) (hS : Bx.SOff w u ss) (hH : Bx.Holds w B g fs K) (hc : w.cell? ⟨cb, 0, none⟩ = some (.pointer (some ⟨g, 0, none⟩))) (hcb : cb < w.heap.size) :
    Calls Try.prog 47 #[u, .func (Fn.func 48) #[] #[.pointer (some ⟨cb, 0, none⟩)]] w fun e w' => e = .returned (.bool (!ss.all (Bx.so fs))) ∧ Below w.heap.size w w' := by
  have HI : Hid (Calls Try.prog 62 #[u, .func (Fn.func 48) #[] #[.pointer (some ⟨cb, 0, none⟩)]] w fun e w' => ∃ r, e = .returned (.int .i64 r) ∧ (decide (0 ≤ r) = !ss.all (Bx.so fs)) ∧ Below w.heap.size w w') := Bx.idx_any fs ss B g K cb u w hl hx hm hy hS hH hc hcb
  obtain ⟨p2, cap2, rfl⟩ := hS.slice
  clear hx hS hH hc hy
  generalize (!ss.all (Bx.so fs)) = bb at *
  generalize ss.length = m at *
  go_enter Try.func47, Try.ntmps47
  go_wp2_with (go_at_call 62; refine HI.out.mono ?_; rintro e w1 ⟨r, rfl, hr, hb1⟩; have HR : Hid (decide (0 ≤ r) = bb) := hr; clear hr)
  go_ret
  exact ⟨Jb.ret_bool HR.out, hb1⟩
end Go.Proofs.Ytdapajkckocmbaa
