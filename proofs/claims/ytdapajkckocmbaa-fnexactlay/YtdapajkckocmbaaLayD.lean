import Derived.Test.YtdapajkckocmbaaLayC
namespace Go.Proofs.Ytdapajkckocmbaa
open Go.RowKit Go.Maps Go.WideMaps

theorem Bx.look_self {fs : List Bx.Fl} (h : Bx.Up fs) (i : Nat) (hi : i < fs.length) : Bx.look fs fs[i].name = some fs[i] := by
  induction fs generalizing i with
  | nil => simp at hi
  | cons a r ih =>
    rw [Bx.look_cons]
    cases i with
    | zero => simp
    | succ k =>
      have hk : k < r.length := by simpa using hi
      have hne : a.name ≠ r[k].name := Bx.lt_ne (h.1 _ (List.getElem_mem hk))
      rw [if_neg (by simpa using hne)]
      exact ih h.2 k hk
set_option maxRecDepth 100000 in
set_option maxHeartbeats 2000000 in
theorem Bx.copied_files (fs : List Bx.Fl) (hu : Bx.Up fs) (B g K cb : Nat) (w : World) (hl : fs.length ≤ 1000) (hx : ∀ d ∈ fs, d.name.size ≤ 1048576 ∧ d.text.size ≤ 1048576) (mb : Nat) (a0 : Option Addr) (n cap : Nat) (hn : fs.length = n) (hB : Bx.BoxAt w B g fs (fs.map Bx.Fl.name) mb K a0 n cap) (hc : w.cell? ⟨cb, 0, none⟩ = some (.pointer (some ⟨g, 0, none⟩))) (hcb : cb < w.heap.size) :
    Calls Try.prog 57 #[.slice a0 n cap, .func (Fn.func 58) #[] #[.pointer (some ⟨cb, 0, none⟩)]] w fun e w' => ∃ a c, e = .returned (.slice a n c) ∧ w'.ownsRow w.heap.size 55 2 (.slice a n c) n (Bx.fCs fs) ∧ Below w.heap.size w w' := by
  obtain ⟨i0, hi0, hz0, hz1, hz2⟩ := info_parts Try.infoFile
  have HN : Hid (fs.length = n) := hn
  rw [hn] at hl
  have HC : Hid (∀ i (hi : i < fs.length), ∃ g2, a0 = some ⟨g2, 0, none⟩ ∧ g2 < w.heap.size ∧ w.cell? ⟨g2, i, none⟩ = some (.string fs[i].name)) := fun i hi => by
    rcases hB.row.2 with ⟨hv, h0⟩ | ⟨g2, c2, cur, hv, _, hg2, _⟩
    · omega
    · injection hv with e1 e2 e3
      subst e1 e3
      refine ⟨g2, rfl, (Array.getElem?_eq_some_iff.1 hg2).1, ?_⟩
      rw [hB.row.cellAt i (by omega)]
      simp [Bi.ints, List.getElem?_eq_getElem hi]
  have HCL : Hid (∀ W i (hi : i < fs.length), Below w.heap.size w W → Calls Try.prog 58 #[.string fs[i].name, .pointer (some ⟨cb, 0, none⟩)] W fun e w' => e = .returned (.agg #[.string fs[i].name, .string fs[i].text]) ∧ Below W.heap.size W w') := fun W i hi hW => Bx.placeClos_any fs B g K cb fs[i].name fs[i] W (hx _ (List.getElem_mem hi)).1 (hx _ (List.getElem_mem hi)).1 (hx _ (List.getElem_mem hi)).2 (Bx.look_self hu i hi) (Bx.Holds.below (w := w) (K := K) ⟨mb, a0, n, cap, hn, hB⟩ hW) (by rw [hW.cell (p := ⟨cb, 0, none⟩) hcb]; exact hc) (Nat.lt_of_lt_of_le hcb hW.size)
  clear hB hc hx hn hu
  go_enter Try.func57, Try.ntmps57
  go_wp2_with (go_at_call 73; refine (Bx.grow_any n _ hl).mono ?_; rintro e w1 ⟨ga, gc, rfl, hown1, hb1⟩)
  go_loopw [5, 13] (fun t5 t13 wr => ∃ (i : Nat) (a : Option Addr) (c : Nat), i ≤ n ∧ t5 = .slice a i c ∧ t13 = .int .i64 (i : Int) ∧ wr.ownsRow w.heap.size 55 2 (.slice a i c) i (Bx.fCs (fs.take i)) ∧ Below w.heap.size w wr) (fun _ t13 _ => n - (intOf t13).toNat)
  case atStart => exact ⟨0, ga, gc, by omega, rfl, rfl, hown1, hb1⟩
  case round =>
    obtain ⟨i, a, c, hi, rfl, rfl, hown, hbw⟩ := hrel
    have HO : Hid (wr.ownsRow w.heap.size 55 2 (.slice a i c) i (Bx.fCs (fs.take i))) := hown
    have hz := hbw.size
    clear hown hown1 hb1
    by_cases hlt : i < n
    · have hil : i < fs.length := by rw [HN.out]; exact hlt
      obtain ⟨g2, rfl, hg2, k0⟩ := HC.out i hil
      have e0 : wr.cell? ⟨g2, i, none⟩ = some (.string fs[i].name) := by rw [hbw.cell (p := ⟨g2, i, none⟩) hg2, k0]
      have HCC : Hid (Calls Try.prog 58 #[.string fs[i].name, .pointer (some ⟨cb, 0, none⟩)] wr fun e w' => e = .returned (.agg #[.string fs[i].name, .string fs[i].text]) ∧ Below wr.heap.size wr w') := HCL.out wr i hil hbw
      have HTK : Hid (Bx.fCs (fs.take i) ++ [.string fs[i].name, .string fs[i].text] = Bx.fCs (fs.take (i + 1))) := by rw [Hid, Bx.take_next fs i hil]; exact Bx.fCs_one _ _
      clear k0 HC HCL
      generalize fs[i] = d at *
      go_wp2_with (first
        | (go_at_call 58; refine HCC.out.mono ?_; rintro e w2 ⟨rfl, hb2⟩; have hbw2 : Below w.heap.size w w2 := hbw.trans (hb2.mono hz); have hzw2 := hbw2.size)
        | (at_builtin; refine wpList_append_own _ rfl _ _ 27 rfl w.heap.size 55 i0 (.agg #[.string ByteArray.empty, .string ByteArray.empty]) 2 32 Try.underlying27 hi0 hz0 hz1 hz2 rfl (by decide) _ _ _ rfl ((Bx.own_below HO.out hb2).alloc _) ⟨w2.heap.size, 0, none⟩ 1 1 [.string d.name, .string d.text] rfl rfl (Bx.file_new _ _ _) (Bx.one_file _ _) (by unfold maxLen; omega) (by omega) (by simp; omega) ?_; intro v3 w3 hown3 hg3 _; rw [HTK.out] at hown3; obtain ⟨a3, c3, hv3⟩ := Bx.rowLen hown3; subst hv3; have hb3 : Below w.heap.size w w3 := (hbw2.alloc hzw2 _).grown hg3 (by simp; omega) (Bx.row_block HO.out)))
      go_roundw
      case rel => exact ⟨i + 1, a3, c3, by omega, rfl, by go_num, hown3, hb3⟩
      case measure => simp [intOf]; omega
    · have hie : i = n := by omega
      subst hie
      have HT : Hid (wr.ownsRow w.heap.size 55 2 (.slice a i c) i (Bx.fCs fs)) := by
        have e : fs.take i = fs := List.take_of_length_le (by rw [HN.out]; omega)
        have h := HO.out
        rw [e] at h; exact h
      clear HC HCL
      go_wp2
      go_ret
      exact ⟨_, _, rfl, HT.out, hbw⟩
set_option maxRecDepth 100000 in
set_option maxHeartbeats 2000000 in
theorem Bx.place_any (fs : List Bx.Fl) (hu : Bx.Up fs) (B g K : Nat) (w : World) (hl : fs.length ≤ 1000) (hx : ∀ d ∈ fs, d.name.size ≤ 1048576 ∧ d.text.size ≤ 1048576) (hH : Bx.Holds w B g fs K) :
    Calls Try.prog 41 #[.pointer (some ⟨g, 0, none⟩)] w fun e w' => ∃ a c, e = .returned (.agg #[.slice a fs.length c]) ∧ w'.ownsRow w.heap.size 55 2 (.slice a fs.length c) fs.length (Bx.fCs fs) ∧ Below w.heap.size w w' := by
  obtain ⟨mb, a0, n, cap, hn, hB⟩ := hH
  have hg : g < w.heap.size := (Array.getElem?_eq_some_iff.1 hB.blk).1
  have hal : ∀ o1 o2 : Obj, Below w.heap.size w ((w.alloc o1).alloc o2) := fun o1 o2 => ((Below.refl _ w).alloc (Nat.le_refl _) o1).alloc (by simp) o2
  have HB : Hid (∀ o1 o2 : Obj, Bx.BoxAt ((w.alloc o1).alloc o2) B g fs (fs.map Bx.Fl.name) mb K a0 n cap) := fun o1 o2 => hB.below (hal o1 o2)
  have HCO : Hid (∀ cb W, Bx.BoxAt W B g fs (fs.map Bx.Fl.name) mb K a0 n cap → W.cell? ⟨cb, 0, none⟩ = some (.pointer (some ⟨g, 0, none⟩)) → cb < W.heap.size → Calls Try.prog 57 #[.slice a0 n cap, .func (Fn.func 58) #[] #[.pointer (some ⟨cb, 0, none⟩)]] W fun e w' => ∃ a c, e = .returned (.slice a n c) ∧ w'.ownsRow W.heap.size 55 2 (.slice a n c) n (Bx.fCs fs) ∧ Below W.heap.size W w') := fun cb W h1 h2 h3 => Bx.copied_files fs hu B g K cb W hl hx mb a0 n cap hn h1 h2 h3
  have c1 : ∀ o1 o2 : Obj, ((w.alloc o1).alloc o2).cell? ⟨g, 1, none⟩ = some (.slice a0 n cap) := fun o1 o2 => by simp [World.cell?, (HB.out o1 o2).blk]
  have d1 := c1 (.cells #[.pointer (some ⟨g, 0, none⟩)] 58) (.cells #[.slice none 0 0] 29)
  simp only [hn]
  clear hB hx hn c1 hu
  go_enter Try.func41, Try.ntmps41
  go_wp2_with (go_at_call 57; refine (HCO.out _ _ (HB.out _ _) (by simp [go_sem]) (by simp only [World.size_alloc]; omega)).mono ?_; rintro e w1 ⟨a1, c1, rfl, hown1, hb1⟩; simp only [World.size_alloc] at hb1 hown1; obtain ⟨r0, r1⟩ := Bx.res_cell hb1; have hbw : Below w.heap.size w w1 := (hal _ _).trans (hb1.mono (by omega)))
  refine bodyPost_ret (v := .agg #[.slice a1 n c1]) (by simp [results, Try.results41, go_sem, r0]) rfl ⟨a1, c1, rfl, ?_, ?_⟩
  · exact Bx.own_mono (ownsRow_setCell_below hown1 (a := ⟨w.heap.size + 1, 0, none⟩) (by simp only; omega) _) (by omega)
  · exact hbw.setCell (p := ⟨w.heap.size + 1, 0, none⟩) (by simp only; omega) _
end Go.Proofs.Ytdapajkckocmbaa
