import Derived.Test.YtdapajkckocmbaaBoxN
namespace Go.Proofs.Ytdapajkckocmbaa
open Go.RowKit Go.Maps Go.WideMaps

theorem Bx.prefix_of {s p : ByteArray} (_h : p.size ≤ s.size) : Lib.hasPrefix s.data.toList p.data.toList = decide (s.data.toList.take p.size = p.data.toList) := by
  unfold Lib.hasPrefix
  rw [Bool.eq_iff_iff, List.isPrefixOf_iff_prefix, decide_eq_true_eq, List.prefix_iff_eq_take]
  have e : p.data.toList.length = p.size := by rw [Array.length_toList]; rfl
  rw [e]; exact ⟨fun h => h.symm, fun h => h.symm⟩
theorem Bx.prefix_no {s p : ByteArray} (h : ¬ p.size ≤ s.size) : Lib.hasPrefix s.data.toList p.data.toList = false := by
  unfold Lib.hasPrefix
  cases hb : p.data.toList.isPrefixOf s.data.toList with
  | false => rfl
  | true =>
    have h2 := (List.isPrefixOf_iff_prefix.1 hb).length_le
    rw [Array.length_toList, Array.length_toList] at h2; exact absurd h2 h
theorem Bx.cut_eq {s p : ByteArray} (h : p.size ≤ s.size) : ((s.extract 0 p.size).toList == p.toList) = Lib.hasPrefix s.data.toList p.data.toList := by
  rw [Bx.prefix_of h, ByteArray.toList_eq, ByteArray.toList_eq]
  have e : (s.extract 0 p.size).data.toList = s.data.toList.take p.size := by simp
  rw [e]
  by_cases h2 : s.data.toList.take p.size = p.data.toList
  · simp [h2]
  · simp [h2]
theorem Bx.cat_eq (l : List UInt8) (d : ByteArray) : (ByteArray.mk l.toArray ++ d) ++ ByteArray.mk #[10] = ByteArray.mk (l ++ d.data.toList ++ [10]).toArray := by
  apply ByteArray.ext
  simp [ByteArray.data_append]
set_option maxRecDepth 100000 in
set_option maxHeartbeats 2000000 in
theorem Bx.specSee_list (fs : List Bx.Fl) (v : Value) (x : ByteArray) (w : World) (hn : fs.length ≤ 1048576) (hx : ∀ d ∈ fs, d.name.size ≤ 1048576 ∧ d.text.size ≤ 1048576) (_hs : x.size ≤ 1048576) (hN : Bx.Off w v fs) (hok : Bx.ok fs 40 = true) :
    Calls Try.prog 12 #[.agg #[v], .int .i64 3, .string x] w fun e w' => e = .returned (.agg #[.int .i64 0, .string ⟨(Bx.listL fs x).toArray⟩]) ∧ Below w.heap.size w w' := by
  have HV : Hid (∀ w1, Bx.Off w1 v fs → Calls Try.prog 8 #[.agg #[v]] w1 fun e w' => e = .returned (.bool true) ∧ Below w1.heap.size w1 w') := fun w1 h => by
    have := Bx.specPlace_any fs v w1 hn hx h
    rw [hok] at this; exact this
  have hl := Bx.ok_len hok
  have HN : Hid (∀ W, Below w.heap.size w W → Bx.Off W v fs) := fun W hW => hN.below hW
  have HTL : Hid (∀ i, (Bx.listL (fs.take i) x).length ≤ 1048577000) := fun i => Bx.take_len fs x i (by omega) (fun d hd => (hx d hd).1)
  obtain ⟨p, cap, rfl, hc⟩ := hN
  have HC : Hid (∀ i (hi : i < fs.length), ∃ g o, p = some ⟨g, o, none⟩ ∧ g < w.heap.size ∧ w.cell? ⟨g, o + i * 2, none⟩ = some (.string fs[i].name) ∧ w.cell? ⟨g, o + i * 2 + 1, none⟩ = some (.string fs[i].text)) := hc
  clear hc
  have hal : ∀ o1 o2 : Obj, Below w.heap.size w ((w.alloc o1).alloc o2) := fun o1 o2 => ((Below.refl _ w).alloc (Nat.le_refl _) o1).alloc (by simp) o2
  clear hok
  obtain ⟨n, HLN⟩ : ∃ n, Hid (fs.length = n) := ⟨_, (rfl : fs.length = _)⟩
  simp only [HLN.out] at hl hn HV HN ⊢
  go_enter Try.func12, Try.ntmps12
  go_wp2_with (go_at_call 8; refine (HV.out _ (HN.out _ (hal _ _))).mono ?_; rintro e w2 ⟨rfl, hb2⟩; simp only [World.size_alloc] at hb2)
  have p0 := Bx.place_cell hb2
  obtain ⟨r0, r1, r2, r3⟩ := Bx.reply_cells2 hb2
  have hbw : Below w.heap.size w w2 := (hal _ _).trans (hb2.mono (by omega))
  go_loopw [7, 8] (fun tt t wr => ∃ i : Nat, i ≤ n ∧ tt = .string ⟨(Bx.listL (fs.take i) x).toArray⟩ ∧ t = .int .i64 (i : Int) ∧ wr = w2) (fun _ t _ => n - (intOf t).toNat)
  case atStart => exact ⟨0, by omega, rfl, rfl, rfl⟩
  case round =>
    obtain ⟨i, hi, rfl, rfl, rfl⟩ := hrel
    by_cases hlt : i < n
    · have hil : i < fs.length := by rw [HLN.out]; exact hlt
      obtain ⟨g, o, rfl, hg, hcell, _⟩ := HC.out i hil
      have e0 : wr.cell? ⟨g, o + i * 2, none⟩ = some (.string fs[i].name) := by rw [hbw.cell (p := ⟨g, o + i * 2, none⟩) hg, hcell]
      obtain ⟨hxd, _⟩ := hx fs[i] (List.getElem_mem hil)
      have hTL := HTL.out i
      have HTK : Hid (Bx.listL (fs.take (i + 1)) x = Bx.listL (fs.take i) x ++ Bx.lineL x fs[i]) := Bx.take_line fs x i hil
      generalize fs[i] = d at *
      clear hcell HC HTL
      obtain ⟨l, HL⟩ : ∃ l, Hid (Bx.listL (fs.take i) x = l) := ⟨_, (rfl : Bx.listL (fs.take i) x = _)⟩
      rw [HL.out] at hTL HTK ⊢
      have hsz : (ByteArray.mk l.toArray).size = l.length := by show l.toArray.size = _; simp
      have hs1 : ¬ (9223372036854775807 < l.length + d.name.size) := by omega
      have hs2 : ¬ (9223372036854775806 < l.length + d.name.size) := by omega
      by_cases hle : x.size ≤ d.name.size
      · have hcut := Bx.cut_eq hle
        cases hp : Lib.hasPrefix d.name.data.toList x.data.toList with
        | true =>
          rw [hp] at hcut
          have HF : Hid (ByteArray.mk (Bx.listL (fs.take (i + 1)) x).toArray = (ByteArray.mk l.toArray ++ d.name) ++ ByteArray.mk #[10]) := by rw [Hid, Bx.cat_eq, HTK.out, Bx.lineL, hp]; simp
          clear hp
          go_wp2
          go_roundw
          case rel => exact ⟨i + 1, by omega, by rw [HF.out], by go_num, by first | rfl | trivial⟩
          case measure => simp [intOf]; omega
        | false =>
          rw [hp] at hcut
          have HF : Hid (Bx.listL (fs.take (i + 1)) x = l) := by rw [Hid, HTK.out, Bx.lineL, hp]; simp
          clear hp
          go_wp2
          go_roundw
          case rel => exact ⟨i + 1, by omega, by rw [HF.out], by go_num, by first | rfl | trivial⟩
          case measure => simp [intOf]; omega
      · have HF : Hid (Bx.listL (fs.take (i + 1)) x = l) := by rw [Hid, HTK.out, Bx.lineL, Bx.prefix_no hle]; simp
        have hle2 : decide ((x.size : Int) ≤ (d.name.size : Int)) = false := by simp; omega
        have hle3 : d.name.size < x.size := by omega
        go_wp2
        go_roundw
        case rel => exact ⟨i + 1, by omega, by rw [HF.out], by go_num, by first | rfl | trivial⟩
        case measure => simp [intOf]; omega
    · have hie : i = n := by omega
      subst hie
      have HF : Hid (Bx.listL (fs.take i) x = Bx.listL fs x) := by rw [Hid, List.take_of_length_le (by rw [HLN.out]; omega)]
      rw [HF.out]
      clear HC HTL
      go_wp2
      exact bodyPost_ret (v := .agg #[.int .i64 0, .string ⟨(Bx.listL fs x).toArray⟩]) (by simp [results, Try.results12, go_sem, r0, r1]) rfl ⟨rfl, by repeat' (first | exact hbw | refine Below.setCell ?_ ?_ _ | exact Nat.le_succ _)⟩
end Go.Proofs.Ytdapajkckocmbaa
