import Derived.Test.YtdapajkckocmbaaBoxO
namespace Go.Proofs.Ytdapajkckocmbaa
open Go.RowKit Go.Maps Go.WideMaps

theorem Bx.at_none {fs : List Bx.Fl} {x : ByteArray} {r : Int} (h : Bx.at fs x r) (hf : Bx.look fs x = none) : r = -1 := by
  rcases h with ⟨h, _⟩ | ⟨i, hi, _, h⟩
  · exact h
  · rw [hf] at h; cases h
theorem Bx.at_some {fs : List Bx.Fl} {x : ByteArray} {r : Int} {f : Bx.Fl} (h : Bx.at fs x r) (hf : Bx.look fs x = some f) : ∃ i : Nat, ∃ hi : i < fs.length, r = (i : Int) ∧ fs[i] = f := by
  rcases h with ⟨_, h⟩ | ⟨i, hi, hr, h⟩
  · rw [hf] at h; cases h
  · rw [hf] at h; injection h with h; exact ⟨i, hi, hr, h.symm⟩
set_option maxRecDepth 100000 in
set_option maxHeartbeats 2000000 in
theorem Bx.specSee_bad (fs : List Bx.Fl) (v : Value) (x : ByteArray) (w : World) (hn : fs.length ≤ 1048576) (hx : ∀ d ∈ fs, d.name.size ≤ 1048576 ∧ d.text.size ≤ 1048576) (_hs : x.size ≤ 1048576) (hN : Bx.Off w v fs) (hok : Bx.ok fs 40 = false) (k : Int) :
    Calls Try.prog 12 #[.agg #[v], .int .i64 k, .string x] w fun e w' => e = .returned (.agg #[.int .i64 5, .string ⟨#[]⟩]) ∧ Below w.heap.size w w' := by
  have HV : Hid (∀ w1, Bx.Off w1 v fs → Calls Try.prog 8 #[.agg #[v]] w1 fun e w' => e = .returned (.bool false) ∧ Below w1.heap.size w1 w') := fun w1 h => by
    have := Bx.specPlace_any fs v w1 hn hx h
    rw [hok] at this; exact this
  have HN : Hid (∀ W, Below w.heap.size w W → Bx.Off W v fs) := fun W hW => hN.below hW
  have HA : Hid (∀ W, Below w.heap.size w W → Calls Try.prog 30 #[v, .string x] W fun e w' => ∃ r, e = .returned (.int .i64 r) ∧ Bx.at fs x r ∧ W = w') := fun W hW => Bx.at_any fs v x W hn (hN.below hW)
  obtain ⟨p, cap, rfl, hc⟩ := hN
  have HC : Hid (∀ i (hi : i < fs.length), ∃ g o, p = some ⟨g, o, none⟩ ∧ g < w.heap.size ∧ w.cell? ⟨g, o + i * 2, none⟩ = some (.string fs[i].name) ∧ w.cell? ⟨g, o + i * 2 + 1, none⟩ = some (.string fs[i].text)) := hc
  clear hc hok
  have hal : ∀ o1 o2 : Obj, Below w.heap.size w ((w.alloc o1).alloc o2) := fun o1 o2 => ((Below.refl _ w).alloc (Nat.le_refl _) o1).alloc (by simp) o2
  obtain ⟨n, HLN⟩ : ∃ n, Hid (fs.length = n) := ⟨_, (rfl : fs.length = _)⟩
  simp only [HLN.out] at hn HV HN HA ⊢
  clear HC HA hx
  go_enter Try.func12, Try.ntmps12
  go_wp2_with (go_at_call 8; refine (HV.out _ (HN.out _ (hal _ _))).mono ?_; rintro e w2 ⟨rfl, hb2⟩; simp only [World.size_alloc] at hb2; have p0 := Bx.place_cell hb2; obtain ⟨r0, r1, r2, r3⟩ := Bx.reply_cells2 hb2; have hbw : Below w.heap.size w w2 := (hal _ _).trans (hb2.mono (by omega)))
  exact bodyPost_ret (v := .agg #[.int .i64 5, .string ⟨#[]⟩]) (by simp [results, Try.results12, go_sem, r0, r1]) rfl ⟨rfl, by repeat' (first | exact hbw | refine Below.setCell ?_ ?_ _ | exact Nat.le_succ _)⟩
set_option maxRecDepth 100000 in
set_option maxHeartbeats 2000000 in
theorem Bx.specSee_low (fs : List Bx.Fl) (v : Value) (x : ByteArray) (w : World) (hn : fs.length ≤ 1048576) (hx : ∀ d ∈ fs, d.name.size ≤ 1048576 ∧ d.text.size ≤ 1048576) (_hs : x.size ≤ 1048576) (hN : Bx.Off w v fs) (hok : Bx.ok fs 40 = true) (k : Int) (hk : k < 1) :
    Calls Try.prog 12 #[.agg #[v], .int .i64 k, .string x] w fun e w' => e = .returned (.agg #[.int .i64 5, .string ⟨#[]⟩]) ∧ Below w.heap.size w w' := by
  have HV : Hid (∀ w1, Bx.Off w1 v fs → Calls Try.prog 8 #[.agg #[v]] w1 fun e w' => e = .returned (.bool true) ∧ Below w1.heap.size w1 w') := fun w1 h => by
    have := Bx.specPlace_any fs v w1 hn hx h
    rw [hok] at this; exact this
  have HN : Hid (∀ W, Below w.heap.size w W → Bx.Off W v fs) := fun W hW => hN.below hW
  have HA : Hid (∀ W, Below w.heap.size w W → Calls Try.prog 30 #[v, .string x] W fun e w' => ∃ r, e = .returned (.int .i64 r) ∧ Bx.at fs x r ∧ W = w') := fun W hW => Bx.at_any fs v x W hn (hN.below hW)
  obtain ⟨p, cap, rfl, hc⟩ := hN
  have HC : Hid (∀ i (hi : i < fs.length), ∃ g o, p = some ⟨g, o, none⟩ ∧ g < w.heap.size ∧ w.cell? ⟨g, o + i * 2, none⟩ = some (.string fs[i].name) ∧ w.cell? ⟨g, o + i * 2 + 1, none⟩ = some (.string fs[i].text)) := hc
  clear hc hok
  have hal : ∀ o1 o2 : Obj, Below w.heap.size w ((w.alloc o1).alloc o2) := fun o1 o2 => ((Below.refl _ w).alloc (Nat.le_refl _) o1).alloc (by simp) o2
  obtain ⟨n, HLN⟩ : ∃ n, Hid (fs.length = n) := ⟨_, (rfl : fs.length = _)⟩
  simp only [HLN.out] at hn HV HN HA ⊢
  clear HC HA hx
  go_enter Try.func12, Try.ntmps12
  go_wp2_with (go_at_call 8; refine (HV.out _ (HN.out _ (hal _ _))).mono ?_; rintro e w2 ⟨rfl, hb2⟩; simp only [World.size_alloc] at hb2; have p0 := Bx.place_cell hb2; obtain ⟨r0, r1, r2, r3⟩ := Bx.reply_cells2 hb2; have hbw : Below w.heap.size w w2 := (hal _ _).trans (hb2.mono (by omega)))
  exact bodyPost_ret (v := .agg #[.int .i64 5, .string ⟨#[]⟩]) (by simp [results, Try.results12, go_sem, r0, r1]) rfl ⟨rfl, by repeat' (first | exact hbw | refine Below.setCell ?_ ?_ _ | exact Nat.le_succ _)⟩
set_option maxRecDepth 100000 in
set_option maxHeartbeats 2000000 in
theorem Bx.specSee_high (fs : List Bx.Fl) (v : Value) (x : ByteArray) (w : World) (hn : fs.length ≤ 1048576) (hx : ∀ d ∈ fs, d.name.size ≤ 1048576 ∧ d.text.size ≤ 1048576) (_hs : x.size ≤ 1048576) (hN : Bx.Off w v fs) (hok : Bx.ok fs 40 = true) (k : Int) (hk : 3 < k) :
    Calls Try.prog 12 #[.agg #[v], .int .i64 k, .string x] w fun e w' => e = .returned (.agg #[.int .i64 5, .string ⟨#[]⟩]) ∧ Below w.heap.size w w' := by
  have HV : Hid (∀ w1, Bx.Off w1 v fs → Calls Try.prog 8 #[.agg #[v]] w1 fun e w' => e = .returned (.bool true) ∧ Below w1.heap.size w1 w') := fun w1 h => by
    have := Bx.specPlace_any fs v w1 hn hx h
    rw [hok] at this; exact this
  have HN : Hid (∀ W, Below w.heap.size w W → Bx.Off W v fs) := fun W hW => hN.below hW
  have HA : Hid (∀ W, Below w.heap.size w W → Calls Try.prog 30 #[v, .string x] W fun e w' => ∃ r, e = .returned (.int .i64 r) ∧ Bx.at fs x r ∧ W = w') := fun W hW => Bx.at_any fs v x W hn (hN.below hW)
  obtain ⟨p, cap, rfl, hc⟩ := hN
  have HC : Hid (∀ i (hi : i < fs.length), ∃ g o, p = some ⟨g, o, none⟩ ∧ g < w.heap.size ∧ w.cell? ⟨g, o + i * 2, none⟩ = some (.string fs[i].name) ∧ w.cell? ⟨g, o + i * 2 + 1, none⟩ = some (.string fs[i].text)) := hc
  clear hc hok
  have hal : ∀ o1 o2 : Obj, Below w.heap.size w ((w.alloc o1).alloc o2) := fun o1 o2 => ((Below.refl _ w).alloc (Nat.le_refl _) o1).alloc (by simp) o2
  obtain ⟨n, HLN⟩ : ∃ n, Hid (fs.length = n) := ⟨_, (rfl : fs.length = _)⟩
  simp only [HLN.out] at hn HV HN HA ⊢
  clear HC HA hx
  go_enter Try.func12, Try.ntmps12
  have hk1 : 1 ≤ k := by omega
  go_wp2_with (go_at_call 8; refine (HV.out _ (HN.out _ (hal _ _))).mono ?_; rintro e w2 ⟨rfl, hb2⟩; simp only [World.size_alloc] at hb2; have p0 := Bx.place_cell hb2; obtain ⟨r0, r1, r2, r3⟩ := Bx.reply_cells2 hb2; have hbw : Below w.heap.size w w2 := (hal _ _).trans (hb2.mono (by omega)))
  exact bodyPost_ret (v := .agg #[.int .i64 5, .string ⟨#[]⟩]) (by simp [results, Try.results12, go_sem, r0, r1]) rfl ⟨rfl, by repeat' (first | exact hbw | refine Below.setCell ?_ ?_ _ | exact Nat.le_succ _)⟩
set_option maxRecDepth 100000 in
set_option maxHeartbeats 2000000 in
theorem Bx.specSee_1_none (fs : List Bx.Fl) (v : Value) (x : ByteArray) (w : World) (hn : fs.length ≤ 1048576) (hx : ∀ d ∈ fs, d.name.size ≤ 1048576 ∧ d.text.size ≤ 1048576) (_hs : x.size ≤ 1048576) (hN : Bx.Off w v fs) (hok : Bx.ok fs 40 = true) (hf : Bx.look fs x = none) :
    Calls Try.prog 12 #[.agg #[v], .int .i64 1, .string x] w fun e w' => e = .returned (.agg #[.int .i64 4, .string ⟨#[]⟩]) ∧ Below w.heap.size w w' := by
  have HV : Hid (∀ w1, Bx.Off w1 v fs → Calls Try.prog 8 #[.agg #[v]] w1 fun e w' => e = .returned (.bool true) ∧ Below w1.heap.size w1 w') := fun w1 h => by
    have := Bx.specPlace_any fs v w1 hn hx h
    rw [hok] at this; exact this
  have HN : Hid (∀ W, Below w.heap.size w W → Bx.Off W v fs) := fun W hW => hN.below hW
  have HA : Hid (∀ W, Below w.heap.size w W → Calls Try.prog 30 #[v, .string x] W fun e w' => ∃ r, e = .returned (.int .i64 r) ∧ Bx.at fs x r ∧ W = w') := fun W hW => Bx.at_any fs v x W hn (hN.below hW)
  obtain ⟨p, cap, rfl, hc⟩ := hN
  have HC : Hid (∀ i (hi : i < fs.length), ∃ g o, p = some ⟨g, o, none⟩ ∧ g < w.heap.size ∧ w.cell? ⟨g, o + i * 2, none⟩ = some (.string fs[i].name) ∧ w.cell? ⟨g, o + i * 2 + 1, none⟩ = some (.string fs[i].text)) := hc
  clear hc hok
  have hal : ∀ o1 o2 : Obj, Below w.heap.size w ((w.alloc o1).alloc o2) := fun o1 o2 => ((Below.refl _ w).alloc (Nat.le_refl _) o1).alloc (by simp) o2
  obtain ⟨n, HLN⟩ : ∃ n, Hid (fs.length = n) := ⟨_, (rfl : fs.length = _)⟩
  simp only [HLN.out] at hn HV HN HA ⊢
  clear HC hx
  go_enter Try.func12, Try.ntmps12
  go_wp2_with (first | (go_at_call 8; refine (HV.out _ (HN.out _ (hal _ _))).mono ?_; rintro e w2 ⟨rfl, hb2⟩; simp only [World.size_alloc] at hb2; have p0 := Bx.place_cell hb2; obtain ⟨r0, r1, r2, r3⟩ := Bx.reply_cells2 hb2; have hbw : Below w.heap.size w w2 := (hal _ _).trans (hb2.mono (by omega))) | (go_at_call 30; refine (HA.out w2 hbw).mono ?_; rintro e w3 ⟨r, rfl, hr, rfl⟩; obtain rfl := Bx.at_none hr hf))
  exact bodyPost_ret (v := .agg #[.int .i64 4, .string ⟨#[]⟩]) (by simp [results, Try.results12, go_sem, r0, r1]) rfl ⟨rfl, by repeat' (first | exact hbw | refine Below.setCell ?_ ?_ _ | exact Nat.le_succ _)⟩
set_option maxRecDepth 100000 in
set_option maxHeartbeats 2000000 in
theorem Bx.specSee_1_some (fs : List Bx.Fl) (v : Value) (x : ByteArray) (w : World) (hn : fs.length ≤ 1048576) (hx : ∀ d ∈ fs, d.name.size ≤ 1048576 ∧ d.text.size ≤ 1048576) (_hs : x.size ≤ 1048576) (hN : Bx.Off w v fs) (hok : Bx.ok fs 40 = true) (f0 : Bx.Fl) (hf : Bx.look fs x = some f0) :
    Calls Try.prog 12 #[.agg #[v], .int .i64 1, .string x] w fun e w' => e = .returned (.agg #[.int .i64 0, .string f0.text]) ∧ Below w.heap.size w w' := by
  have HV : Hid (∀ w1, Bx.Off w1 v fs → Calls Try.prog 8 #[.agg #[v]] w1 fun e w' => e = .returned (.bool true) ∧ Below w1.heap.size w1 w') := fun w1 h => by
    have := Bx.specPlace_any fs v w1 hn hx h
    rw [hok] at this; exact this
  have HN : Hid (∀ W, Below w.heap.size w W → Bx.Off W v fs) := fun W hW => hN.below hW
  have HA : Hid (∀ W, Below w.heap.size w W → Calls Try.prog 30 #[v, .string x] W fun e w' => ∃ r, e = .returned (.int .i64 r) ∧ Bx.at fs x r ∧ W = w') := fun W hW => Bx.at_any fs v x W hn (hN.below hW)
  obtain ⟨p, cap, rfl, hc⟩ := hN
  have HC : Hid (∀ i (hi : i < fs.length), ∃ g o, p = some ⟨g, o, none⟩ ∧ g < w.heap.size ∧ w.cell? ⟨g, o + i * 2, none⟩ = some (.string fs[i].name) ∧ w.cell? ⟨g, o + i * 2 + 1, none⟩ = some (.string fs[i].text)) := hc
  clear hc hok
  have hal : ∀ o1 o2 : Obj, Below w.heap.size w ((w.alloc o1).alloc o2) := fun o1 o2 => ((Below.refl _ w).alloc (Nat.le_refl _) o1).alloc (by simp) o2
  obtain ⟨n, HLN⟩ : ∃ n, Hid (fs.length = n) := ⟨_, (rfl : fs.length = _)⟩
  simp only [HLN.out] at hn HV HN HA ⊢
  clear hx
  go_enter Try.func12, Try.ntmps12
  go_wp2_with (first | (go_at_call 8; refine (HV.out _ (HN.out _ (hal _ _))).mono ?_; rintro e w2 ⟨rfl, hb2⟩; simp only [World.size_alloc] at hb2; have p0 := Bx.place_cell hb2; obtain ⟨r0, r1, r2, r3⟩ := Bx.reply_cells2 hb2; have hbw : Below w.heap.size w w2 := (hal _ _).trans (hb2.mono (by omega))) | (go_at_call 30; refine (HA.out w2 hbw).mono ?_; rintro e w3 ⟨r, rfl, hr, rfl⟩; obtain ⟨i, hi, rfl, hfi⟩ := Bx.at_some hr hf; obtain ⟨g, o, hp, hg, _, hct⟩ := HC.out i hi; subst hp; rw [hfi] at hct; have hct2 : w2.cell? ⟨g, o + i * 2 + 1, none⟩ = some (.string f0.text) := (by rw [hbw.cell (p := ⟨g, o + i * 2 + 1, none⟩) hg]; exact hct); have hin : i < n := (by rw [← HLN.out]; exact hi); clear hr hfi hct))
  exact bodyPost_ret (v := .agg #[.int .i64 0, .string f0.text]) (by simp [results, Try.results12, go_sem, r0, r1]) rfl ⟨rfl, by repeat' (first | exact hbw | refine Below.setCell ?_ ?_ _ | exact Nat.le_succ _)⟩
set_option maxRecDepth 100000 in
set_option maxHeartbeats 2000000 in
theorem Bx.specSee_2_none (fs : List Bx.Fl) (v : Value) (x : ByteArray) (w : World) (hn : fs.length ≤ 1048576) (hx : ∀ d ∈ fs, d.name.size ≤ 1048576 ∧ d.text.size ≤ 1048576) (_hs : x.size ≤ 1048576) (hN : Bx.Off w v fs) (hok : Bx.ok fs 40 = true) (hf : Bx.look fs x = none) :
    Calls Try.prog 12 #[.agg #[v], .int .i64 2, .string x] w fun e w' => e = .returned (.agg #[.int .i64 4, .string ⟨#[]⟩]) ∧ Below w.heap.size w w' := by
  have HV : Hid (∀ w1, Bx.Off w1 v fs → Calls Try.prog 8 #[.agg #[v]] w1 fun e w' => e = .returned (.bool true) ∧ Below w1.heap.size w1 w') := fun w1 h => by
    have := Bx.specPlace_any fs v w1 hn hx h
    rw [hok] at this; exact this
  have HN : Hid (∀ W, Below w.heap.size w W → Bx.Off W v fs) := fun W hW => hN.below hW
  have HA : Hid (∀ W, Below w.heap.size w W → Calls Try.prog 30 #[v, .string x] W fun e w' => ∃ r, e = .returned (.int .i64 r) ∧ Bx.at fs x r ∧ W = w') := fun W hW => Bx.at_any fs v x W hn (hN.below hW)
  obtain ⟨p, cap, rfl, hc⟩ := hN
  have HC : Hid (∀ i (hi : i < fs.length), ∃ g o, p = some ⟨g, o, none⟩ ∧ g < w.heap.size ∧ w.cell? ⟨g, o + i * 2, none⟩ = some (.string fs[i].name) ∧ w.cell? ⟨g, o + i * 2 + 1, none⟩ = some (.string fs[i].text)) := hc
  clear hc hok
  have hal : ∀ o1 o2 : Obj, Below w.heap.size w ((w.alloc o1).alloc o2) := fun o1 o2 => ((Below.refl _ w).alloc (Nat.le_refl _) o1).alloc (by simp) o2
  obtain ⟨n, HLN⟩ : ∃ n, Hid (fs.length = n) := ⟨_, (rfl : fs.length = _)⟩
  simp only [HLN.out] at hn HV HN HA ⊢
  clear HC hx
  go_enter Try.func12, Try.ntmps12
  go_wp2_with (first | (go_at_call 8; refine (HV.out _ (HN.out _ (hal _ _))).mono ?_; rintro e w2 ⟨rfl, hb2⟩; simp only [World.size_alloc] at hb2; have p0 := Bx.place_cell hb2; obtain ⟨r0, r1, r2, r3⟩ := Bx.reply_cells2 hb2; have hbw : Below w.heap.size w w2 := (hal _ _).trans (hb2.mono (by omega))) | (go_at_call 30; refine (HA.out w2 hbw).mono ?_; rintro e w3 ⟨r, rfl, hr, rfl⟩; obtain rfl := Bx.at_none hr hf))
  exact bodyPost_ret (v := .agg #[.int .i64 4, .string ⟨#[]⟩]) (by simp [results, Try.results12, go_sem, r0, r1]) rfl ⟨rfl, by repeat' (first | exact hbw | refine Below.setCell ?_ ?_ _ | exact Nat.le_succ _)⟩
set_option maxRecDepth 100000 in
set_option maxHeartbeats 2000000 in
theorem Bx.specSee_2_some (fs : List Bx.Fl) (v : Value) (x : ByteArray) (w : World) (hn : fs.length ≤ 1048576) (hx : ∀ d ∈ fs, d.name.size ≤ 1048576 ∧ d.text.size ≤ 1048576) (_hs : x.size ≤ 1048576) (hN : Bx.Off w v fs) (hok : Bx.ok fs 40 = true) (f0 : Bx.Fl) (hf : Bx.look fs x = some f0) :
    Calls Try.prog 12 #[.agg #[v], .int .i64 2, .string x] w fun e w' => e = .returned (.agg #[.int .i64 0, .string ⟨#[]⟩]) ∧ Below w.heap.size w w' := by
  have HV : Hid (∀ w1, Bx.Off w1 v fs → Calls Try.prog 8 #[.agg #[v]] w1 fun e w' => e = .returned (.bool true) ∧ Below w1.heap.size w1 w') := fun w1 h => by
    have := Bx.specPlace_any fs v w1 hn hx h
    rw [hok] at this; exact this
  have HN : Hid (∀ W, Below w.heap.size w W → Bx.Off W v fs) := fun W hW => hN.below hW
  have HA : Hid (∀ W, Below w.heap.size w W → Calls Try.prog 30 #[v, .string x] W fun e w' => ∃ r, e = .returned (.int .i64 r) ∧ Bx.at fs x r ∧ W = w') := fun W hW => Bx.at_any fs v x W hn (hN.below hW)
  obtain ⟨p, cap, rfl, hc⟩ := hN
  have HC : Hid (∀ i (hi : i < fs.length), ∃ g o, p = some ⟨g, o, none⟩ ∧ g < w.heap.size ∧ w.cell? ⟨g, o + i * 2, none⟩ = some (.string fs[i].name) ∧ w.cell? ⟨g, o + i * 2 + 1, none⟩ = some (.string fs[i].text)) := hc
  clear hc hok
  have hal : ∀ o1 o2 : Obj, Below w.heap.size w ((w.alloc o1).alloc o2) := fun o1 o2 => ((Below.refl _ w).alloc (Nat.le_refl _) o1).alloc (by simp) o2
  obtain ⟨n, HLN⟩ : ∃ n, Hid (fs.length = n) := ⟨_, (rfl : fs.length = _)⟩
  simp only [HLN.out] at hn HV HN HA ⊢
  clear hx
  go_enter Try.func12, Try.ntmps12
  go_wp2_with (first | (go_at_call 8; refine (HV.out _ (HN.out _ (hal _ _))).mono ?_; rintro e w2 ⟨rfl, hb2⟩; simp only [World.size_alloc] at hb2; have p0 := Bx.place_cell hb2; obtain ⟨r0, r1, r2, r3⟩ := Bx.reply_cells2 hb2; have hbw : Below w.heap.size w w2 := (hal _ _).trans (hb2.mono (by omega))) | (go_at_call 30; refine (HA.out w2 hbw).mono ?_; rintro e w3 ⟨r, rfl, hr, rfl⟩; obtain ⟨i, hi, rfl, hfi⟩ := Bx.at_some hr hf; obtain ⟨g, o, hp, hg, _, hct⟩ := HC.out i hi; subst hp; rw [hfi] at hct; have hct2 : w2.cell? ⟨g, o + i * 2 + 1, none⟩ = some (.string f0.text) := (by rw [hbw.cell (p := ⟨g, o + i * 2 + 1, none⟩) hg]; exact hct); have hin : i < n := (by rw [← HLN.out]; exact hi); clear hr hfi hct))
  exact bodyPost_ret (v := .agg #[.int .i64 0, .string ⟨#[]⟩]) (by simp [results, Try.results12, go_sem, r0, r1]) rfl ⟨rfl, by repeat' (first | exact hbw | refine Below.setCell ?_ ?_ _ | exact Nat.le_succ _)⟩
theorem Bx.specSee_any (fs : List Bx.Fl) (v : Value) (k : Int) (x : ByteArray) (w : World) (hn : fs.length ≤ 1048576) (hx : ∀ d ∈ fs, d.name.size ≤ 1048576 ∧ d.text.size ≤ 1048576) (hs : x.size ≤ 1048576) (hN : Bx.Off w v fs) :
    Calls Try.prog 12 #[.agg #[v], .int .i64 k, .string x] w fun e w' => e = .returned (.agg #[.int .i64 (Bx.seeP fs k x).1, .string (Bx.seeP fs k x).2]) ∧ Below w.heap.size w w' := by
  unfold Bx.seeP
  cases hok : Bx.ok fs 40 with
  | false => rw [if_neg (by simp)]; exact Bx.specSee_bad fs v x w hn hx hs hN hok k
  | true =>
    rw [if_pos rfl]
    unfold Bx.see
    by_cases h3 : k = 3
    · subst h3; rw [if_pos rfl]; exact Bx.specSee_list fs v x w hn hx hs hN hok
    · rw [if_neg h3]
      by_cases h1 : k = 1
      · subst h1
        rw [if_neg (by simp)]
        cases hf : Bx.look fs x with
        | none => exact Bx.specSee_1_none fs v x w hn hx hs hN hok hf
        | some f0 => simp only; rw [if_neg (by decide)]; exact Bx.specSee_1_some fs v x w hn hx hs hN hok f0 hf
      · by_cases h2 : k = 2
        · subst h2
          rw [if_neg (by simp)]
          cases hf : Bx.look fs x with
          | none => exact Bx.specSee_2_none fs v x w hn hx hs hN hok hf
          | some f0 => simp only; rw [if_pos trivial]; exact Bx.specSee_2_some fs v x w hn hx hs hN hok f0 hf
        · rw [if_pos ⟨h1, h2⟩]
          by_cases hk : k < 1
          · exact Bx.specSee_low fs v x w hn hx hs hN hok k hk
          · exact Bx.specSee_high fs v x w hn hx hs hN hok k (by omega)
end Go.Proofs.Ytdapajkckocmbaa
