import Derived.Test.YtfelngigfmdedaaGreatDoorBltG
namespace Go.Proofs.YtfelngigfmdedaaGreatDoor
open Go.RowKit

def Val.numberW : ByteArray := ⟨#[110, 117, 109, 98, 101, 114]⟩
def Val.byteAt (s : ByteArray) (i : Nat) : Int := ((s.data.toList.getD i 0).toNat : Int)
def Val.builtOk (op : Int) : List Val.V → Val.V × ByteArray
  | [] => (Val.zero, Val.typeW)
  | a :: r =>
    if op = 6 then (⟨10, (a.text.size : Int), ⟨#[]⟩⟩, ⟨#[]⟩)
    else if op = 7 then (match r with
      | b :: _ => if 0 ≤ b.n ∧ b.n < (a.text.size : Int) then (⟨3, Val.byteAt a.text b.n.toNat, ⟨#[]⟩⟩, ⟨#[]⟩) else (Val.zero, Val.rangeW)
      | [] => (Val.zero, Val.typeW))
    else if op = 8 then (match r with
      | b :: c :: _ => if 0 ≤ b.n ∧ b.n ≤ c.n ∧ c.n ≤ (a.text.size : Int) then (⟨2, 0, a.text.extract b.n.toNat c.n.toNat⟩, ⟨#[]⟩) else (Val.zero, Val.rangeW)
      | _ => (Val.zero, Val.typeW))
    else if op = 9 then (match r with
      | b :: _ => (⟨10, Lib.index a.text.data.toList b.text.data.toList, ⟨#[]⟩⟩, ⟨#[]⟩)
      | [] => (Val.zero, Val.typeW))
    else if op = 10 then (⟨2, 0, ⟨#[UInt8.ofNat (a.n % 256).toNat]⟩⟩, ⟨#[]⟩)
    else if op = 11 then (⟨2, 0, ⟨(Val.dec a.type a.n).toArray⟩⟩, ⟨#[]⟩)
    else if (Val.parse a.text).2 = true then (⟨10, (Val.parse a.text).1, ⟨#[]⟩⟩, ⟨#[]⟩) else (Val.zero, Val.numberW)
def Val.built (op : Int) (vs : List Val.V) : Val.V × ByteArray :=
  if 6 ≤ op ∧ op ≤ 12 ∧ vs.all Val.valid = true ∧ Val.fitL (Val.want op) (vs.map (·.type)) = true then Val.builtOk op vs else (Val.zero, Val.typeW)
set_option maxRecDepth 100000 in
set_option maxHeartbeats 1000000 in
theorem Val.built_out (op : Int) (a : Option Addr) (n cap : Nat) (hn : n ≤ 1048576) (h : ¬ (6 ≤ op ∧ op ≤ 12 ∧ n ≤ 3)) (w : World) :
    Calls Tryz.prog 5 #[.int .i64 op, .slice a n cap] w fun e w' => e = .returned (Val.ansV (Val.zero, Val.typeW)) ∧ Below w.heap.size w w' := by
  have h2 : op < 6 ∨ (6 ≤ op ∧ 12 < op) ∨ (6 ≤ op ∧ op ≤ 12 ∧ 3 < n) := by omega
  rcases h2 with h2 | ⟨h2, h3⟩ | ⟨h2, h3, h4⟩
  all_goals
    go_enter Tryz.func5, Tryz.ntmps5
    go_wp2
  all_goals exact bodyPost_ret (v := Val.ansV (Val.zero, Val.typeW)) (by simp [results, Tryz.results5, go_sem, Val.ansV, Val.v, Val.zero, Val.typeW]) rfl ⟨rfl, (Below.refl _ w).alloc (Nat.le_refl _) _⟩
theorem Val.wrapI64 (c : UInt8) : IntKind.i64.wrap (c.toNat : Int) = (c.toNat : Int) := by
  have := c.toNat_lt
  show (if _ then _ else _) = _
  have e1 : ((2 : Int) ^ IntKind.i64.bits) = 18446744073709551616 := by decide
  have e2 : ((2 : Int) ^ (IntKind.i64.bits - 1)) = 9223372036854775808 := by decide
  rw [e1, e2, if_neg]
  · omega
  · simp; omega
theorem Val.l4Cut_n (s : ByteArray) (i j : Int) (h : ¬ (0 ≤ i ∧ i ≤ j ∧ j ≤ (s.size : Int))) (w : World) :
    Calls Tryz.prog 13 #[.string s, .int .i64 i, .int .i64 j] w fun e w' => e = .returned (.tuple #[.agg #[.int .i64 0, .int .i64 0, .string ⟨#[]⟩], .string Val.rangeW]) ∧ Below w.heap.size w w' := Val.l4Cut_no s i j h w
theorem Val.l4Cut_y (s : ByteArray) (i j : Nat) (h1 : i ≤ j) (h2 : j ≤ s.size) (w : World) :
    Calls Tryz.prog 13 #[.string s, .int .i64 (i : Int), .int .i64 (j : Int)] w fun e w' => e = .returned (.tuple #[.agg #[.int .i64 2, .int .i64 0, .string (s.extract i j)], .string ⟨#[]⟩]) ∧ Below w.heap.size w w' := Val.l4Cut_yes s i j h1 h2 w
theorem Val.set3o {w : World} {g h k : Nat} {v x y z : Value} (hgh : h ≠ g) (hv : w.cell? ⟨g, k, none⟩ = some v) :
    (((w.setCell ⟨h, 0, none⟩ x).setCell ⟨h, 1, none⟩ y).setCell ⟨h, 2, none⟩ z).cell? ⟨g, k, none⟩ = some v := by
  rw [World.cell?_setCell_far _ _ _ _ hgh, World.cell?_setCell_far _ _ _ _ hgh, World.cell?_setCell_far _ _ _ _ hgh]; exact hv
theorem Val.byteAt_get (s : ByteArray) (k : Nat) (h : k < s.size) : Val.byteAt s k = ((s[k]).toNat : Int) := by
  unfold Val.byteAt
  rw [List.getD_eq_getElem?_getD, List.getElem?_eq_getElem (by simpa using h)]
  rfl
theorem Val.valid_text (x : Val.V) (h : Val.valid x = true) (ht : x.type = 2) : x.text.size ≤ 3000 := by
  rw [Val.valid, if_neg (by rw [ht]; decide), if_pos ht] at h
  simp at h
  exact h.2
theorem Val.first_text (op : Int) (x : Val.V) (vs : List Val.V) (ho : op = 6 ∨ op = 7 ∨ op = 8 ∨ op = 9 ∨ op = 12) (hf : Val.fitL (Val.want op) (x.type :: vs.map (·.type)) = true) (hv : (x :: vs).all Val.valid = true) : x.text.size ≤ 3000 := by
  have hx : Val.valid x = true := by simp at hv; exact hv.1
  refine Val.valid_text x hx ?_
  rcases ho with rfl | rfl | rfl | rfl | rfl
  all_goals
    simp [Val.want, Val.fitL, Val.fit1] at hf
    first | exact hf.1 | exact hf
theorem Val.second_text (x y : Val.V) (hf : Val.fitL (Val.want 9) [x.type, y.type] = true) (hv : [x, y].all Val.valid = true) : y.text.size ≤ 3000 := by
  have hy : Val.valid y = true := by simp at hv; exact hv.2
  refine Val.valid_text y hy ?_
  simp [Val.want, Val.fitL, Val.fit1] at hf
  exact hf.2
theorem Val.first_byte (x : Val.V) (hf : Val.fitL (Val.want 10) [x.type] = true) (hv : [x].all Val.valid = true) : 0 ≤ x.n ∧ x.n ≤ 255 := by
  have hx : Val.valid x = true := by simp at hv; exact hv
  simp [Val.want, Val.fitL, Val.fit1] at hf
  rw [Val.valid, if_neg (by rw [hf]; decide), if_neg (by rw [hf]; decide), hf] at hx
  simp only [Bool.and_eq_true, decide_eq_true_eq] at hx
  have e := hx.2
  have e1 : Val.bits 3 = 8 := by decide
  have e2 : Val.signed 3 = false := by decide
  unfold Val.into Val.fold Val.u at e
  rw [e1, e2] at e
  simp at e
  omega
theorem Tryz.infoInt : (Tryz.prog.info? 3).map (fun i => (i.zero, i.size, i.bytes)) = some (some (.int .i64 0), 1, 8) := by kernel_rfl
theorem Val.int_one (x : Int) : ∀ u ∈ [Value.int .i64 x], u.oneCell' = true := by intro u hu; simp at hu; subst hu; rfl
theorem Val.own_none (w : World) (B k : Nat) (e : TypeId) (hk : w.heap.size = k) (hB : B ≤ k) : (w.alloc (.cells #[] e)).ownsRow B e 1 (.slice (some ⟨k, 0, none⟩) 0 0) 0 [] := by
  subst hk
  exact ⟨rfl, .inr ⟨w.heap.size, 0, #[], rfl, hB, Val.new_at w _, Nat.le_refl _, by decide, rfl, rfl⟩⟩
theorem Val.len1 {α : Type} {l : List α} (h : l.length = 1) : ∃ x, l = [x] := by
  match l, h with
  | [x], _ => exact ⟨x, rfl⟩
theorem Val.len2 {α : Type} {l : List α} (h : l.length = 2) : ∃ x y, l = [x, y] := by
  match l, h with
  | [x, y], _ => exact ⟨x, y, rfl⟩
theorem Val.len3 {α : Type} {l : List α} (h : l.length = 3) : ∃ x y z, l = [x, y, z] := by
  match l, h with
  | [x, y, z], _ => exact ⟨x, y, z, rfl⟩
theorem Val.gives_ne (op : Int) : Val.gives op ≠ 0 := by unfold Val.gives; split; decide; split <;> decide
theorem Val.take_snoc (l : List Int) (i : Nat) (h : i < l.length) : Val.ints (l.take (i + 1)) = Val.ints (l.take i) ++ [.int .i64 l[i]] := by
  rw [List.take_succ_eq_append_getElem h, Val.ints, List.map_append]; rfl
set_option maxRecDepth 100000 in
set_option maxHeartbeats 16000000 in
theorem Val.built_in (op : Int) (vs : List Val.V) (a : Option Addr) (cap : Nat) (h6 : 6 ≤ op) (h12 : op ≤ 12) (w : World) (n : Nat) (HN : Hid (vs.length = n)) (hn : n ≤ 3)
    (HC : Hid (∀ i (hi : i < vs.length), ∃ g, a = some ⟨g, 0, none⟩ ∧ g < w.heap.size ∧ ∀ j, j < 3 → w.cell? ⟨g, i * 3 + j, none⟩ = (Val.vC vs[i])[j]?)) :
    Calls Tryz.prog 5 #[.int .i64 op, .slice a n cap] w fun e w' => e = .returned (Val.ansV (Val.built op vs)) ∧ Below w.heap.size w w' := by
  obtain ⟨i0, hi0, hz0, hz1, hz2⟩ := info_parts Tryz.infoInt
  obtain ⟨r, HR⟩ : ∃ r, Hid (Val.built op vs = r) := ⟨_, (rfl : _ = _)⟩
  rw [HR.out]
  go_enter Tryz.func5, Tryz.ntmps5
  go_wp2_with fail
  go_loopw [6, 7] (fun th ti wr => ∃ (i : Nat) (hv : Value), ti = .int .i64 (i : Int) ∧ i ≤ n ∧ th = hv ∧ wr.ownsRow (w.heap.size + 1) 3 1 hv i (Val.ints ((vs.map (·.type)).take i)) ∧ (∀ j (hj : j < vs.length), j < i → Val.valid vs[j] = true) ∧ Below (w.heap.size + 1) (w.alloc (.cells #[.int .i64 0, .int .i64 0, .string ⟨#[]⟩] 25)) wr) (fun _ ti _ => n - (intOf ti).toNat)
  case atStart => exact ⟨0, _, rfl, by omega, rfl, Val.own_none (w.alloc _) (w.heap.size + 1) (w.heap.size + 1) _ (by simp) (Nat.le_refl _), fun j hj h => by omega, (Below.refl _ _).alloc (by simp) _⟩
  case round =>
    obtain ⟨i, hv, rfl, hi, rfl, hown, hval, hbw⟩ := hrel
    have HV : Hid (∀ j (hj : j < vs.length), j < i → Val.valid vs[j] = true) := hval
    clear hval
    obtain ⟨ha, hcp, rfl⟩ := Val.rowLen hown
    have hz := hbw.size
    simp only [World.size_alloc] at hz
    have hB := Val.alloc1 hbw
    obtain ⟨⟨r0, r1, r2⟩, k0, k1, k2⟩ := Val.row3' hbw
    by_cases hlt : i < n
    · have hil : i < vs.length := by rw [HN.out]; exact hlt
      have hilm : i < (vs.map (·.type)).length := by simpa using hil
      obtain ⟨g, rfl, hg, hcell⟩ := HC.out i hil
      have hq : ∀ m, m < 3 → wr.cell? ⟨g, i * 3 + m, none⟩ = (Val.vC vs[i])[m]? := fun m hm => by rw [hB.cell (p := ⟨g, i * 3 + m, none⟩) hg, hcell m hm]
      have HT : Hid (Val.ints ((vs.map (·.type)).take (i + 1)) = Val.ints ((vs.map (·.type)).take i) ++ [.int .i64 (vs[i]).type]) := by rw [Hid, Val.take_snoc _ i hilm]; simp
      have HVI : Hid (∀ b, Val.valid vs[i] = b → b = true → ∀ j (hj : j < vs.length), j < i + 1 → Val.valid vs[j] = true) := fun b hb1 hb2 j hj hji => by
        by_cases h : j < i
        · exact HV.out j hj h
        · have : j = i := by omega
          subst this; rw [hb1, hb2]
      have HF : Hid (Val.valid vs[i] = false → (Val.zero, Val.typeW) = r) := fun h => by
        rw [← HR.out, Val.built, if_neg]
        rintro ⟨_, _, hall, _⟩
        rw [List.all_eq_true] at hall
        have := hall vs[i] (List.getElem_mem hil)
        rw [h] at this; cases this
      generalize vs[i] = d at *
      have e0 := hq 0 (by omega); have e1 := hq 1 (by omega); have e2 := hq 2 (by omega)
      simp only [Val.vC, Nat.add_zero, List.getElem?_cons_zero, List.getElem?_cons_succ] at e0 e1 e2
      clear hq hcell HC HV
      obtain ⟨dt, dn, dx⟩ := d
      simp only at *
      cases hvd : Val.valid ⟨dt, dn, dx⟩ with
      | false =>
        have HVD : Hid (Val.valid ⟨dt, dn, dx⟩ = false) := hvd
        have HF2 : Hid ((Val.zero, Val.typeW) = r) := HF.out hvd
        clear hvd HF HVI
        go_wp2_with (go_at_call 11; (refine (Val.valid_is false ⟨dt, dn, dx⟩ HVD _).mono ?_; rintro e w1 ⟨rfl, hb1⟩; have hbw1 : Below (w.heap.size + 1) (w.alloc (.cells #[.int .i64 0, .int .i64 0, .string ⟨#[]⟩] 25)) w1 := (hbw.trans (hb1.mono (by omega))); obtain ⟨⟨s0, s1, s2⟩, l0, l1, l2⟩ := Val.row3' hbw1))
        rw [← HF2.out]
        exact bodyPost_ret (v := Val.ansV (Val.zero, Val.typeW)) (by simp [results, Tryz.results5, go_sem, s0, s1, s2, Val.ansV, Val.v, Val.zero, Val.typeW]) rfl ⟨rfl, Val.set3w (Val.alloc1 hbw1) _ _ _⟩
      | true =>
        have HVD : Hid (Val.valid ⟨dt, dn, dx⟩ = true) := hvd
        have HV2 : Hid (∀ j (hj : j < vs.length), j < i + 1 → Val.valid vs[j] = true) := HVI.out true hvd rfl
        clear hvd HF HVI
        go_wp2_with (first
          | (go_at_call 11; (refine (Val.valid_is true ⟨dt, dn, dx⟩ HVD _).mono ?_; rintro e w1 ⟨rfl, hb1⟩; have hbw1 : Below (w.heap.size + 1) (w.alloc (.cells #[.int .i64 0, .int .i64 0, .string ⟨#[]⟩] 25)) w1 := (hbw.trans (hb1.mono (by omega))); have own1 := Val.own_next hown hb1; have q0 : w1.cell? ⟨g, i * 3, none⟩ = some (.int .i64 dt) := (by rw [hb1.cell (p := ⟨g, i * 3, none⟩) (by simp only; omega)]; exact e0); have hzz := hb1.size))
          | (at_builtin; (refine wpList_append_own _ rfl _ _ 35 rfl (w.heap.size + 1) 3 i0 (.int .i64 0) 1 8 Tryz.underlying35 hi0 hz0 hz1 hz2 rfl (by decide) _ _ _ rfl (own1.alloc _) ⟨w1.heap.size, 0, none⟩ 1 1 [.int .i64 dt] rfl rfl (cell_one_new _ _ _) (Val.int_one _) (by unfold maxLen; omega) (by omega) (by simp; omega) ?_; intro v' w4 own4 g4 _)))
        have hb4 : Below (w.heap.size + 1) (w.alloc (.cells #[.int .i64 0, .int .i64 0, .string ⟨#[]⟩] 25)) w4 := Below.grown (hbw1.alloc (by omega) _) g4 (by simp; omega) (fun j hj => (own1.lt _ hj).1)
        go_roundw
        case rel => exact ⟨i + 1, _, by go_num, by omega, rfl, by rw [HT.out]; exact own4, HV2.out, hb4⟩
        case measure => simp [intOf]; omega
    · have hie : i = n := by omega
      subst hie
      obtain ⟨ts, HTS⟩ : ∃ ts, Hid (vs.map (·.type) = ts) := ⟨_, (rfl : _ = _)⟩
      have hts : ts.length = i := by rw [← HTS.out, List.length_map, HN.out]
      have hall : vs.all Val.valid = true := by
        rw [List.all_eq_true]
        intro x hx
        obtain ⟨j, hj, rfl⟩ := List.getElem_of_mem hx
        exact HV.out j hj (by rw [← HN.out]; exact hj)
      rw [HTS.out, List.take_of_length_le (by omega)] at hown
      have hIn : Val.IntsAt wr (.slice ha ts.length hcp) ts := Val.intsAt_own (by rw [hts]; exact hown)
      rw [hts] at hIn
      clear HV hown
      cases hf : Val.fitL (Val.want op) ts with
      | false =>
        have HF2 : Hid ((Val.zero, Val.typeW) = r) := by rw [Hid, ← HR.out, Val.built, if_neg]; rw [HTS.out, hf]; simp
        have HT : Hid (Val.builtT op ts = 0) := by rw [Hid, Val.builtT, hf]; rfl
        clear hf HC
        go_wp2_with (go_at_call 12; (refine (Val.l3Built_any op h6 h12 _ ts (by omega) _ hIn).mono ?_; rintro e w1 ⟨rfl, hb1⟩; rw [HT.out]; have hbw1 : Below (w.heap.size + 1) (w.alloc (.cells #[.int .i64 0, .int .i64 0, .string ⟨#[]⟩] 25)) w1 := (hbw.trans (hb1.mono (by omega))); obtain ⟨⟨s0, s1, s2⟩, l0, l1, l2⟩ := Val.row3' hbw1))
        rw [← HF2.out]
        exact bodyPost_ret (v := Val.ansV (Val.zero, Val.typeW)) (by simp [results, Tryz.results5, go_sem, s0, s1, s2, Val.ansV, Val.v, Val.zero, Val.typeW]) rfl ⟨rfl, Val.set3w (Val.alloc1 hbw1) _ _ _⟩
      | true =>
        have HOK : Hid (Val.builtOk op vs = r) := by rw [Hid, ← HR.out, Val.built, if_pos ⟨h6, h12, hall, by rw [HTS.out]; exact hf⟩]
        obtain ⟨G, HG⟩ : ∃ G, Hid (Val.gives op = G) := ⟨_, (rfl : _ = _)⟩
        have hG0 : ¬ G = 0 := by rw [← HG.out]; exact Val.gives_ne op
        have HT : Hid (Val.builtT op ts = G) := by rw [Hid, Val.builtT, hf, HG.out]; rfl
        have hlen := Val.fitL_len _ _ hf
        have hop : op = 6 ∨ op = 7 ∨ op = 8 ∨ op = 9 ∨ op = 10 ∨ op = 11 ∨ op = 12 := by omega
        rcases hop with rfl | rfl | rfl | rfl | rfl | rfl | rfl
        · have hlen1 : vs.length = 1 := by rw [← HTS.out, List.length_map] at hlen; exact hlen.symm
          obtain ⟨x, rfl⟩ := Val.len1 hlen1
          have hi1 : 1 = i := HN.out
          subst hi1
          obtain ⟨g, rfl, hg, hcell⟩ := HC.out 0 (by simp)
          have hq0 : ∀ m, m < 3 → wr.cell? ⟨g, 0 + m, none⟩ = (Val.vC x)[m]? := fun m hm => by rw [hB.cell (p := ⟨g, 0 + m, none⟩) hg]; exact hcell m hm
          have e0 := hq0 0 (by omega)
          have e1 := hq0 1 (by omega)
          have e2 := hq0 2 (by omega)
          simp only [Val.vC, List.getElem?_cons_zero, List.getElem?_cons_succ, Nat.reduceAdd] at e0 e1 e2
          have htt : ts = [x.type] := HTS.out.symm
          rw [htt] at hf
          have hft : Hid (Val.fitL (Val.want 6) [x.type] = true) := hf
          have hav : Hid ([x].all Val.valid = true) := hall
          clear hf
          have hsz : x.text.size ≤ 3000 := (Val.first_text 6 x [] (by decide) hft.out hav.out)
          clear hcell HC hall hq0
          obtain ⟨xt, xn, xx⟩ := x
          simp only at *
          have hok : (⟨10, (xx.size : Int), ⟨#[]⟩⟩, ⟨#[]⟩) = r := HOK.out
          go_wp2_with (go_at_call 12; (refine (Val.l3Built_any 6 h6 h12 _ ts (by omega) _ hIn).mono ?_; rintro e w1 ⟨rfl, hb1⟩; rw [HT.out]; have hbw1 : Below (w.heap.size + 1) (w.alloc (.cells #[.int .i64 0, .int .i64 0, .string ⟨#[]⟩] 25)) w1 := (hbw.trans (hb1.mono (by omega))); have hbo : ∀ ob : Obj, Below (w.heap.size + 1) (w.alloc (.cells #[.int .i64 0, .int .i64 0, .string ⟨#[]⟩] 25)) (w1.alloc ob) := (fun ob => hbw1.alloc (by have := hb1.size; omega) ob); have s0 := (fun ob => (Val.row3' (hbo ob)).1.1); have s1 := (fun ob => (Val.row3' (hbo ob)).1.2.1); have s2 := (fun ob => (Val.row3' (hbo ob)).1.2.2); have l0 := (fun ob => (Val.row3' (hbo ob)).2.1); have l1 := (fun ob => (Val.row3' (hbo ob)).2.2.1); have l2 := (fun ob => (Val.row3' (hbo ob)).2.2.2); have HBO : Hid (∀ ob : Obj, Below (w.heap.size + 1) (w.alloc (.cells #[.int .i64 0, .int .i64 0, .string ⟨#[]⟩] 25)) (w1.alloc ob)) := hbo; clear hbo; have q0 : w1.cell? ⟨g, 0, none⟩ = _ := (hb1.cell (p := ⟨g, 0, none⟩) (by simp only; omega)).trans e0; have q1 : w1.cell? ⟨g, 1, none⟩ = _ := (hb1.cell (p := ⟨g, 1, none⟩) (by simp only; omega)).trans e1; have q2 : w1.cell? ⟨g, 2, none⟩ = _ := (hb1.cell (p := ⟨g, 2, none⟩) (by simp only; omega)).trans e2))
          rw [← hok]
          exact bodyPost_ret (v := Val.ansV (⟨10, (xx.size : Int), ⟨#[]⟩⟩, ⟨#[]⟩)) (by simp [results, Tryz.results5, go_sem, s0, s1, s2, Val.ansV, Val.v]) rfl ⟨rfl, Val.set3w (Val.alloc1 (HBO.out _)) _ _ _⟩
        · have hlen1 : vs.length = 2 := by rw [← HTS.out, List.length_map] at hlen; exact hlen.symm
          obtain ⟨x, y, rfl⟩ := Val.len2 hlen1
          have hi1 : 2 = i := HN.out
          subst hi1
          obtain ⟨g, rfl, hg, hcell⟩ := HC.out 0 (by simp)
          have hq0 : ∀ m, m < 3 → wr.cell? ⟨g, 0 + m, none⟩ = (Val.vC x)[m]? := fun m hm => by rw [hB.cell (p := ⟨g, 0 + m, none⟩) hg]; exact hcell m hm
          obtain ⟨g1, hg1, _, hcell1⟩ := HC.out 1 (by simp)
          have hgg1 : g = g1 := by injection hg1 with h1; injection h1
          subst hgg1
          have hq1 : ∀ m, m < 3 → wr.cell? ⟨g, 3 + m, none⟩ = (Val.vC y)[m]? := fun m hm => by rw [hB.cell (p := ⟨g, 3 + m, none⟩) hg]; exact hcell1 m hm
          have e0 := hq0 0 (by omega)
          have e1 := hq0 1 (by omega)
          have e2 := hq0 2 (by omega)
          have e3 := hq1 0 (by omega)
          have e4 := hq1 1 (by omega)
          have e5 := hq1 2 (by omega)
          simp only [Val.vC, List.getElem?_cons_zero, List.getElem?_cons_succ, Nat.reduceAdd] at e0 e1 e2 e3 e4 e5
          have htt : ts = [x.type, y.type] := HTS.out.symm
          rw [htt] at hf
          have hft : Hid (Val.fitL (Val.want 7) [x.type, y.type] = true) := hf
          have hav : Hid ([x, y].all Val.valid = true) := hall
          clear hf
          have hsz : x.text.size ≤ 3000 := (Val.first_text 7 x [y] (by decide) hft.out hav.out)
          clear hcell HC hall hq0 hq1 hg1 hcell1
          obtain ⟨xt, xn, xx⟩ := x
          obtain ⟨yt, yn, yx⟩ := y
          simp only at *
          have h3 : yn < 0 ∨ (0 ≤ yn ∧ yn < (xx.size : Int)) ∨ (0 ≤ yn ∧ (xx.size : Int) ≤ yn) := by omega
          rcases h3 with h3 | ⟨h3, h4⟩ | ⟨h3, h4⟩
          · have hd : decide (yn < 0) = true := decide_eq_true h3
            have hok : (Val.zero, Val.rangeW) = r := by rw [← HOK.out]; simp [Val.builtOk]; omega
            go_wp2_with (go_at_call 12; (refine (Val.l3Built_any 7 h6 h12 _ ts (by omega) _ hIn).mono ?_; rintro e w1 ⟨rfl, hb1⟩; rw [HT.out]; have hbw1 : Below (w.heap.size + 1) (w.alloc (.cells #[.int .i64 0, .int .i64 0, .string ⟨#[]⟩] 25)) w1 := (hbw.trans (hb1.mono (by omega))); have hbo : ∀ ob : Obj, Below (w.heap.size + 1) (w.alloc (.cells #[.int .i64 0, .int .i64 0, .string ⟨#[]⟩] 25)) (w1.alloc ob) := (fun ob => hbw1.alloc (by have := hb1.size; omega) ob); have s0 := (fun ob => (Val.row3' (hbo ob)).1.1); have s1 := (fun ob => (Val.row3' (hbo ob)).1.2.1); have s2 := (fun ob => (Val.row3' (hbo ob)).1.2.2); have l0 := (fun ob => (Val.row3' (hbo ob)).2.1); have l1 := (fun ob => (Val.row3' (hbo ob)).2.2.1); have l2 := (fun ob => (Val.row3' (hbo ob)).2.2.2); have HBO : Hid (∀ ob : Obj, Below (w.heap.size + 1) (w.alloc (.cells #[.int .i64 0, .int .i64 0, .string ⟨#[]⟩] 25)) (w1.alloc ob)) := hbo; clear hbo; have q0 : w1.cell? ⟨g, 0, none⟩ = _ := (hb1.cell (p := ⟨g, 0, none⟩) (by simp only; omega)).trans e0; have q1 : w1.cell? ⟨g, 1, none⟩ = _ := (hb1.cell (p := ⟨g, 1, none⟩) (by simp only; omega)).trans e1; have q2 : w1.cell? ⟨g, 2, none⟩ = _ := (hb1.cell (p := ⟨g, 2, none⟩) (by simp only; omega)).trans e2; have q3 : w1.cell? ⟨g, 3, none⟩ = _ := (hb1.cell (p := ⟨g, 3, none⟩) (by simp only; omega)).trans e3; have q4 : w1.cell? ⟨g, 4, none⟩ = _ := (hb1.cell (p := ⟨g, 4, none⟩) (by simp only; omega)).trans e4; have q5 : w1.cell? ⟨g, 5, none⟩ = _ := (hb1.cell (p := ⟨g, 5, none⟩) (by simp only; omega)).trans e5; have p0 := (fun ob : Obj => ((hb1.alloc hb1.size ob).cell (p := ⟨g, 0, none⟩) (by simp only; omega)).trans e0); have p1 := (fun ob : Obj => ((hb1.alloc hb1.size ob).cell (p := ⟨g, 1, none⟩) (by simp only; omega)).trans e1); have p2 := (fun ob : Obj => ((hb1.alloc hb1.size ob).cell (p := ⟨g, 2, none⟩) (by simp only; omega)).trans e2); have p3 := (fun ob : Obj => ((hb1.alloc hb1.size ob).cell (p := ⟨g, 3, none⟩) (by simp only; omega)).trans e3); have p4 := (fun ob : Obj => ((hb1.alloc hb1.size ob).cell (p := ⟨g, 4, none⟩) (by simp only; omega)).trans e4); have p5 := (fun ob : Obj => ((hb1.alloc hb1.size ob).cell (p := ⟨g, 5, none⟩) (by simp only; omega)).trans e5)))
            go_quiet (fail)
            go_wp2
            rw [← hok]
            exact bodyPost_ret (v := Val.ansV (Val.zero, Val.rangeW)) (by simp [results, Tryz.results5, go_sem, s0, s1, s2, Val.ansV, Val.v, Val.zero, Val.rangeW]) rfl ⟨rfl, Val.below_drewN _ (Val.set3w (Val.alloc1 (HBO.out _)) _ _ _)⟩
          · have hd : decide (yn < 0) = false := decide_eq_false (by omega)
            have hd2 : decide ((xx.size : Int) ≤ yn) = false := decide_eq_false (by omega)
            obtain ⟨k, rfl⟩ : ∃ k : Nat, yn = (k : Int) := ⟨yn.toNat, by omega⟩
            have hkx : k < xx.size := by omega
            have hok : (⟨3, ((xx[k]).toNat : Int), ⟨#[]⟩⟩, ⟨#[]⟩) = r := by rw [← HOK.out]; simp [Val.builtOk, Val.byteAt_get xx k hkx, h4]
            go_wp2_with (go_at_call 12; (refine (Val.l3Built_any 7 h6 h12 _ ts (by omega) _ hIn).mono ?_; rintro e w1 ⟨rfl, hb1⟩; rw [HT.out]; have hbw1 : Below (w.heap.size + 1) (w.alloc (.cells #[.int .i64 0, .int .i64 0, .string ⟨#[]⟩] 25)) w1 := (hbw.trans (hb1.mono (by omega))); have hbo : ∀ ob : Obj, Below (w.heap.size + 1) (w.alloc (.cells #[.int .i64 0, .int .i64 0, .string ⟨#[]⟩] 25)) (w1.alloc ob) := (fun ob => hbw1.alloc (by have := hb1.size; omega) ob); have s0 := (fun ob => (Val.row3' (hbo ob)).1.1); have s1 := (fun ob => (Val.row3' (hbo ob)).1.2.1); have s2 := (fun ob => (Val.row3' (hbo ob)).1.2.2); have l0 := (fun ob => (Val.row3' (hbo ob)).2.1); have l1 := (fun ob => (Val.row3' (hbo ob)).2.2.1); have l2 := (fun ob => (Val.row3' (hbo ob)).2.2.2); have HBO : Hid (∀ ob : Obj, Below (w.heap.size + 1) (w.alloc (.cells #[.int .i64 0, .int .i64 0, .string ⟨#[]⟩] 25)) (w1.alloc ob)) := hbo; clear hbo; have q0 : w1.cell? ⟨g, 0, none⟩ = _ := (hb1.cell (p := ⟨g, 0, none⟩) (by simp only; omega)).trans e0; have q1 : w1.cell? ⟨g, 1, none⟩ = _ := (hb1.cell (p := ⟨g, 1, none⟩) (by simp only; omega)).trans e1; have q2 : w1.cell? ⟨g, 2, none⟩ = _ := (hb1.cell (p := ⟨g, 2, none⟩) (by simp only; omega)).trans e2; have q3 : w1.cell? ⟨g, 3, none⟩ = _ := (hb1.cell (p := ⟨g, 3, none⟩) (by simp only; omega)).trans e3; have q4 : w1.cell? ⟨g, 4, none⟩ = _ := (hb1.cell (p := ⟨g, 4, none⟩) (by simp only; omega)).trans e4; have q5 : w1.cell? ⟨g, 5, none⟩ = _ := (hb1.cell (p := ⟨g, 5, none⟩) (by simp only; omega)).trans e5; have p0 := (fun ob : Obj => ((hb1.alloc hb1.size ob).cell (p := ⟨g, 0, none⟩) (by simp only; omega)).trans e0); have p1 := (fun ob : Obj => ((hb1.alloc hb1.size ob).cell (p := ⟨g, 1, none⟩) (by simp only; omega)).trans e1); have p2 := (fun ob : Obj => ((hb1.alloc hb1.size ob).cell (p := ⟨g, 2, none⟩) (by simp only; omega)).trans e2); have p3 := (fun ob : Obj => ((hb1.alloc hb1.size ob).cell (p := ⟨g, 3, none⟩) (by simp only; omega)).trans e3); have p4 := (fun ob : Obj => ((hb1.alloc hb1.size ob).cell (p := ⟨g, 4, none⟩) (by simp only; omega)).trans e4); have p5 := (fun ob : Obj => ((hb1.alloc hb1.size ob).cell (p := ⟨g, 5, none⟩) (by simp only; omega)).trans e5)))
            have pa2 : (w1.alloc (.cells #[.int .i64 xt, .int .i64 xn, .string xx] 25)).cell? ⟨w1.heap.size, 2, none⟩ = some (.string xx) := by simp [go_sem]
            have hww : w.heap.size < w1.heap.size := by have := hbw1.size; simp at this; omega
            go_quiet (fail)
            go_wp2_with fail
            go_region_held3 (fun w' => w'.cell? ⟨w1.heap.size, 2, none⟩ = some (.string xx) ∧ w'.cell? ⟨g, 4, none⟩ = some (.int .i64 (k : Int))) (first | (exact ⟨by simp, by simpa using p4 _⟩) | (exact ⟨Val.set3o (by omega) (by simp), Val.set3o (by omega) (by simpa using p4 _)⟩)) (fail)
            go_wp2
            rw [← hok]
            exact bodyPost_ret (v := Val.ansV (⟨3, ((xx[k]).toNat : Int), ⟨#[]⟩⟩, ⟨#[]⟩)) (by simp [results, Tryz.results5, go_sem, s0, s1, s2, Val.wrapI64, Val.ansV, Val.v]) rfl ⟨rfl, Val.set3w ((Val.below_drewN _ (Val.alloc1 (HBO.out _))).drew) _ _ _⟩
          · have hd : decide (yn < 0) = false := decide_eq_false (by omega)
            have hd2 : decide ((xx.size : Int) ≤ yn) = true := decide_eq_true h4
            have hok : (Val.zero, Val.rangeW) = r := by rw [← HOK.out]; simp [Val.builtOk]; omega
            go_wp2_with (go_at_call 12; (refine (Val.l3Built_any 7 h6 h12 _ ts (by omega) _ hIn).mono ?_; rintro e w1 ⟨rfl, hb1⟩; rw [HT.out]; have hbw1 : Below (w.heap.size + 1) (w.alloc (.cells #[.int .i64 0, .int .i64 0, .string ⟨#[]⟩] 25)) w1 := (hbw.trans (hb1.mono (by omega))); have hbo : ∀ ob : Obj, Below (w.heap.size + 1) (w.alloc (.cells #[.int .i64 0, .int .i64 0, .string ⟨#[]⟩] 25)) (w1.alloc ob) := (fun ob => hbw1.alloc (by have := hb1.size; omega) ob); have s0 := (fun ob => (Val.row3' (hbo ob)).1.1); have s1 := (fun ob => (Val.row3' (hbo ob)).1.2.1); have s2 := (fun ob => (Val.row3' (hbo ob)).1.2.2); have l0 := (fun ob => (Val.row3' (hbo ob)).2.1); have l1 := (fun ob => (Val.row3' (hbo ob)).2.2.1); have l2 := (fun ob => (Val.row3' (hbo ob)).2.2.2); have HBO : Hid (∀ ob : Obj, Below (w.heap.size + 1) (w.alloc (.cells #[.int .i64 0, .int .i64 0, .string ⟨#[]⟩] 25)) (w1.alloc ob)) := hbo; clear hbo; have q0 : w1.cell? ⟨g, 0, none⟩ = _ := (hb1.cell (p := ⟨g, 0, none⟩) (by simp only; omega)).trans e0; have q1 : w1.cell? ⟨g, 1, none⟩ = _ := (hb1.cell (p := ⟨g, 1, none⟩) (by simp only; omega)).trans e1; have q2 : w1.cell? ⟨g, 2, none⟩ = _ := (hb1.cell (p := ⟨g, 2, none⟩) (by simp only; omega)).trans e2; have q3 : w1.cell? ⟨g, 3, none⟩ = _ := (hb1.cell (p := ⟨g, 3, none⟩) (by simp only; omega)).trans e3; have q4 : w1.cell? ⟨g, 4, none⟩ = _ := (hb1.cell (p := ⟨g, 4, none⟩) (by simp only; omega)).trans e4; have q5 : w1.cell? ⟨g, 5, none⟩ = _ := (hb1.cell (p := ⟨g, 5, none⟩) (by simp only; omega)).trans e5; have p0 := (fun ob : Obj => ((hb1.alloc hb1.size ob).cell (p := ⟨g, 0, none⟩) (by simp only; omega)).trans e0); have p1 := (fun ob : Obj => ((hb1.alloc hb1.size ob).cell (p := ⟨g, 1, none⟩) (by simp only; omega)).trans e1); have p2 := (fun ob : Obj => ((hb1.alloc hb1.size ob).cell (p := ⟨g, 2, none⟩) (by simp only; omega)).trans e2); have p3 := (fun ob : Obj => ((hb1.alloc hb1.size ob).cell (p := ⟨g, 3, none⟩) (by simp only; omega)).trans e3); have p4 := (fun ob : Obj => ((hb1.alloc hb1.size ob).cell (p := ⟨g, 4, none⟩) (by simp only; omega)).trans e4); have p5 := (fun ob : Obj => ((hb1.alloc hb1.size ob).cell (p := ⟨g, 5, none⟩) (by simp only; omega)).trans e5)))
            go_quiet (fail)
            go_wp2
            rw [← hok]
            exact bodyPost_ret (v := Val.ansV (Val.zero, Val.rangeW)) (by simp [results, Tryz.results5, go_sem, s0, s1, s2, Val.ansV, Val.v, Val.zero, Val.rangeW]) rfl ⟨rfl, Val.below_drewN _ (Val.set3w (Val.alloc1 (HBO.out _)) _ _ _)⟩
        · have hlen1 : vs.length = 3 := by rw [← HTS.out, List.length_map] at hlen; exact hlen.symm
          obtain ⟨x, y, z, rfl⟩ := Val.len3 hlen1
          have hi1 : 3 = i := HN.out
          subst hi1
          obtain ⟨g, rfl, hg, hcell⟩ := HC.out 0 (by simp)
          have hq0 : ∀ m, m < 3 → wr.cell? ⟨g, 0 + m, none⟩ = (Val.vC x)[m]? := fun m hm => by rw [hB.cell (p := ⟨g, 0 + m, none⟩) hg]; exact hcell m hm
          obtain ⟨g1, hg1, _, hcell1⟩ := HC.out 1 (by simp)
          have hgg1 : g = g1 := by injection hg1 with h1; injection h1
          subst hgg1
          have hq1 : ∀ m, m < 3 → wr.cell? ⟨g, 3 + m, none⟩ = (Val.vC y)[m]? := fun m hm => by rw [hB.cell (p := ⟨g, 3 + m, none⟩) hg]; exact hcell1 m hm
          obtain ⟨g2, hg2, _, hcell2⟩ := HC.out 2 (by simp)
          have hgg2 : g = g2 := by injection hg2 with h1; injection h1
          subst hgg2
          have hq2 : ∀ m, m < 3 → wr.cell? ⟨g, 6 + m, none⟩ = (Val.vC z)[m]? := fun m hm => by rw [hB.cell (p := ⟨g, 6 + m, none⟩) hg]; exact hcell2 m hm
          have e0 := hq0 0 (by omega)
          have e1 := hq0 1 (by omega)
          have e2 := hq0 2 (by omega)
          have e3 := hq1 0 (by omega)
          have e4 := hq1 1 (by omega)
          have e5 := hq1 2 (by omega)
          have e6 := hq2 0 (by omega)
          have e7 := hq2 1 (by omega)
          have e8 := hq2 2 (by omega)
          simp only [Val.vC, List.getElem?_cons_zero, List.getElem?_cons_succ, Nat.reduceAdd] at e0 e1 e2 e3 e4 e5 e6 e7 e8
          have htt : ts = [x.type, y.type, z.type] := HTS.out.symm
          rw [htt] at hf
          have hft : Hid (Val.fitL (Val.want 8) [x.type, y.type, z.type] = true) := hf
          have hav : Hid ([x, y, z].all Val.valid = true) := hall
          clear hf
          have hsz : x.text.size ≤ 3000 := (Val.first_text 8 x [y, z] (by decide) hft.out hav.out)
          clear hcell HC hall hq0 hq1 hq2 hg1 hcell1 hg2 hcell2
          obtain ⟨xt, xn, xx⟩ := x
          obtain ⟨yt, yn, yx⟩ := y
          obtain ⟨zt, zn, zx⟩ := z
          simp only at *
          by_cases hc : 0 ≤ yn ∧ yn ≤ zn ∧ zn ≤ (xx.size : Int)
          · obtain ⟨i, rfl⟩ : ∃ i : Nat, yn = (i : Int) := ⟨yn.toNat, by omega⟩
            obtain ⟨j, rfl⟩ : ∃ j : Nat, zn = (j : Int) := ⟨zn.toNat, by omega⟩
            have hc1 : i ≤ j := by omega
            have hc2 : j ≤ xx.size := by omega
            have hok : (⟨2, 0, xx.extract i j⟩, ⟨#[]⟩) = r := by rw [← HOK.out]; simp [Val.builtOk, hc1, hc2]
            go_wp2_with (go_at_call 12; (refine (Val.l3Built_any 8 h6 h12 _ ts (by omega) _ hIn).mono ?_; rintro e w1 ⟨rfl, hb1⟩; rw [HT.out]; have hbw1 : Below (w.heap.size + 1) (w.alloc (.cells #[.int .i64 0, .int .i64 0, .string ⟨#[]⟩] 25)) w1 := (hbw.trans (hb1.mono (by omega))); have hbo : ∀ ob : Obj, Below (w.heap.size + 1) (w.alloc (.cells #[.int .i64 0, .int .i64 0, .string ⟨#[]⟩] 25)) (w1.alloc ob) := (fun ob => hbw1.alloc (by have := hb1.size; omega) ob); have s0 := (fun ob => (Val.row3' (hbo ob)).1.1); have s1 := (fun ob => (Val.row3' (hbo ob)).1.2.1); have s2 := (fun ob => (Val.row3' (hbo ob)).1.2.2); have l0 := (fun ob => (Val.row3' (hbo ob)).2.1); have l1 := (fun ob => (Val.row3' (hbo ob)).2.2.1); have l2 := (fun ob => (Val.row3' (hbo ob)).2.2.2); have HBO : Hid (∀ ob : Obj, Below (w.heap.size + 1) (w.alloc (.cells #[.int .i64 0, .int .i64 0, .string ⟨#[]⟩] 25)) (w1.alloc ob)) := hbo; clear hbo; have q0 : w1.cell? ⟨g, 0, none⟩ = _ := (hb1.cell (p := ⟨g, 0, none⟩) (by simp only; omega)).trans e0; have q1 : w1.cell? ⟨g, 1, none⟩ = _ := (hb1.cell (p := ⟨g, 1, none⟩) (by simp only; omega)).trans e1; have q2 : w1.cell? ⟨g, 2, none⟩ = _ := (hb1.cell (p := ⟨g, 2, none⟩) (by simp only; omega)).trans e2; have q3 : w1.cell? ⟨g, 3, none⟩ = _ := (hb1.cell (p := ⟨g, 3, none⟩) (by simp only; omega)).trans e3; have q4 : w1.cell? ⟨g, 4, none⟩ = _ := (hb1.cell (p := ⟨g, 4, none⟩) (by simp only; omega)).trans e4; have q5 : w1.cell? ⟨g, 5, none⟩ = _ := (hb1.cell (p := ⟨g, 5, none⟩) (by simp only; omega)).trans e5; have q6 : w1.cell? ⟨g, 6, none⟩ = _ := (hb1.cell (p := ⟨g, 6, none⟩) (by simp only; omega)).trans e6; have q7 : w1.cell? ⟨g, 7, none⟩ = _ := (hb1.cell (p := ⟨g, 7, none⟩) (by simp only; omega)).trans e7; have q8 : w1.cell? ⟨g, 8, none⟩ = _ := (hb1.cell (p := ⟨g, 8, none⟩) (by simp only; omega)).trans e8; have p0 := (fun ob : Obj => ((hb1.alloc hb1.size ob).cell (p := ⟨g, 0, none⟩) (by simp only; omega)).trans e0); have p1 := (fun ob : Obj => ((hb1.alloc hb1.size ob).cell (p := ⟨g, 1, none⟩) (by simp only; omega)).trans e1); have p2 := (fun ob : Obj => ((hb1.alloc hb1.size ob).cell (p := ⟨g, 2, none⟩) (by simp only; omega)).trans e2); have p3 := (fun ob : Obj => ((hb1.alloc hb1.size ob).cell (p := ⟨g, 3, none⟩) (by simp only; omega)).trans e3); have p4 := (fun ob : Obj => ((hb1.alloc hb1.size ob).cell (p := ⟨g, 4, none⟩) (by simp only; omega)).trans e4); have p5 := (fun ob : Obj => ((hb1.alloc hb1.size ob).cell (p := ⟨g, 5, none⟩) (by simp only; omega)).trans e5); have p6 := (fun ob : Obj => ((hb1.alloc hb1.size ob).cell (p := ⟨g, 6, none⟩) (by simp only; omega)).trans e6); have p7 := (fun ob : Obj => ((hb1.alloc hb1.size ob).cell (p := ⟨g, 7, none⟩) (by simp only; omega)).trans e7); have p8 := (fun ob : Obj => ((hb1.alloc hb1.size ob).cell (p := ⟨g, 8, none⟩) (by simp only; omega)).trans e8); have pa2 : (w1.alloc (.cells #[.int .i64 xt, .int .i64 xn, .string xx] 25)).cell? ⟨w1.heap.size, 2, none⟩ = some (.string xx) := (by simp [go_sem]); have hww : w.heap.size < w1.heap.size := (by have := hbw1.size; simp at this; omega)))
            go_region_held3 (fun w' => w'.cell? ⟨w1.heap.size, 2, none⟩ = some (.string xx) ∧ w'.cell? ⟨g, 4, none⟩ = some (.int .i64 (i : Int)) ∧ w'.cell? ⟨g, 7, none⟩ = some (.int .i64 (j : Int))) (first | (exact ⟨pa2, p4 _, p7 _⟩) | (exact ⟨z0, z4, z7⟩) | (exact ⟨Val.set3o (by omega) z0, Val.set3o (by omega) z4, Val.set3o (by omega) z7⟩)) (first | (go_at_call 13; refine (Val.l4Cut_y xx i j hc1 hc2 _).mono ?_; rintro e w2 ⟨rfl, hb2⟩; have hbw2 : Below (w.heap.size + 1) (w.alloc (.cells #[.int .i64 0, .int .i64 0, .string ⟨#[]⟩] 25)) w2 := ((HBO.out _).drew.trans (hb2.mono (by have := (HBO.out (.cells #[.int .i64 xt, .int .i64 xn, .string xx] 25)).size; simpa using this))); obtain ⟨⟨t0, t1, t2⟩, m0, m1, m2⟩ := Val.row3' hbw2; have z0 : w2.cell? ⟨w1.heap.size, 2, none⟩ = some (.string xx) := ((hb2.cell (p := ⟨w1.heap.size, 2, none⟩) (by simp)).trans pa2); have z4 : w2.cell? ⟨g, 4, none⟩ = _ := ((hb2.cell (p := ⟨g, 4, none⟩) (by simp; omega)).trans (p4 _)); have z7 : w2.cell? ⟨g, 7, none⟩ = _ := ((hb2.cell (p := ⟨g, 7, none⟩) (by simp; omega)).trans (p7 _))))
            go_wp2
            rw [← hok]
            exact bodyPost_ret (v := Val.ansV (⟨2, 0, xx.extract i j⟩, ⟨#[]⟩)) (by simp [results, Tryz.results5, go_sem, t0, t1, t2, Val.ansV, Val.v]) rfl ⟨rfl, Val.set3w (Val.alloc1 hbw2) _ _ _⟩
          · have hok : (Val.zero, Val.rangeW) = r := by rw [← HOK.out]; simp [Val.builtOk]; omega
            go_wp2_with (go_at_call 12; (refine (Val.l3Built_any 8 h6 h12 _ ts (by omega) _ hIn).mono ?_; rintro e w1 ⟨rfl, hb1⟩; rw [HT.out]; have hbw1 : Below (w.heap.size + 1) (w.alloc (.cells #[.int .i64 0, .int .i64 0, .string ⟨#[]⟩] 25)) w1 := (hbw.trans (hb1.mono (by omega))); have hbo : ∀ ob : Obj, Below (w.heap.size + 1) (w.alloc (.cells #[.int .i64 0, .int .i64 0, .string ⟨#[]⟩] 25)) (w1.alloc ob) := (fun ob => hbw1.alloc (by have := hb1.size; omega) ob); have s0 := (fun ob => (Val.row3' (hbo ob)).1.1); have s1 := (fun ob => (Val.row3' (hbo ob)).1.2.1); have s2 := (fun ob => (Val.row3' (hbo ob)).1.2.2); have l0 := (fun ob => (Val.row3' (hbo ob)).2.1); have l1 := (fun ob => (Val.row3' (hbo ob)).2.2.1); have l2 := (fun ob => (Val.row3' (hbo ob)).2.2.2); have HBO : Hid (∀ ob : Obj, Below (w.heap.size + 1) (w.alloc (.cells #[.int .i64 0, .int .i64 0, .string ⟨#[]⟩] 25)) (w1.alloc ob)) := hbo; clear hbo; have q0 : w1.cell? ⟨g, 0, none⟩ = _ := (hb1.cell (p := ⟨g, 0, none⟩) (by simp only; omega)).trans e0; have q1 : w1.cell? ⟨g, 1, none⟩ = _ := (hb1.cell (p := ⟨g, 1, none⟩) (by simp only; omega)).trans e1; have q2 : w1.cell? ⟨g, 2, none⟩ = _ := (hb1.cell (p := ⟨g, 2, none⟩) (by simp only; omega)).trans e2; have q3 : w1.cell? ⟨g, 3, none⟩ = _ := (hb1.cell (p := ⟨g, 3, none⟩) (by simp only; omega)).trans e3; have q4 : w1.cell? ⟨g, 4, none⟩ = _ := (hb1.cell (p := ⟨g, 4, none⟩) (by simp only; omega)).trans e4; have q5 : w1.cell? ⟨g, 5, none⟩ = _ := (hb1.cell (p := ⟨g, 5, none⟩) (by simp only; omega)).trans e5; have q6 : w1.cell? ⟨g, 6, none⟩ = _ := (hb1.cell (p := ⟨g, 6, none⟩) (by simp only; omega)).trans e6; have q7 : w1.cell? ⟨g, 7, none⟩ = _ := (hb1.cell (p := ⟨g, 7, none⟩) (by simp only; omega)).trans e7; have q8 : w1.cell? ⟨g, 8, none⟩ = _ := (hb1.cell (p := ⟨g, 8, none⟩) (by simp only; omega)).trans e8; have p0 := (fun ob : Obj => ((hb1.alloc hb1.size ob).cell (p := ⟨g, 0, none⟩) (by simp only; omega)).trans e0); have p1 := (fun ob : Obj => ((hb1.alloc hb1.size ob).cell (p := ⟨g, 1, none⟩) (by simp only; omega)).trans e1); have p2 := (fun ob : Obj => ((hb1.alloc hb1.size ob).cell (p := ⟨g, 2, none⟩) (by simp only; omega)).trans e2); have p3 := (fun ob : Obj => ((hb1.alloc hb1.size ob).cell (p := ⟨g, 3, none⟩) (by simp only; omega)).trans e3); have p4 := (fun ob : Obj => ((hb1.alloc hb1.size ob).cell (p := ⟨g, 4, none⟩) (by simp only; omega)).trans e4); have p5 := (fun ob : Obj => ((hb1.alloc hb1.size ob).cell (p := ⟨g, 5, none⟩) (by simp only; omega)).trans e5); have p6 := (fun ob : Obj => ((hb1.alloc hb1.size ob).cell (p := ⟨g, 6, none⟩) (by simp only; omega)).trans e6); have p7 := (fun ob : Obj => ((hb1.alloc hb1.size ob).cell (p := ⟨g, 7, none⟩) (by simp only; omega)).trans e7); have p8 := (fun ob : Obj => ((hb1.alloc hb1.size ob).cell (p := ⟨g, 8, none⟩) (by simp only; omega)).trans e8); have pa2 : (w1.alloc (.cells #[.int .i64 xt, .int .i64 xn, .string xx] 25)).cell? ⟨w1.heap.size, 2, none⟩ = some (.string xx) := (by simp [go_sem]); have hww : w.heap.size < w1.heap.size := (by have := hbw1.size; simp at this; omega)))
            go_region_held3 (fun w' => w'.cell? ⟨w1.heap.size, 2, none⟩ = some (.string xx) ∧ w'.cell? ⟨g, 4, none⟩ = some (.int .i64 yn) ∧ w'.cell? ⟨g, 7, none⟩ = some (.int .i64 zn)) (first | (exact ⟨pa2, p4 _, p7 _⟩) | (exact ⟨z0, z4, z7⟩) | (exact ⟨Val.set3o (by omega) z0, Val.set3o (by omega) z4, Val.set3o (by omega) z7⟩)) (first | (go_at_call 13; refine (Val.l4Cut_n xx yn zn hc _).mono ?_; rintro e w2 ⟨rfl, hb2⟩; have hbw2 : Below (w.heap.size + 1) (w.alloc (.cells #[.int .i64 0, .int .i64 0, .string ⟨#[]⟩] 25)) w2 := ((HBO.out _).drew.trans (hb2.mono (by have := (HBO.out (.cells #[.int .i64 xt, .int .i64 xn, .string xx] 25)).size; simpa using this))); obtain ⟨⟨t0, t1, t2⟩, m0, m1, m2⟩ := Val.row3' hbw2; have z0 : w2.cell? ⟨w1.heap.size, 2, none⟩ = some (.string xx) := ((hb2.cell (p := ⟨w1.heap.size, 2, none⟩) (by simp)).trans pa2); have z4 : w2.cell? ⟨g, 4, none⟩ = _ := ((hb2.cell (p := ⟨g, 4, none⟩) (by simp; omega)).trans (p4 _)); have z7 : w2.cell? ⟨g, 7, none⟩ = _ := ((hb2.cell (p := ⟨g, 7, none⟩) (by simp; omega)).trans (p7 _))))
            go_wp2
            rw [← hok]
            exact bodyPost_ret (v := Val.ansV (Val.zero, Val.rangeW)) (by simp [results, Tryz.results5, go_sem, t0, t1, t2, Val.ansV, Val.v, Val.zero, Val.rangeW]) rfl ⟨rfl, Val.set3w (Val.alloc1 hbw2) _ _ _⟩
        · have hlen1 : vs.length = 2 := by rw [← HTS.out, List.length_map] at hlen; exact hlen.symm
          obtain ⟨x, y, rfl⟩ := Val.len2 hlen1
          have hi1 : 2 = i := HN.out
          subst hi1
          obtain ⟨g, rfl, hg, hcell⟩ := HC.out 0 (by simp)
          have hq0 : ∀ m, m < 3 → wr.cell? ⟨g, 0 + m, none⟩ = (Val.vC x)[m]? := fun m hm => by rw [hB.cell (p := ⟨g, 0 + m, none⟩) hg]; exact hcell m hm
          obtain ⟨g1, hg1, _, hcell1⟩ := HC.out 1 (by simp)
          have hgg1 : g = g1 := by injection hg1 with h1; injection h1
          subst hgg1
          have hq1 : ∀ m, m < 3 → wr.cell? ⟨g, 3 + m, none⟩ = (Val.vC y)[m]? := fun m hm => by rw [hB.cell (p := ⟨g, 3 + m, none⟩) hg]; exact hcell1 m hm
          have e0 := hq0 0 (by omega)
          have e1 := hq0 1 (by omega)
          have e2 := hq0 2 (by omega)
          have e3 := hq1 0 (by omega)
          have e4 := hq1 1 (by omega)
          have e5 := hq1 2 (by omega)
          simp only [Val.vC, List.getElem?_cons_zero, List.getElem?_cons_succ, Nat.reduceAdd] at e0 e1 e2 e3 e4 e5
          have htt : ts = [x.type, y.type] := HTS.out.symm
          rw [htt] at hf
          have hft : Hid (Val.fitL (Val.want 9) [x.type, y.type] = true) := hf
          have hav : Hid ([x, y].all Val.valid = true) := hall
          clear hf
          have hsz : x.text.size ≤ 3000 := (Val.first_text 9 x [y] (by decide) hft.out hav.out)
          have hsz2 : y.text.size ≤ 3000 := (Val.second_text x y hft.out hav.out)
          clear hcell HC hall hq0 hq1 hg1 hcell1
          obtain ⟨xt, xn, xx⟩ := x
          obtain ⟨yt, yn, yx⟩ := y
          simp only at *
          have hok : (⟨10, Lib.index xx.data.toList yx.data.toList, ⟨#[]⟩⟩, ⟨#[]⟩) = r := by rw [← HOK.out]; simp [Val.builtOk]
          go_wp2_with (go_at_call 12; (refine (Val.l3Built_any 9 h6 h12 _ ts (by omega) _ hIn).mono ?_; rintro e w1 ⟨rfl, hb1⟩; rw [HT.out]; have hbw1 : Below (w.heap.size + 1) (w.alloc (.cells #[.int .i64 0, .int .i64 0, .string ⟨#[]⟩] 25)) w1 := (hbw.trans (hb1.mono (by omega))); have hbo : ∀ ob : Obj, Below (w.heap.size + 1) (w.alloc (.cells #[.int .i64 0, .int .i64 0, .string ⟨#[]⟩] 25)) (w1.alloc ob) := (fun ob => hbw1.alloc (by have := hb1.size; omega) ob); have s0 := (fun ob => (Val.row3' (hbo ob)).1.1); have s1 := (fun ob => (Val.row3' (hbo ob)).1.2.1); have s2 := (fun ob => (Val.row3' (hbo ob)).1.2.2); have l0 := (fun ob => (Val.row3' (hbo ob)).2.1); have l1 := (fun ob => (Val.row3' (hbo ob)).2.2.1); have l2 := (fun ob => (Val.row3' (hbo ob)).2.2.2); have HBO : Hid (∀ ob : Obj, Below (w.heap.size + 1) (w.alloc (.cells #[.int .i64 0, .int .i64 0, .string ⟨#[]⟩] 25)) (w1.alloc ob)) := hbo; clear hbo; have q0 : w1.cell? ⟨g, 0, none⟩ = _ := (hb1.cell (p := ⟨g, 0, none⟩) (by simp only; omega)).trans e0; have q1 : w1.cell? ⟨g, 1, none⟩ = _ := (hb1.cell (p := ⟨g, 1, none⟩) (by simp only; omega)).trans e1; have q2 : w1.cell? ⟨g, 2, none⟩ = _ := (hb1.cell (p := ⟨g, 2, none⟩) (by simp only; omega)).trans e2; have q3 : w1.cell? ⟨g, 3, none⟩ = _ := (hb1.cell (p := ⟨g, 3, none⟩) (by simp only; omega)).trans e3; have q4 : w1.cell? ⟨g, 4, none⟩ = _ := (hb1.cell (p := ⟨g, 4, none⟩) (by simp only; omega)).trans e4; have q5 : w1.cell? ⟨g, 5, none⟩ = _ := (hb1.cell (p := ⟨g, 5, none⟩) (by simp only; omega)).trans e5; have p0 := (fun ob : Obj => ((hb1.alloc hb1.size ob).cell (p := ⟨g, 0, none⟩) (by simp only; omega)).trans e0); have p1 := (fun ob : Obj => ((hb1.alloc hb1.size ob).cell (p := ⟨g, 1, none⟩) (by simp only; omega)).trans e1); have p2 := (fun ob : Obj => ((hb1.alloc hb1.size ob).cell (p := ⟨g, 2, none⟩) (by simp only; omega)).trans e2); have p3 := (fun ob : Obj => ((hb1.alloc hb1.size ob).cell (p := ⟨g, 3, none⟩) (by simp only; omega)).trans e3); have p4 := (fun ob : Obj => ((hb1.alloc hb1.size ob).cell (p := ⟨g, 4, none⟩) (by simp only; omega)).trans e4); have p5 := (fun ob : Obj => ((hb1.alloc hb1.size ob).cell (p := ⟨g, 5, none⟩) (by simp only; omega)).trans e5); have pa2 : (w1.alloc (.cells #[.int .i64 xt, .int .i64 xn, .string xx] 25)).cell? ⟨w1.heap.size, 2, none⟩ = some (.string xx) := (by simp [go_sem]); have hww : w.heap.size < w1.heap.size := (by have := hbw1.size; simp at this; omega)))
          go_region_held3 (fun w' => w'.cell? ⟨w1.heap.size, 2, none⟩ = some (.string xx) ∧ w'.cell? ⟨g, 5, none⟩ = some (.string yx)) (first | (exact ⟨pa2, p5 _⟩) | (exact ⟨z0, z5⟩) | (exact ⟨Val.set3o (by omega) z0, Val.set3o (by omega) z5⟩)) (first | (go_at_call 14; refine (Val.l4Find_any xx yx (by omega) (by omega) _).mono ?_; rintro e w2 ⟨rfl, hb2⟩; have hbw2 : Below (w.heap.size + 1) (w.alloc (.cells #[.int .i64 0, .int .i64 0, .string ⟨#[]⟩] 25)) w2 := ((HBO.out _).drew.trans (hb2.mono (by have := (HBO.out (.cells #[.int .i64 xt, .int .i64 xn, .string xx] 25)).size; simpa using this))); obtain ⟨⟨t0, t1, t2⟩, m0, m1, m2⟩ := Val.row3' hbw2; have z0 : w2.cell? ⟨w1.heap.size, 2, none⟩ = some (.string xx) := ((hb2.cell (p := ⟨w1.heap.size, 2, none⟩) (by simp)).trans pa2); have z5 : w2.cell? ⟨g, 5, none⟩ = _ := ((hb2.cell (p := ⟨g, 5, none⟩) (by simp; omega)).trans (p5 _))))
          go_wp2
          rw [← hok]
          exact bodyPost_ret (v := Val.ansV (⟨10, Lib.index xx.data.toList yx.data.toList, ⟨#[]⟩⟩, ⟨#[]⟩)) (by simp [results, Tryz.results5, go_sem, t0, t1, t2, Val.ansV, Val.v]) rfl ⟨rfl, Val.set3w (Val.alloc1 hbw2) _ _ _⟩
        · have hlen1 : vs.length = 1 := by rw [← HTS.out, List.length_map] at hlen; exact hlen.symm
          obtain ⟨x, rfl⟩ := Val.len1 hlen1
          have hi1 : 1 = i := HN.out
          subst hi1
          obtain ⟨g, rfl, hg, hcell⟩ := HC.out 0 (by simp)
          have hq0 : ∀ m, m < 3 → wr.cell? ⟨g, 0 + m, none⟩ = (Val.vC x)[m]? := fun m hm => by rw [hB.cell (p := ⟨g, 0 + m, none⟩) hg]; exact hcell m hm
          have e0 := hq0 0 (by omega)
          have e1 := hq0 1 (by omega)
          have e2 := hq0 2 (by omega)
          simp only [Val.vC, List.getElem?_cons_zero, List.getElem?_cons_succ, Nat.reduceAdd] at e0 e1 e2
          have htt : ts = [x.type] := HTS.out.symm
          rw [htt] at hf
          have hft : Hid (Val.fitL (Val.want 10) [x.type] = true) := hf
          have hav : Hid ([x].all Val.valid = true) := hall
          clear hf
          have hbyte : 0 ≤ x.n ∧ x.n ≤ 255 := (Val.first_byte x hft.out hav.out)
          clear hcell HC hall hq0
          obtain ⟨xt, xn, xx⟩ := x
          simp only at *
          have hu8 : IntKind.u8.wrap xn = xn := by show xn % 256 = xn; omega
          have hm8 : xn % 256 = xn := by omega
          have hok : (⟨2, 0, ⟨#[UInt8.ofNat xn.toNat]⟩⟩, ⟨#[]⟩) = r := by rw [← HOK.out]; simp [Val.builtOk, hm8]
          go_wp2_with (first | (go_at_call 12; (refine (Val.l3Built_any 10 h6 h12 _ ts (by omega) _ hIn).mono ?_; rintro e w1 ⟨rfl, hb1⟩; rw [HT.out]; have hbw1 : Below (w.heap.size + 1) (w.alloc (.cells #[.int .i64 0, .int .i64 0, .string ⟨#[]⟩] 25)) w1 := (hbw.trans (hb1.mono (by omega))); have hbo : ∀ ob : Obj, Below (w.heap.size + 1) (w.alloc (.cells #[.int .i64 0, .int .i64 0, .string ⟨#[]⟩] 25)) (w1.alloc ob) := (fun ob => hbw1.alloc (by have := hb1.size; omega) ob); have s0 := (fun ob => (Val.row3' (hbo ob)).1.1); have s1 := (fun ob => (Val.row3' (hbo ob)).1.2.1); have s2 := (fun ob => (Val.row3' (hbo ob)).1.2.2); have l0 := (fun ob => (Val.row3' (hbo ob)).2.1); have l1 := (fun ob => (Val.row3' (hbo ob)).2.2.1); have l2 := (fun ob => (Val.row3' (hbo ob)).2.2.2); have HBO : Hid (∀ ob : Obj, Below (w.heap.size + 1) (w.alloc (.cells #[.int .i64 0, .int .i64 0, .string ⟨#[]⟩] 25)) (w1.alloc ob)) := hbo; clear hbo; have q0 : w1.cell? ⟨g, 0, none⟩ = _ := (hb1.cell (p := ⟨g, 0, none⟩) (by simp only; omega)).trans e0; have q1 : w1.cell? ⟨g, 1, none⟩ = _ := (hb1.cell (p := ⟨g, 1, none⟩) (by simp only; omega)).trans e1; have q2 : w1.cell? ⟨g, 2, none⟩ = _ := (hb1.cell (p := ⟨g, 2, none⟩) (by simp only; omega)).trans e2; have hcv := Val.conv_one (w1.alloc (.cells #[.int .i64 xt, .int .i64 xn, .string xx] 25)) xn hbyte.1 hbyte.2; rw [World.size_alloc] at hcv; have HBO2 : Hid (Below (w.heap.size + 1) (w.alloc (.cells #[.int .i64 0, .int .i64 0, .string ⟨#[]⟩] 25)) ((w1.alloc (.cells #[.int .i64 xt, .int .i64 xn, .string xx] 25)).alloc (.cells #[.int .u8 xn] 5))) := (HBO.out _).alloc (by have := (HBO.out (.cells #[.int .i64 xt, .int .i64 xn, .string xx] 25)).size; simpa using this) _)) | (go_at_call 15; (refine (Val.l4Text_w _ _).mono ?_; rintro e w3 ⟨rfl, hb3⟩; have hbw3 : Below (w.heap.size + 1) (w.alloc (.cells #[.int .i64 0, .int .i64 0, .string ⟨#[]⟩] 25)) w3 := (HBO2.out.trans (hb3.mono (by have := HBO2.out.size; simpa using this))); obtain ⟨⟨n0, n1, n2⟩, o0, o1, o2⟩ := Val.row3' hbw3)))
          rw [← hok]
          exact bodyPost_ret (v := Val.ansV (⟨2, 0, ⟨#[UInt8.ofNat xn.toNat]⟩⟩, ⟨#[]⟩)) (by simp [results, Tryz.results5, go_sem, n0, n1, n2, Val.ansV, Val.v]) rfl ⟨rfl, Val.set3w (Val.alloc1 hbw3) _ _ _⟩
        · have hlen1 : vs.length = 1 := by rw [← HTS.out, List.length_map] at hlen; exact hlen.symm
          obtain ⟨x, rfl⟩ := Val.len1 hlen1
          have hi1 : 1 = i := HN.out
          subst hi1
          obtain ⟨g, rfl, hg, hcell⟩ := HC.out 0 (by simp)
          have hq0 : ∀ m, m < 3 → wr.cell? ⟨g, 0 + m, none⟩ = (Val.vC x)[m]? := fun m hm => by rw [hB.cell (p := ⟨g, 0 + m, none⟩) hg]; exact hcell m hm
          have e0 := hq0 0 (by omega)
          have e1 := hq0 1 (by omega)
          have e2 := hq0 2 (by omega)
          simp only [Val.vC, List.getElem?_cons_zero, List.getElem?_cons_succ, Nat.reduceAdd] at e0 e1 e2
          have htt : ts = [x.type] := HTS.out.symm
          rw [htt] at hf
          have hft : Hid (Val.fitL (Val.want 11) [x.type] = true) := hf
          have hav : Hid ([x].all Val.valid = true) := hall
          clear hf
          clear hcell HC hall hq0
          obtain ⟨xt, xn, xx⟩ := x
          simp only at *
          have hok : (⟨2, 0, ⟨(Val.dec xt xn).toArray⟩⟩, ⟨#[]⟩) = r := HOK.out
          go_wp2_with (first | (go_at_call 12; (refine (Val.l3Built_any 11 h6 h12 _ ts (by omega) _ hIn).mono ?_; rintro e w1 ⟨rfl, hb1⟩; rw [HT.out]; have hbw1 : Below (w.heap.size + 1) (w.alloc (.cells #[.int .i64 0, .int .i64 0, .string ⟨#[]⟩] 25)) w1 := (hbw.trans (hb1.mono (by omega))); have hbo : ∀ ob : Obj, Below (w.heap.size + 1) (w.alloc (.cells #[.int .i64 0, .int .i64 0, .string ⟨#[]⟩] 25)) (w1.alloc ob) := (fun ob => hbw1.alloc (by have := hb1.size; omega) ob); have s0 := (fun ob => (Val.row3' (hbo ob)).1.1); have s1 := (fun ob => (Val.row3' (hbo ob)).1.2.1); have s2 := (fun ob => (Val.row3' (hbo ob)).1.2.2); have l0 := (fun ob => (Val.row3' (hbo ob)).2.1); have l1 := (fun ob => (Val.row3' (hbo ob)).2.2.1); have l2 := (fun ob => (Val.row3' (hbo ob)).2.2.2); have HBO : Hid (∀ ob : Obj, Below (w.heap.size + 1) (w.alloc (.cells #[.int .i64 0, .int .i64 0, .string ⟨#[]⟩] 25)) (w1.alloc ob)) := hbo; clear hbo; have q0 : w1.cell? ⟨g, 0, none⟩ = _ := (hb1.cell (p := ⟨g, 0, none⟩) (by simp only; omega)).trans e0; have q1 : w1.cell? ⟨g, 1, none⟩ = _ := (hb1.cell (p := ⟨g, 1, none⟩) (by simp only; omega)).trans e1; have q2 : w1.cell? ⟨g, 2, none⟩ = _ := (hb1.cell (p := ⟨g, 2, none⟩) (by simp only; omega)).trans e2)) | (go_at_call 16; (refine (Val.l4Dec_any _ _ _).mono ?_; rintro e w2 ⟨rfl, hb2⟩; have hbw2 : Below (w.heap.size + 1) (w.alloc (.cells #[.int .i64 0, .int .i64 0, .string ⟨#[]⟩] 25)) w2 := ((HBO.out _).trans (hb2.mono (by have := (HBO.out (.cells #[.int .i64 xt, .int .i64 xn, .string xx] 25)).size; simpa using this))); obtain ⟨⟨t0, t1, t2⟩, m0, m1, m2⟩ := Val.row3' hbw2)) | (go_at_call 15; (refine (Val.l4Text_w _ _).mono ?_; rintro e w3 ⟨rfl, hb3⟩; have hbw3 : Below (w.heap.size + 1) (w.alloc (.cells #[.int .i64 0, .int .i64 0, .string ⟨#[]⟩] 25)) w3 := (hbw2.trans (hb3.mono (by have := hbw2.size; simpa using this))); obtain ⟨⟨n0, n1, n2⟩, o0, o1, o2⟩ := Val.row3' hbw3)))
          rw [← hok]
          exact bodyPost_ret (v := Val.ansV (⟨2, 0, ⟨(Val.dec xt xn).toArray⟩⟩, ⟨#[]⟩)) (by simp [results, Tryz.results5, go_sem, n0, n1, n2, Val.ansV, Val.v]) rfl ⟨rfl, Val.set3w (Val.alloc1 hbw3) _ _ _⟩
        · have hlen1 : vs.length = 1 := by rw [← HTS.out, List.length_map] at hlen; exact hlen.symm
          obtain ⟨x, rfl⟩ := Val.len1 hlen1
          have hi1 : 1 = i := HN.out
          subst hi1
          obtain ⟨g, rfl, hg, hcell⟩ := HC.out 0 (by simp)
          have hq0 : ∀ m, m < 3 → wr.cell? ⟨g, 0 + m, none⟩ = (Val.vC x)[m]? := fun m hm => by rw [hB.cell (p := ⟨g, 0 + m, none⟩) hg]; exact hcell m hm
          have e0 := hq0 0 (by omega)
          have e1 := hq0 1 (by omega)
          have e2 := hq0 2 (by omega)
          simp only [Val.vC, List.getElem?_cons_zero, List.getElem?_cons_succ, Nat.reduceAdd] at e0 e1 e2
          have htt : ts = [x.type] := HTS.out.symm
          rw [htt] at hf
          have hft : Hid (Val.fitL (Val.want 12) [x.type] = true) := hf
          have hav : Hid ([x].all Val.valid = true) := hall
          clear hf
          have hsz : x.text.size ≤ 3000 := (Val.first_text 12 x [] (by decide) hft.out hav.out)
          clear hcell HC hall hq0
          obtain ⟨xt, xn, xx⟩ := x
          simp only at *
          obtain ⟨pn, pb, HP⟩ : ∃ pn pb, Hid (Val.parse xx = (pn, pb)) := ⟨_, _, (rfl : Val.parse xx = _)⟩
          have HPC : Hid (∀ w : World, Calls Tryz.prog 17 #[.string xx] w fun e w' => e = .returned (.tuple #[.int .i64 pn, .bool pb]) ∧ Below w.heap.size w w') := fun w => by have := Val.l4Parse_any xx w; rw [HP.out] at this; exact this
          cases pb with
          | true =>
            have hok : (⟨10, pn, ⟨#[]⟩⟩, ⟨#[]⟩) = r := by rw [← HOK.out]; simp [Val.builtOk, HP.out]
            go_wp2_with (first | (go_at_call 12; (refine (Val.l3Built_any 12 h6 h12 _ ts (by omega) _ hIn).mono ?_; rintro e w1 ⟨rfl, hb1⟩; rw [HT.out]; have hbw1 : Below (w.heap.size + 1) (w.alloc (.cells #[.int .i64 0, .int .i64 0, .string ⟨#[]⟩] 25)) w1 := (hbw.trans (hb1.mono (by omega))); have hbo : ∀ ob : Obj, Below (w.heap.size + 1) (w.alloc (.cells #[.int .i64 0, .int .i64 0, .string ⟨#[]⟩] 25)) (w1.alloc ob) := (fun ob => hbw1.alloc (by have := hb1.size; omega) ob); have s0 := (fun ob => (Val.row3' (hbo ob)).1.1); have s1 := (fun ob => (Val.row3' (hbo ob)).1.2.1); have s2 := (fun ob => (Val.row3' (hbo ob)).1.2.2); have l0 := (fun ob => (Val.row3' (hbo ob)).2.1); have l1 := (fun ob => (Val.row3' (hbo ob)).2.2.1); have l2 := (fun ob => (Val.row3' (hbo ob)).2.2.2); have HBO : Hid (∀ ob : Obj, Below (w.heap.size + 1) (w.alloc (.cells #[.int .i64 0, .int .i64 0, .string ⟨#[]⟩] 25)) (w1.alloc ob)) := hbo; clear hbo; have q0 : w1.cell? ⟨g, 0, none⟩ = _ := (hb1.cell (p := ⟨g, 0, none⟩) (by simp only; omega)).trans e0; have q1 : w1.cell? ⟨g, 1, none⟩ = _ := (hb1.cell (p := ⟨g, 1, none⟩) (by simp only; omega)).trans e1; have q2 : w1.cell? ⟨g, 2, none⟩ = _ := (hb1.cell (p := ⟨g, 2, none⟩) (by simp only; omega)).trans e2)) | (go_at_call 17; (refine (HPC.out _).mono ?_; rintro e w2 ⟨rfl, hb2⟩; have hbw2 : Below (w.heap.size + 1) (w.alloc (.cells #[.int .i64 0, .int .i64 0, .string ⟨#[]⟩] 25)) w2 := ((HBO.out _).trans (hb2.mono (by have := (HBO.out (.cells #[.int .i64 xt, .int .i64 xn, .string xx] 25)).size; simpa using this))); obtain ⟨⟨t0, t1, t2⟩, m0, m1, m2⟩ := Val.row3' hbw2)))
            rw [← hok]
            exact bodyPost_ret (v := Val.ansV (⟨10, pn, ⟨#[]⟩⟩, ⟨#[]⟩)) (by simp [results, Tryz.results5, go_sem, t0, t1, t2, Val.ansV, Val.v]) rfl ⟨rfl, Val.set3w (Val.alloc1 hbw2) _ _ _⟩
          | false =>
            have hok : (Val.zero, Val.numberW) = r := by rw [← HOK.out]; simp [Val.builtOk, HP.out]
            go_wp2_with (first | (go_at_call 12; (refine (Val.l3Built_any 12 h6 h12 _ ts (by omega) _ hIn).mono ?_; rintro e w1 ⟨rfl, hb1⟩; rw [HT.out]; have hbw1 : Below (w.heap.size + 1) (w.alloc (.cells #[.int .i64 0, .int .i64 0, .string ⟨#[]⟩] 25)) w1 := (hbw.trans (hb1.mono (by omega))); have hbo : ∀ ob : Obj, Below (w.heap.size + 1) (w.alloc (.cells #[.int .i64 0, .int .i64 0, .string ⟨#[]⟩] 25)) (w1.alloc ob) := (fun ob => hbw1.alloc (by have := hb1.size; omega) ob); have s0 := (fun ob => (Val.row3' (hbo ob)).1.1); have s1 := (fun ob => (Val.row3' (hbo ob)).1.2.1); have s2 := (fun ob => (Val.row3' (hbo ob)).1.2.2); have l0 := (fun ob => (Val.row3' (hbo ob)).2.1); have l1 := (fun ob => (Val.row3' (hbo ob)).2.2.1); have l2 := (fun ob => (Val.row3' (hbo ob)).2.2.2); have HBO : Hid (∀ ob : Obj, Below (w.heap.size + 1) (w.alloc (.cells #[.int .i64 0, .int .i64 0, .string ⟨#[]⟩] 25)) (w1.alloc ob)) := hbo; clear hbo; have q0 : w1.cell? ⟨g, 0, none⟩ = _ := (hb1.cell (p := ⟨g, 0, none⟩) (by simp only; omega)).trans e0; have q1 : w1.cell? ⟨g, 1, none⟩ = _ := (hb1.cell (p := ⟨g, 1, none⟩) (by simp only; omega)).trans e1; have q2 : w1.cell? ⟨g, 2, none⟩ = _ := (hb1.cell (p := ⟨g, 2, none⟩) (by simp only; omega)).trans e2)) | (go_at_call 17; (refine (HPC.out _).mono ?_; rintro e w2 ⟨rfl, hb2⟩; have hbw2 : Below (w.heap.size + 1) (w.alloc (.cells #[.int .i64 0, .int .i64 0, .string ⟨#[]⟩] 25)) w2 := ((HBO.out _).trans (hb2.mono (by have := (HBO.out (.cells #[.int .i64 xt, .int .i64 xn, .string xx] 25)).size; simpa using this))); obtain ⟨⟨t0, t1, t2⟩, m0, m1, m2⟩ := Val.row3' hbw2)))
            rw [← hok]
            exact bodyPost_ret (v := Val.ansV (Val.zero, Val.numberW)) (by simp [results, Tryz.results5, go_sem, t0, t1, t2, Val.ansV, Val.v, Val.zero, Val.numberW]) rfl ⟨rfl, Val.set3w (Val.alloc1 hbw2) _ _ _⟩
theorem Val.specBuilt_any (op : Int) (vs : List Val.V) (v : Value) (hl : vs.length ≤ 1048576) (w : World) (hV : Val.VsAt w v vs) :
    Calls Tryz.prog 5 #[.int .i64 op, v] w fun e w' => e = .returned (Val.ansV (Val.built op vs)) ∧ Below w.heap.size w w' := by
  obtain ⟨a, cap, rfl, hc⟩ := hV
  by_cases h : 6 ≤ op ∧ op ≤ 12 ∧ vs.length ≤ 3
  · exact Val.built_in op vs a cap h.1 h.2.1 w vs.length rfl h.2.2 hc
  · have e : Val.built op vs = (Val.zero, Val.typeW) := by
      rw [Val.built, if_neg]
      rintro ⟨h1, h2, _, h4⟩
      have := Val.fitL_len _ _ h4
      rw [List.length_map] at this
      have hw : (Val.want op).length ≤ 3 := by unfold Val.want; split; simp; split; simp; split; simp; split; simp; split <;> simp
      exact h ⟨h1, h2, by omega⟩
    rw [e]
    exact Val.built_out op a vs.length cap hl h w
end Go.Proofs.YtfelngigfmdedaaGreatDoor
