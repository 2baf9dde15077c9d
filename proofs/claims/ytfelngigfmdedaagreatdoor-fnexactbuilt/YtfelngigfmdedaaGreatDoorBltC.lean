import Derived.Test.YtfelngigfmdedaaGreatDoorBltB
namespace Go.Proofs.YtfelngigfmdedaaGreatDoor
open Go.RowKit

def Val.want (op : Int) : List Int := if op = 6 ∨ op = 12 then [2] else if op = 7 then [2, 10] else if op = 8 then [2, 10, 10] else if op = 9 then [2, 2] else if op = 10 then [3] else [0]
def Val.gives (op : Int) : Int := if op = 6 ∨ op = 12 ∨ op = 9 then 10 else if op = 7 then 3 else 2
def Val.fit1 (k h : Int) : Bool := decide (h = k) || (decide (k = 0) && Val.isInt h)
def Val.fitL : List Int → List Int → Bool
  | [], [] => true
  | k :: ks, h :: hs => Val.fit1 k h && Val.fitL ks hs
  | _, _ => false
def Val.IntsAt (w : World) (v : Value) (hs : List Int) : Prop :=
  ∃ a cap, v = .slice a hs.length cap ∧ ∀ i (hi : i < hs.length), ∃ g, a = some ⟨g, 0, none⟩ ∧ g < w.heap.size ∧ w.cell? ⟨g, i, none⟩ = some (.int .i64 hs[i])
theorem Val.intsAt_below {w w' : World} {v : Value} {ns : List Int} (h : Val.IntsAt w v ns) (hb : Below w.heap.size w w') : Val.IntsAt w' v ns := by
  obtain ⟨a, cap, rfl, hc⟩ := h
  refine ⟨a, cap, rfl, fun i hi => ?_⟩
  obtain ⟨g, ha, hg, hcell⟩ := hc i hi
  exact ⟨g, ha, Nat.lt_of_lt_of_le hg hb.size, by rw [hb.cell (p := ⟨g, i, none⟩) hg]; exact hcell⟩
def Val.ints (hs : List Int) : List Value := hs.map (fun x => Value.int .i64 x)
theorem Val.intsAt_own {w : World} {B : Nat} {v : Value} {hs : List Int} {e : TypeId} (h : w.ownsRow B e 1 v hs.length (Val.ints hs)) : Val.IntsAt w v hs := by
  rcases h.2 with ⟨rfl, h0⟩ | ⟨g, cap, cur, rfl, hg, hgg, _⟩
  · exact ⟨none, 0, by rw [h0], fun i hi => by omega⟩
  · refine ⟨_, _, rfl, fun i hi => ⟨g, rfl, (Array.getElem?_eq_some_iff.1 hgg).1, ?_⟩⟩
    rw [h.cellAt i (by omega)]
    simp [Val.ints, hi]
theorem Val.intsAt_new (w : World) (hs : List Int) (t : TypeId) (cap : Nat) : Val.IntsAt (w.alloc (.cells (Val.ints hs).toArray t)) (.slice (some ⟨w.heap.size, 0, none⟩) hs.length cap) hs := by
  refine ⟨_, _, rfl, fun i hi => ⟨w.heap.size, rfl, by rw [World.size_alloc]; omega, ?_⟩⟩
  have h := Val.new_at w (.cells (Val.ints hs).toArray t)
  unfold World.cell?
  simp only [h]
  simp [Val.ints, hi]
set_option maxRecDepth 100000 in
set_option maxHeartbeats 1000000 in
theorem Val.l3Wants_any (op : Int) (h6 : 6 ≤ op) (h12 : op ≤ 12) (w : World) :
    Calls Tryz.prog 23 #[.int .i64 op] w fun e w' => (∃ g n, e = .returned (.tuple #[.slice (some ⟨g, 0, none⟩) n n, .int .i64 (Val.gives op)]) ∧ n = (Val.want op).length ∧ Val.IntsAt w' (.slice (some ⟨g, 0, none⟩) n n) (Val.want op)) ∧ Below w.heap.size w w' := by
  have h : op = 6 ∨ op = 7 ∨ op = 8 ∨ op = 9 ∨ op = 10 ∨ op = 11 ∨ op = 12 := by omega
  rcases h with rfl | rfl | rfl | rfl | rfl | rfl | rfl
  all_goals
    go_enter Tryz.func23, Tryz.ntmps23
    go_wp2
  · go_ret2; exact ⟨⟨_, _, rfl, rfl, Val.intsAt_new w [2] _ _⟩, (Below.refl _ w).alloc (Nat.le_refl _) _⟩
  · go_ret2; exact ⟨⟨_, _, rfl, rfl, Val.intsAt_new w [2, 10] _ _⟩, (Below.refl _ w).alloc (Nat.le_refl _) _⟩
  · go_ret2; exact ⟨⟨_, _, rfl, rfl, Val.intsAt_new w [2, 10, 10] _ _⟩, (Below.refl _ w).alloc (Nat.le_refl _) _⟩
  · go_ret2; exact ⟨⟨_, _, rfl, rfl, Val.intsAt_new w [2, 2] _ _⟩, (Below.refl _ w).alloc (Nat.le_refl _) _⟩
  · go_ret2; exact ⟨⟨_, _, rfl, rfl, Val.intsAt_new w [3] _ _⟩, (Below.refl _ w).alloc (Nat.le_refl _) _⟩
  · go_ret2; exact ⟨⟨_, _, rfl, rfl, Val.intsAt_new w [0] _ _⟩, (Below.refl _ w).alloc (Nat.le_refl _) _⟩
  · go_ret2; exact ⟨⟨_, _, rfl, rfl, Val.intsAt_new w [2] _ _⟩, (Below.refl _ w).alloc (Nat.le_refl _) _⟩
theorem Val.fitL_len : ∀ (ks hs : List Int), Val.fitL ks hs = true → ks.length = hs.length
  | [], [], _ => rfl
  | [], _ :: _, h => by cases h
  | _ :: _, [], h => by cases h
  | k :: ks, h :: hs, e => by
    rw [Val.fitL, Bool.and_eq_true] at e
    simp [Val.fitL_len ks hs e.2]
theorem Val.fitL_drop (ks hs : List Int) (i : Nat) (h1 : i < ks.length) (h2 : i < hs.length) : Val.fitL (ks.drop i) (hs.drop i) = (Val.fit1 ks[i] hs[i] && Val.fitL (ks.drop (i + 1)) (hs.drop (i + 1))) := by
  rw [List.drop_eq_getElem_cons h1, List.drop_eq_getElem_cons h2, Val.fitL]
def Val.builtT (op : Int) (hs : List Int) : Int := if Val.fitL (Val.want op) hs = true then Val.gives op else 0
set_option maxRecDepth 100000 in
set_option maxHeartbeats 2000000 in
theorem Val.l3Built_any (op : Int) (h6 : 6 ≤ op) (h12 : op ≤ 12) (v : Value) (hs : List Int) (_hl : hs.length ≤ 1048576) (w : World) (hH : Val.IntsAt w v hs) :
    Calls Tryz.prog 12 #[.int .i64 op, v] w fun e w' => e = .returned (.int .i64 (Val.builtT op hs)) ∧ Below w.heap.size w w' := by
  obtain ⟨ks, HK⟩ : ∃ ks, Hid (Val.want op = ks) := ⟨_, (rfl : Val.want op = _)⟩
  obtain ⟨G, HG⟩ : ∃ G, Hid (Val.gives op = G) := ⟨_, (rfl : Val.gives op = _)⟩
  have hk3 : ks.length ≤ 3 := by rw [← HK.out]; unfold Val.want; split; simp; split; simp; split; simp; split; simp; split <;> simp
  have HT : Hid (Val.builtT op hs = if Val.fitL ks hs = true then G else 0) := by rw [Hid, Val.builtT, HK.out, HG.out]
  rw [HT.out]
  obtain ⟨a, cap, rfl, hc⟩ := hH
  have HC : Hid (∀ i (hi : i < hs.length), ∃ g, a = some ⟨g, 0, none⟩ ∧ g < w.heap.size ∧ w.cell? ⟨g, i, none⟩ = some (.int .i64 hs[i])) := hc
  clear hc
  by_cases hle : ks.length = hs.length
  · obtain ⟨n, HN⟩ : ∃ n, Hid (hs.length = n) := ⟨_, (rfl : hs.length = _)⟩
    have HKN : Hid (ks.length = n) := by rw [Hid, hle, HN.out]
    rw [HKN.out] at hk3
    clear hle _hl
    obtain ⟨r, HR⟩ : ∃ r, Hid ((if Val.fitL ks hs = true then G else 0) = r) := ⟨_, (rfl : _ = _)⟩
    rw [HR.out]
    simp only [HN.out]
    go_enter Tryz.func12, Tryz.ntmps12
    go_wp2_with (go_at_call 23; (refine (Val.l3Wants_any op h6 h12 _).mono ?_; rintro e w1 ⟨⟨gk, m, rfl, hm, hW⟩, hb1⟩; rw [HK.out, HKN.out] at hm; subst hm; rw [HK.out] at hW; rw [HG.out]))
    obtain ⟨ak, ck, hkv, hkc⟩ := hW
    have HD : Hid (∀ i (hi : i < ks.length), ∃ g, ak = some ⟨g, 0, none⟩ ∧ g < w1.heap.size ∧ w1.cell? ⟨g, i, none⟩ = some (.int .i64 ks[i])) := hkc
    have hak : ak = some ⟨gk, 0, none⟩ := by injection hkv with h1; exact h1.symm
    subst hak
    clear hkc hkv
    go_loopw [7] (fun t wr => ∃ i : Nat, i ≤ m ∧ t = .int .i64 (i : Int) ∧ Val.fitL (ks.drop i) (hs.drop i) = Val.fitL ks hs ∧ Below w1.heap.size w1 wr) (fun t _ => m - (intOf t).toNat)
    case atStart => exact ⟨0, by omega, rfl, rfl, Below.refl _ _⟩
    case round =>
      obtain ⟨i, hi, rfl, hu, hbw⟩ := hrel
      have hz := hbw.size
      have hz1 := hb1.size
      have HB : Hid (Below w.heap.size w wr) := hb1.trans (hbw.mono hz1)
      by_cases hlt : i < m
      · have hil : i < hs.length := by rw [HN.out]; exact hlt
        have hik : i < ks.length := by rw [HKN.out]; exact hlt
        obtain ⟨g, rfl, hg, hcell⟩ := HC.out i hil
        obtain ⟨g2, hg2, hgk, hkcell⟩ := HD.out i hik
        have hg3 : g2 = gk := by injection hg2 with h1; injection h1 with h2; exact h2.symm
        subst hg3
        clear hg2
        rw [Val.fitL_drop ks hs i hik hil] at hu
        have e1 : wr.cell? ⟨g, i, none⟩ = some (.int .i64 hs[i]) := by rw [HB.out.cell (p := ⟨g, i, none⟩) hg]; exact hcell
        have e2 : wr.cell? ⟨g2, i, none⟩ = some (.int .i64 ks[i]) := by rw [hbw.cell (p := ⟨g2, i, none⟩) hgk]; exact hkcell
        generalize hs[i] = h at *
        generalize ks[i] = k at *
        clear hcell hkcell HC HD
        by_cases hhk : h = k
        · subst hhk
          have hne : (h != h) = false := by simp
          have HU : Hid (Val.fitL (ks.drop (i + 1)) (hs.drop (i + 1)) = Val.fitL ks hs) := by rw [Hid, ← hu, Val.fit1]; simp
          clear hu
          go_wp2_with fail
          go_quiet (fail)
          go_wp2
          go_roundw
          case rel => exact ⟨i + 1, by omega, by go_num, HU.out, Val.below_drewN _ hbw⟩
          case measure => simp [intOf]; omega
        · have hne : (h != k) = true := by simp [hhk]
          by_cases hk0 : k = 0
          · subst hk0
            have hne0 : ((0 : Int) != 0) = false := by simp
            cases hI : Val.isInt h with
            | true =>
              have HI : Hid (Val.isInt h = true) := hI
              have HU : Hid (Val.fitL (ks.drop (i + 1)) (hs.drop (i + 1)) = Val.fitL ks hs) := by rw [Hid, ← hu, Val.fit1, hI]; simp
              clear hu hI
              go_wp2_with fail
              go_quiet (first | (go_at_call 21; refine Val.quiet (Val.l1Integer_is true _ HI _)))
              go_wp2
              go_roundw
              case rel => exact ⟨i + 1, by omega, by go_num, HU.out, Val.below_drewN _ hbw⟩
              case measure => simp [intOf]; omega
            | false =>
              have HI : Hid (Val.isInt h = false) := hI
              have HU : Hid (0 = r) := by rw [Hid, ← HR.out, ← hu, Val.fit1, hI]; simp [hhk]
              clear hu hI
              go_wp2_with fail
              go_quiet (first | (go_at_call 21; refine Val.quiet (Val.l1Integer_is false _ HI _)))
              go_wp2
              go_ret
              exact ⟨Val.ret_i HU.out, Val.below_drewN _ HB.out⟩
          · have hne0 : (k != 0) = true := by simp [hk0]
            have HU : Hid (0 = r) := by rw [Hid, ← HR.out, ← hu, Val.fit1]; simp [hhk, hk0]
            clear hu
            go_wp2_with fail
            go_quiet (fail)
            go_wp2
            go_ret
            exact ⟨Val.ret_i HU.out, Val.below_drewN _ HB.out⟩
      · have HU : Hid (G = r) := by rw [Hid, ← HR.out, ← hu, List.drop_of_length_le (by rw [HKN.out]; omega), List.drop_of_length_le (by rw [HN.out]; omega)]; rfl
        clear hu HC HD
        go_wp2
        go_ret
        exact ⟨Val.ret_i HU.out, HB.out⟩
  · have HF : Hid ((if Val.fitL ks hs = true then G else 0) = 0) := by
      rw [Hid, if_neg]
      intro h; exact hle (Val.fitL_len _ _ h)
    rw [HF.out]
    obtain ⟨n, HN⟩ : ∃ n, Hid (hs.length = n) := ⟨_, (rfl : hs.length = _)⟩
    obtain ⟨m, HM⟩ : ∃ m, Hid (ks.length = m) := ⟨_, (rfl : ks.length = _)⟩
    simp only [HN.out]
    rw [HN.out, HM.out] at hle
    have hne : ((m : Int) != (n : Int)) = true := by simp; omega
    clear HC
    go_enter Tryz.func12, Tryz.ntmps12
    go_wp2_with (go_at_call 23; (refine (Val.l3Wants_any op h6 h12 _).mono ?_; rintro e w1 ⟨⟨gk, m', rfl, hm, hW⟩, hb1⟩; rw [HK.out, HM.out] at hm; subst hm; rw [HG.out]))
    go_ret
    exact ⟨rfl, hb1⟩
end Go.Proofs.YtfelngigfmdedaaGreatDoor
