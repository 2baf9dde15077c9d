import Derived.Test.YtkijfehdgiiejaaDoorDrawH
import Derived.Test.YtkijfehdgiiejaaDoorValC
import Derived.Deep.Cut
import Derived.Deep.RegionHeld3
import Derived.Deep.QuietTactic
namespace Go.Proofs.YtkijfehdgiiejaaDoor
open Go.RowKit

attribute [local go_sem] Oper.semAt_some

theorem any_v {w w1 : World} {R p k : Nat} (t : Int) (ht0 : -9223372036854775808 ≤ t) (ht1 : t ≤ 9223372036854775807) (hD : Mill.Dr R p k w w1) (hp : p + k < 100000000) :
    Calls Tryd.prog 10 #[.pointer (some ⟨R, 0, none⟩), .int .i64 t] w1 fun e w' => ∃ X : Val.V, e = .returned (.agg #[.int .i64 X.type, .int .i64 X.n, .string X.text]) ∧ Val.Fine X ∧ Mill.Dr R p (k + 15) w w' ∧ Mill.But R w1 w' := any_D t ht0 ht1 hD hp
/-- A block that holds a Value in bounds. -/
def Val.Held (g : Nat) (t : TypeId) (w : World) : Prop := ∃ X : Val.V, Val.Fine X ∧ w.heap[g]? = some (.cells #[.int .i64 X.type, .int .i64 X.n, .string X.text] t (0, 0))

theorem Val.Held.but {R g : Nat} {t : TypeId} {wa wb : World} (hB : Mill.But R wa wb) (hne : g ≠ R) (h : Val.Held g t wa) : Val.Held g t wb := by
  obtain ⟨X, hX, hr⟩ := h
  exact ⟨X, hX, (hB.block g (Array.getElem?_eq_some_iff.1 hr).1 hne).trans hr⟩
theorem Val.Held.fresh {t : TypeId} {w : World} (X : Val.V) (hX : Val.Fine X) : Val.Held w.heap.size t (w.alloc (.cells #[.int .i64 X.type, .int .i64 X.n, .string X.text] t)) := ⟨X, hX, World.alloc_heap_new w _⟩
theorem Val.Held.alloc {g : Nat} {t : TypeId} {w : World} (h : Val.Held g t w) (o : Obj) : Val.Held g t (w.alloc o) := by
  obtain ⟨X, hX, hr⟩ := h
  exact ⟨X, hX, (((Below.refl _ w).alloc (Nat.le_refl _) o).block g (Array.getElem?_eq_some_iff.1 hr).1).trans hr⟩
theorem Val.Held.setN {g : Nat} {t : TypeId} {w : World} (h : Val.Held g t w) (n : Int) (h0 : -9223372036854775808 ≤ n) (h1 : n ≤ 9223372036854775807) : Val.Held g t (w.setCell ⟨g, 1, none⟩ (.int .i64 n)) := by
  obtain ⟨X, ⟨x1, _, x3⟩, hr⟩ := h
  exact ⟨⟨X.type, n, X.text⟩, ⟨x1, ⟨h0, h1⟩, x3⟩, by simp [World.setCell, Array.getElem?_modify, hr]⟩
theorem Val.Held.other {g g' i : Nat} {t : TypeId} {w : World} {v : Value} (h : Val.Held g t w) (hne : g ≠ g') : Val.Held g t (w.setCell ⟨g', i, none⟩ v) := by
  obtain ⟨X, hX, hr⟩ := h
  exact ⟨X, hX, by simp only [World.setCell, Array.getElem?_modify]; rw [if_neg (Ne.symm hne)]; exact hr⟩
theorem Val.Held.set3 {g : Nat} {t : TypeId} {w : World} (h : Val.Held g t w) (X : Val.V) (hX : Val.Fine X) : Val.Held g t (((w.setCell ⟨g, 0, none⟩ (.int .i64 X.type)).setCell ⟨g, 1, none⟩ (.int .i64 X.n)).setCell ⟨g, 2, none⟩ (.string X.text)) := by
  obtain ⟨Y, _, hr⟩ := h
  exact ⟨X, hX, by simp [World.setCell, Array.getElem?_modify, hr]⟩
theorem Val.Held.open_ {g : Nat} {t : TypeId} {w : World} (h : Val.Held g t w) : ∃ X : Val.V, Val.Fine X ∧ (w.cell? ⟨g, 0, none⟩ = some (.int .i64 X.type) ∧ w.cell? ⟨g, 1, none⟩ = some (.int .i64 X.n) ∧ w.cell? ⟨g, 2, none⟩ = some (.string X.text)) ∧ w.frozen? ⟨g, 0, none⟩ = false ∧ w.frozen? ⟨g, 1, none⟩ = false ∧ w.frozen? ⟨g, 2, none⟩ = false := by
  obtain ⟨X, hX, hr⟩ := h
  exact ⟨X, hX, by simp [World.cell?, hr], by simp [World.frozen?, hr]⟩

theorem Val.Held.drewN {g : Nat} {t : TypeId} {w : World} (h : Val.Held g t w) (n : Nat) : Val.Held g t (w.drewN n) := h
theorem Mill.Dr.drewN {R p K : Nat} {w wx : World} (h : Mill.Dr R p K w wx) (n : Nat) : Mill.Dr R p K w (wx.drewN n) := h.below (Val.below_drewN n (Below.refl _ wx))
theorem Val.two_of {w w2 wx : World} {a b c a' b' c' : Value} {t : TypeId} (hb : Below (w.heap.size + 1 + 1) ((w.alloc (.cells #[a, b, c] t)).alloc (.cells #[a', b', c'] t)) w2) (hB : Mill.But (w.heap.size + 1 + 1) w2 wx) : Mill.Two w.heap.size (w.heap.size + 1) a b c a' b' c' t wx := by
  have hz := hb.size
  simp only [World.size_alloc] at hz
  have e1 : ((w.alloc (.cells #[a, b, c] t)).alloc (.cells #[a', b', c'] t)).heap[w.heap.size]? = some (.cells #[a, b, c] t (0, 0)) := by
    rw [(((Below.refl _ (w.alloc (.cells #[a, b, c] t))).alloc (Nat.le_refl _) (.cells #[a', b', c'] t)).block w.heap.size (by simp)), World.alloc_heap_new]
  have e2 : ((w.alloc (.cells #[a, b, c] t)).alloc (.cells #[a', b', c'] t)).heap[w.heap.size + 1]? = some (.cells #[a', b', c'] t (0, 0)) := by
    have := World.alloc_heap_new (w.alloc (.cells #[a, b, c] t)) (.cells #[a', b', c'] t)
    rw [World.size_alloc] at this
    exact this
  exact ⟨(hB.block w.heap.size (by omega) (by omega)).trans ((hb.block w.heap.size (by omega)).trans e1), (hB.block (w.heap.size + 1) (by omega) (by omega)).trans ((hb.block (w.heap.size + 1) (by omega)).trans e2)⟩
theorem Val.below_of {w w2 wx : World} {o1 o2 : Obj} (hb : Below (w.heap.size + 1 + 1) ((w.alloc o1).alloc o2) w2) (hB : Mill.But (w.heap.size + 1 + 1) w2 wx) : Below w.heap.size w wx := by
  have h := Val.alloc2 hb
  have hz := h.size
  exact ⟨hB.os.trans h.os, hB.tape.trans h.tape, hB.output.trans h.output, Nat.le_trans hz hB.size, fun k hk => (hB.block k (by omega) (by omega)).trans (h.block k hk)⟩
theorem Val.six_set {w : World} {g h k : Nat} {a b c d e f x y z : Value} (hg : k ≠ g) (hh : k ≠ h)
    (hS : w.cell? ⟨g, 0, none⟩ = some a ∧ w.cell? ⟨g, 1, none⟩ = some b ∧ w.cell? ⟨g, 2, none⟩ = some c ∧ w.cell? ⟨h, 0, none⟩ = some d ∧ w.cell? ⟨h, 1, none⟩ = some e ∧ w.cell? ⟨h, 2, none⟩ = some f) :
    (((w.setCell ⟨k, 0, none⟩ x).setCell ⟨k, 1, none⟩ y).setCell ⟨k, 2, none⟩ z).cell? ⟨g, 0, none⟩ = some a ∧ (((w.setCell ⟨k, 0, none⟩ x).setCell ⟨k, 1, none⟩ y).setCell ⟨k, 2, none⟩ z).cell? ⟨g, 1, none⟩ = some b ∧ (((w.setCell ⟨k, 0, none⟩ x).setCell ⟨k, 1, none⟩ y).setCell ⟨k, 2, none⟩ z).cell? ⟨g, 2, none⟩ = some c ∧ (((w.setCell ⟨k, 0, none⟩ x).setCell ⟨k, 1, none⟩ y).setCell ⟨k, 2, none⟩ z).cell? ⟨h, 0, none⟩ = some d ∧ (((w.setCell ⟨k, 0, none⟩ x).setCell ⟨k, 1, none⟩ y).setCell ⟨k, 2, none⟩ z).cell? ⟨h, 1, none⟩ = some e ∧ (((w.setCell ⟨k, 0, none⟩ x).setCell ⟨k, 1, none⟩ y).setCell ⟨k, 2, none⟩ z).cell? ⟨h, 2, none⟩ = some f := by
  have s : ∀ (q : Nat) (i : Nat) (v : Value), k ≠ q → w.cell? ⟨q, i, none⟩ = some v → (((w.setCell ⟨k, 0, none⟩ x).setCell ⟨k, 1, none⟩ y).setCell ⟨k, 2, none⟩ z).cell? ⟨q, i, none⟩ = some v := fun q i v hq hv => by
    rw [World.cell?_setCell_far _ _ _ _ hq, World.cell?_setCell_far _ _ _ _ hq, World.cell?_setCell_far _ _ _ _ hq]; exact hv
  obtain ⟨h1, h2, h3, h4, h5, h6⟩ := hS
  exact ⟨s g 0 _ hg h1, s g 1 _ hg h2, s g 2 _ hg h3, s h 0 _ hh h4, s h 1 _ hh h5, s h 2 _ hh h6⟩

theorem Val.six_setd {w : World} {g h k : Nat} {a b c d e f x y z : Value} (hg : k ≠ g) (hh : k ≠ h)
    (hS : w.cell? ⟨g, 0, none⟩ = some a ∧ w.cell? ⟨g, 1, none⟩ = some b ∧ w.cell? ⟨g, 2, none⟩ = some c ∧ w.cell? ⟨h, 0, none⟩ = some d ∧ w.cell? ⟨h, 1, none⟩ = some e ∧ w.cell? ⟨h, 2, none⟩ = some f) :
    (((w.setCell ⟨k, 0, none⟩ x).setCell ⟨k, 1, none⟩ y).setCell ⟨k, 2, none⟩ z).drew.cell? ⟨g, 0, none⟩ = some a ∧ (((w.setCell ⟨k, 0, none⟩ x).setCell ⟨k, 1, none⟩ y).setCell ⟨k, 2, none⟩ z).drew.cell? ⟨g, 1, none⟩ = some b ∧ (((w.setCell ⟨k, 0, none⟩ x).setCell ⟨k, 1, none⟩ y).setCell ⟨k, 2, none⟩ z).drew.cell? ⟨g, 2, none⟩ = some c ∧ (((w.setCell ⟨k, 0, none⟩ x).setCell ⟨k, 1, none⟩ y).setCell ⟨k, 2, none⟩ z).drew.cell? ⟨h, 0, none⟩ = some d ∧ (((w.setCell ⟨k, 0, none⟩ x).setCell ⟨k, 1, none⟩ y).setCell ⟨k, 2, none⟩ z).drew.cell? ⟨h, 1, none⟩ = some e ∧ (((w.setCell ⟨k, 0, none⟩ x).setCell ⟨k, 1, none⟩ y).setCell ⟨k, 2, none⟩ z).drew.cell? ⟨h, 2, none⟩ = some f := Val.six_set hg hh hS

set_option maxRecDepth 100000 in
set_option maxHeartbeats 8000000 in
theorem drawBinary_any (w : World) (v : Value) (n : Nat) (hB : Mill.Bytes w w.heap.size v n) (hc : ∀ a m c, v = .slice a m c → m ≤ c) (hn : n ≤ 1048576) :
    Calls Tryd.prog 4 #[v] w fun e w' => ∃ (op : Int) (x y : Val.V), e = .returned (.tuple #[.int .i64 op, Val.v x, Val.v y]) ∧ Val.Fine x ∧ Val.Fine y ∧ Below w.heap.size w w' := by
  have hBB : Mill.Bytes ((w.alloc (.cells #[.int .i64 0, .int .i64 0, .string ⟨#[]⟩] 24)).alloc (.cells #[.int .i64 0, .int .i64 0, .string ⟨#[]⟩] 24)) ((w.alloc (.cells #[.int .i64 0, .int .i64 0, .string ⟨#[]⟩] 24)).alloc (.cells #[.int .i64 0, .int .i64 0, .string ⟨#[]⟩] 24)).heap.size v n := by
    have h := hB.below (Nat.le_refl _) (((Below.refl _ w).alloc (Nat.le_refl _) (.cells #[.int .i64 0, .int .i64 0, .string ⟨#[]⟩] 24)).alloc (by simp) (.cells #[.int .i64 0, .int .i64 0, .string ⟨#[]⟩] 24))
    rcases h with e | ⟨b, off, cap, h1, h2, h3⟩
    · exact .inl e
    · exact .inr ⟨b, off, cap, h1, by simp only [World.size_alloc]; omega, h3⟩
  go_enter Tryd.func4, Tryd.ntmps4
  go_upto_if 19 with (first
    | (go_at_call 8; refine (l1Open_any _ _ n hBB hc hn).mono ?_; rintro e w2 ⟨rfl, hRd, hb2⟩; simp only [World.size_alloc] at hRd hb2 ⊢; have hD0 := Mill.Dr.refl hRd)
    | (go_at_call 9; refine (pick_D _ (by assumption) (by omega) (by omega) (by omega)).mono ?_; rintro e w3 ⟨v, rfl, hv, hD2, hB2⟩))
  go_cut [7] from 10 (fun s7 wx => ∃ t : Int, s7 = .int .i64 t ∧ 1 ≤ t ∧ t ≤ 10 ∧ Mill.Dr (w.heap.size + 1 + 1) 0 3 w2 wx)
  case first =>
    go_wp2_with (first
      | (go_at_call 9; refine (pick_D _ (by assumption) (by omega) (by omega) (by omega)).mono ?_; rintro e w3 ⟨v, rfl, hv, hD2, hB2⟩))
    all_goals go_meet
    all_goals exact ⟨_, rfl, by omega, by omega, hD2.mono (by omega)⟩
  case rest =>
    obtain ⟨t, rfl, t0, t1, hD3⟩ := hcut
    go_upto_if 32 with (first
      | (go_at_call 10; refine (any_v _ (by omega) (by omega) hD3 (by omega)).mono ?_; rintro e w4 ⟨X, rfl, hX, hD4, hB4⟩
         have hDa := hD4.alloc (.cells #[.int .i64 X.type, .int .i64 X.n, .string X.text] 24))
      | (go_at_call 9; refine (pick_D _ (by assumption) (by omega) (by omega) (by omega)).mono ?_; rintro e w3 ⟨v, rfl, hv, hD2, hB2⟩))
    have hHa : Val.Held w4.heap.size 24 w3 := Val.Held.but hB2 (by have := hD4.lt; omega) (Val.Held.fresh X hX)
    have hga : w.heap.size + 1 + 1 < w4.heap.size := hD4.lt
    have hga2 : w2.heap.size ≤ w4.heap.size := hD4.but.size
    clear hRd hDa hB2 hD3
    go_cut [7] from 10 (fun s7 wx => ∃ t : Int, s7 = .int .i64 t ∧ 1 ≤ t ∧ t ≤ 10 ∧ Mill.Dr (w.heap.size + 1 + 1) 0 20 w2 wx ∧ Val.Held w4.heap.size 24 wx)
    case first =>
      go_wp2_with (first
        | (go_at_call 9; refine (pick_D _ (by assumption) (by omega) (by omega) (by omega)).mono ?_; rintro e w5 ⟨v, rfl, hv, hD5, hB5⟩))
      all_goals go_meet
      · exact ⟨_, rfl, by omega, by omega, hD5.mono (by omega), hHa.but hB5 (by omega)⟩
      · exact ⟨_, rfl, by omega, by omega, hD2.mono (by omega), hHa⟩
    case rest =>
      clear hD2 hHa hB4 hD4
      obtain ⟨t', rfl, t0', t1', hD6, hH6⟩ := hcut
      go_upto_region 12 with (first
        | (go_at_call 10; refine (any_v _ (by omega) (by omega) hD6 (by omega)).mono ?_; rintro e w7 ⟨Y, rfl, hY, hD7, hB7⟩))
      have hgb : w.heap.size + 1 + 1 < w7.heap.size := hD7.lt
      have hgb2 : w2.heap.size ≤ w7.heap.size := hD7.but.size
      have hgab : w4.heap.size < w7.heap.size := by
        obtain ⟨_, _, hr⟩ := hH6.but hB7 (by omega)
        exact (Array.getElem?_eq_some_iff.1 hr).1
      have hDb := hD7.alloc (.cells #[.int .i64 Y.type, .int .i64 Y.n, .string Y.text] 24)
      have hHa := (hH6.but hB7 (by omega)).alloc (.cells #[.int .i64 Y.type, .int .i64 Y.n, .string Y.text] 24)
      have hHb : Val.Held w7.heap.size 24 (w7.alloc (.cells #[.int .i64 Y.type, .int .i64 Y.n, .string Y.text] 24)) := Val.Held.fresh Y hY
      clear hD7 hB7 hD6 hH6
      generalize (w7.alloc (.cells #[.int .i64 Y.type, .int .i64 Y.n, .string Y.text] 24)) = wb at hDb hHa hHb ⊢
      generalize w7.heap.size = gb at *
      generalize w4.heap.size = ga at *
      have hgg : ga ≠ gb := by omega
      have hgg' : gb ≠ ga := by omega
      go_cut [50] from 10 (fun s50 wx => ∃ b : Bool, s50 = .bool b ∧ Mill.Dr (w.heap.size + 1 + 1) 0 36 w2 wx ∧ Val.Held ga 24 wx ∧ Val.Held gb 24 wx)
      case first =>
        obtain ⟨Z, hZ, ⟨e0, e1, e2⟩, f0, f1, f2⟩ := hHb.open_
        go_wp2_with (first
          | (go_at_call 11; refine (Val.l1Integer_any _ _).mono ?_; rintro e _ ⟨rfl, rfl⟩)
          | (go_at_call 9; refine (pick_D _ (by assumption) (by omega) (by omega) (by omega)).mono ?_; rintro e w8 ⟨v, rfl, hv, hD8, hB8⟩))
        all_goals go_meet
        all_goals first
          | exact ⟨_, rfl, hD8.mono (by omega), hHa.but hB8 (by omega), hHb.but hB8 (by omega)⟩
          | exact ⟨_, rfl, hDb.mono (by omega), hHa, hHb⟩
      case rest =>
        clear hDb hHa hHb
        obtain ⟨b, rfl, hDb, hHa, hHb⟩ := hcut
        go_upto_if 50 with fail
        go_cut [] from 10 (fun wx => Mill.Dr (w.heap.size + 1 + 1) 0 37 w2 wx ∧ Val.Held ga 24 wx ∧ Val.Held gb 24 wx)
        case first =>
          have hm := Mill.max_bd t'
          go_wp2_with (first
            | (go_at_call 12; refine (l1Max_any _ _).mono ?_; rintro e _ ⟨rfl, rfl⟩)
            | (go_at_call 9; refine (pick_D _ (by assumption) (by omega) (by omega) (by omega)).mono ?_; rintro e w8 ⟨v, rfl, hv, hD8, hB8⟩
               have hHa8 := hHa.but hB8 (by omega)
               have hHb8 := hHb.but hB8 (by omega)
               obtain ⟨Z, hZ, ⟨e0, e1, e2⟩, f0, f1, f2⟩ := hHb8.open_))
          · have q1 := Int.emod_nonneg (v : Int) (show Mill.maxOf t' % 71 + 1 ≠ 0 by omega)
            have q2 := Int.emod_lt_of_pos (v : Int) (show 0 < Mill.maxOf t' % 71 + 1 by omega)
            go_meet
            exact ⟨Mill.Dr.set hD8 hgb hgb2, hHa8.other hgg, hHb8.setN _ (by omega) (by omega)⟩
          · go_meet
            exact ⟨hDb.mono (by omega), hHa, hHb⟩
        case rest =>
          clear hDb hHa hHb
          obtain ⟨hDb, hHa, hHb⟩ := hcut
          go_upto_region 14 with fail
          go_cut [78] from 10 (fun s78 wx => ∃ b : Bool, s78 = .bool b ∧ Mill.Dr (w.heap.size + 1 + 1) 0 38 w2 wx ∧ Val.Held ga 24 wx ∧ Val.Held gb 24 wx)
          case first =>
            obtain ⟨Z, hZ, ⟨e0, e1, e2⟩, f0, f1, f2⟩ := hHb.open_
            obtain ⟨X', hX', ⟨c0, c1, c2⟩, k0, k1, k2⟩ := hHa.open_
            go_wp2_with (first
              | (go_at_call 11; refine (Val.l1Integer_any _ _).mono ?_; rintro e _ ⟨rfl, rfl⟩)
              | (go_at_call 9; refine (pick_D _ (by assumption) (by omega) (by omega) (by omega)).mono ?_; rintro e w8 ⟨v, rfl, hv, hD8, hB8⟩))
            all_goals go_meet
            all_goals first
              | exact ⟨_, rfl, hD8.mono (by omega), hHa.but hB8 (by omega), hHb.but hB8 (by omega)⟩
              | exact ⟨_, rfl, hDb.mono (by omega), hHa, hHb⟩
          case rest =>
            clear hDb hHa hHb
            obtain ⟨b2, rfl, hDb, hHa, hHb⟩ := hcut
            go_upto_if 78 with fail
            go_cut [] from 10 (fun wx => Mill.Dr (w.heap.size + 1 + 1) 0 40 w2 wx ∧ Val.Held ga 24 wx ∧ Val.Held gb 24 wx)
            case first =>
              have hm := Mill.max_bd t'
              cases b2
              · go_wp2
                go_meet
                exact ⟨hDb.mono (by omega), hHa, hHb⟩
              · go_upto_region 16 with (first
                 | (go_at_call 9; refine (pick_D _ (Mill.Dr.alloc (by assumption) _) (by omega) (by omega) (by omega)).mono ?_; rintro e w8 ⟨v, rfl, hv, hD8, hB8⟩
                    obtain ⟨x, hxc, hx⟩ := Mill.int_pick [8, 16, 32, 64, 7, 15, 31, 63] hB8 (Mill.Dr.lt (by assumption)) rfl v (by simp; omega)
                    have hHa8 := Val.Held.but hB8 (by omega) (hHa.alloc _)
                    have hHb8 := Val.Held.but hB8 (by omega) (hHb.alloc _)
                    obtain ⟨Z, hZ, ⟨e0, e1, e2⟩, f0, f1, f2⟩ := hHb8.open_))
                have hx2 : -9223372036854775808 ≤ x ∧ x ≤ 9223372036854775807 := by simp at hx; omega
                have hDc := Mill.Dr.set (i := 1) (v := .int .i64 x) hD8 hgb hgb2
                have hHac := hHa8.other (i := 1) (v := .int .i64 x) hgg
                have hHbc := hHb8.setN x hx2.1 hx2.2
                clear hDb hHa hHb hD8 hB8 hHa8 hHb8 e0 e1 e2 f0 f1 f2 hxc hx
                generalize w8.setCell ⟨gb, 1, none⟩ (.int .i64 x) = w9 at hDc hHac hHbc ⊢
                obtain ⟨Z2, hZ2, ⟨e0, e1, e2⟩, f0, f1, f2⟩ := hHbc.open_
                go_quiet (first | (go_at_call 12; refine Val.quiet (l1Max_any _ _)))
                have hDd := hDc.drewN nq
                have hHad := hHac.drewN nq
                have hHbd := hHbc.drewN nq
                clear hDc hHac hHbc e0 e1 e2 f0 f1 f2
                generalize w9.drewN nq = wd at hDd hHad hHbd ⊢
                obtain ⟨Z3, hZ3, ⟨e0, e1, e2⟩, f0, f1, f2⟩ := hHbd.open_
                go_upto_if 91 with fail
                go_cut [] from 10 (fun wx => Mill.Dr (w.heap.size + 1 + 1) 0 39 w2 wx ∧ Val.Held ga 24 wx ∧ Val.Held gb 24 wx)
                case first =>
                  go_wp2
                  · go_meet
                    exact ⟨Mill.Dr.set hDd hgb hgb2, hHad.other hgg, hHbd.setN 8 (by decide) (by decide)⟩
                  · go_meet
                    exact ⟨hDd, hHad, hHbd⟩
                case rest =>
                  clear hDd hHad hHbd e0 e1 e2 f0 f1 f2
                  obtain ⟨hDe, hHae, hHbe⟩ := hcut
                  go_upto_region 19 with (first
                   | (go_at_call 9; refine (pick_D _ (Mill.Dr.alloc (by assumption) _) (by omega) (by omega) (by omega)).mono ?_; rintro e w10 ⟨v, rfl, hv, hD10, hB10⟩
                      obtain ⟨x, hxc, hx⟩ := Mill.int_pick [1, 5, 100] hB10 (Mill.Dr.lt (by assumption)) rfl v (by simp; omega)
                      have hHa10 := Val.Held.but hB10 (by omega) (hHae.alloc _)
                      have hHb10 := Val.Held.but hB10 (by omega) (hHbe.alloc _)
                      obtain ⟨Z, hZ, ⟨e0, e1, e2⟩, f0, f1, f2⟩ := hHa10.open_))
                  have hx2 : 0 ≤ x ∧ x ≤ 100 := by simp at hx; omega
                  have hDf := Mill.Dr.set (i := 1) (v := .int .i64 x) hD10 hga hga2
                  have hHbf := hHb10.other (i := 1) (v := .int .i64 x) hgg'
                  have hHaf := hHa10.setN x (by omega) (by omega)
                  have e1 : (w10.setCell ⟨ga, 1, none⟩ (.int .i64 x)).cell? ⟨ga, 1, none⟩ = some (.int .i64 x) := World.cell?_setCell_same _ _ _ e1
                  clear hDe hHae hHbe hD10 hB10 hHa10 hHb10 e0 e2 f0 f1 f2 hxc hx
                  generalize w10.setCell ⟨ga, 1, none⟩ (.int .i64 x) = wf at hDf hHaf hHbf e1 ⊢
                  obtain ⟨Z4, hZ4, ⟨_, _, _⟩, f0, f1, f2⟩ := hHaf.open_
                  go_wp2
                  · go_meet
                    exact ⟨Mill.Dr.set hDf hga hga2, hHaf.setN _ (by omega) (by omega), hHbf.other hgg'⟩
                  · go_meet
                    exact ⟨hDf, hHaf, hHbf⟩
            case rest =>
              clear hDb hHa hHb
              obtain ⟨hDb, hHa, hHb⟩ := hcut
              go_upto_region 21 with fail
              go_cut [111] from 10 (fun s111 wx => ∃ b : Bool, s111 = .bool b ∧ Mill.Dr (w.heap.size + 1 + 1) 0 41 w2 wx ∧ Val.Held ga 24 wx ∧ Val.Held gb 24 wx)
              case first =>
                go_wp2_with (first
                  | (go_at_call 9; refine (pick_D _ (by assumption) (by omega) (by omega) (by omega)).mono ?_; rintro e w8 ⟨v, rfl, hv, hD8, hB8⟩))
                all_goals go_meet
                all_goals first
                  | exact ⟨_, rfl, hD8.mono (by omega), hHa.but hB8 (by omega), hHb.but hB8 (by omega)⟩
                  | exact ⟨_, rfl, hDb.mono (by omega), hHa, hHb⟩
              case rest =>
                clear hDb hHa hHb
                obtain ⟨b3, rfl, hDb, hHa, hHb⟩ := hcut
                go_upto_if 111 with fail
                go_cut [] from 10 (fun wx => Mill.Dr (w.heap.size + 1 + 1) 0 41 w2 wx ∧ Val.Held ga 24 wx ∧ Val.Held gb 24 wx)
                case first =>
                  obtain ⟨Z, hZ, ⟨e0, e1, e2⟩, f0, f1, f2⟩ := hHb.open_
                  obtain ⟨X', hX', ⟨c0, c1, c2⟩, k0, k1, k2⟩ := hHa.open_
                  go_wp2
                  · go_meet
                    exact ⟨Mill.Dr.set (Mill.Dr.set (Mill.Dr.set hDb hgb hgb2) hgb hgb2) hgb hgb2, ((hHa.other hgg).other hgg).other hgg, hHb.set3 X' hX'⟩
                  · go_meet
                    exact ⟨hDb, hHa, hHb⟩
                case rest =>
                  clear hDb hHa hHb
                  obtain ⟨hDb, hHa, hHb⟩ := hcut
                  go_upto_if 115 with (first
                    | (go_at_call 9; refine (pick_D _ (by assumption) (by omega) (by omega) (by omega)).mono ?_; rintro e w8 ⟨v, rfl, hv, hD8, hB8⟩
                       have hHa8 := hHa.but hB8 (by omega)
                       have hHb8 := hHb.but hB8 (by omega)))
                  clear hDb hHa hHb
                  go_cut [6] from 10 (fun s6 wx => ∃ op : Int, s6 = .int .i64 op ∧ Mill.Dr (w.heap.size + 1 + 1) 0 43 w2 wx ∧ Val.Held ga 24 wx ∧ Val.Held gb 24 wx)
                  case first =>
                    go_wp2_with (first
                      | (go_at_call 9; refine (pick_D _ (by assumption) (by omega) (by omega) (by omega)).mono ?_; rintro e w9 ⟨v, rfl, hv, hD9, hB9⟩))
                    · go_meet
                      exact ⟨_, rfl, hD9.mono (by omega), hHa8.but hB9 (by omega), hHb8.but hB9 (by omega)⟩
                    · go_meet
                      exact ⟨_, rfl, hD8.mono (by omega), hHa8, hHb8⟩
                  case rest =>
                    clear hD8 hB8 hHa8 hHb8
                    obtain ⟨op, rfl, hDb, hHa, hHb⟩ := hcut
                    obtain ⟨Z, hZ, ⟨e0, e1, e2⟩, f0, f1, f2⟩ := hHb.open_
                    obtain ⟨X', hX', ⟨c0, c1, c2⟩, k0, k1, k2⟩ := hHa.open_
                    have hTw := Val.two_of hb2 hDb.but
                    obtain ⟨⟨r0, r1, r2⟩, ⟨m0, m1, m2⟩, ⟨s0, s1, s2⟩, n0, n1, n2⟩ := hTw.cells
                    have hBw := Val.below_of hb2 hDb.but
                    have hz2 := hb2.size
                    simp only [World.size_alloc] at hz2
                    have y1 : ga ≠ w.heap.size := by omega
                    have y2 : ga ≠ w.heap.size + 1 := by omega
                    have y3 : gb ≠ w.heap.size := by omega
                    have y4 : gb ≠ w.heap.size + 1 := by omega
                    have y5 : w.heap.size ≠ ga := by omega
                    have y6 : w.heap.size + 1 ≠ ga := by omega
                    have y7 : w.heap.size ≠ gb := by omega
                    have y8 : w.heap.size + 1 ≠ gb := by omega
                    clear hDb hHa hHb hTw hBB hB
                    go_wp2
                    have hS0 := (⟨c0, c1, c2, e0, e1, e2⟩ : wc.cell? ⟨ga, 0, none⟩ = some (.int .i64 X'.type) ∧ wc.cell? ⟨ga, 1, none⟩ = some (.int .i64 X'.n) ∧ wc.cell? ⟨ga, 2, none⟩ = some (.string X'.text) ∧ wc.cell? ⟨gb, 0, none⟩ = some (.int .i64 Z.type) ∧ wc.cell? ⟨gb, 1, none⟩ = some (.int .i64 Z.n) ∧ wc.cell? ⟨gb, 2, none⟩ = some (.string Z.text))
                    have hS : wc.drew.cell? ⟨ga, 0, none⟩ = some (.int .i64 X'.type) ∧ wc.drew.cell? ⟨ga, 1, none⟩ = some (.int .i64 X'.n) ∧ wc.drew.cell? ⟨ga, 2, none⟩ = some (.string X'.text) ∧ wc.drew.cell? ⟨gb, 0, none⟩ = some (.int .i64 Z.type) ∧ wc.drew.cell? ⟨gb, 1, none⟩ = some (.int .i64 Z.n) ∧ wc.drew.cell? ⟨gb, 2, none⟩ = some (.string Z.text) := ⟨c0, c1, c2, e0, e1, e2⟩
                    go_region_held3 (fun w' => w'.cell? ⟨ga, 0, none⟩ = some (.int .i64 X'.type) ∧ w'.cell? ⟨ga, 1, none⟩ = some (.int .i64 X'.n) ∧ w'.cell? ⟨ga, 2, none⟩ = some (.string X'.text) ∧ w'.cell? ⟨gb, 0, none⟩ = some (.int .i64 Z.type) ∧ w'.cell? ⟨gb, 1, none⟩ = some (.int .i64 Z.n) ∧ w'.cell? ⟨gb, 2, none⟩ = some (.string Z.text)) (with_reducible first | exact hS | exact Val.six_setd y5 y7 hS0 | exact Val.six_setd y6 y8 hS0 | exact Val.six_setd y6 y8 (Val.six_set y5 y7 hS0) | exact Val.six_setd y5 y7 (Val.six_set y6 y8 hS0)) (fail)
                    go_wp2
                    refine bodyPost_ret (v := .tuple #[.int .i64 op, .agg #[.int .i64 X'.type, .int .i64 X'.n, .string X'.text], .agg #[.int .i64 Z.type, .int .i64 Z.n, .string Z.text]]) (by simp [results, Tryd.results4, go_sem, r0, r1, r2, s0, s1, s2]) rfl ⟨op, X', Z, rfl, hX', hZ, ?_⟩
                    exact (((((((hBw.setCell (p := ⟨w.heap.size, 0, none⟩) (by simp only; omega) _).setCell (p := ⟨w.heap.size, 1, none⟩) (by simp only; omega) _).setCell (p := ⟨w.heap.size, 2, none⟩) (by simp only; omega) _).setCell (p := ⟨w.heap.size + 1, 0, none⟩) (by simp only; omega) _).setCell (p := ⟨w.heap.size + 1, 1, none⟩) (by simp only; omega) _).setCell (p := ⟨w.heap.size + 1, 2, none⟩) (by simp only; omega) _)).drew
end Go.Proofs.YtkijfehdgiiejaaDoor
