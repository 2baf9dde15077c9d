import Derived.Test.YtihiimgbdmkjmaaGreatDoorKShA
import Derived.Test.YtihiimgbdmkjmaaGreatDoorKShC
namespace Go.Proofs.YtihiimgbdmkjmaaGreatDoor
open Go.RowKit

/-- A shape and the blocks of its two lists. -/
structure Cd.En where
  sh : Cd.Sh
  p : Nat
  q : Nat
def Cd.En.s (e : Cd.En) : List Int := Cd.sl e.sh
def Cd.En.k (e : Cd.En) : List Int := Cd.kl e.sh
def Cd.enC (e : Cd.En) : List Value := [.int .i64 (Cd.st e.sh), .slice (some ⟨e.p, 0, none⟩) e.s.length e.s.length, .slice (some ⟨e.q, 0, none⟩) e.k.length e.k.length]
def Cd.enCs (E : List Cd.En) : List Value := E.flatMap Cd.enC
theorem Cd.enCs_app (E F : List Cd.En) : Cd.enCs (E ++ F) = Cd.enCs E ++ Cd.enCs F := by unfold Cd.enCs; rw [List.flatMap_append]
theorem Cd.enCs_at : ∀ (E : List Cd.En) (u : Nat) (hu : u < E.length) (j : Nat), j < 3 → (Cd.enCs E)[u * 3 + j]? = (Cd.enC E[u])[j]?
  | e :: E, 0, _, j, hj => by
    rw [show Cd.enCs (e :: E) = Cd.enC e ++ Cd.enCs E from rfl, List.getElem?_append_left (by simp [Cd.enC]; omega)]
    simp
  | e :: E, u + 1, hu, j, hj => by
    have hl : (Cd.enC e).length = 3 := by simp [Cd.enC]
    rw [show Cd.enCs (e :: E) = Cd.enC e ++ Cd.enCs E from rfl, List.getElem?_append_right (by rw [hl]; omega), hl, show (u + 1) * 3 + j - 3 = u * 3 + j by omega]
    have := Cd.enCs_at E u (by simpa using hu) j hj
    simpa using this
/-- The lists of a row of shapes, each in a block of its own. -/
structure Cd.EnsAt (A : Nat) (w : World) (E : List Cd.En) : Prop where
  each : ∀ e ∈ E, A ≤ e.p ∧ e.p < e.q ∧ Cd.Rw e.p 3 e.s.length w (Cd.ints e.s).toArray ∧ Cd.Rw e.q 3 e.k.length w (Cd.ints e.k).toArray
  apart : E.Pairwise (fun a b => a.q < b.p)
theorem Cd.EnsAt.keep {A : Nat} {w w' : World} {E : List Cd.En} (h : Cd.EnsAt A w E) (hk : ∀ e ∈ E, w'.heap[e.p]? = w.heap[e.p]? ∧ w'.heap[e.q]? = w.heap[e.q]?) : Cd.EnsAt A w' E :=
  ⟨fun e he => by
    obtain ⟨h1, h2, h3, h4⟩ := h.each e he
    obtain ⟨k1, k2⟩ := hk e he
    exact ⟨h1, h2, ⟨k1.trans h3.blk, h3.size⟩, ⟨k2.trans h4.blk, h4.size⟩⟩, h.apart⟩
theorem Cd.EnsAt.snoc {A : Nat} {w : World} {E : List Cd.En} (h : Cd.EnsAt A w E) (e : Cd.En) (hA : A ≤ e.p) (hpq : e.p < e.q) (hp : Cd.Rw e.p 3 e.s.length w (Cd.ints e.s).toArray) (hq : Cd.Rw e.q 3 e.k.length w (Cd.ints e.k).toArray) (hlt : ∀ x ∈ E, x.q < e.p) : Cd.EnsAt A w (E ++ [e]) := by
  refine ⟨fun x hx => ?_, ?_⟩
  · rcases List.mem_append.1 hx with hx | hx
    · exact h.each x hx
    · rw [List.mem_singleton] at hx; subst hx; exact ⟨hA, hpq, hp, hq⟩
  · rw [List.pairwise_append]
    exact ⟨h.apart, List.pairwise_singleton _ _, fun x hx y hy => by rw [List.mem_singleton] at hy; subst hy; exact hlt x hx⟩
/-- A row of shapes that is owned, lists and all, in blocks from A on. -/
structure Cd.OwnAt (A : Nat) (w : World) (v : Value) (E : List Cd.En) : Prop where
  row : w.ownsRow A 43 3 v E.length (Cd.enCs E)
  ens : Cd.EnsAt A w E
theorem Cd.own_keep {w w' : World} {B e size n : Nat} {v : Value} {xs : List Value} (h : w.ownsRow B e size v n xs) (hk : ∀ k, v.ownBlock = some k → B ≤ k → k < w.heap.size → w'.heap[k]? = w.heap[k]?) : w'.ownsRow B e size v n xs := by
  obtain ⟨h1, h2⟩ := h
  refine ⟨h1, ?_⟩
  rcases h2 with h2 | ⟨g, cap, cur, rfl, hB, hg, r⟩
  · exact .inl h2
  · exact .inr ⟨g, cap, cur, rfl, hB, (hk g rfl hB (Array.getElem?_eq_some_iff.1 hg).1).trans hg, r⟩
theorem Cd.OwnAt.tch {A : Nat} {w w' : World} {v : Value} {E : List Cd.En} {S : Nat → Prop} (h : Cd.OwnAt A w v E) (ht : Cd.Tch S w w') (hs : ∀ k, A ≤ k → ¬ S k) : Cd.OwnAt A w' v E :=
  ⟨Cd.own_keep h.row fun k _ hA hk => ht.keep k hk (hs k hA), h.ens.keep fun e he => by
    obtain ⟨h1, h2, h3, h4⟩ := h.ens.each e he
    exact ⟨ht.keep _ h3.lt (hs _ h1), ht.keep _ h4.lt (hs _ (by omega))⟩⟩
theorem Cd.OwnAt.below {A : Nat} {w w' : World} {v : Value} {E : List Cd.En} (h : Cd.OwnAt A w v E) (hb : Below w.heap.size w w') : Cd.OwnAt A w' v E :=
  h.tch (S := fun _ => False) (Cd.Tch.of_below hb) (fun _ _ h => h)
/-- The frame of such a row: what markShapeS and heldShapeS go by. -/
structure Cd.Frm (g cap : Nat) (E : List Cd.En) (w : World) : Prop where
  row : ∃ N cur, Cd.Rw g 43 N w cur ∧ E.length * 3 ≤ N
  cells : ∀ u (hu : u < E.length), w.cell? ⟨g, u * 3 + 1, none⟩ = some (.slice (some ⟨E[u].p, 0, none⟩) E[u].s.length E[u].s.length) ∧ w.cell? ⟨g, u * 3 + 2, none⟩ = some (.slice (some ⟨E[u].q, 0, none⟩) E[u].k.length E[u].k.length)
  rows : ∀ u (hu : u < E.length), (∃ cur, Cd.Rw E[u].p 3 E[u].s.length w cur) ∧ (∃ cur, Cd.Rw E[u].q 3 E[u].k.length w cur)
theorem Cd.OwnAt.frm {A : Nat} {w : World} {v : Value} {E : List Cd.En} (h : Cd.OwnAt A w v E) (h0 : 0 < E.length) : ∃ g cap, v = .slice (some ⟨g, 0, none⟩) E.length cap ∧ A ≤ g ∧ Cd.Frm g cap E w ∧ ∀ u (hu : u < E.length), w.cell? ⟨g, u * 3, none⟩ = some (.int .i64 (Cd.st E[u].sh)) := by
  rcases h.row.2 with ⟨_, h1⟩ | ⟨g, cap, cur, rfl, hA, hg, hnc, hmx, hsz, htk⟩
  · omega
  · have hcell : ∀ u (hu : u < E.length) j, j < 3 → w.cell? ⟨g, u * 3 + j, none⟩ = (Cd.enC E[u])[j]? := fun u hu j hj => by
      rw [Lib.cell_of_heap hg, ← Cd.enCs_at E u hu j hj, ← htk, List.getElem?_take, if_pos (by omega), Array.getElem?_toList]
    refine ⟨g, cap, rfl, hA, ⟨⟨cap * 3, cur, ⟨hg, hsz⟩, by omega⟩, fun u hu => ⟨hcell u hu 1 (by omega), hcell u hu 2 (by omega)⟩, fun u hu => ?_⟩, fun u hu => hcell u hu 0 (by omega)⟩
    obtain ⟨-, -, h3, h4⟩ := h.ens.each E[u] (List.getElem_mem hu)
    exact ⟨⟨_, h3⟩, ⟨_, h4⟩⟩
theorem Cd.rw_ints {p : Nat} {w : World} {l : List Int} (h : Cd.Rw p 3 l.length w (Cd.ints l).toArray) (B : Nat) (hB : p < B) : Cd.IntsAt B w (.slice (some ⟨p, 0, none⟩) l.length l.length) l :=
  ⟨_, _, rfl, fun i hi => ⟨p, 0, rfl, hB, by rw [Nat.zero_add, Lib.cell_of_heap h.blk]; simp [Cd.ints, List.getElem?_eq_getElem hi]⟩⟩
theorem Cd.OwnAt.len {A : Nat} {w : World} {v : Value} {E : List Cd.En} (h : Cd.OwnAt A w v E) : ∃ a cap, v = .slice a E.length cap := by
  rcases h.row.2 with ⟨rfl, h1⟩ | ⟨g, cap, cur, rfl, _⟩
  · exact ⟨none, 0, by rw [h1]⟩
  · exact ⟨_, _, rfl⟩
theorem Cd.OwnAt.out {A : Nat} {w : World} {v : Value} {E : List Cd.En} {X : List Cd.Sh} (h : Cd.OwnAt A w v E) (hX : E.map (·.sh) = X) : Cd.OutAt w.heap.size w v X := by
  have hl : X.length = E.length := by rw [← hX, List.length_map]
  by_cases h0 : 0 < E.length
  · obtain ⟨g, cap, rfl, -, hF, hst⟩ := h.frm h0
    rw [← hl]
    refine ⟨_, _, rfl, fun u hu => ?_⟩
    have hu2 : u < E.length := by omega
    have hxu : X[u] = E[u].sh := by subst hX; simp
    obtain ⟨-, -, h3, h4⟩ := h.ens.each E[u] (List.getElem_mem hu2)
    obtain ⟨c1, c2⟩ := hF.cells u hu2
    obtain ⟨N, cur, hr, -⟩ := hF.row
    rw [hxu]
    exact ⟨g, _, _, _, _, rfl, hr.lt, ⟨hst u hu2, c1, c2⟩, Cd.rw_ints h3 _ h3.lt, Cd.rw_ints h4 _ h4.lt⟩
  · obtain ⟨a, cap, rfl⟩ := h.len
    rw [← hl]
    exact ⟨a, cap, rfl, fun u hu => by omega⟩
theorem Cd.OutAt.tch {B : Nat} {w w' : World} {v : Value} {X : List Cd.Sh} {S : Nat → Prop} (h : Cd.OutAt B w v X) (ht : Cd.Tch S w w') (hB : B ≤ w.heap.size) (hs : ∀ k, k < B → ¬ S k) : Cd.OutAt B w' v X := h.below (ht.below hB hs)
theorem Cd.OutAt.mono {B C : Nat} {w : World} {v : Value} {X : List Cd.Sh} (h : Cd.OutAt B w v X) (hC : B ≤ C) : Cd.OutAt C w v X := by
  obtain ⟨a, cap, rfl, hc⟩ := h
  refine ⟨a, cap, rfl, fun u hu => ?_⟩
  obtain ⟨g, sa, sc, ka, kc, ha, hg, h3, h4, h5⟩ := hc u hu
  exact ⟨g, sa, sc, ka, kc, ha, by omega, h3, Cd.IntsAt.mono h4 hC, Cd.IntsAt.mono h5 hC⟩
/-- Where the marks of the shape at u begin. -/
def Cd.kAt (E : List Cd.En) : Nat → Int
  | 0 => 1
  | u + 1 => match E[u]? with
    | some e => Cd.kAt E u + 1 + (e.s.length : Int) + (e.k.length : Int)
    | none => Cd.kAt E u
theorem Cd.kAt_succ (E : List Cd.En) (u : Nat) (hu : u < E.length) : Cd.kAt E (u + 1) = Cd.kAt E u + 1 + (E[u].s.length : Int) + (E[u].k.length : Int) := by
  rw [Cd.kAt, List.getElem?_eq_getElem hu]
theorem Cd.kAt_bd (E : List Cd.En) (hE : ∀ e ∈ E, e.s.length ≤ 1048576 ∧ e.k.length ≤ 1048576) : ∀ u, u ≤ E.length → 1 ≤ Cd.kAt E u ∧ Cd.kAt E u ≤ 1 + 3000000 * (u : Int)
  | 0, _ => by simp [Cd.kAt]
  | u + 1, h => by
    obtain ⟨h1, h2⟩ := Cd.kAt_bd E hE u (by omega)
    obtain ⟨h3, h4⟩ := hE E[u] (List.getElem_mem (by omega))
    rw [Cd.kAt_succ E u (by omega)]
    omega
/-- The shape at u is marked, from K on. -/
structure Cd.MkAt (g : Nat) (u : Nat) (e : Cd.En) (K : Int) (w : World) : Prop where
  st : w.cell? ⟨g, u * 3, none⟩ = some (.int .i64 K)
  s : ∀ j, j < e.s.length → w.cell? ⟨e.p, j, none⟩ = some (.int .i64 (K + 1 + (j : Int)))
  k : ∀ j, j < e.k.length → w.cell? ⟨e.q, j, none⟩ = some (.int .i64 (K + 1 + (e.s.length : Int) + (j : Int)))
theorem Cd.MkAt.keep {g u : Nat} {e : Cd.En} {K : Int} {w w' : World} (h : Cd.MkAt g u e K w) (hg : w'.cell? ⟨g, u * 3, none⟩ = w.cell? ⟨g, u * 3, none⟩) (hp : w'.heap[e.p]? = w.heap[e.p]?) (hq : w'.heap[e.q]? = w.heap[e.q]?) : Cd.MkAt g u e K w' :=
  ⟨hg.trans h.st, fun j hj => by rw [World.cell?_of_block (a := ⟨e.p, j, none⟩) hp]; exact h.s j hj, fun j hj => by rw [World.cell?_of_block (a := ⟨e.q, j, none⟩) hq]; exact h.k j hj⟩
theorem Cd.Frm.tch {g cap : Nat} {E : List Cd.En} {w w' : World} {S : Nat → Prop} (h : Cd.Frm g cap E w) (ht : Cd.Tch S w w') (hg : ¬ S g) : Cd.Frm g cap E w' := by
  obtain ⟨N, cur, hr, hN⟩ := h.row
  have hb := ht.keep g hr.lt hg
  refine ⟨?_, fun u hu => ?_, fun u hu => ⟨ht.rw (h.rows u hu).1, ht.rw (h.rows u hu).2⟩⟩
  · obtain ⟨c2, h2⟩ := ht.rw ⟨cur, hr⟩
    exact ⟨N, c2, h2, hN⟩
  · obtain ⟨h1, h2⟩ := h.cells u hu
    exact ⟨by rw [World.cell?_of_block (a := ⟨g, u * 3 + 1, none⟩) hb]; exact h1, by rw [World.cell?_of_block (a := ⟨g, u * 3 + 2, none⟩) hb]; exact h2⟩
theorem Cd.Frm.set {g cap : Nat} {E : List Cd.En} {w : World} (h : Cd.Frm g cap E w) (u : Nat) (v : Value) : Cd.Frm g cap E (w.setCell ⟨g, u * 3, none⟩ v) := by
  have ht : Cd.Tch (fun _ => True) w (w.setCell ⟨g, u * 3, none⟩ v) := Cd.Tch.set w g (u * 3) v trivial
  obtain ⟨N, cur, hr, hN⟩ := h.row
  refine ⟨?_, fun x hx => ?_, fun x hx => ⟨ht.rw (h.rows x hx).1, ht.rw (h.rows x hx).2⟩⟩
  · obtain ⟨c2, h2⟩ := ht.rw ⟨cur, hr⟩
    exact ⟨N, c2, h2, hN⟩
  · obtain ⟨h1, h2⟩ := h.cells x hx
    exact ⟨by rw [Cd.cell_set_ne (by omega)]; exact h1, by rw [Cd.cell_set_ne (by omega)]; exact h2⟩
theorem Cd.Frm.ne {g cap : Nat} {E : List Cd.En} {w : World} (h : Cd.Frm g cap E w) (u : Nat) (hu : u < E.length) : g ≠ E[u].p ∧ g ≠ E[u].q := by
  obtain ⟨N, cur, hr, -⟩ := h.row
  exact ⟨Cd.rw_ne ⟨cur, hr⟩ (h.rows u hu).1 (by decide), Cd.rw_ne ⟨cur, hr⟩ (h.rows u hu).2 (by decide)⟩
theorem Cd.Frm.cell {g cap : Nat} {E : List Cd.En} {w : World} (h : Cd.Frm g cap E w) (u : Nat) (hu : u < E.length) : (∃ y, w.cell? ⟨g, u * 3, none⟩ = some y) ∧ w.frozen? ⟨g, u * 3, none⟩ = false := by
  obtain ⟨N, cur, hr, hN⟩ := h.row
  exact hr.cell (u * 3) (by omega)
/-- The blocks of the lists lie in their order. -/
def Cd.Ord (E : List Cd.En) : Prop := (∀ u (hu : u < E.length), E[u].p < E[u].q) ∧ ∀ u v (hu : u < v) (hv : v < E.length), (E[u]'(by omega)).q < E[v].p
theorem Cd.EnsAt.ord {A : Nat} {w : World} {E : List Cd.En} (h : Cd.EnsAt A w E) : Cd.Ord E :=
  ⟨fun u hu => (h.each E[u] (List.getElem_mem hu)).2.1, fun u v hu hv => List.pairwise_iff_getElem.1 h.apart u v (by omega) hv hu⟩
end Go.Proofs.YtihiimgbdmkjmaaGreatDoor
namespace Go.Proofs.YtihiimgbdmkjmaaGreatDoor
open Go.RowKit

set_option maxRecDepth 100000 in
set_option maxHeartbeats 1000000 in
theorem Cd.heldIntS_any (p n cap : Nat) (k : Int) (h1 : 0 ≤ k) (h2 : k ≤ 100000000000000) (hl : n ≤ 1048576) (w : World) (hp : p < w.heap.size) (hc : ∀ j, j < n → w.cell? ⟨p, j, none⟩ = some (.int .i64 (k + (j : Int)))) :
    Calls Tryz.prog 25 #[.slice (some ⟨p, 0, none⟩) n cap, .int .i64 k] w fun e w' => e = .returned (.int .i64 (k + (n : Int))) ∧ Below w.heap.size w w' := by
  have HC : Hid (∀ j, j < n → w.cell? ⟨p, j, none⟩ = some (.int .i64 (k + (j : Int)))) := hc
  clear hc
  go_enter Tryz.func25, Tryz.ntmps25
  go_wp2_with fail
  go_loopw [1, 5] (fun q t wr => ∃ (i : Nat), i ≤ n ∧ t = .int .i64 (i : Int) ∧ q = .int .i64 (k + (i : Int)) ∧ Below w.heap.size w wr) (fun _ t _ => n - (intOf t).toNat)
  case atStart => exact ⟨0, by omega, rfl, by simp, Below.refl _ _⟩
  case round =>
    obtain ⟨i, hi, rfl, rfl, hbw⟩ := hrel
    by_cases hlt : i < n
    · have hltI : (i : Int) < (n : Int) := by omega
      have e0 := HC.out i hlt
      rw [← hbw.cell (p := ⟨p, i, none⟩) hp] at e0
      obtain ⟨K, HK⟩ : ∃ K, Hid (k + (i : Int) = K) := ⟨_, (rfl : _ = _)⟩
      have hK : 0 ≤ K ∧ K ≤ 200000000000000 := by have := HK.out; omega
      rw [HK.out] at e0 ⊢
      have hne : (K != K) = false := by simp
      go_wp2_with fail
      go_roundw
      case rel =>
        refine ⟨i + 1, by omega, by go_num, ?_, hbw⟩
        rw [show k + ((i + 1 : Nat) : Int) = K + 1 by have := HK.out; omega]
      case measure => simp [intOf]; omega
    · have hltI : ¬ (i : Int) < (n : Int) := by omega
      have hin : i = n := by omega
      subst hin
      go_wp2_with fail
      go_ret
      exact ⟨rfl, hbw⟩
set_option maxRecDepth 100000 in
set_option maxHeartbeats 2000000 in
theorem Cd.markShapeS_any (E : List Cd.En) (g cap A : Nat) (hl : E.length ≤ 1048576) (hE : ∀ e ∈ E, e.s.length ≤ 1048576 ∧ e.k.length ≤ 1048576) (hO : Cd.Ord E) (hA : A ≤ g ∧ ∀ u (hu : u < E.length), A ≤ E[u].p) (w : World) (hF : Cd.Frm g cap E w) :
    Calls Tryz.prog 11 #[.slice (some ⟨g, 0, none⟩) E.length cap, .int .i64 1] w fun e w' => e = .returned (.int .i64 (Cd.kAt E E.length)) ∧ Cd.Frm g cap E w' ∧ (∀ u (hu : u < E.length), Cd.MkAt g u E[u] (Cd.kAt E u) w') ∧ Cd.Tch (fun j => A ≤ j) w w' := by
  have HF0 : Hid (Cd.Frm g cap E w) := hF
  have HE : Hid (∀ e ∈ E, e.s.length ≤ 1048576 ∧ e.k.length ≤ 1048576) := hE
  clear hF hE
  go_enter Tryz.func11, Tryz.ntmps11
  go_wp2_with fail
  go_loopw [1, 5] (fun q t wr => ∃ (i : Nat), i ≤ E.length ∧ t = .int .i64 (i : Int) ∧ q = .int .i64 (Cd.kAt E i) ∧ Cd.Frm g cap E wr ∧ Hid (∀ u (hu : u < E.length), u < i → Cd.MkAt g u E[u] (Cd.kAt E u) wr) ∧ Cd.Tch (fun j => A ≤ j) w wr) (fun _ t _ => E.length - (intOf t).toNat)
  case atStart => exact ⟨0, by omega, rfl, rfl, HF0.out, fun u hu h => by omega, Cd.Tch.refl _ _⟩
  case round =>
    obtain ⟨i, hi, rfl, rfl, hF, HMK, htw⟩ := hrel
    by_cases hlt : i < E.length
    · have hltI : (i : Int) < (E.length : Int) := by omega
      obtain ⟨hK1, hK2⟩ := Cd.kAt_bd E HE.out i hi
      have HKS : Hid (Cd.kAt E (i + 1) = Cd.kAt E i + 1 + (E[i].s.length : Int) + (E[i].k.length : Int)) := Cd.kAt_succ E i hlt
      obtain ⟨hs1, hs2⟩ := HE.out E[i] (List.getElem_mem hlt)
      obtain ⟨hgp, hgq⟩ := hF.ne i hlt
      have hpq := hO.1 i hlt
      have HAP : Hid (∀ u (hu : u < E.length), u < i → E[u].p ≠ E[i].p ∧ E[u].p ≠ E[i].q ∧ E[u].q ≠ E[i].p ∧ E[u].q ≠ E[i].q) := fun u hu h => by
        have h1 := hO.2 u i h hlt
        have h2 := hO.1 u hu
        omega
      have HGN : Hid (∀ u (hu : u < E.length), g ≠ E[u].p ∧ g ≠ E[u].q) := fun u hu => hF.ne u hu
      have HAi : Hid (A ≤ E[i].p ∧ A ≤ E[i].q) := ⟨hA.2 i hlt, by have := hA.2 i hlt; omega⟩
      obtain ⟨K, HK⟩ : ∃ K, Hid (Cd.kAt E i = K) := ⟨_, (rfl : _ = _)⟩
      rw [HK.out] at hK1 hK2 HKS ⊢
      obtain ⟨d, HD⟩ : ∃ d, Hid (E[i] = d) := ⟨_, (rfl : E[i] = _)⟩
      have HFR : Hid (∀ U, Cd.Frm g cap E U → U.cell? ⟨g, i * 3 + 1, none⟩ = some (.slice (some ⟨d.p, 0, none⟩) d.s.length d.s.length) ∧ U.cell? ⟨g, i * 3 + 2, none⟩ = some (.slice (some ⟨d.q, 0, none⟩) d.k.length d.k.length) ∧ (∃ cur, Cd.Rw d.p 3 d.s.length U cur) ∧ (∃ cur, Cd.Rw d.q 3 d.k.length U cur)) := fun U h => by
        have h1 := h.cells i hlt
        have h2 := h.rows i hlt
        rw [HD.out] at h1 h2
        exact ⟨h1.1, h1.2, h2.1, h2.2⟩
      rw [HD.out] at HKS hs1 hs2 hgp hgq hpq HAP HAi
      have HF : Hid (Cd.Frm g cap E wr) := hF
      have HTW : Hid (Cd.Tch (fun j => A ≤ j) w wr) := htw
      obtain ⟨⟨y0, k0⟩, f0⟩ := hF.cell i hlt
      obtain ⟨d1, -, -, -⟩ := HFR.out wr hF
      have HF1 : Hid (Cd.Frm g cap E (wr.setCell ⟨g, i * 3, none⟩ (.int .i64 K))) := hF.set i _
      have HMST : Hid ((wr.setCell ⟨g, i * 3, none⟩ (.int .i64 K)).cell? ⟨g, i * 3, none⟩ = some (.int .i64 K)) := by
        obtain ⟨N, cur, hr, hN⟩ := hF.row
        rw [Hid, Lib.cell_of_heap (hr.store (i * 3) (.int .i64 K)).blk, Array.getElem?_setIfInBounds, if_pos rfl, if_pos (by rw [hr.size]; omega)]
      clear hF htw
      go_wp2_with (first
        | (go_at_call 24; refine (Cd.markIntS_any d.q d.k.length d.k.length _ (by omega) (by omega) hs2 _ (HFR.out w1 HF2.out).2.2.2).mono ?_; rintro e w2 ⟨rfl, hc2, ht2⟩; have HC2 : Hid (∀ j, j < d.k.length → w2.cell? ⟨d.q, j, none⟩ = some (.int .i64 (K + 1 + (d.s.length : Int) + (j : Int)))) := hc2; have HT2 : Hid (Cd.Tch (· = d.q) w1 w2) := ht2; clear hc2 ht2)
        | (go_at_call 24; refine (Cd.markIntS_any d.p d.s.length d.s.length _ (by omega) (by omega) hs1 _ (HFR.out _ HF1.out).2.2.1).mono ?_; rintro e w1 ⟨rfl, hc1, ht1⟩; have HC1 : Hid (∀ j, j < d.s.length → w1.cell? ⟨d.p, j, none⟩ = some (.int .i64 (K + 1 + (j : Int)))) := hc1; have HT1 : Hid (Cd.Tch (· = d.p) (wr.setCell ⟨g, i * 3, none⟩ (.int .i64 K)) w1) := ht1; have HF2 : Hid (Cd.Frm g cap E w1) := HF1.out.tch ht1 (fun e => hgp e); obtain ⟨-, d2, -, -⟩ := HFR.out w1 HF2.out; clear hc1 ht1))
      have HF3 : Hid (Cd.Frm g cap E w2) := HF2.out.tch HT2.out (fun e => hgq e)
      have HLT : Hid (∀ u (hu : u < E.length), E[u].p < wr.heap.size ∧ E[u].q < wr.heap.size) := fun u hu => by
        obtain ⟨⟨_, h1⟩, ⟨_, h2⟩⟩ := HF.out.rows u hu
        exact ⟨h1.lt, h2.lt⟩
      have hgl : g < wr.heap.size := by obtain ⟨N, cur, hr, -⟩ := HF.out.row; exact hr.lt
      have z1 : wr.heap.size ≤ w1.heap.size := by have := HT1.out.size; simpa using this
      have hkeep : ∀ k, k < wr.heap.size → k ≠ g → k ≠ d.p → k ≠ d.q → w2.heap[k]? = wr.heap[k]? := fun k hk h1 h2 h3 => by
        rw [HT2.out.keep k (by omega) h3, HT1.out.keep k (by simpa using hk) h2, Below.heap_setCell _ _ _ _ (by exact h1)]
      have hgk : ∀ j, w2.cell? ⟨g, j, none⟩ = (wr.setCell ⟨g, i * 3, none⟩ (.int .i64 K)).cell? ⟨g, j, none⟩ := fun j => by
        rw [World.cell?_of_block (a := ⟨g, j, none⟩) (HT2.out.keep g (by omega) hgq), World.cell?_of_block (a := ⟨g, j, none⟩) (HT1.out.keep g (by simpa using hgl) hgp)]
      have HM2 : Hid (∀ u (hu : u < E.length), u < i + 1 → Cd.MkAt g u E[u] (Cd.kAt E u) w2) := fun u hu h => by
        by_cases e : u = i
        · subst e
          rw [HD.out, HK.out]
          refine ⟨by rw [hgk]; exact HMST.out, fun j hj => ?_, HC2.out⟩
          rw [World.cell?_of_block (a := ⟨d.p, j, none⟩) (HT2.out.keep d.p (by have := (HLT.out u hu).1; rw [HD.out] at this; omega) (by omega))]
          exact HC1.out j hj
        · obtain ⟨a1, a2, a3, a4⟩ := HAP.out u hu (by omega)
          obtain ⟨b1, b2⟩ := HGN.out u hu
          obtain ⟨l1, l2⟩ := HLT.out u hu
          refine (HMK.out u hu (by omega)).keep ?_ (hkeep _ l1 (Ne.symm b1) a1 a2) (hkeep _ l2 (Ne.symm b2) a3 a4)
          rw [hgk, Cd.cell_set_ne (by omega)]
      have HT3 : Hid (Cd.Tch (fun j => A ≤ j) w w2) := ((HTW.out.trans (Cd.Tch.set wr g (i * 3) _ hA.1)).trans (HT1.out.mono fun k hk => by show A ≤ k; rw [hk]; exact HAi.out.1)).trans (HT2.out.mono fun k hk => by show A ≤ k; rw [hk]; exact HAi.out.2)
      clear hkeep hgk
      go_roundw
      case rel =>
        refine ⟨i + 1, by omega, by go_num, ?_, HF3.out, HM2, HT3.out⟩
        rw [HKS.out]
      case measure => simp [intOf]; omega
    · have hltI : ¬ (i : Int) < (E.length : Int) := by omega
      have hin : i = E.length := by omega
      subst hin
      have HF : Hid (Cd.Frm g cap E wr) := hF
      clear hF
      go_wp2_with fail
      go_ret
      exact ⟨rfl, HF.out, fun u hu => HMK.out u hu hu, htw⟩
set_option maxRecDepth 100000 in
set_option maxHeartbeats 2000000 in
theorem Cd.heldShapeS_any (E : List Cd.En) (g cap : Nat) (hl : E.length ≤ 1048576) (hE : ∀ e ∈ E, e.s.length ≤ 1048576 ∧ e.k.length ≤ 1048576) (w : World) (hF : Cd.Frm g cap E w) (hM : ∀ u (hu : u < E.length), Cd.MkAt g u E[u] (Cd.kAt E u) w) :
    Calls Tryz.prog 12 #[.slice (some ⟨g, 0, none⟩) E.length cap, .int .i64 1] w fun e w' => e = .returned (.int .i64 (Cd.kAt E E.length)) ∧ Below w.heap.size w w' := by
  have HF : Hid (Cd.Frm g cap E w) := hF
  have HM : Hid (∀ u (hu : u < E.length), Cd.MkAt g u E[u] (Cd.kAt E u) w) := hM
  have HE : Hid (∀ e ∈ E, e.s.length ≤ 1048576 ∧ e.k.length ≤ 1048576) := hE
  have hgl : g < w.heap.size := by obtain ⟨N, cur, hr, -⟩ := hF.row; exact hr.lt
  clear hF hM hE
  go_enter Tryz.func12, Tryz.ntmps12
  go_wp2_with fail
  go_loopw [1, 5] (fun q t wr => ∃ (i : Nat), i ≤ E.length ∧ t = .int .i64 (i : Int) ∧ q = .int .i64 (Cd.kAt E i) ∧ Below w.heap.size w wr) (fun _ t _ => E.length - (intOf t).toNat)
  case atStart => exact ⟨0, by omega, rfl, rfl, Below.refl _ _⟩
  case round =>
    obtain ⟨i, hi, rfl, rfl, hbw⟩ := hrel
    by_cases hlt : i < E.length
    · have hltI : (i : Int) < (E.length : Int) := by omega
      obtain ⟨hK1, hK2⟩ := Cd.kAt_bd E HE.out i hi
      have HKS : Hid (Cd.kAt E (i + 1) = Cd.kAt E i + 1 + (E[i].s.length : Int) + (E[i].k.length : Int)) := Cd.kAt_succ E i hlt
      obtain ⟨hs1, hs2⟩ := HE.out E[i] (List.getElem_mem hlt)
      have hm := HM.out i hlt
      have hc := HF.out.cells i hlt
      obtain ⟨⟨_, hr1⟩, ⟨_, hr2⟩⟩ := HF.out.rows i hlt
      have hl1 := hr1.lt
      have hl2 := hr2.lt
      clear hr1 hr2
      obtain ⟨K, HK⟩ : ∃ K, Hid (Cd.kAt E i = K) := ⟨_, (rfl : _ = _)⟩
      rw [HK.out] at hK1 hK2 HKS hm ⊢
      obtain ⟨d, HD⟩ : ∃ d, Hid (E[i] = d) := ⟨_, (rfl : E[i] = _)⟩
      rw [HD.out] at HKS hs1 hs2 hm hc hl1 hl2
      have HAT : Hid (∀ U, Below w.heap.size w U → U.cell? ⟨g, i * 3, none⟩ = some (.int .i64 K) ∧ U.cell? ⟨g, i * 3 + 1, none⟩ = some (.slice (some ⟨d.p, 0, none⟩) d.s.length d.s.length) ∧ U.cell? ⟨g, i * 3 + 2, none⟩ = some (.slice (some ⟨d.q, 0, none⟩) d.k.length d.k.length) ∧ (d.p < U.heap.size ∧ ∀ j, j < d.s.length → U.cell? ⟨d.p, j, none⟩ = some (.int .i64 (K + 1 + (j : Int)))) ∧ (d.q < U.heap.size ∧ ∀ j, j < d.k.length → U.cell? ⟨d.q, j, none⟩ = some (.int .i64 (K + 1 + (d.s.length : Int) + (j : Int))))) := fun U hU => by
        have hz := hU.size
        exact ⟨(hU.cell (p := ⟨g, i * 3, none⟩) hgl).trans hm.st, (hU.cell (p := ⟨g, i * 3 + 1, none⟩) hgl).trans hc.1, (hU.cell (p := ⟨g, i * 3 + 2, none⟩) hgl).trans hc.2, ⟨by omega, fun j hj => (hU.cell (p := ⟨d.p, j, none⟩) hl1).trans (hm.s j hj)⟩, ⟨by omega, fun j hj => (hU.cell (p := ⟨d.q, j, none⟩) hl2).trans (hm.k j hj)⟩⟩
      obtain ⟨e0, e1, -, -, -⟩ := HAT.out wr hbw
      clear hm hc
      have hne : (K != K) = false := by simp
      go_wp2_with (first
        | (go_at_call 25; refine (Cd.heldIntS_any d.q d.k.length d.k.length _ (by omega) (by omega) hs2 w1 (HAT.out w1 hw1).2.2.2.2.1 (HAT.out w1 hw1).2.2.2.2.2).mono ?_; rintro e w2 ⟨rfl, hb2⟩; have hw2 : Below w.heap.size w w2 := hw1.trans (hb2.mono hw1.size))
        | (go_at_call 25; refine (Cd.heldIntS_any d.p d.s.length d.s.length _ (by omega) (by omega) hs1 wr (HAT.out wr hbw).2.2.2.1.1 (HAT.out wr hbw).2.2.2.1.2).mono ?_; rintro e w1 ⟨rfl, hb1⟩; have hw1 : Below w.heap.size w w1 := hbw.trans (hb1.mono hbw.size); obtain ⟨-, -, e2, -, -⟩ := HAT.out w1 hw1))
      go_roundw
      case rel =>
        refine ⟨i + 1, by omega, by go_num, ?_, hw2⟩
        rw [HKS.out]
      case measure => simp [intOf]; omega
    · have hltI : ¬ (i : Int) < (E.length : Int) := by omega
      have hin : i = E.length := by omega
      subst hin
      go_wp2_with fail
      go_ret
      exact ⟨rfl, hbw⟩
end Go.Proofs.YtihiimgbdmkjmaaGreatDoor
