import Derived.Test.YtihiimgbdmkjmaaGreatDoorKShG
import Derived.Test.YtihiimgbdmkjmaaGreatDoorKShA
import Derived.Test.YtihiimgbdmkjmaaGreatDoorKCfYr
import Derived.Deep.RegionWith
namespace Go.Proofs.YtihiimgbdmkjmaaGreatDoor
open Go.RowKit

theorem Cd.sb_eq (sh : Cd.Sh) : Cd.sb sh = Cd.bs (Cd.sl sh) := by cases sh <;> rfl
theorem Cd.kb_eq (sh : Cd.Sh) : Cd.kb sh = Cd.bs (Cd.kl sh) := by cases sh <;> rfl
theorem Cd.own_rw {w : World} {B p : Nat} {l : List Int} (h : w.ownsRow B 3 1 (.slice (some ⟨p, 0, none⟩) l.length l.length) l.length (Cd.ints l)) : Cd.Rw p 3 l.length w (Cd.ints l).toArray := by
  rcases h.2 with ⟨h1, _⟩ | ⟨g, cap, cur, h1, _, hg, _, _, hs, ht⟩
  · simp at h1
  · injection h1 with h1 _ h2
    injection h1 with h1; injection h1 with h1
    subst h1 h2
    have e : cur = (Cd.ints l).toArray := by
      rw [← ht, List.take_of_length_le (by rw [Array.length_toList, hs]; omega)]
    subst e
    exact ⟨hg, by simp [Cd.ints]⟩
theorem Cd.own_type {w : World} {A n i : Nat} {e f : TypeId} {v : Value} {xs : List Value} (h : w.ownsRow A e i v n xs) {g N : Nat} {cur : Array Value} (hr : Cd.Rw g f N w cur) (hne : e ≠ f) : v.ownBlock ≠ some g := by
  intro hg
  rcases h.2 with ⟨rfl, _⟩ | ⟨a, cap, cur', rfl, _, ha, _⟩
  · simp [Value.ownBlock] at hg
  · have e1 : a = g := by simpa [Value.ownBlock] using hg
    subst e1
    have := ha.symm.trans hr.blk
    injection this with h; injection h with _ h
    exact hne h
theorem Cd.OwnAt.snoc {A p q : Nat} {wr U8 U9 W5 : World} {v v5 : Value} {E : List Cd.En} {sh : Cd.Sh} (hA : A ≤ wr.heap.size) (h : Cd.OwnAt A wr v E) (hb : Below wr.heap.size wr U9) (h89 : Below U8.heap.size U8 U9) (hp : wr.heap.size ≤ p) (hpq : p < q) (hs : Cd.Rw p 3 (Cd.sl sh).length U8 (Cd.ints (Cd.sl sh)).toArray) (hk : Cd.Rw q 3 (Cd.kl sh).length U8 (Cd.ints (Cd.kl sh)).toArray) (hg : U9.grownBy W5 v.ownBlock) (h5 : W5.ownsRow A 43 3 v5 (E.length + 1) (Cd.enCs E ++ Cd.enC ⟨sh, p, q⟩)) : Cd.OwnAt A W5 v5 (E ++ [⟨sh, p, q⟩]) := by
  have hold : ∀ k, k < wr.heap.size → v.ownBlock ≠ some k → W5.heap[k]? = wr.heap[k]? := fun k hk hv => by
    rw [hg.block k (Nat.lt_of_lt_of_le hk hb.size) (fun e => hv e.symm)]
    exact hb.block k hk
  have hnew : ∀ k, wr.heap.size ≤ k → k < U8.heap.size → W5.heap[k]? = U8.heap[k]? := fun k hge hk => by
    rw [hg.block k (Nat.lt_of_lt_of_le hk h89.size) (fun e => by have := Cd.own_lt h.row e.symm; omega)]
    exact h89.block k hk
  refine ⟨by rw [List.length_append, Cd.enCs_app]; simpa [Cd.enCs] using h5, ?_⟩
  refine Cd.EnsAt.snoc (h.ens.keep fun e he => ?_) ⟨sh, p, q⟩ (Nat.le_trans hA hp) hpq ⟨(hnew p hp hs.lt).trans hs.blk, hs.size⟩ ⟨(hnew q (by omega) hk.lt).trans hk.blk, hk.size⟩ (fun x hx => ?_)
  · obtain ⟨-, -, h3, h4⟩ := h.ens.each e he
    exact ⟨hold _ h3.lt (Cd.own_type h.row h3 (by decide)), hold _ h4.lt (Cd.own_type h.row h4 (by decide))⟩
  · obtain ⟨-, -, -, h4⟩ := h.ens.each x hx
    have := h4.lt
    show x.q < p
    omega
theorem Cd.OwnAt.mono {A B : Nat} {w : World} {v : Value} {E : List Cd.En} (h : Cd.OwnAt B w v E) (hA : A ≤ B) : Cd.OwnAt A w v E :=
  ⟨Cd.own_mono h.row hA, ⟨fun e he => by obtain ⟨h1, h2, h3, h4⟩ := h.ens.each e he; exact ⟨by omega, h2, h3, h4⟩, h.ens.apart⟩⟩
theorem Cd.fine_lists {sh : Cd.Sh} (h : Cd.fine sh) : Cd.small (Cd.sl sh) ∧ Cd.small (Cd.kl sh) ∧ (Cd.kl sh).length ≤ 600 := by
  cases sh with
  | none => exact ⟨fun t ht => by simp [Cd.sl] at ht, fun t ht => by simp [Cd.kl] at ht, by simp [Cd.kl]⟩
  | clash => exact ⟨fun t ht => by simp [Cd.sl] at ht, fun t ht => by simp [Cd.kl] at ht, by simp [Cd.kl]⟩
  | known s l => exact ⟨h.1, fun t ht => by have := h.2.1 t ht; omega, h.2.2⟩
def Cd.ImplPost (c : List Cd.Fn) (fn : Int) (w : World) (e : Ending) (w' : World) : Prop :=
  ∃ v E, e = .returned v ∧ Cd.ShapesAre c fn (E.map (·.sh)) ∧ Cd.OwnAt w.heap.size w' v E ∧ Below w.heap.size w w'
set_option maxRecDepth 100000 in
set_option maxHeartbeats 4000000 in
theorem Cd.implShapes_any (c : List Cd.Fn) (ca : Option Addr) (cc : Nat) (fn : Int) (hcl : c.length ≤ 1048576) (hcap : c.length ≤ cc) (hpl : ∀ k (hk : k < c.length), c[k].params.length ≤ 1048576 ∧ c[k].ins.length ≤ 1048576 ∧ c[k].name.size ≤ 1048576) (hN : ∀ k (hk : k < c.length) i (hi : i < c[k].ins.length), -9223372036854775808 ≤ c[k].ins[i].n ∧ c[k].ins[i].n ≤ 9223372036854775807) (w : World) (hC : Cd.CodeAt w.heap.size w (.slice ca c.length cc) c) (hT : Cd.InsTab w) (hW : Cd.WordTab w) :
    Calls Tryz.prog 7 #[.agg #[.slice ca c.length cc], .int .i64 fn] w (Cd.ImplPost c fn w) := by
  obtain ⟨Y1, hY1⟩ : ∃ Y, w.alloc (.cells #[.slice ca c.length cc] 30) = Y := ⟨_, rfl⟩
  have hb1 : Below w.heap.size w Y1 := by rw [← hY1]; exact Cd.b1 w _
  have hs1 : Y1.heap.size = w.heap.size + 1 := by rw [← hY1]; exact World.size_alloc _ _
  have p1_0 : Y1.heap[w.heap.size]? = some (.cells #[.slice ca c.length cc] 30) := by rw [← hY1]; exact Cd.new_at w _
  have c0_0 : Y1.cell? ⟨w.heap.size, 0, none⟩ = some (.slice ca c.length cc) := by rw [Lib.cell_of_heap p1_0]; rfl
  have HK0 : Hid (∀ U, Below Y1.heap.size Y1 U → U.cell? ⟨w.heap.size, 0, none⟩ = some (.slice ca c.length cc) ∧ Below w.heap.size w U) := fun U hU => ⟨(hU.cell (p := ⟨w.heap.size, 0, none⟩) (by show w.heap.size < _; omega)).trans c0_0, hb1.trans (hU.mono hb1.size)⟩
  have HFL : Hid (∀ U, Below Y1.heap.size Y1 U → Calls Tryz.prog 18 #[.agg #[.slice ca c.length cc]] U (Cd.FlawPost (Cd.plain c) U)) := fun U hU => Cd.flaw_any w.heap.size c ca cc hcl hcap hpl hN U (by have := hU.size; omega) (hC.below (HK0.out U hU).2)
  have HAN : Hid ((Cd.plain c).1 ≠ 0 ∨ fn < 0 ∨ (c.length : Int) ≤ fn → Cd.ShapesAre c fn []) := fun h => .inl ⟨h, rfl⟩
  have HZE : Hid ((Cd.plain c).1 = 0 → Cd.plain c = (0, 0, 0)) := Cd.plain_zero
  have HTR : Hid ((Cd.plain c).1 = 0 → ∀ (k : Nat) (hk : k < c.length) U, Below w.heap.size w U → Calls Tryz.prog 19 #[.agg #[.slice ca c.length cc], .int .i64 (k : Int)] U (Cd.TracedPost c c[k] U)) := fun hp k hk U hU => Cd.traced_any c k hk c[k] rfl ca cc ((Cd.plain_sound hp).fns k hk) ((Cd.plain_sound hp).right k hk) U (Cd.CodeAt.mono (hC.below hU) hU.size) (hT.below hU) (hW.below hU)
  have HLA : Hid ((Cd.plain c).1 = 0 → ∀ (k : Nat) (hk : k < c.length) X, Cd.Least c c[k] X → Cd.ShapesAre c (k : Int) X) := fun hp k hk X hX => .inr ⟨hp, k, hk, rfl, hX⟩
  have HBD : Hid ((Cd.plain c).1 = 0 → ∀ (k : Nat) (hk : k < c.length) X, Cd.Least c c[k] X → (c[k].ins.length ≤ 50000 ∧ X.length = c[k].ins.length) ∧ ∀ u (hu : u < X.length), (Cd.sl X[u]).length ≤ 200) := fun hp k hk X hX => by
    obtain ⟨b1, b2, b3, b4, b5, b6, -, -, -⟩ := Cd.fnOk_bd ((Cd.plain_sound hp).fns k hk)
    refine ⟨⟨b3, hX.1.size⟩, fun u hu => ?_⟩
    have h1 := hX.1.lens u
    rw [Cd.at_get hu] at h1
    have hm : (Cd.firstS c[k]).length = c[k].slots.toNat := Cd.firstS_len c[k] b6
    have h1' : Cd.len (Cd.firstS c[k]).length X[u] := h1
    cases hx : X[u] with
    | none => simp [Cd.sl]
    | clash => simp [Cd.sl]
    | known s l =>
      rw [hx] at h1'
      have h3 : s.length = (Cd.firstS c[k]).length := h1'
      show s.length ≤ 200
      omega
  obtain ⟨r, hr⟩ : ∃ r, Cd.plain c = r := ⟨_, rfl⟩
  rw [hr] at HFL HAN HZE HTR HLA HBD
  obtain ⟨r0, r1, r2⟩ := r
  clear hC hT hW hpl hN hr p1_0
  have hgd := Cd.guard_flaw
  by_cases hz : r0 = 0
  · have e := HZE.out hz
    simp only [Prod.mk.injEq] at e
    obtain ⟨-, rfl, rfl⟩ := e
    subst hz
    have heq := Cd.eq_flaw 0 0 0 0 0 0
    simp only [beq_self_eq_true, Bool.and_self] at heq
    by_cases hf : fn < 0
    · have HA : Hid (Cd.ShapesAre c fn []) := HAN.out (.inr (.inl hf))
      clear HAN HZE HTR HLA HBD
      go_enter Tryz.func7, Tryz.ntmps7
      go_wp2_with (go_at_call 18; refine (HFL.out Y1 (Below.refl _ _)).mono ?_; rintro e w2 ⟨rfl, hb2⟩; unfold Cd.flawV; simp only; obtain ⟨d0, hbw2⟩ := HK0.out w2 hb2)
      go_ret
      exact ⟨_, [], rfl, HA.out, ⟨⟨rfl, .inl ⟨rfl, rfl⟩⟩, ⟨fun e he => by simp at he, List.Pairwise.nil⟩⟩, hbw2⟩
    · by_cases hge : (c.length : Int) ≤ fn
      · have HA : Hid (Cd.ShapesAre c fn []) := HAN.out (.inr (.inr hge))
        clear HAN HZE HTR HLA HBD
        go_enter Tryz.func7, Tryz.ntmps7
        go_wp2_with (go_at_call 18; refine (HFL.out Y1 (Below.refl _ _)).mono ?_; rintro e w2 ⟨rfl, hb2⟩; unfold Cd.flawV; simp only; obtain ⟨d0, hbw2⟩ := HK0.out w2 hb2)
        go_ret
        exact ⟨_, [], rfl, HA.out, ⟨⟨rfl, .inl ⟨rfl, rfl⟩⟩, ⟨fun e he => by simp at he, List.Pairwise.nil⟩⟩, hbw2⟩
      · obtain ⟨k, rfl, hk⟩ : ∃ k : Nat, fn = (k : Int) ∧ k < c.length := ⟨fn.toNat, by omega, by omega⟩
        have HT3 : Hid (∀ U, Below w.heap.size w U → Calls Tryz.prog 19 #[.agg #[.slice ca c.length cc], .int .i64 (k : Int)] U (Cd.TracedPost c c[k] U)) := HTR.out rfl k hk
        have HLA3 : Hid (∀ X, Cd.Least c c[k] X → Cd.ShapesAre c (k : Int) X) := HLA.out rfl k hk
        have HBD3 : Hid (∀ X, Cd.Least c c[k] X → (c[k].ins.length ≤ 50000 ∧ X.length = c[k].ins.length) ∧ ∀ u (hu : u < X.length), (Cd.sl X[u]).length ≤ 200) := HBD.out rfl k hk
        clear HAN HZE HTR HLA HBD
        obtain ⟨f, HF⟩ : ∃ f, Hid (c[k] = f) := ⟨_, (rfl : c[k] = _)⟩
        rw [HF.out] at HT3 HLA3 HBD3
        obtain ⟨j0, hj0, hy0, hy1, hy2⟩ := Cd.shape_info
        go_enter Tryz.func7, Tryz.ntmps7
        go_wp2_with (first
          | (go_at_call 18; refine (HFL.out Y1 (Below.refl _ _)).mono ?_; rintro e w2 ⟨rfl, hb2⟩; unfold Cd.flawV; simp only; obtain ⟨d0, hbw2⟩ := HK0.out w2 hb2)
          | (go_at_call 19; refine (HT3.out w2 hbw2).mono ?_; rintro e w3 ⟨B, g, gl, ca', ia, cc', ic, lc, pv, X, W, wa, wc, rfl, hSt, -, -, hL, hFi, hb3⟩; have HSt : Hid (Cd.LaysAt gl w3 X) := hSt.lays; have l6 := hSt.tr.cells.2.2.2.2.2.2.1; have HL : Hid (Cd.Least c f X) := hL; have HFi : Hid (∀ u, Cd.fine (Cd.at' X u)) := hFi; have hbw3 : Below w.heap.size w w3 := hbw2.trans (hb3.mono hbw2.size); clear hSt hL hFi))
        obtain ⟨⟨hnl, hXN⟩, HSL⟩ := HBD3.out X HL.out
        have HXN : Hid (X.length = f.ins.length) := hXN
        have HB3 : Hid (Below w.heap.size w w3) := hbw3
        have hgl : gl < w3.heap.size := HSt.out.lt
        clear hXN hbw3 hbw2 hb3 hb2 d0 l6
        go_loopw [5, 30] (fun ov t wr => ∃ (i : Nat) (E : List Cd.En) (oa : Option Addr) (oc : Nat), i ≤ f.ins.length ∧ t = .int .i64 (i : Int) ∧ ov = .slice oa i oc ∧ E.length = i ∧ Cd.OwnAt w3.heap.size wr ov E ∧ E.map (·.sh) = X.take i ∧ Below w3.heap.size w3 wr) (fun _ t _ => f.ins.length - (intOf t).toNat)
        case atStart => exact ⟨0, [], none, 0, by omega, rfl, rfl, rfl, ⟨⟨rfl, .inl ⟨rfl, rfl⟩⟩, ⟨fun e he => by simp at he, List.Pairwise.nil⟩⟩, by simp, Below.refl _ _⟩
        case round =>
          obtain ⟨i, E, oa, oc, hi, rfl, rfl, hLL, how, hmap, hbw⟩ := hrel
          have HLL : Hid (E.length = i) := hLL
          have HOW : Hid (Cd.OwnAt w3.heap.size wr (.slice oa i oc) E) := how
          have HROW : Hid (wr.ownsRow w3.heap.size 43 3 (.slice oa i oc) i (Cd.enCs E)) := by
            have h := how.row
            rw [hLL] at h; exact h
          have HMAP : Hid (E.map (·.sh) = X.take i) := hmap
          have HBW : Hid (Below w3.heap.size w3 wr) := hbw
          have hwz : w3.heap.size ≤ wr.heap.size := hbw.size
          clear hLL how hmap hbw
          by_cases hlt : i < f.ins.length
          · have hltI : (i : Int) < (f.ins.length : Int) := by omega
            have hxi : i < X.length := by rw [HXN.out]; exact hlt
            have hs1 := HSL i hxi
            have hfi := HFi.out i
            rw [Cd.at_get hxi] at hfi
            obtain ⟨g0, g1, g2⟩ : wr.cell? ⟨gl, i * 3, none⟩ = some (.int .i64 (Cd.st X[i])) ∧ wr.cell? ⟨gl, i * 3 + 1, none⟩ = some (.string (Cd.bs (Cd.sl X[i]))) ∧ wr.cell? ⟨gl, i * 3 + 2, none⟩ = some (.string (Cd.bs (Cd.kl X[i]))) := by
              obtain ⟨cs, h1, -, h2⟩ := HSt.out.blk
              have h3 := (HBW.out.block gl hgl).trans h1
              obtain ⟨e0, e1, e2⟩ := h2 i hxi
              rw [Cd.sb_eq] at e1; rw [Cd.kb_eq] at e2
              exact ⟨by rw [Lib.cell_of_heap h3]; exact e0, by rw [Lib.cell_of_heap h3]; exact e1, by rw [Lib.cell_of_heap h3]; exact e2⟩
            obtain ⟨sh, HSHE⟩ : ∃ sh, Hid (X[i] = sh) := ⟨_, (rfl : X[i] = _)⟩
            rw [HSHE.out] at hs1 hfi g0 g1 g2
            obtain ⟨hsm1, hsm2, hs2⟩ := Cd.fine_lists hfi
            clear hfi
            go_wp2_with fail
            obtain ⟨V, hV⟩ : ∃ V, wr.alloc (.cells #[.int .i64 (Cd.st sh), .string (Cd.bs (Cd.sl sh)), .string (Cd.bs (Cd.kl sh))] 57) = V := ⟨_, rfl⟩
            rw [hV]
            have hVb : V.heap[wr.heap.size]? = some (.cells #[.int .i64 (Cd.st sh), .string (Cd.bs (Cd.sl sh)), .string (Cd.bs (Cd.kl sh))] 57) := by rw [← hV]; exact Cd.new_at wr _
            have hbV : Below wr.heap.size wr V := by rw [← hV]; exact Cd.b1 wr _
            have HZV : Hid (V.heap.size = wr.heap.size + 1) := by rw [← hV]; simp [Hid]
            have HS : Hid (∀ U, Below V.heap.size V U → U.cell? ⟨wr.heap.size, 0, none⟩ = some (.int .i64 (Cd.st sh)) ∧ U.cell? ⟨wr.heap.size, 1, none⟩ = some (.string (Cd.bs (Cd.sl sh))) ∧ U.cell? ⟨wr.heap.size, 2, none⟩ = some (.string (Cd.bs (Cd.kl sh)))) := fun U hU => by
              have h := (hU.block _ (by have := HZV.out; omega)).trans hVb
              exact ⟨by rw [Lib.cell_of_heap h]; rfl, by rw [Lib.cell_of_heap h]; rfl, by rw [Lib.cell_of_heap h]; rfl⟩
            clear g0 g1 g2 hVb hV
            obtain ⟨U0, hU0⟩ : ∃ U, V.drew = U := ⟨_, rfl⟩
            have hbU0 : Below V.heap.size V U0 := by rw [← hU0]; exact Cd.belowD _ (Below.refl _ _)
            have HZU0 : Hid (U0.heap.size = V.heap.size) := by rw [← hU0]; rfl
            refine wp_region_held_drew (S := fun W => W.cell? ⟨wr.heap.size, 0, none⟩ = some (.int .i64 (Cd.st sh)) ∧ W.cell? ⟨wr.heap.size, 1, none⟩ = some (.string (Cd.bs (Cd.sl sh))) ∧ W.cell? ⟨wr.heap.size, 2, none⟩ = some (.string (Cd.bs (Cd.kl sh)))) (by kernel_rfl) (HS.out _ (by rw [hU0]; exact hbU0)) (fun hHeld => ?_)
            rw [hU0] at hHeld ⊢
            refine wpAnyH_take (i := 0) (v := .slice oa i oc) rfl (by kernel_rfl) (by kernel_rfl) (by kernel_rfl) (fun _ _ _ h => h) (Or.inl ⟨by rfl, by intro w hSw; go_simp⟩) (by assumption) ?_
            try simp [Act.put]
            refine wpAnyH_take (i := 1) (v := .pointer (some ⟨wr.heap.size, 0, none⟩)) rfl (by kernel_rfl) (by kernel_rfl) (by kernel_rfl) (fun _ _ _ h => h) (Or.inl ⟨by rfl, by intro w hSw; go_simp⟩) (by assumption) ?_
            try simp [Act.put]
            refine wpAnyH_take (i := 2) (v := .int .i64 (Cd.st sh)) rfl (by kernel_rfl) (by kernel_rfl) (by kernel_rfl) (fun _ _ _ h => h) (Or.inl ⟨by rfl, by intro w hSw; go_simp⟩) (by assumption) ?_
            try simp [Act.put]
            refine wpAnyH_take (i := 3) (v := .pointer (some ⟨wr.heap.size, 1, none⟩)) rfl (by kernel_rfl) (by kernel_rfl) (by kernel_rfl) (fun _ _ _ h => h) (Or.inl ⟨by rfl, by intro w hSw; go_simp⟩) (by assumption) ?_
            try simp [Act.put]
            refine wpAnyH_take (i := 4) (v := .string (Cd.bs (Cd.sl sh))) rfl (by kernel_rfl) (by kernel_rfl) (by kernel_rfl) (fun _ _ _ h => h) (Or.inl ⟨by rfl, by intro w hSw; go_simp⟩) (by assumption) ?_
            try simp [Act.put]
            refine wpAnyH_take (i := 6) (v := .pointer (some ⟨wr.heap.size, 2, none⟩)) rfl (by kernel_rfl) (by kernel_rfl) (by kernel_rfl) (fun _ _ _ h => h) (Or.inl ⟨by rfl, by intro w hSw; go_simp⟩) (by assumption) ?_
            try simp [Act.put]
            refine wpAnyH_take (i := 7) (v := .string (Cd.bs (Cd.kl sh))) rfl (by kernel_rfl) (by kernel_rfl) (by kernel_rfl) (fun _ _ _ h => h) (Or.inl ⟨by rfl, by intro w hSw; go_simp⟩) (by assumption) ?_
            try simp [Act.put]
            refine wpAnyH_ready (rs := [5]) (by kernel_rfl) (by simp) ?_
            refine AllReadyH.cons rfl (fun KK hK => ?_) AllReadyH.nil
            go_simp
            (go_at_call 20; refine (Cd.typesIn_any (Cd.sl sh) hsm1 (by omega) U0).mono ?_; rintro e U1 ⟨rfl, own1, hb01⟩)
            have hbU1 : Below V.heap.size V U1 := hbU0.trans (hb01.mono hbU0.size)
            have HR1 : Hid (Cd.Rw U0.heap.size 3 (Cd.sl sh).length U1 (Cd.ints (Cd.sl sh)).toArray) := Cd.own_rw own1
            clear own1
            go_wp2
            refine hK.out _ _ (HS.out _ hbU1) (fun hHeld => ?_)
            clear hK
            try simp [Act.put]
            refine wpAnyH_ready (rs := [8]) (by kernel_rfl) (by simp) ?_
            refine AllReadyH.cons rfl (fun KK hK => ?_) AllReadyH.nil
            go_simp
            (go_at_call 20; refine (Cd.typesIn_any (Cd.kl sh) hsm2 (by omega) U1).mono ?_; rintro e U8 ⟨rfl, own2, hb12⟩)
            have hbU8 : Below V.heap.size V U8 := hbU1.trans (hb12.mono hbU1.size)
            have HR2 : Hid (Cd.Rw U1.heap.size 3 (Cd.kl sh).length U8 (Cd.ints (Cd.kl sh)).toArray) := Cd.own_rw own2
            have HR3 : Hid (Cd.Rw U0.heap.size 3 (Cd.sl sh).length U8 (Cd.ints (Cd.sl sh)).toArray) := HR1.out.below hb12
            clear own2
            go_wp2
            refine hK.out _ _ (HS.out _ hbU8) (fun hHeld => ?_)
            clear hK
            try simp [Act.put]
            refine wpAnyH_take (i := 9) (v := .agg #[.int .i64 (Cd.st sh), .slice (some ⟨U0.heap.size, 0, none⟩) (Cd.sl sh).length (Cd.sl sh).length, .slice (some ⟨U1.heap.size, 0, none⟩) (Cd.kl sh).length (Cd.kl sh).length]) rfl (by kernel_rfl) (by kernel_rfl) (by kernel_rfl) (fun _ _ _ h => h) (Or.inl ⟨by rfl, by intro w hSw; go_simp⟩) (by assumption) ?_
            try simp [Act.put]
            refine wpAnyH_ready (rs := [10]) (by kernel_rfl) (by simp) ?_
            refine AllReadyH.cons rfl (fun KK hK => ?_) AllReadyH.nil
            go_simp
            obtain ⟨U9, hU9⟩ : ∃ V, U8.alloc (.cells #[.int .i64 (Cd.st sh), .slice (some ⟨U0.heap.size, 0, none⟩) (Cd.sl sh).length (Cd.sl sh).length, .slice (some ⟨U1.heap.size, 0, none⟩) (Cd.kl sh).length (Cd.kl sh).length] 43) = V := ⟨_, rfl⟩
            try rw [hU9]
            have hb89 : Below U8.heap.size U8 U9 := by rw [← hU9]; exact (Below.refl _ U8).alloc (Nat.le_refl _) _
            have hbU9 : Below V.heap.size V U9 := hbU8.trans (hb89.mono hbU8.size)
            have hbR9 : Below wr.heap.size wr U9 := hbV.trans (hbU9.mono hbV.size)
            refine hK.out _ _ (HS.out _ hbU9) (fun hHeld => ?_)
            clear hK
            try simp [Act.put]
            refine wpAnyH_ready (rs := [11]) (by kernel_rfl) (by simp) ?_
            refine AllReadyH.cons rfl (fun KK hK => ?_) AllReadyH.nil
            refine Cd.step_append_at rfl (.tmp 34) (.tmp 44) 26 rfl w3.heap.size 43 j0 (.agg #[.int .i64 0, .slice none 0 0, .slice none 0 0]) 3 56 Tryz.underlying26 hj0 hy0 hy1 hy2 rfl (by decide) (.slice oa i oc) i (Cd.enCs E) rfl (Cd.own_keep HROW.out fun k _ _ hk => hbR9.block k hk) ⟨U8.heap.size, 0, none⟩ 1 1 [.int .i64 (Cd.st sh), .slice (some ⟨U0.heap.size, 0, none⟩) (Cd.sl sh).length (Cd.sl sh).length, .slice (some ⟨U1.heap.size, 0, none⟩) (Cd.kl sh).length (Cd.kl sh).length] rfl rfl (by rw [← hU9]; exact Cd.three_cells _ _ _ _ _) (fun x hx => by simp at hx; rcases hx with rfl | rfl | rfl <;> rfl) (by unfold maxLen; omega) (by omega) (Nat.le_trans hwz hbR9.size) ?_
            intro v5 W5 own5 hg5 hat5
            have HNE : Hid (∀ k, (Value.slice oa i oc).ownBlock = some k → k < wr.heap.size ∧ w3.heap.size ≤ k) := fun k hk => ⟨Cd.own_lt HROW.out hk, by rcases Nat.lt_or_ge k w3.heap.size with h | h; exact absurd hk (Cd.rowBlk HROW.out h); exact h⟩
            have hlb : W5.heap[wr.heap.size]? = U9.heap[wr.heap.size]? := hg5.block _ (by have := hbU9.size; have := HZV.out; omega) (fun e => by have := (HNE.out _ e.symm).1; omega)
            refine hK.out _ _ (by obtain ⟨h1, h2, h3⟩ := hHeld; exact ⟨by rw [World.cell?_of_block (a := ⟨wr.heap.size, 0, none⟩) hlb]; exact h1, by rw [World.cell?_of_block (a := ⟨wr.heap.size, 1, none⟩) hlb]; exact h2, by rw [World.cell?_of_block (a := ⟨wr.heap.size, 2, none⟩) hlb]; exact h3⟩) (fun hHeld => ?_)
            clear hK
            try simp [Act.put]
            obtain ⟨a5, c5, hv5⟩ := Cd.rowLen own5
            subst hv5
            have hzp : wr.heap.size ≤ U0.heap.size := by have := HZU0.out; have := HZV.out; omega
            have HOW5 : Hid (Cd.OwnAt w3.heap.size W5 (.slice a5 (i + 1) c5) (E ++ [⟨sh, U0.heap.size, U1.heap.size⟩])) := Cd.OwnAt.snoc hwz HOW.out hbR9 hb89 hzp HR1.out.lt HR3.out HR2.out hg5 (by rw [HLL.out]; exact own5)
            have HBW5 : Hid (Below w3.heap.size w3 W5) := Cd.Below.grown (HBW.out.trans (hbR9.mono HBW.out.size)) hg5 (Nat.le_trans hwz hbR9.size) (fun k hk e => by have := (HNE.out k e).2; omega)
            have HMAP5 : Hid ((E ++ [(⟨sh, U0.heap.size, U1.heap.size⟩ : Cd.En)]).map (·.sh) = X.take (i + 1)) := by
              rw [Hid, List.map_append, HMAP.out, Cd.take_next hxi HSHE.out]; rfl
            refine wpAnyH_take (i := 12) (v := .slice a5 (i + 1) c5) rfl (by kernel_rfl) (by kernel_rfl) (by kernel_rfl) (fun _ _ _ h => h) (Or.inl ⟨by rfl, by intro w hSw; go_simp⟩) (by assumption) ?_
            try simp [Act.put]
            refine wpAnyH_done (by kernel_rfl) ?_ _
            go_wp2_with fail
            go_roundw
            case rel => exact ⟨i + 1, _, a5, c5, by omega, by go_num, rfl, by rw [List.length_append, HLL.out]; rfl, HOW5.out, HMAP5.out, HBW5.out⟩
            case measure => simp [intOf]; omega
          · have hltI : ¬ (i : Int) < (f.ins.length : Int) := by omega
            have HALL : Hid (E.map (·.sh) = X) := by rw [Hid, HMAP.out]; exact List.take_of_length_le (by rw [HXN.out]; omega)
            go_wp2_with fail
            go_ret
            exact ⟨_, E, rfl, by rw [HALL.out]; exact HLA3.out X HL.out, HOW.out.mono HB3.out.size, HB3.out.trans (HBW.out.mono HB3.out.size)⟩
  · have heq := Cd.eq_flaw r0 r1 r2 0 0 0
    have hbq : (r0 == 0 && r1 == 0 && r2 == 0) = false := by simp [hz]
    rw [hbq] at heq
    have HA : Hid (Cd.ShapesAre c fn []) := HAN.out (.inl hz)
    clear HAN HZE HTR HLA HBD hbq hz
    go_enter Tryz.func7, Tryz.ntmps7
    go_wp2_with (go_at_call 18; refine (HFL.out Y1 (Below.refl _ _)).mono ?_; rintro e w2 ⟨rfl, hb2⟩; unfold Cd.flawV; simp only; obtain ⟨d0, hbw2⟩ := HK0.out w2 hb2)
    go_ret
    exact ⟨_, [], rfl, HA.out, ⟨⟨rfl, .inl ⟨rfl, rfl⟩⟩, ⟨fun e he => by simp at he, List.Pairwise.nil⟩⟩, hbw2⟩
end Go.Proofs.YtihiimgbdmkjmaaGreatDoor
