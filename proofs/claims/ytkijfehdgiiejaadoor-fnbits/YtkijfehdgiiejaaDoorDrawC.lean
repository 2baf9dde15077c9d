import Derived.Test.YtkijfehdgiiejaaDoorDrawB
import Derived.OwnWalkIn
namespace Go.Proofs.YtkijfehdgiiejaaDoor
open Go.RowKit

attribute [local go_sem] Oper.semAt_some

theorem Mill.Bytes.below {w w' : World} {R n : Nat} {v : Value} (h : Mill.Bytes w R v n) (hR : R ≤ w.heap.size) (hb : Below w.heap.size w w') : Mill.Bytes w' R v n := by
  rcases h with e | ⟨b, off, cap, h1, h2, h3⟩
  · exact .inl e
  · refine .inr ⟨b, off, cap, h1, h2, fun i hi => ?_⟩
    obtain ⟨x, x0, x1, hx⟩ := h3 i hi
    exact ⟨x, x0, x1, (hb.cell (p := ⟨b, off + i, none⟩) (show b < w.heap.size by omega)).trans hx⟩

theorem Mill.Rd.open_ {w : World} {v : Value} {n : Nat} (hn : n ≤ 2000) (h : Mill.Bytes w w.heap.size v n) : Mill.Rd (w.alloc (.cells #[v, .int .i64 0] 51)) w.heap.size 0 :=
  ⟨v, n, World.alloc_heap_new w _, hn, h.below (Nat.le_refl _) ((Below.refl _ w).alloc (Nat.le_refl _) _)⟩

set_option maxRecDepth 100000 in
set_option maxHeartbeats 1000000 in
theorem l1Open_any (w : World) (v : Value) (n : Nat) (hB : Mill.Bytes w w.heap.size v n) (hc : ∀ a m c, v = .slice a m c → m ≤ c) (hn : n ≤ 1048576) :
    Calls Tryd.prog 8 #[v] w fun e w' => e = .returned (.pointer (some ⟨w.heap.size, 0, none⟩)) ∧ Mill.Rd w' w.heap.size 0 ∧ Below w.heap.size w w' := by
  have hB' := hB
  rcases hB with ⟨a, cap, rfl, rfl⟩ | ⟨b, off, cap, rfl, hb, hcs⟩
  · go_enter Tryd.func8, Tryd.ntmps8
    go_wp2
    go_ret
    exact ⟨rfl, Mill.Rd.open_ (Nat.zero_le _) hB', (Below.refl _ w).alloc (Nat.le_refl _) _⟩
  · have hcap := hc _ _ _ rfl
    by_cases h2 : 2000 < n
    · go_enter Tryd.func8, Tryd.ntmps8
      go_wp2
      go_ret
      exact ⟨rfl, Mill.Rd.open_ (n := 2000) (by omega) (.inr ⟨b, off, cap, rfl, hb, fun i hi => hcs i (by omega)⟩), (Below.refl _ w).alloc (Nat.le_refl _) _⟩
    · go_enter Tryd.func8, Tryd.ntmps8
      go_wp2
      go_ret
      exact ⟨rfl, Mill.Rd.open_ (by omega) hB', (Below.refl _ w).alloc (Nat.le_refl _) _⟩

theorem pick_D {w w1 : World} {R p k : Nat} (n : Int) (hD : Mill.Dr R p k w w1) (hp : p + k < 1000000000000) (h1 : 1 ≤ n) (h2 : n ≤ 1048576) :
    Calls Tryd.prog 9 #[.pointer (some ⟨R, 0, none⟩), .int .i64 n] w1 fun e w' => ∃ v : Nat, e = .returned (.int .i64 (v : Int)) ∧ (v : Int) < n ∧ Mill.Dr R p (k + 1) w w' ∧ Mill.But R w1 w' := by
  obtain ⟨p', a1, a2, hR⟩ := hD.at_
  obtain ⟨m, rfl⟩ := Int.eq_ofNat_of_zero_le (show 0 ≤ n by omega)
  refine (pick_dr w1 R p' m hR (by omega) (by omega) (by omega)).mono ?_
  rintro e w' ⟨v, he, hv, hR', hB⟩
  exact ⟨v, he, by omega, ⟨⟨p' + 1, by omega, by omega, hR'⟩, hD.but.trans hB⟩, hB⟩
theorem path_D {w w1 : World} {R p k : Nat} (hD : Mill.Dr R p k w w1) (hp : p + k < 100000000000) :
    Calls Tryd.prog 36 #[.pointer (some ⟨R, 0, none⟩)] w1 fun e w' => ∃ t : ByteArray, e = .returned (.string t) ∧ t.size ≤ 5 ∧ Mill.Dr R p (k + 1) w w' ∧ Mill.But R w1 w' := by
  obtain ⟨p', a1, a2, hR⟩ := hD.at_
  refine (l1Path_any w1 R p' hR (by omega)).mono ?_
  rintro e w' ⟨t, he, ht, hD'⟩
  obtain ⟨p'', b1, b2, hR'⟩ := hD'.at_
  exact ⟨t, he, ht, ⟨⟨p'', by omega, by omega, hR'⟩, hD.but.trans hD'.but⟩, hD'.but⟩

theorem Mill.Dr.mono {R p k k' : Nat} {w w' : World} (h : Mill.Dr R p k w w') (hk : k ≤ k') : Mill.Dr R p k' w w' := by
  obtain ⟨p', a1, a2, hR⟩ := h.at_
  exact ⟨⟨p', a1, by omega, hR⟩, h.but⟩
theorem Mill.own_but {w w' : World} {R B e size n : Nat} {v : Value} {xs : List Value} (h : w.ownsRow B e size v n xs) (hB : R < B) (hb : Mill.But R w w') : w'.ownsRow B e size v n xs := by
  refine ⟨h.1, ?_⟩
  rcases h.2 with h2 | ⟨g, cap, cur, h1, h2, h3, h4⟩
  · exact .inl h2
  · exact .inr ⟨g, cap, cur, h1, h2, (hb.block g (Array.getElem?_eq_some_iff.1 h3).1 (by omega)).trans h3, h4⟩
theorem Mill.Dr.lt {R p k : Nat} {w w' : World} (h : Mill.Dr R p k w w') : R < w'.heap.size := by
  obtain ⟨p', _, _, hR⟩ := h.at_
  exact hR.lt
theorem Mill.Dr.grown {R p k B : Nat} {w w1 w2 : World} {row : Option Nat} (h : Mill.Dr R p k w w1) (hg : w1.grownBy w2 row) (hrow : ∀ j, row = some j → B ≤ j) (hB : R < B) (hw : w.heap.size ≤ B) : Mill.Dr R p k w w2 := by
  obtain ⟨p', a1, a2, hR⟩ := h.at_
  have hlt := hR.lt
  obtain ⟨v, n, h0, hn, hb⟩ := hR.box
  have hk : ∀ i, i < w1.heap.size → i < B → w2.heap[i]? = w1.heap[i]? := fun i hi hiB => hg.block i hi (fun e => by have := hrow i e.symm; omega)
  refine ⟨⟨p', a1, a2, ⟨v, n, (hk R hlt hB).trans h0, hn, ?_⟩⟩, h.but.os ▸ hg.os, h.but.tape ▸ hg.tape, h.but.output ▸ hg.output, Nat.le_trans h.but.size hg.size, fun i hi hiR => (hk i (Nat.lt_of_lt_of_le hi h.but.size) (by omega)).trans (h.but.block i hi hiR)⟩
  rcases hb with e | ⟨b, off, cap, h1, h2, h3⟩
  · exact .inl e
  · refine .inr ⟨b, off, cap, h1, h2, fun i hi => ?_⟩
    obtain ⟨x, x0, x1, hx⟩ := h3 i hi
    refine ⟨x, x0, x1, ?_⟩
    have := hk b (by omega) (by omega)
    simp only [World.cell?, this] at hx ⊢
    exact hx
end Go.Proofs.YtkijfehdgiiejaaDoor
