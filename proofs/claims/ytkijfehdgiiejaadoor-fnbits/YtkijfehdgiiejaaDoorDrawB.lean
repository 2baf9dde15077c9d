import Derived.Test.YtkijfehdgiiejaaDoorDrawA
import Derived.LoopTactic
import Derived.RangeFuncBox
namespace Go.Proofs.YtkijfehdgiiejaaDoor
open Go.RowKit

attribute [local go_sem] Oper.semAt_some

theorem Mill.mul_odd (a k : Nat) (h : k % 2 = 1) : a * k = a * (k / 2) + a * (k / 2) + a := by
  have e : a * (2 * (k / 2) + 1) = a * (k / 2) + a * (k / 2) + a := by rw [Nat.mul_add, Nat.mul_one, Nat.mul_left_comm]; omega
  rwa [show 2 * (k / 2) + 1 = k by omega] at e
theorem Mill.mul_even (a k : Nat) (h : k % 2 = 0) : a * k = a * (k / 2) + a * (k / 2) := by
  have e : a * (2 * (k / 2)) = a * (k / 2) + a * (k / 2) := by rw [Nat.mul_left_comm]; omega
  rwa [show 2 * (k / 2) = k by omega] at e
theorem Mill.Rd.next {w w' : World} {R p : Nat} (h : Mill.Rd w R p) (ha : w'.Alike (w.setCell ⟨R, 1, none⟩ (.int .i64 ((p : Int) + 1)))) : Mill.Rd w' R (p + 1) := by
  obtain ⟨v, n, hb, hn, hB⟩ := h.box
  have hc : ∀ a, w'.cell? a = (w.setCell ⟨R, 1, none⟩ (.int .i64 ((p : Int) + 1))).cell? a := fun a => by unfold World.cell?; rw [ha.1]
  refine ⟨v, n, ?_, hn, ?_⟩
  · rw [ha.1]; simp [World.setCell, Array.getElem?_modify, hb]
  · rcases hB with h0 | ⟨b, off, cap, h1, h2, h3⟩
    · exact .inl h0
    · refine .inr ⟨b, off, cap, h1, h2, fun i hi => ?_⟩
      obtain ⟨x, x0, x1, hx⟩ := h3 i hi
      exact ⟨x, x0, x1, by rw [hc]; exact (World.cell?_setCell_other _ _ _ _ (by intro e; injection e with e1; omega)).trans hx⟩

structure Mill.But (R : Nat) (w w' : World) : Prop where
  os : w'.os = w.os
  tape : w'.tape = w.tape
  output : w'.output = w.output
  size : w.heap.size ≤ w'.heap.size
  block : ∀ k, k < w.heap.size → k ≠ R → w'.heap[k]? = w.heap[k]?
theorem Mill.But.refl (R : Nat) (w : World) : Mill.But R w w := ⟨rfl, rfl, rfl, Nat.le_refl _, fun _ _ _ => rfl⟩
theorem Mill.But.trans {R : Nat} {a b c : World} (h : Mill.But R a b) (k : Mill.But R b c) : Mill.But R a c :=
  ⟨k.os.trans h.os, k.tape.trans h.tape, k.output.trans h.output, Nat.le_trans h.size k.size, fun i hi hR => (k.block i (Nat.lt_of_lt_of_le hi h.size) hR).trans (h.block i hi hR)⟩
theorem Mill.But.of_below {R : Nat} {w w' : World} (h : Below w.heap.size w w') : Mill.But R w w' := ⟨h.os, h.tape, h.output, h.size, fun k hk _ => h.block k hk⟩
theorem Mill.But.alloc {R : Nat} {w w' : World} (h : Mill.But R w w') (o : Obj) : Mill.But R w (w'.alloc o) :=
  h.trans (Mill.But.of_below ((Below.refl _ w').alloc (Nat.le_refl _) o))
structure Mill.Dr (R p K : Nat) (w w' : World) : Prop where
  at_ : ∃ p', p ≤ p' ∧ p' ≤ p + K ∧ Mill.Rd w' R p'
  but : Mill.But R w w'
theorem Mill.Rd.below {w w' : World} {R p : Nat} (h : Mill.Rd w R p) (hb : Below w.heap.size w w') : Mill.Rd w' R p := by
  obtain ⟨v, n, h0, hn, hB⟩ := h.box
  have hlt := (Array.getElem?_eq_some_iff.1 h0).1
  refine ⟨v, n, (hb.block R hlt).trans h0, hn, ?_⟩
  rcases hB with e | ⟨b, off, cap, h1, h2, h3⟩
  · exact .inl e
  · refine .inr ⟨b, off, cap, h1, h2, fun i hi => ?_⟩
    obtain ⟨x, x0, x1, hx⟩ := h3 i hi
    exact ⟨x, x0, x1, (hb.cell (p := ⟨b, off + i, none⟩) (show b < w.heap.size by omega)).trans hx⟩
theorem Mill.Dr.below {R p K : Nat} {w w' w'' : World} (h : Mill.Dr R p K w w') (hb : Below w'.heap.size w' w'') : Mill.Dr R p K w w'' := by
  obtain ⟨p', h1, h2, h3⟩ := h.at_
  exact ⟨⟨p', h1, h2, h3.below hb⟩, h.but.trans (Mill.But.of_below hb)⟩
theorem Mill.Dr.alloc {R p K : Nat} {w w' : World} (h : Mill.Dr R p K w w') (o : Obj) : Mill.Dr R p K w (w'.alloc o) := h.below ((Below.refl _ w').alloc (Nat.le_refl _) o)
theorem Mill.Dr.refl {R p : Nat} {w : World} (h : Mill.Rd w R p) : Mill.Dr R p 0 w w := ⟨⟨p, Nat.le_refl _, Nat.le_refl _, h⟩, Mill.But.refl R w⟩

theorem pick_dr (w : World) (R p n : Nat) (hR : Mill.Rd w R p) (hp : p < 1099511627776) (h1 : 1 ≤ n) (h2 : n ≤ 1099511627776) :
    Calls Tryd.prog 9 #[.pointer (some ⟨R, 0, none⟩), .int .i64 (n : Int)] w fun e w' => ∃ v : Nat, e = .returned (.int .i64 (v : Int)) ∧ v < n ∧ Mill.Rd w' R (p + 1) ∧ Mill.But R w w' := by
  refine (pick_any w R p n hR hp h1 h2).mono ?_
  rintro e w' ⟨v, he, hv, ha, ht⟩
  refine ⟨v, he, hv, hR.next ha, ha.2.1, ht, ha.2.2, ?_, fun k hk hkR => ?_⟩
  · rw [ha.1]; simp [World.setCell]
  · rw [ha.1]; simp [World.setCell, Array.getElem?_modify, Ne.symm hkR]

def Mill.strB (M : Nat) : Value → Bool
  | .string t => decide (t.size ≤ M)
  | _ => false
theorem Mill.strB_of {M : Nat} {v : Value} (h : Mill.strB M v = true) : ∃ t : ByteArray, v = .string t ∧ t.size ≤ M := by
  cases v with
  | string t => exact ⟨t, rfl, by simpa [Mill.strB] using h⟩
  | _ => simp [Mill.strB] at h
theorem Mill.tab_pick {w w1 : World} {R : Nat} {cs : Array Value} {T M : Nat} (hB : Mill.But R (w.alloc (.cells cs T)) w1) (hR : R < w.heap.size) (hM : cs.toList.all (Mill.strB M) = true) (v : Nat) (hv : v < cs.size) : ∃ t : ByteArray, w1.cell? ⟨w.heap.size, v, none⟩ = some (.string t) ∧ t.size ≤ M := by
  have hb := hB.block w.heap.size (by simp) (by omega)
  rw [World.alloc_heap_new] at hb
  obtain ⟨t, ht, hs⟩ := Mill.strB_of (List.all_eq_true.1 hM cs[v] (by simp))
  exact ⟨t, by simp [World.cell?, hb, hv, ht], hs⟩
theorem Mill.Rd.lt {w : World} {R p : Nat} (h : Mill.Rd w R p) : R < w.heap.size := by
  obtain ⟨v, n, h0, _⟩ := h.box
  exact (Array.getElem?_eq_some_iff.1 h0).1

set_option maxRecDepth 100000 in
set_option maxHeartbeats 1000000 in
theorem l1Path_any (w : World) (R p : Nat) (hR : Mill.Rd w R p) (hp : p < 1000000000000) :
    Calls Tryd.prog 36 #[.pointer (some ⟨R, 0, none⟩)] w fun e w' => ∃ t : ByteArray, e = .returned (.string t) ∧ t.size ≤ 5 ∧ Mill.Dr R p 1 w w' := by
  go_enter Tryd.func36, Tryd.ntmps36
  go_wp2_with (go_at_call 9; refine (pick_dr _ R p 8 (hR.below ((Below.refl _ w).alloc (Nat.le_refl _) _)) (by omega) (by omega) (by omega)).mono ?_; rintro e w1 ⟨v, rfl, hv, hR1, hB1⟩; obtain ⟨t, ht, hts⟩ := Mill.tab_pick (M := 5) hB1 hR.lt (by decide) v (by simpa using hv))
  go_ret
  exact ⟨t, rfl, hts, ⟨p + 1, by omega, by omega, hR1⟩, (Mill.But.of_below ((Below.refl _ w).alloc (Nat.le_refl _) _)).trans hB1⟩

set_option maxRecDepth 100000 in
set_option maxHeartbeats 1000000 in
theorem l1Many_any (s : ByteArray) (n : Nat) (w : World) (hs : s.size ≤ 1000) (hn : n ≤ 100000) :
    Calls Tryd.prog 19 #[.string s, .int .i64 (n : Int)] w fun e w' => ∃ t : ByteArray, e = .returned (.string t) ∧ t.size = s.size * n ∧ Below w.heap.size w w' := by
  have hT : s.size * n ≤ 100000000 := by
    have := Nat.mul_le_mul hs hn; omega
  go_enter Tryd.func19, Tryd.ntmps19
  go_wp2
  go_loopw [0, 1, 5] (fun a b c wr => ∃ (s' out : ByteArray) (k : Nat), a = .string s' ∧ b = .int .i64 (k : Int) ∧ c = .string out ∧ out.size + s'.size * k = s.size * n ∧ s'.size ≤ 200001000 ∧ k ≤ 100000 ∧ Below w.heap.size w wr) (fun _ b _ _ => (intOf b).toNat)
  case atStart => exact ⟨s, ByteArray.empty, n, rfl, rfl, rfl, by simp, by omega, hn, Below.refl _ _⟩
  case round =>
    obtain ⟨s', out, k, rfl, rfl, rfl, hk, hz, hk1, hbw⟩ := hrel
    by_cases hk0 : k = 0
    · subst hk0
      simp at hk
      go_wp2
      go_ret
      exact ⟨out, rfl, hk, hbw⟩
    · have hs1 : s'.size ≤ s.size * n := by
        have := Nat.le_mul_of_pos_right s'.size (show 0 < k by omega); omega
      by_cases ho : k % 2 = 1
      · have h3 : ((k : Int) % 2 == 1) = true := by simp; omega
        go_wp2
        have e := Mill.mul_odd s'.size k ho
        refine ⟨⟨s' ++ s', out ++ s', k / 2, rfl, by simp, rfl, ?_, by simp; omega, by omega, hbw⟩, ?_⟩
        · simp only [ByteArray.size_append, Nat.add_mul]; omega
        · simp [intOf]; omega
      · have h3 : ((k : Int) % 2 == 1) = false := by simp; omega
        go_wp2
        have e := Mill.mul_even s'.size k (by omega)
        refine ⟨⟨s' ++ s', out, k / 2, rfl, by simp, rfl, ?_, by simp; omega, by omega, hbw⟩, ?_⟩
        · simp only [ByteArray.size_append, Nat.add_mul]; omega
        · simp [intOf]; omega
end Go.Proofs.YtkijfehdgiiejaaDoor
