import Derived.Test.YtkijfehdgiiejaaDoorDrawF
namespace Go.Proofs.YtkijfehdgiiejaaDoor
open Go.RowKit

attribute [local go_sem] Oper.semAt_some

def Val.Fine (x : Val.V) : Prop := (-9223372036854775808 ≤ x.type ∧ x.type ≤ 9223372036854775807) ∧ (-9223372036854775808 ≤ x.n ∧ x.n ≤ 9223372036854775807) ∧ x.text.size ≤ 3001
theorem many_D {w w1 : World} {R p k : Nat} (s : ByteArray) (n : Int) (hD : Mill.Dr R p k w w1) (hs : s.size ≤ 1) (h0 : 0 ≤ n) (h1 : n ≤ 3001) :
    Calls Tryd.prog 19 #[.string s, .int .i64 n] w1 fun e w' => ∃ t : ByteArray, e = .returned (.string t) ∧ t.size ≤ 3001 ∧ Mill.Dr R p k w w' ∧ Mill.But R w1 w' := by
  obtain ⟨m, rfl⟩ := Int.eq_ofNat_of_zero_le h0
  refine (l1Many_any s m w1 (by omega) (by omega)).mono ?_
  rintro e w' ⟨t, he, ht, hb⟩
  refine ⟨t, he, ?_, hD.below hb, Mill.But.of_below hb⟩
  have := Nat.mul_le_mul_right m hs
  omega
theorem Mill.u_bd (x : Int) : 0 ≤ IntKind.u64.wrap x ∧ IntKind.u64.wrap x < 18446744073709551616 := by rw [Val.wrap_u]; omega

theorem Val.num_v (t b : Int) (h0 : 0 ≤ b) (h1 : b < 18446744073709551616) (ht0 : -9223372036854775808 ≤ t) (ht1 : t ≤ 9223372036854775807) (w : World) :
    Calls Tryd.prog 31 #[.int .i64 t, .int .u64 b] w fun e w' => ∃ X : Val.V, e = .returned (.agg #[.int .i64 X.type, .int .i64 X.n, .string X.text]) ∧ Val.Fine X ∧ Below w.heap.size w w' :=
  (Val.l4Num_any t b h0 h1 w).mono fun _ _ h => ⟨⟨t, Val.into t b, ⟨#[]⟩⟩, h.1, ⟨⟨ht0, ht1⟩, Mill.into_bd t b, Nat.zero_le _⟩, h.2⟩
theorem Val.bool_v (b : Bool) (w : World) :
    Calls Tryd.prog 27 #[.bool b] w fun e w' => ∃ X : Val.V, e = .returned (.agg #[.int .i64 X.type, .int .i64 X.n, .string X.text]) ∧ Val.Fine X ∧ Below w.heap.size w w' :=
  (Val.l4Bool_any b w).mono fun _ _ h => ⟨⟨1, if b = true then 1 else 0, ⟨#[]⟩⟩, h.1, ⟨⟨by dsimp only; omega, by dsimp only; omega⟩, by cases b <;> decide, Nat.zero_le _⟩, h.2⟩
theorem Val.text_v (x : ByteArray) (hx : x.size ≤ 3001) (w : World) :
    Calls Tryd.prog 28 #[.string x] w fun e w' => ∃ X : Val.V, e = .returned (.agg #[.int .i64 X.type, .int .i64 X.n, .string X.text]) ∧ Val.Fine X ∧ Below w.heap.size w w' :=
  (Val.l4Text_any x w).mono fun _ _ h => ⟨⟨2, 0, x⟩, h.1, ⟨⟨by dsimp only; omega, by dsimp only; omega⟩, ⟨by dsimp only; omega, by dsimp only; omega⟩, hx⟩, h.2⟩
theorem Mill.But.set {R g i : Nat} {w wx : World} {v : Value} (h : Mill.But R w wx) (hg : w.heap.size ≤ g) : Mill.But R w (wx.setCell ⟨g, i, none⟩ v) :=
  ⟨h.os, h.tape, h.output, by simpa [World.setCell] using h.size, fun k hk hR => by
    have e := h.block k hk hR
    simp only [World.setCell, Array.getElem?_modify]
    rw [if_neg (by omega)]
    exact e⟩
theorem Mill.Dr.set {R p K g i : Nat} {w wx : World} {v : Value} (h : Mill.Dr R p K w wx) (hR : R < g) (hg : w.heap.size ≤ g) : Mill.Dr R p K w (wx.setCell ⟨g, i, none⟩ v) := by
  obtain ⟨p', a1, a2, hr⟩ := h.at_
  obtain ⟨u, n, h0, hn, hB⟩ := hr.box
  have hk : ∀ b, b < g → (wx.setCell ⟨g, i, none⟩ v).heap[b]? = wx.heap[b]? := fun b hb => by
    simp only [World.setCell, Array.getElem?_modify]; rw [if_neg (by omega)]
  refine ⟨⟨p', a1, a2, ⟨u, n, (hk R hR).trans h0, hn, ?_⟩⟩, h.but.set hg⟩
  rcases hB with e | ⟨b, off, cap, h1, h2, h3⟩
  · exact .inl e
  · refine .inr ⟨b, off, cap, h1, h2, fun j hj => ?_⟩
    obtain ⟨x, x0, x1, hx⟩ := h3 j hj
    refine ⟨x, x0, x1, ?_⟩
    have := hk b (by omega)
    simp only [World.cell?, this] at hx ⊢
    exact hx
theorem Mill.Dr.row {R p K : Nat} {w1 wx w8 : World} {a b c : Value} {t : TypeId} (h : Mill.Dr R p K (w1.alloc (.cells #[a, b, c] t)) wx) (hb : Below wx.heap.size wx w8) (hR : R < w1.heap.size) :
    (w8.cell? ⟨w1.heap.size, 0, none⟩ = some a ∧ w8.cell? ⟨w1.heap.size, 1, none⟩ = some b ∧ w8.cell? ⟨w1.heap.size, 2, none⟩ = some c) ∧ w8.frozen? ⟨w1.heap.size, 0, none⟩ = false ∧ w8.frozen? ⟨w1.heap.size, 1, none⟩ = false ∧ w8.frozen? ⟨w1.heap.size, 2, none⟩ = false := by
  have e1 := h.but.block w1.heap.size (by simp) (by omega)
  have hz := h.but.size
  simp at hz
  have e2 := hb.block w1.heap.size (by omega)
  rw [World.alloc_heap_new] at e1
  rw [e1] at e2
  simp [World.cell?, World.frozen?, e2]
theorem Mill.Dr.rebase {R p k p' K w w1 wx} (h : Mill.Dr R p k w w1) (h1 : p ≤ p') (h2 : p' ≤ p + k) (h' : Mill.Dr R p' K w1 wx) : Mill.Dr R p (k + K) w wx := by
  obtain ⟨q, a1, a2, hr⟩ := h'.at_
  exact ⟨⟨q, by omega, by omega, hr⟩, h.but.trans h'.but⟩
theorem Mill.Dr.base {R p K w1 wx} {o : Obj} (h : Mill.Dr R p K (w1.alloc o) wx) : Mill.Dr R p K w1 wx := ⟨h.at_, ((Mill.But.refl R w1).alloc o).trans h.but⟩

set_option maxRecDepth 100000 in
set_option maxHeartbeats 4000000 in
theorem value_D {w w1 : World} {R p k : Nat} (t : Int) (ht0 : -9223372036854775808 ≤ t) (ht1 : t ≤ 9223372036854775807) (hD : Mill.Dr R p k w w1) (hp : p + k < 1000000000) :
    Calls Tryd.prog 18 #[.pointer (some ⟨R, 0, none⟩), .int .i64 t] w1 fun e w' => ∃ x : Val.V, e = .returned (Val.v x) ∧ Val.Fine x ∧ Mill.Dr R p (k + 12) w w' ∧ Mill.But R w1 w' := by
  have hm := Mill.max_bd t
  have hRlt := hD.lt
  obtain ⟨p', a1, a2, hR⟩ := hD.at_
  have hD0 : Mill.Dr R p' 0 (w1.alloc (.cells #[.int .i64 0, .int .i64 0, .string ⟨#[]⟩] 24)) (w1.alloc (.cells #[.int .i64 0, .int .i64 0, .string ⟨#[]⟩] 24)) := Mill.Dr.refl (hR.below ((Below.refl _ w1).alloc (Nat.le_refl _) _))
  suffices hh : Calls Tryd.prog 18 #[.pointer (some ⟨R, 0, none⟩), .int .i64 t] w1 fun e w' => ∃ x : Val.V, e = .returned (Val.v x) ∧ Val.Fine x ∧ Mill.Dr R p' 12 w1 w' by
    refine hh.mono ?_
    rintro e w' ⟨x, he, hx, hd⟩
    exact ⟨x, he, hx, hD.rebase a1 a2 hd, hd.but⟩
  clear hD hR
  go_enter Tryd.func18, Tryd.ntmps18
  go_wp2_with (first
    | (go_at_call 12; refine (l1Max_any _ _).mono ?_; rintro e _ ⟨rfl, rfl⟩)
    | (go_at_call 27; refine (Val.bool_v _ _).mono ?_; rintro e w8 ⟨X, rfl, hX, hb8⟩; obtain ⟨⟨c0, c1, c2⟩, f0, f1, f2⟩ := Mill.Dr.row (by assumption) hb8 hRlt)
    | (go_at_call 28; refine (Val.text_v _ (by omega) _).mono ?_; rintro e w8 ⟨X, rfl, hX, hb8⟩; obtain ⟨⟨c0, c1, c2⟩, f0, f1, f2⟩ := Mill.Dr.row (by assumption) hb8 hRlt)
    | (go_at_call 31; refine (Val.num_v _ _ (by first | omega | exact (Mill.u_bd _).1) (by first | omega | exact (Mill.u_bd _).2) ht0 ht1 _).mono ?_; rintro e w8 ⟨X, rfl, hX, hb8⟩; obtain ⟨⟨c0, c1, c2⟩, f0, f1, f2⟩ := Mill.Dr.row (by assumption) hb8 hRlt)
    | (go_at_call 19; refine (many_D _ _ (by assumption) (by decide) (by omega) (by omega)).mono ?_; rintro e w3 ⟨x, rfl, hx, hD3, hB3⟩)
    | (go_at_call 29; refine (text_D (by assumption) (by omega)).mono ?_; rintro e w3 ⟨x, rfl, hx, hD3, hB3⟩)
    | (go_at_call 30; refine (number_D _ (by assumption) (by omega)).mono ?_; rintro e w3 ⟨n, rfl, hn0, hn1, hD3, hB3⟩)
    | (go_at_call 9; refine (pick_D _ (by assumption) (by omega) (by omega) (by omega)).mono ?_; rintro e w2 ⟨v, rfl, hv, hD2, hB2⟩)
    | (go_at_call 9; refine (pick_D _ (Mill.Dr.alloc (by assumption) _) (by omega) (by omega) (by omega)).mono ?_; rintro e w2 ⟨v, rfl, hv, hD2, hB2⟩; obtain ⟨x, hxc, hx⟩ := Mill.tab_pick (M := 23) hB2 (Mill.Dr.lt (by assumption)) (by decide) v (by simp; omega)))
  all_goals
    refine bodyPost_ret (v := .agg #[.int .i64 X.type, .int .i64 X.n, .string X.text]) (by simp [results, Tryd.results18, go_sem, c0, c1, c2]) rfl ⟨X, rfl, hX, ?_⟩
    refine Mill.Dr.set (Mill.Dr.set (Mill.Dr.set (Mill.Dr.below ?_ hb8) (by omega) (by omega)) (by omega) (by omega)) (by omega) (by omega)
    refine Mill.Dr.base (o := .cells #[.int .i64 0, .int .i64 0, .string ⟨#[]⟩] 24) (Mill.Dr.mono (by assumption) (by omega))
end Go.Proofs.YtkijfehdgiiejaaDoor
