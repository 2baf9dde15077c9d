import Derived.Test.YtkijfehdgiiejaaDoorDrawG
namespace Go.Proofs.YtkijfehdgiiejaaDoor
open Go.RowKit

attribute [local go_sem] Oper.semAt_some

theorem value_v {w w1 : World} {R p k : Nat} (t : Int) (ht0 : -9223372036854775808 ≤ t) (ht1 : t ≤ 9223372036854775807) (hD : Mill.Dr R p k w w1) (hp : p + k < 1000000000) :
    Calls Tryd.prog 18 #[.pointer (some ⟨R, 0, none⟩), .int .i64 t] w1 fun e w' => ∃ X : Val.V, e = .returned (.agg #[.int .i64 X.type, .int .i64 X.n, .string X.text]) ∧ Val.Fine X ∧ Mill.Dr R p (k + 12) w w' ∧ Mill.But R w1 w' := value_D t ht0 ht1 hD hp
structure Mill.Two (g h : Nat) (a0 a1 a2 b0 b1 b2 : Value) (t : TypeId) (w : World) : Prop where
  one : w.heap[g]? = some (.cells #[a0, a1, a2] t (0, 0))
  two : w.heap[h]? = some (.cells #[b0, b1, b2] t (0, 0))
theorem Mill.Two.but {g h R : Nat} {a0 a1 a2 b0 b1 b2 : Value} {t : TypeId} {wa wb : World} (hB : Mill.But R wa wb) (hR : R < g) (hR' : R < h) (x : Mill.Two g h a0 a1 a2 b0 b1 b2 t wa) : Mill.Two g h a0 a1 a2 b0 b1 b2 t wb :=
  ⟨(hB.block g (Array.getElem?_eq_some_iff.1 x.one).1 (by omega)).trans x.one, (hB.block h (Array.getElem?_eq_some_iff.1 x.two).1 (by omega)).trans x.two⟩
theorem Mill.Two.cells {g h : Nat} {a0 a1 a2 b0 b1 b2 : Value} {t : TypeId} {w : World} (x : Mill.Two g h a0 a1 a2 b0 b1 b2 t w) :
    (w.cell? ⟨g, 0, none⟩ = some a0 ∧ w.cell? ⟨g, 1, none⟩ = some a1 ∧ w.cell? ⟨g, 2, none⟩ = some a2) ∧ (w.frozen? ⟨g, 0, none⟩ = false ∧ w.frozen? ⟨g, 1, none⟩ = false ∧ w.frozen? ⟨g, 2, none⟩ = false) ∧
    (w.cell? ⟨h, 0, none⟩ = some b0 ∧ w.cell? ⟨h, 1, none⟩ = some b1 ∧ w.cell? ⟨h, 2, none⟩ = some b2) ∧ (w.frozen? ⟨h, 0, none⟩ = false ∧ w.frozen? ⟨h, 1, none⟩ = false ∧ w.frozen? ⟨h, 2, none⟩ = false) := by
  have e1 := x.one
  have e2 := x.two
  simp [World.cell?, World.frozen?, e1, e2]
theorem Mill.Two.make {R : Nat} {w1 w2 : World} {a b c x y z : Value} {t : TypeId} (hB : Mill.But R (w1.alloc (.cells #[a, b, c] t)) w2) (hR : R < w1.heap.size) :
    Mill.Two w1.heap.size w2.heap.size a b c x y z t (w2.alloc (.cells #[x, y, z] t)) := by
  have e1 := hB.block w1.heap.size (by simp) (by omega)
  rw [World.alloc_heap_new] at e1
  have hz := hB.size
  simp at hz
  refine ⟨?_, World.alloc_heap_new w2 _⟩
  exact (((Below.refl _ w2).alloc (Nat.le_refl _) _).block w1.heap.size (by omega)).trans e1
theorem Mill.intB_of {cs : Array Value} {L : List Int} (h : cs.toList = L.map (fun x => Value.int .i64 x)) (v : Nat) (hv : v < L.length) : ∃ x : Int, cs[v]? = some (.int .i64 x) ∧ x ∈ L := by
  refine ⟨L[v], ?_, by simp⟩
  rw [← Array.getElem?_toList, h]; simp [hv]
theorem Mill.int_pick {w w1 : World} {R : Nat} {cs : Array Value} {T : TypeId} (L : List Int) (hB : Mill.But R (w.alloc (.cells cs T)) w1) (hR : R < w.heap.size) (h : cs.toList = L.map (fun x => Value.int .i64 x)) (v : Nat) (hv : v < L.length) : ∃ x : Int, w1.cell? ⟨w.heap.size, v, none⟩ = some (.int .i64 x) ∧ x ∈ L := by
  have hb := hB.block w.heap.size (by simp) (by omega)
  rw [World.alloc_heap_new] at hb
  obtain ⟨x, hx, hm⟩ := Mill.intB_of h v hv
  refine ⟨x, ?_, hm⟩
  simp [World.cell?, hb, hx]

set_option maxRecDepth 100000 in
set_option maxHeartbeats 8000000 in
theorem any_D {w w1 : World} {R p k : Nat} (t : Int) (ht0 : -9223372036854775808 ≤ t) (ht1 : t ≤ 9223372036854775807) (hD : Mill.Dr R p k w w1) (hp : p + k < 100000000) :
    Calls Tryd.prog 10 #[.pointer (some ⟨R, 0, none⟩), .int .i64 t] w1 fun e w' => ∃ x : Val.V, e = .returned (Val.v x) ∧ Val.Fine x ∧ Mill.Dr R p (k + 15) w w' ∧ Mill.But R w1 w' := by
  have hRlt := hD.lt
  obtain ⟨p', a1, a2, hR⟩ := hD.at_
  suffices hh : Calls Tryd.prog 10 #[.pointer (some ⟨R, 0, none⟩), .int .i64 t] w1 fun e w' => ∃ x : Val.V, e = .returned (Val.v x) ∧ Val.Fine x ∧ Mill.Dr R p' 15 w1 w' by
    refine hh.mono ?_
    rintro e w' ⟨x, he, hx, hd⟩
    exact ⟨x, he, hx, hD.rebase a1 a2 hd, hd.but⟩
  clear hD
  have hD0 : Mill.Dr R p' 0 w1 (w1.alloc (.cells #[.int .i64 0, .int .i64 0, .string ⟨#[]⟩] 24)) := (Mill.Dr.refl hR).alloc _
  clear hR
  go_enter Tryd.func10, Tryd.ntmps10
  go_wp2_with (first
    | (go_at_call 18; refine (value_v _ ht0 ht1 hD0 (by omega)).mono ?_; rintro e w2 ⟨X, rfl, hX, hD2, hB2⟩
       have hlt2 := hD2.lt
       have hsz2 := hB2.size
       simp only [World.size_alloc] at hsz2
       have ne1 : w2.heap.size ≠ w1.heap.size := by omega
       have ne2 : w1.heap.size ≠ w2.heap.size := by omega
       have hD3 := hD2.alloc (.cells #[.int .i64 X.type, .int .i64 X.n, .string X.text] 24)
       have hT3 : Mill.Two w1.heap.size w2.heap.size _ _ _ (.int .i64 X.type) (.int .i64 X.n) (.string X.text) 24 _ := Mill.Two.make hB2 hRlt
       obtain ⟨⟨c0, c1, c2⟩, ⟨f0, f1, f2⟩, ⟨d0, d1, d2⟩, g0, g1, g2⟩ := hT3.cells)
    | (go_at_call 19; refine (many_D _ _ (by assumption) (by decide) (by omega) (by omega)).mono ?_; rintro e w5 ⟨x, rfl, hx, hD5, hB5⟩
       have hT5 := Mill.Two.but hB5 hRlt hlt2 (by assumption)
       obtain ⟨⟨c0, c1, c2⟩, ⟨f0, f1, f2⟩, ⟨d0, d1, d2⟩, g0, g1, g2⟩ := hT5.cells)
    | (go_at_call 9; refine (pick_D _ (by assumption) (by omega) (by omega) (by omega)).mono ?_; rintro e w4 ⟨v, rfl, hv, hD4, hB4⟩
       have hT4 := Mill.Two.but hB4 hRlt hlt2 (by assumption)
       obtain ⟨⟨c0, c1, c2⟩, ⟨f0, f1, f2⟩, ⟨d0, d1, d2⟩, g0, g1, g2⟩ := hT4.cells)
    | (go_at_call 9; refine (pick_D _ (Mill.Dr.alloc (by assumption) _) (by omega) (by omega) (by omega)).mono ?_; rintro e w5 ⟨v, rfl, hv, hD5, hB5⟩
       obtain ⟨x, hxc, hx⟩ := Mill.int_pick [2, -1, 256, -129, 65536, 4294967296] hB5 (Mill.Dr.lt (by assumption)) rfl v (by simp; omega)
       have hT5 := Mill.Two.but (((Mill.But.refl R _).alloc _).trans hB5) hRlt hlt2 (by assumption)
       obtain ⟨⟨c0, c1, c2⟩, ⟨f0, f1, f2⟩, ⟨d0, d1, d2⟩, g0, g1, g2⟩ := hT5.cells))
  all_goals obtain ⟨x1, x2, x3⟩ := hX
  · refine bodyPost_ret (v := .agg #[.int .i64 ((v : Int) - 1), .int .i64 X.n, .string X.text]) (by simp [results, Tryd.results10, go_sem, c0, c1, c2]) rfl ⟨⟨(v : Int) - 1, X.n, X.text⟩, rfl, ⟨⟨by dsimp only; omega, by dsimp only; omega⟩, x2, x3⟩, ?_⟩
    exact Mill.Dr.set (Mill.Dr.set (Mill.Dr.set (Mill.Dr.set (Mill.Dr.mono hD4 (by omega)) (by omega) (by omega)) (by omega) (by omega)) (by omega) (by omega)) (by omega) (by omega)
  · refine bodyPost_ret (v := .agg #[.int .i64 X.type, .int .i64 x, .string X.text]) (by simp [results, Tryd.results10, go_sem, c0, c1, c2]) rfl ⟨⟨X.type, x, X.text⟩, rfl, ⟨x1, ⟨by dsimp only; simp at hx; omega, by dsimp only; simp at hx; omega⟩, x3⟩, ?_⟩
    exact Mill.Dr.set (Mill.Dr.set (Mill.Dr.set (Mill.Dr.set (Mill.Dr.mono hD5 (by omega)) (by omega) (by omega)) (by omega) (by omega)) (by omega) (by omega)) (by omega) (by omega)
  · refine bodyPost_ret (v := .agg #[.int .i64 X.type, .int .i64 X.n, .string ⟨#[116]⟩]) (by simp [results, Tryd.results10, go_sem, c0, c1, c2]) rfl ⟨⟨X.type, X.n, ⟨#[116]⟩⟩, rfl, ⟨x1, x2, by show 1 ≤ 3001; omega⟩, ?_⟩
    exact Mill.Dr.set (Mill.Dr.set (Mill.Dr.set (Mill.Dr.set (Mill.Dr.mono hD4 (by omega)) (by omega) (by omega)) (by omega) (by omega)) (by omega) (by omega)) (by omega) (by omega)
  · refine bodyPost_ret (v := .agg #[.int .i64 X.type, .int .i64 X.n, .string x]) (by simp [results, Tryd.results10, go_sem, c0, c1, c2]) rfl ⟨⟨X.type, X.n, x⟩, rfl, ⟨x1, x2, hx⟩, ?_⟩
    exact Mill.Dr.set (Mill.Dr.set (Mill.Dr.set (Mill.Dr.set (Mill.Dr.mono hD5 (by omega)) (by omega) (by omega)) (by omega) (by omega)) (by omega) (by omega)) (by omega) (by omega)
  · refine bodyPost_ret (v := .agg #[.int .i64 X.type, .int .i64 X.n, .string X.text]) (by simp [results, Tryd.results10, go_sem, c0, c1, c2]) rfl ⟨⟨X.type, X.n, X.text⟩, rfl, ⟨x1, x2, x3⟩, ?_⟩
    exact Mill.Dr.set (Mill.Dr.set (Mill.Dr.set (Mill.Dr.mono hD4 (by omega)) (by omega) (by omega)) (by omega) (by omega)) (by omega) (by omega)
end Go.Proofs.YtkijfehdgiiejaaDoor
