import Derived.Test.YtfelngigfmdedaaGreatDoorBltP
namespace Go.Proofs.YtfelngigfmdedaaGreatDoor
namespace Val
open Go.ChangeShapes Go.WideShapes Go.ChangeAt Go.RowKit Go.Lib Go.Deep

set_option maxRecDepth 100000 in
theorem wordsOf {W : World} {r : List (String × DataW Unit)} (h : laidMet Tryz.prog (("loop.example/kilnmill/impl.builtWords", Rows.laid_loop_example_kilnmill_impl_builtWords) :: r) W) : (∀ op, op ≤ 12 → W.cell? ⟨1, op * 2 + 1, none⟩ = some (.int .i64 (Val.kidsN op))) ∧ 1 < W.heap.size := by
  obtain ⟨ps, ⟨g', t', cs, fuel, p, q, hg', ht', hvar, hd, _, _⟩, _⟩ := h
  obtain rfl := Option.some.inj (gWords.symm.trans hg')
  obtain rfl := Option.some.inj (gWordsT.symm.trans ht')
  have hcell : ∀ i (_ : i < 13) a z, _ → W.cell? ⟨1, i * 2 + 1, none⟩ = some (.int .i64 z) := fun i hi a z hz => by
    rw [World.var?_cell gWords hvar (i * 2 + 1)]
    have e := word_of hd i hi a z hz
    simpa using e
  refine ⟨fun m h2 => ?_, lt_cell (hcell 0 (by omega) _ _ rfl)⟩
  have : m = 0 ∨ m = 1 ∨ m = 2 ∨ m = 3 ∨ m = 4 ∨ m = 5 ∨ m = 6 ∨ m = 7 ∨ m = 8 ∨ m = 9 ∨ m = 10 ∨ m = 11 ∨ m = 12 := by omega
  rcases this with rfl | rfl | rfl | rfl | rfl | rfl | rfl | rfl | rfl | rfl | rfl | rfl | rfl
  · exact hcell 0 (by omega) _ _ rfl
  · exact hcell 1 (by omega) _ _ rfl
  · exact hcell 2 (by omega) _ _ rfl
  · exact hcell 3 (by omega) _ _ rfl
  · exact hcell 4 (by omega) _ _ rfl
  · exact hcell 5 (by omega) _ _ rfl
  · exact hcell 6 (by omega) _ _ rfl
  · exact hcell 7 (by omega) _ _ rfl
  · exact hcell 8 (by omega) _ _ rfl
  · exact hcell 9 (by omega) _ _ rfl
  · exact hcell 10 (by omega) _ _ rfl
  · exact hcell 11 (by omega) _ _ rfl
  · exact hcell 12 (by omega) _ _ rfl
set_option maxRecDepth 100000 in
theorem typesOf {W : World} {r : List (String × DataW Unit)} (h : laidMet Tryz.prog (("loop.example/kilnmill/impl.builtTypes", Rows.laid_loop_example_kilnmill_impl_builtTypes) :: r) W) : (∀ k, k < 52 → W.cell? ⟨2, k, none⟩ = some (.int .i64 (Val.tyN k))) ∧ 2 < W.heap.size := by
  obtain ⟨ps, ⟨g', t', cs, fuel, p, q, hg', ht', hvar, hd, _, _⟩, _⟩ := h
  obtain rfl := Option.some.inj (gTys.symm.trans hg')
  obtain rfl := Option.some.inj (gTysT.symm.trans ht')
  have hc : ∀ k z, cs.toList[k]? = some z → W.cell? ⟨2, k, none⟩ = some z := fun k z hz => by
    rw [World.var?_cell gTys hvar k]
    simpa using hz
  have t0 := types_of hd 0 (by omega) 0 0 0 0 rfl
  have t1 := types_of hd 1 (by omega) 2 0 0 2 rfl
  have t2 := types_of hd 2 (by omega) 2 0 0 1 rfl
  have t3 := types_of hd 3 (by omega) 2 0 0 2 rfl
  have t4 := types_of hd 4 (by omega) 2 2 0 2 rfl
  have t5 := types_of hd 5 (by omega) 0 0 0 2 rfl
  have t6 := types_of hd 6 (by omega) 2 0 0 10 rfl
  have t7 := types_of hd 7 (by omega) 2 10 0 3 rfl
  have t8 := types_of hd 8 (by omega) 2 10 10 2 rfl
  have t9 := types_of hd 9 (by omega) 2 2 0 10 rfl
  have t10 := types_of hd 10 (by omega) 3 0 0 2 rfl
  have t11 := types_of hd 11 (by omega) 11 0 0 2 rfl
  have t12 := types_of hd 12 (by omega) 2 0 0 10 rfl
  refine ⟨fun k hk => ?_, lt_cell (hc 0 _ t0.1)⟩
  have hk4 : ∃ i j, k = i * 4 + j ∧ i < 13 ∧ j < 4 := ⟨k / 4, k % 4, by omega, by omega, by omega⟩
  obtain ⟨i, j, rfl, hi, hj⟩ := hk4
  have hi13 : i = 0 ∨ i = 1 ∨ i = 2 ∨ i = 3 ∨ i = 4 ∨ i = 5 ∨ i = 6 ∨ i = 7 ∨ i = 8 ∨ i = 9 ∨ i = 10 ∨ i = 11 ∨ i = 12 := by omega
  have hj4 : j = 0 ∨ j = 1 ∨ j = 2 ∨ j = 3 := by omega
  rcases hi13 with rfl | rfl | rfl | rfl | rfl | rfl | rfl | rfl | rfl | rfl | rfl | rfl | rfl
  · rcases hj4 with rfl | rfl | rfl | rfl
    · exact hc _ _ t0.1
    · exact hc _ _ t0.2.1
    · exact hc _ _ t0.2.2.1
    · exact hc _ _ t0.2.2.2
  · rcases hj4 with rfl | rfl | rfl | rfl
    · exact hc _ _ t1.1
    · exact hc _ _ t1.2.1
    · exact hc _ _ t1.2.2.1
    · exact hc _ _ t1.2.2.2
  · rcases hj4 with rfl | rfl | rfl | rfl
    · exact hc _ _ t2.1
    · exact hc _ _ t2.2.1
    · exact hc _ _ t2.2.2.1
    · exact hc _ _ t2.2.2.2
  · rcases hj4 with rfl | rfl | rfl | rfl
    · exact hc _ _ t3.1
    · exact hc _ _ t3.2.1
    · exact hc _ _ t3.2.2.1
    · exact hc _ _ t3.2.2.2
  · rcases hj4 with rfl | rfl | rfl | rfl
    · exact hc _ _ t4.1
    · exact hc _ _ t4.2.1
    · exact hc _ _ t4.2.2.1
    · exact hc _ _ t4.2.2.2
  · rcases hj4 with rfl | rfl | rfl | rfl
    · exact hc _ _ t5.1
    · exact hc _ _ t5.2.1
    · exact hc _ _ t5.2.2.1
    · exact hc _ _ t5.2.2.2
  · rcases hj4 with rfl | rfl | rfl | rfl
    · exact hc _ _ t6.1
    · exact hc _ _ t6.2.1
    · exact hc _ _ t6.2.2.1
    · exact hc _ _ t6.2.2.2
  · rcases hj4 with rfl | rfl | rfl | rfl
    · exact hc _ _ t7.1
    · exact hc _ _ t7.2.1
    · exact hc _ _ t7.2.2.1
    · exact hc _ _ t7.2.2.2
  · rcases hj4 with rfl | rfl | rfl | rfl
    · exact hc _ _ t8.1
    · exact hc _ _ t8.2.1
    · exact hc _ _ t8.2.2.1
    · exact hc _ _ t8.2.2.2
  · rcases hj4 with rfl | rfl | rfl | rfl
    · exact hc _ _ t9.1
    · exact hc _ _ t9.2.1
    · exact hc _ _ t9.2.2.1
    · exact hc _ _ t9.2.2.2
  · rcases hj4 with rfl | rfl | rfl | rfl
    · exact hc _ _ t10.1
    · exact hc _ _ t10.2.1
    · exact hc _ _ t10.2.2.1
    · exact hc _ _ t10.2.2.2
  · rcases hj4 with rfl | rfl | rfl | rfl
    · exact hc _ _ t11.1
    · exact hc _ _ t11.2.1
    · exact hc _ _ t11.2.2.1
    · exact hc _ _ t11.2.2.2
  · rcases hj4 with rfl | rfl | rfl | rfl
    · exact hc _ _ t12.1
    · exact hc _ _ t12.2.1
    · exact hc _ _ t12.2.2.1
    · exact hc _ _ t12.2.2.2
set_option maxRecDepth 100000 in
theorem gbOf {W : World} (h : laidMetH Tryz.prog Rows.fnExactBuiltRow.laid W) (hS : W.ShapedOpen Tryz.prog) : Val.GB W := by
  have h0 : laidMet Tryz.prog Rows.fnExactBuiltRow.laid W := h
  have h2 := laidMet.tail (laidMet.tail h0)
  have h3 := laidMet.tail h2
  have h4 := laidMet.tail h3
  have h5 := laidMet.tail h4
  have h6 := laidMet.tail h5
  have h7 := laidMet.tail h6
  have h8 := laidMet.tail h7
  have h9 := laidMet.tail h8
  obtain ⟨m, hm⟩ := Tryz.laysM143.s1_3 W hS
  have hm' : W.cell? ⟨5, 0, none⟩ = some (.int .i64 m) := hm
  obtain ⟨w1, w2⟩ := wordsOf h5
  obtain ⟨y1, y2⟩ := typesOf h6
  exact {
    eT := (errOf gType gTypeT h7).1
    eR := (errOf gRange gRangeT h8).1
    eN := (errOf gNumber gNumberT h9).1
    pow := Lib.tabIs_of_head (zs := Lib.pow10Tab) Val.gPow gPowT Tryz.underlying112 Tryz.underlying53 cellsU64 cellsPow h2
    syn := (errOf Val.gSyn gSynT h4).2
    rng := (errOf Val.gRng gRngT h3).2
    maxL := ⟨m, hm'⟩
    maxG := lt_cell hm'
    words := w1
    wordsG := w2
    types := y1
    typesG := y2 }
theorem cellsLV : Tryz.prog.cellsOf 34 = 3 := by kernel_rfl
theorem cellsLVs : Tryz.prog.cellsOf 22 = 1 := by kernel_rfl
instance : Inhabited Val.V := ⟨⟨0, 0, ⟨#[]⟩⟩⟩
theorem wf64 {n : Int} (h : (Lit.int .i64 n).wf = true) : -9223372036854775808 ≤ n ∧ n ≤ 9223372036854775807 := by
  have e1 : IntKind.i64.min = -9223372036854775808 := by decide
  have e2 : IntKind.i64.max = 9223372036854775807 := by decide
  simp only [Lit.wf, e1, e2, Bool.and_eq_true, decide_eq_true_eq] at h
  exact h
set_option maxRecDepth 100000 in
theorem value_openC {H : Type} {enc : TypeId × Value → H} {w : World} {base : Nat} {spare : Nat → Bool} {held : Bool} {fuel : Nat} {cs : List Value} {x : DataW H × List MemPlace}
    (h : DataW.trod enc Tryz.prog w base spare held fuel 34 cs = some x) : ∃ d : Val.V, cs = Val.vC d ∧ d.text.size ≤ 9223372036854775807 ∧ (-9223372036854775808 ≤ d.n ∧ d.n ≤ 9223372036854775807) := by
  obtain ⟨xs, n, _, _, hlen, hxl, hf⟩ := DataW.trod_struct Tryz.underlying34 h
  rw [cellsLV] at hlen
  have hxl3 : xs.length = 3 := hxl
  clear hxl
  match xs, hxl3, cs, hlen with
  | [y0, y1, y2], _, [v0, v1, v2], _ =>
    have f0 : DataW.trod enc Tryz.prog w base spare held n 3 (([v0, v1, v2].drop 0).take (Tryz.prog.cellsOf 3)) = some y0 := hf 0 _ rfl
    rw [cellsInt] at f0
    have e0 : DataW.trod enc Tryz.prog w base spare held n 3 [v0] = some y0 := f0
    have f1 : DataW.trod enc Tryz.prog w base spare held n 2 (([v0, v1, v2].drop 1).take (Tryz.prog.cellsOf 2)) = some y1 := hf 1 _ rfl
    rw [cellsInt64] at f1
    have e1 : DataW.trod enc Tryz.prog w base spare held n 2 [v1] = some y1 := f1
    have f2 : DataW.trod enc Tryz.prog w base spare held n 9 (([v0, v1, v2].drop 2).take (Tryz.prog.cellsOf 9)) = some y2 := hf 2 _ rfl
    rw [cellsString] at f2
    have e2 : DataW.trod enc Tryz.prog w base spare held n 9 [v2] = some y2 := f2
    obtain ⟨z0, h0, _, _⟩ := DataW.trod_int Tryz.underlying3 e0
    obtain ⟨z1, h1, _, hw⟩ := DataW.trod_int Tryz.underlying2 e1
    obtain ⟨z2, h2, _, hs⟩ := DataW.trod_string Tryz.underlying9 e2
    cases h0; cases h1; cases h2
    exact ⟨⟨z0, z1, z2⟩, rfl, by simpa [maxLen] using hs, wf64 hw⟩
theorem values_open {H : Type} {enc : TypeId × Value → H} {w : World} {base : Nat} {spare : Nat → Bool} {held : Bool} {fuel : Nat} {v : Value} {x : DataW H × List MemPlace}
    (h : DataW.trod enc Tryz.prog w base spare held fuel 22 [v] = some x) : ∃ ns : List Val.V, Val.VsOff w v ns ∧ ns.length ≤ 9223372036854775807 ∧ (∀ d ∈ ns, d.text.size ≤ 9223372036854775807) ∧ ∀ d ∈ ns, -9223372036854775808 ≤ d.n ∧ d.n ≤ 9223372036854775807 := by
  rcases open_slice Tryz.underlying22 h with ⟨hv, _⟩ | ⟨a, len, cap, m, n, D, Pl, hv, hb, hl, hm, hmm, _, hx⟩
  · cases hv
    exact ⟨[], ⟨none, 0, rfl, fun i hi => by simp at hi⟩, by simp, by simp, by simp⟩
  · cases hv
    have hlm : len ≤ m := by rw [hmm]; split <;> omega
    rw [cellsLV] at hx
    obtain ⟨d, hd⟩ := choose_lt (α := Val.V) (n := len) (p := fun i d => w.cells? base (a.add (i * 3)) 3 = some (Val.vC d) ∧ d.text.size ≤ 9223372036854775807 ∧ (-9223372036854775808 ≤ d.n ∧ d.n ≤ 9223372036854775807)) (fun i hi => by
      obtain ⟨cs', h1, h2⟩ := hx i (by omega)
      obtain ⟨d, rfl, hs, hr⟩ := value_openC h2
      exact ⟨d, h1, hs, hr⟩)
    refine ⟨(List.range len).map d, ⟨some a, cap, by simp, fun i hi => ?_⟩, by simp [maxLen] at hm ⊢; omega, fun e he => ?_, fun e he => ?_⟩
    · have hi' : i < len := by simpa using hi
      obtain ⟨h1, _⟩ := hd i hi'
      obtain ⟨_, _, hcell⟩ := World.cells?_some h1
      have hc0 : w.cell? ((a.add (i * 3)).add 0) = (Val.vC (d i))[0]? := hcell 0 (by omega)
      obtain ⟨b, o, sp⟩ := a
      have hsp : sp = none := by
        obtain ⟨_, _, hcell0⟩ := World.cells?_some (hd 0 (by omega)).1
        have e0 : w.cell? ((Addr.add ⟨b, o, sp⟩ (0 * 3)).add 0) = some (.int .i64 (d 0).type) := hcell0 0 (by omega)
        simp [Addr.add] at e0
        exact World.cell?_spot e0
      subst hsp
      have hadd : ∀ o k, (Addr.add ⟨b, o, none⟩ k) = ⟨b, o + k, none⟩ := fun o k => by unfold Addr.add; split <;> simp_all
      refine ⟨b, o, rfl, ?_, fun j hj => ?_⟩
      · have e : w.cell? ((Addr.add ⟨b, o, none⟩ (i * 3)).add 0) = some (.int .i64 (d i).type) := hc0
        rw [hadd, hadd] at e
        exact lt_cell e
      · have := hcell j (by omega)
        rw [hadd, hadd] at this
        rw [this]; simp
    · obtain ⟨i, hi, rfl⟩ := List.mem_map.1 he
      exact (hd i (by simpa using hi)).2.1
    · obtain ⟨i, hi, rfl⟩ := List.mem_map.1 he
      exact (hd i (by simpa using hi)).2.2
end Val
end Go.Proofs.YtfelngigfmdedaaGreatDoor
