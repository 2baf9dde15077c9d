import Derived.Test.YtkaoeoeloihigaaGreatDoorWM
import Derived.Test.YtkaoeoeloihigaaGreatDoorVTreeLD
import Derived.Test.YtkaoeoeloihigaaGreatDoorCards
import Derived.Test.YtkaoeoeloihigaaGreatDoorTie
import Derived.Lay
import Derived.WalkKit
import Derived.ProofKit
import Derived.OpenShut
import Derived.OpenVars
import Derived.Lib.LaidIn
import Derived.Lib.LaidTab
import Derived.Stop.LaidErr
import Derived.Deep.DeepHandedRow
import Derived.Deep.DeepWitnessRowRef
import Derived.SizedLaws
import Derived.ChangeVars
import Derived.Carry
import Derived.SevenTiedAt
namespace Go.Proofs.YtkaoeoeloihigaaGreatDoor
open Go.RowKit

theorem Prj.szL_tx : ∀ (ns : List Mill.Nd) (l : Int), 0 ≤ Mill.szL ns l → 0 ≤ l → (Pr.tx ns : Int) ≤ l
  | [], l, _, h => by simpa [Pr.tx] using h
  | e :: r, l, h, hl => by
    rw [Mill.szL] at h
    split at h
    · omega
    · rename_i hn
      have := Prj.szL_tx r _ h (by omega)
      simp only [Pr.tx, List.map_cons, List.sum_cons] at this ⊢
      omega
theorem Prj.szT_tx (ns : List Mill.Nd) (h : 0 ≤ Mill.szT ns 1048576) : Pr.tx ns ≤ 1048576 := by
  unfold Mill.szT at h
  split at h
  · omega
  · have := Prj.szL_tx ns _ h (by omega)
    omega
theorem Prj.tabs_later {w w4 : World} (h : Hid (Prj.Tabs w.heap.size w)) (hb : Below w.heap.size w w4) (o : Obj) : Hid (Prj.Tabs (w4.alloc o).heap.size (w4.alloc o)) := by
  have hz := hb.size
  exact (h.out.below (hb.alloc (by omega) o)).up (by rw [World.size_alloc]; omega)
theorem Prj.pow_later {w w4 : World} (h : Hid (∀ w1, Below w.heap.size w w1 → Lib.TabIs Tryz.prog w1 "internal/strconv.uint64pow10" .u64 Lib.pow10Tab)) (hb : Below w.heap.size w w4) (o : Obj) : Hid (∀ w1, Below (w4.alloc o).heap.size (w4.alloc o) w1 → Lib.TabIs Tryz.prog w1 "internal/strconv.uint64pow10" .u64 Lib.pow10Tab) := fun w1 h1 => by
  have hz := hb.size
  exact h.out w1 ((hb.alloc (by omega) o).trans (h1.mono (by rw [World.size_alloc]; omega)))
set_option maxRecDepth 100000 in
set_option maxHeartbeats 2000000 in
theorem Prj.plaw_any (ns : List Mill.Nd) (a : Option Addr) (cap : Nat) (w : World) (hN : Mill.NodesOff w (.slice a ns.length cap) ns) (hn : ns.length ≤ 9223372036854775807) (hx : ∀ d ∈ ns, d.text.size ≤ 9223372036854775807) (hG : Mill.Greats w) (hW : Mill.Builts w) (HT : Hid (Prj.Tabs w.heap.size w)) (HP : Hid (∀ w1, Below w.heap.size w w1 → Lib.TabIs Tryz.prog w1 "internal/strconv.uint64pow10" .u64 Lib.pow10Tab)) :
    Calls Tryz.prog 3 #[.agg #[.slice a ns.length cap]] w fun e w' => e = .returned (.bool true) ∧ Below w.heap.size w w' := by
  have HN : Hid (Mill.NodesOff w (.slice a ns.length cap) ns) := hN
  have HX : Hid (∀ d ∈ ns, d.text.size ≤ 9223372036854775807) := hx
  clear hN hx
  obtain ⟨q, HQ⟩ : ∃ q, Hid (Mill.szT ns 1048576 = q) := ⟨_, (rfl : Mill.szT ns 1048576 = _)⟩
  have hqb := Mill.szT_bd ns 1048576 (by omega)
  rw [HQ.out] at hqb
  by_cases hq : q < 0
  · go_enter Tryz.func3, Tryz.ntmps3
    go_wp2_with (go_at_call 4; (refine (szTree_any ns _ 1048576 (by omega) (by omega) hn HX.out _ (Mill.nodesOff_below HN.out (by first | exact Below.refl _ _ | exact (Below.refl _ w).alloc (Nat.le_refl _) _ | exact ((Below.refl _ w).alloc (Nat.le_refl _) _).alloc (by simp) _))).mono ?_; rintro e w1 ⟨rfl, hb1⟩; rw [HQ.out]; simp only [World.size_alloc] at hb1))
    go_ret
    exact ⟨rfl, ((Below.refl _ w).alloc (Nat.le_refl _) _).trans (hb1.mono (by omega))⟩
  · have hok := Mill.szT_ok ns (by rw [HQ.out]; omega)
    obtain ⟨hl, hs⟩ := hok
    have HS : Hid (∀ d ∈ ns, d.text.size ≤ 1048576) := hs
    have HTX : Hid (Pr.tx ns ≤ 1048576) := Prj.szT_tx ns (by rw [HQ.out]; omega)
    obtain ⟨Y, HY⟩ : ∃ Y, Hid (Pr.printL ns = Y) := ⟨_, (rfl : Pr.printL ns = _)⟩
    clear hs
    have hc0 : ∀ o : Obj, Below w.heap.size w (w.alloc o) := fun o => (Below.refl _ w).alloc (Nat.le_refl _) o
    go_enter Tryz.func3, Tryz.ntmps3
    go_wp2_with (first
      | (go_at_call 4; (refine (szTree_any ns _ 1048576 (by omega) (by omega) hn HX.out _ (Mill.nodesOff_below HN.out (hc0 _))).mono ?_; rintro e w1 ⟨rfl, hb1⟩; rw [HQ.out]; simp only [World.size_alloc] at hb1; have hw1 : Below w.heap.size w w1 := (hc0 _).trans (hb1.mono (by omega)); have c1 : w1.cell? ⟨w.heap.size, 0, none⟩ = some (.slice a ns.length cap) := (by rw [hb1.cell (p := ⟨w.heap.size, 0, none⟩) (by simp)]; simp [go_sem]); have z1 := hb1.size; simp only [World.size_alloc] at z1))
      | (go_at_call 6; (refine (toTree_D ns _ w w1 HN hw1 hl).mono ?_; rintro e w2 ⟨a2, k2, rfl, own2, hb2⟩; have z2 := hb2.size))
      | (go_at_call 5; (refine (Pr.specPrint_any ns _ w2 (Mill.ownsNodes own2 (Below.refl _ _)) HTX.out).mono ?_; rintro e w3 ⟨rfl, hb3⟩; rw [HY.out]; have z3 := hb3.size; have hw13 : Below w1.heap.size w1 w3 := hb2.trans (hb3.mono z2); have hw3 : Below w.heap.size w w3 := hw1.trans (hw13.mono (by omega)); have c3 : w3.cell? ⟨w.heap.size, 0, none⟩ = some (.slice a ns.length cap) := (by rw [hw13.cell (p := ⟨w.heap.size, 0, none⟩) (by simp only; omega)]; exact c1))))
    go_wp2_with (first
      | (go_at_call 6; (refine (toTree_D ns _ w w3 HN hw3 hl).mono ?_; rintro e w4 ⟨a4, k4, rfl, own4, hb4⟩; have z4 := hb4.size; have hw4 : Below w.heap.size w w4 := hw3.trans (hb4.mono (by omega)); have c4 : w4.cell? ⟨w.heap.size, 0, none⟩ = some (.slice a ns.length cap) := (by rw [hb4.cell (p := ⟨w.heap.size, 0, none⟩) (by simp only; omega)]; exact c3)))
      | (go_at_call 7; (refine (Prj.implPrint_any ns _ _ (Mill.ownsNodes own4 ((Below.refl _ w4).alloc (Nat.le_refl _) _)) HS (hG.below (hw4.alloc (by omega) _)) (hW.below (hw4.alloc (by omega) _)) (Prj.tabs_later HT hw4 _) (Prj.pow_later HP hw4 _)).mono ?_; rintro e w5 ⟨rfl, hb5⟩; rw [HY.out]; simp only [World.size_alloc] at hb5; have z5 := hb5.size; simp only [World.size_alloc] at z5; have hw45 : Below w4.heap.size w4 w5 := ((Below.refl _ w4).alloc (Nat.le_refl _) _).trans (hb5.mono (by omega)); have hw5 : Below w.heap.size w w5 := hw4.trans (hw45.mono (by omega)); have c5 : w5.cell? ⟨w.heap.size, 0, none⟩ = some (.slice a ns.length cap) := (by rw [hw45.cell (p := ⟨w.heap.size, 0, none⟩) (by simp only; omega)]; exact c4); have d5 : w5.cell? ⟨w4.heap.size, 0, none⟩ = some (.slice a4 ns.length k4) := (by rw [hb5.cell (p := ⟨w4.heap.size, 0, none⟩) (by simp)]; simp [go_sem]))))
    go_region_with (first
      | (go_at_call 6; (refine (toTree_D ns _ w _ HN (by first | exact hw5 | exact hw5.drew | exact hw5.drew.drew | exact hw5.drew.drew.drew) hl).mono ?_; rintro e w6 ⟨a6, k6, rfl, own6, hb6⟩; have z6 := hb6.size; have hw56 : Below w5.heap.size w5 w6 := ⟨hb6.os, hb6.tape, hb6.output, hb6.size, hb6.block⟩; have d6 : w6.cell? ⟨w4.heap.size, 0, none⟩ = some (.slice a4 ns.length k4) := (by rw [hw56.cell (p := ⟨w4.heap.size, 0, none⟩) (by simp only; omega)]; exact d5)))
      | (go_at_call 8; (refine (eqTree_same ns _ _ _ (Mill.ownsNodes own4 (hw45.trans (hw56.mono (by omega)))) (Mill.ownsNodes own6 (Below.refl _ _)) hl).mono ?_; rintro e w7 ⟨rfl, hb7⟩)))
    all_goals
      have z56 : w5.heap.size ≤ w6.heap.size := hw56.size
      have hw67 : Below w6.heap.size w6 w7 := ⟨hb7.os, hb7.tape, hb7.output, hb7.size, hb7.block⟩
      have hw7 : Below w.heap.size w w7 := (hw5.trans (hw56.mono (by omega))).trans (hw67.mono (by omega))
      clear hb7 hb6 hb5 hb4 hb3 hb2 hb1 c1 c3 c4 c5 d5
      go_wp2
      go_ret
      exact ⟨rfl, hw7⟩
end Go.Proofs.YtkaoeoeloihigaaGreatDoor

namespace Go.Proofs.YtkaoeoeloihigaaGreatDoor
namespace Prj
open Go.ChangeShapes Go.WideShapes Go.ChangeAt Go.RowKit Go.Lib

theorem cString : Tryz.prog.cellsOf 9 = 1 := by kernel_rfl
theorem cInt : Tryz.prog.cellsOf 3 = 1 := by kernel_rfl
theorem cU64 : Tryz.prog.cellsOf 95 = 1 := by kernel_rfl
theorem cPow : Tryz.prog.cellsOf 199 = 20 := by kernel_rfl
theorem cGreat : Tryz.prog.cellsOf 117 = 11 := by kernel_rfl
theorem cCalled : Tryz.prog.cellsOf 136 = 2 := by kernel_rfl
theorem cRanked : Tryz.prog.cellsOf 181 = 2 := by kernel_rfl
theorem gPow : Tryz.prog.globalNamed "internal/strconv.uint64pow10" = some 6 := by kernel_rfl
theorem gPowT : (Tryz.prog.globals[6]?).map (·.type) = some 199 := by kernel_rfl
theorem gGreat : Tryz.prog.globalNamed "loop.example/kilnmill/impl.greatest" = some 1 := by kernel_rfl
theorem gGreatT : (Tryz.prog.globals[1]?).map (·.type) = some 117 := by kernel_rfl
theorem gType : Tryz.prog.globalNamed "loop.example/kilnmill/impl.typeWords" = some 0 := by kernel_rfl
theorem gTypeT : (Tryz.prog.globals[0]?).map (·.type) = some 86 := by kernel_rfl
theorem gUn : Tryz.prog.globalNamed "loop.example/kilnmill/impl.unMarks" = some 3 := by kernel_rfl
theorem gUnT : (Tryz.prog.globals[3]?).map (·.type) = some 179 := by kernel_rfl
theorem gBin : Tryz.prog.globalNamed "loop.example/kilnmill/impl.binMarks" = some 4 := by kernel_rfl
theorem gBinT : (Tryz.prog.globals[4]?).map (·.type) = some 182 := by kernel_rfl
theorem gBuilt : Tryz.prog.globalNamed "loop.example/kilnmill/impl.builtWords" = some 2 := by kernel_rfl
theorem gBuiltT : (Tryz.prog.globals[2]?).map (·.type) = some 137 := by kernel_rfl
theorem tlt_cell {W : World} {b o : Nat} {v : Value} (h : W.cell? ⟨b, o, none⟩ = some v) : b < W.heap.size := by
  unfold World.cell? at h
  split at h
  · rename_i hb; exact (Array.getElem?_eq_some_iff.1 hb).1
  · cases h
theorem mk_bytes {s : ByteArray} {b : List UInt8} (h : s.data.toList = b) : s = ⟨b.toArray⟩ := by
  obtain ⟨⟨l⟩⟩ := s
  have : l = b := h
  subst this; rfl
set_option maxRecDepth 100000 in
theorem strsType {W : World} {cs : List Value} {fuel : Nat} {p : List MemPlace} {l : List (DataW Unit)} {enc : TypeId × Value → Unit} {base : Nat} {spare : Nat → Bool} {held : Bool} (h : DataW.trod enc Tryz.prog W base spare held fuel 86 cs = some (.agg l, p)) (i : Nat) (hi : i < 11) (b : List UInt8) (hz : l[i]? = some (.lit (.string b))) : cs[i]? = some (.string ⟨b.toArray⟩) := by
  obtain ⟨xs, m, _, hx, hlen, hxl, hel⟩ := DataW.trod_array Tryz.underlying86 h
  have hx1 : l = xs.map (·.1) := by have := (Prod.mk.inj hx).1; injection this
  have h1 := hel i hi
  rw [cString] at h1
  have hxi : ∃ y, xs[i]? = some y := ⟨_, List.getElem?_eq_getElem (by omega)⟩
  obtain ⟨y, hy⟩ := hxi
  rw [hy] at h1
  have hyd : y.1 = .lit (.string b) := by
    rw [hx1, List.getElem?_map, hy] at hz
    simpa using hz
  obtain ⟨s, hc, hd, _⟩ := DataW.trod_string Tryz.underlying9 h1
  have hss : s.data.toList = b := by
    rw [hd] at hyd
    simpa using hyd
  rw [mk_bytes hss] at hc
  have e := congrArg (fun l => l[0]?) hc
  simpa [List.getElem?_drop, List.getElem?_take] using e
set_option maxRecDepth 100000 in
theorem strsUn {W : World} {cs : List Value} {fuel : Nat} {p : List MemPlace} {l : List (DataW Unit)} {enc : TypeId × Value → Unit} {base : Nat} {spare : Nat → Bool} {held : Bool} (h : DataW.trod enc Tryz.prog W base spare held fuel 179 cs = some (.agg l, p)) (i : Nat) (hi : i < 4) (b : List UInt8) (hz : l[i]? = some (.lit (.string b))) : cs[i]? = some (.string ⟨b.toArray⟩) := by
  obtain ⟨xs, m, _, hx, hlen, hxl, hel⟩ := DataW.trod_array Tryz.underlying179 h
  have hx1 : l = xs.map (·.1) := by have := (Prod.mk.inj hx).1; injection this
  have h1 := hel i hi
  rw [cString] at h1
  have hxi : ∃ y, xs[i]? = some y := ⟨_, List.getElem?_eq_getElem (by omega)⟩
  obtain ⟨y, hy⟩ := hxi
  rw [hy] at h1
  have hyd : y.1 = .lit (.string b) := by
    rw [hx1, List.getElem?_map, hy] at hz
    simpa using hz
  obtain ⟨s, hc, hd, _⟩ := DataW.trod_string Tryz.underlying9 h1
  have hss : s.data.toList = b := by
    rw [hd] at hyd
    simpa using hyd
  rw [mk_bytes hss] at hc
  have e := congrArg (fun l => l[0]?) hc
  simpa [List.getElem?_drop, List.getElem?_take] using e
set_option maxRecDepth 100000 in
theorem pairBin {W : World} {cs : List Value} {fuel : Nat} {p : List MemPlace} {l : List (DataW Unit)} {enc : TypeId × Value → Unit} {base : Nat} {spare : Nat → Bool} {held : Bool} (h : DataW.trod enc Tryz.prog W base spare held fuel 182 cs = some (.agg l, p)) (i : Nat) (hi : i < 19) (b : List UInt8) (z : Int) (hz : l[i]? = some (.agg [.lit (.string b), .lit (.int .i64 z)])) : cs[i * 2]? = some (.string ⟨b.toArray⟩) ∧ cs[i * 2 + 1]? = some (.int .i64 z) := by
  obtain ⟨xs, m, _, hx, hlen, hxl, hel⟩ := DataW.trod_array Tryz.underlying182 h
  have hx1 : l = xs.map (·.1) := by have := (Prod.mk.inj hx).1; injection this
  have h1 := hel i hi
  rw [cRanked] at h1
  have hxi : ∃ y, xs[i]? = some y := ⟨_, List.getElem?_eq_getElem (by omega)⟩
  obtain ⟨y, hy⟩ := hxi
  rw [hy] at h1
  obtain ⟨ys, k, _, hys, _, hyl, hf⟩ := DataW.trod_struct Tryz.underlying181 h1
  have hyd : y.1 = .agg [.lit (.string b), .lit (.int .i64 z)] := by
    rw [hx1, List.getElem?_map, hy] at hz
    simpa using hz
  rw [hys] at hyd
  have hyl2 : ys.length = 2 := hyl
  clear hyl
  match ys, hyl2 with
  | [y0, y1], _ =>
    have h0 : DataW.trod enc Tryz.prog W base spare held k 9 ((((cs.drop (i * 2)).take 2).drop 0).take (Tryz.prog.cellsOf 9)) = some y0 := hf 0 _ rfl
    have h2 : DataW.trod enc Tryz.prog W base spare held k 3 ((((cs.drop (i * 2)).take 2).drop 1).take (Tryz.prog.cellsOf 3)) = some y1 := hf 1 _ rfl
    rw [cString] at h0
    rw [cInt] at h2
    simp only [List.map_cons, List.map_nil, DataW.agg.injEq, List.cons.injEq, and_true] at hyd
    obtain ⟨s, hc0, hd0, _⟩ := DataW.trod_string Tryz.underlying9 h0
    obtain ⟨z', hc, hd, _⟩ := DataW.trod_int Tryz.underlying3 h2
    have hzz : z' = z := by
      have e := hyd.2
      rw [hd] at e
      simpa using e
    have hss : s.data.toList = b := by
      have e := hyd.1
      rw [hd0] at e
      simpa using e
    subst hzz
    rw [mk_bytes hss] at hc0
    have e0 := congrArg (fun l => l[0]?) hc0
    have e := congrArg (fun l => l[0]?) hc
    refine ⟨?_, ?_⟩
    · simpa [List.getElem?_drop, List.getElem?_take] using e0
    · simpa [List.getElem?_drop, List.getElem?_take] using e
set_option maxRecDepth 100000 in
theorem pairBuilt {W : World} {cs : List Value} {fuel : Nat} {p : List MemPlace} {l : List (DataW Unit)} {enc : TypeId × Value → Unit} {base : Nat} {spare : Nat → Bool} {held : Bool} (h : DataW.trod enc Tryz.prog W base spare held fuel 137 cs = some (.agg l, p)) (i : Nat) (hi : i < 13) (b : List UInt8) (z : Int) (hz : l[i]? = some (.agg [.lit (.string b), .lit (.int .i64 z)])) : cs[i * 2]? = some (.string ⟨b.toArray⟩) ∧ cs[i * 2 + 1]? = some (.int .i64 z) := by
  obtain ⟨xs, m, _, hx, hlen, hxl, hel⟩ := DataW.trod_array Tryz.underlying137 h
  have hx1 : l = xs.map (·.1) := by have := (Prod.mk.inj hx).1; injection this
  have h1 := hel i hi
  rw [cCalled] at h1
  have hxi : ∃ y, xs[i]? = some y := ⟨_, List.getElem?_eq_getElem (by omega)⟩
  obtain ⟨y, hy⟩ := hxi
  rw [hy] at h1
  obtain ⟨ys, k, _, hys, _, hyl, hf⟩ := DataW.trod_struct Tryz.underlying136 h1
  have hyd : y.1 = .agg [.lit (.string b), .lit (.int .i64 z)] := by
    rw [hx1, List.getElem?_map, hy] at hz
    simpa using hz
  rw [hys] at hyd
  have hyl2 : ys.length = 2 := hyl
  clear hyl
  match ys, hyl2 with
  | [y0, y1], _ =>
    have h0 : DataW.trod enc Tryz.prog W base spare held k 9 ((((cs.drop (i * 2)).take 2).drop 0).take (Tryz.prog.cellsOf 9)) = some y0 := hf 0 _ rfl
    have h2 : DataW.trod enc Tryz.prog W base spare held k 3 ((((cs.drop (i * 2)).take 2).drop 1).take (Tryz.prog.cellsOf 3)) = some y1 := hf 1 _ rfl
    rw [cString] at h0
    rw [cInt] at h2
    simp only [List.map_cons, List.map_nil, DataW.agg.injEq, List.cons.injEq, and_true] at hyd
    obtain ⟨s, hc0, hd0, _⟩ := DataW.trod_string Tryz.underlying9 h0
    obtain ⟨z', hc, hd, _⟩ := DataW.trod_int Tryz.underlying3 h2
    have hzz : z' = z := by
      have e := hyd.2
      rw [hd] at e
      simpa using e
    have hss : s.data.toList = b := by
      have e := hyd.1
      rw [hd0] at e
      simpa using e
    subst hzz
    rw [mk_bytes hss] at hc0
    have e0 := congrArg (fun l => l[0]?) hc0
    have e := congrArg (fun l => l[0]?) hc
    refine ⟨?_, ?_⟩
    · simpa [List.getElem?_drop, List.getElem?_take] using e0
    · simpa [List.getElem?_drop, List.getElem?_take] using e
set_option maxRecDepth 100000 in
theorem tabType {W : World} {r : List (String × DataW Unit)} (h : laidMet Tryz.prog (("loop.example/kilnmill/impl.typeWords", Rows.laid_loop_example_kilnmill_impl_typeWords) :: r) W) : (∀ t : Nat, 0 ≤ t → t ≤ 10 → W.cell? ⟨0, t, none⟩ = some (.string (Mill.typeWord (t : Int)))) ∧ 0 < W.heap.size := by
  obtain ⟨ps, ⟨g', t', cs, fuel, p, q, hg', ht', hvar, hd, _, _⟩, _⟩ := h
  obtain rfl := Option.some.inj (gType.symm.trans hg')
  obtain rfl := Option.some.inj (gTypeT.symm.trans ht')
  have hcell : ∀ i (_ : i < 11) (b : List UInt8), _ → W.cell? ⟨0, i, none⟩ = some (.string ⟨b.toArray⟩) := fun i hi b hz => by
    rw [World.var?_cell gType hvar i]
    have e := strsType hd i hi b hz
    simpa using e
  refine ⟨fun t h1 h2 => ?_, tlt_cell (hcell 1 (by omega) _ rfl)⟩
  have h3 : t = 0 ∨ t = 1 ∨ t = 2 ∨ t = 3 ∨ t = 4 ∨ t = 5 ∨ t = 6 ∨ t = 7 ∨ t = 8 ∨ t = 9 ∨ t = 10 := by omega
  rcases h3 with rfl | rfl | rfl | rfl | rfl | rfl | rfl | rfl | rfl | rfl | rfl
  · exact hcell 0 (by omega) _ rfl
  · exact hcell 1 (by omega) _ rfl
  · exact hcell 2 (by omega) _ rfl
  · exact hcell 3 (by omega) _ rfl
  · exact hcell 4 (by omega) _ rfl
  · exact hcell 5 (by omega) _ rfl
  · exact hcell 6 (by omega) _ rfl
  · exact hcell 7 (by omega) _ rfl
  · exact hcell 8 (by omega) _ rfl
  · exact hcell 9 (by omega) _ rfl
  · exact hcell 10 (by omega) _ rfl
set_option maxRecDepth 100000 in
theorem tabUn {W : World} {r : List (String × DataW Unit)} (h : laidMet Tryz.prog (("loop.example/kilnmill/impl.unMarks", Rows.laid_loop_example_kilnmill_impl_unMarks) :: r) W) : (∀ t : Nat, 1 ≤ t → t ≤ 3 → W.cell? ⟨3, t, none⟩ = some (.string (Pr.unMark (t : Int)))) ∧ 3 < W.heap.size := by
  obtain ⟨ps, ⟨g', t', cs, fuel, p, q, hg', ht', hvar, hd, _, _⟩, _⟩ := h
  obtain rfl := Option.some.inj (gUn.symm.trans hg')
  obtain rfl := Option.some.inj (gUnT.symm.trans ht')
  have hcell : ∀ i (_ : i < 4) (b : List UInt8), _ → W.cell? ⟨3, i, none⟩ = some (.string ⟨b.toArray⟩) := fun i hi b hz => by
    rw [World.var?_cell gUn hvar i]
    have e := strsUn hd i hi b hz
    simpa using e
  refine ⟨fun t h1 h2 => ?_, tlt_cell (hcell 1 (by omega) _ rfl)⟩
  have h3 : t = 1 ∨ t = 2 ∨ t = 3 := by omega
  rcases h3 with rfl | rfl | rfl
  · exact hcell 1 (by omega) _ rfl
  · exact hcell 2 (by omega) _ rfl
  · exact hcell 3 (by omega) _ rfl
set_option maxRecDepth 100000 in
theorem tabBin {W : World} {r : List (String × DataW Unit)} (h : laidMet Tryz.prog (("loop.example/kilnmill/impl.binMarks", Rows.laid_loop_example_kilnmill_impl_binMarks) :: r) W) : (∀ t : Nat, 1 ≤ t → t ≤ 18 → W.cell? ⟨4, t * 2, none⟩ = some (.string (Pr.binMark (t : Int)))) ∧ 4 < W.heap.size := by
  obtain ⟨ps, ⟨g', t', cs, fuel, p, q, hg', ht', hvar, hd, _, _⟩, _⟩ := h
  obtain rfl := Option.some.inj (gBin.symm.trans hg')
  obtain rfl := Option.some.inj (gBinT.symm.trans ht')
  have hcell : ∀ i (_ : i < 19) (b : List UInt8) (z : Int), _ → W.cell? ⟨4, i * 2, none⟩ = some (.string ⟨b.toArray⟩) ∧ W.cell? ⟨4, i * 2 + 1, none⟩ = some (.int .i64 z) := fun i hi b z hz => by
    rw [World.var?_cell gBin hvar (i * 2), World.var?_cell gBin hvar (i * 2 + 1)]
    have e := pairBin hd i hi b z hz
    simpa using e
  refine ⟨fun t h1 h2 => ?_, tlt_cell (hcell 1 (by omega) _ _ rfl).1⟩
  have h3 : t = 1 ∨ t = 2 ∨ t = 3 ∨ t = 4 ∨ t = 5 ∨ t = 6 ∨ t = 7 ∨ t = 8 ∨ t = 9 ∨ t = 10 ∨ t = 11 ∨ t = 12 ∨ t = 13 ∨ t = 14 ∨ t = 15 ∨ t = 16 ∨ t = 17 ∨ t = 18 := by omega
  rcases h3 with rfl | rfl | rfl | rfl | rfl | rfl | rfl | rfl | rfl | rfl | rfl | rfl | rfl | rfl | rfl | rfl | rfl | rfl
  · exact (hcell 1 (by omega) _ _ rfl).1
  · exact (hcell 2 (by omega) _ _ rfl).1
  · exact (hcell 3 (by omega) _ _ rfl).1
  · exact (hcell 4 (by omega) _ _ rfl).1
  · exact (hcell 5 (by omega) _ _ rfl).1
  · exact (hcell 6 (by omega) _ _ rfl).1
  · exact (hcell 7 (by omega) _ _ rfl).1
  · exact (hcell 8 (by omega) _ _ rfl).1
  · exact (hcell 9 (by omega) _ _ rfl).1
  · exact (hcell 10 (by omega) _ _ rfl).1
  · exact (hcell 11 (by omega) _ _ rfl).1
  · exact (hcell 12 (by omega) _ _ rfl).1
  · exact (hcell 13 (by omega) _ _ rfl).1
  · exact (hcell 14 (by omega) _ _ rfl).1
  · exact (hcell 15 (by omega) _ _ rfl).1
  · exact (hcell 16 (by omega) _ _ rfl).1
  · exact (hcell 17 (by omega) _ _ rfl).1
  · exact (hcell 18 (by omega) _ _ rfl).1
set_option maxRecDepth 100000 in
theorem tabBuilt {W : World} {r : List (String × DataW Unit)} (h : laidMet Tryz.prog (("loop.example/kilnmill/impl.builtWords", Rows.laid_loop_example_kilnmill_impl_builtWords) :: r) W) : (∀ t : Nat, 1 ≤ t → t ≤ 12 → W.cell? ⟨2, t * 2, none⟩ = some (.string (Mill.builtWord (t : Int)))) ∧ 2 < W.heap.size ∧ Mill.Builts W := by
  obtain ⟨ps, ⟨g', t', cs, fuel, p, q, hg', ht', hvar, hd, _, _⟩, _⟩ := h
  obtain rfl := Option.some.inj (gBuilt.symm.trans hg')
  obtain rfl := Option.some.inj (gBuiltT.symm.trans ht')
  have hcell : ∀ i (_ : i < 13) (b : List UInt8) (z : Int), _ → W.cell? ⟨2, i * 2, none⟩ = some (.string ⟨b.toArray⟩) ∧ W.cell? ⟨2, i * 2 + 1, none⟩ = some (.int .i64 z) := fun i hi b z hz => by
    rw [World.var?_cell gBuilt hvar (i * 2), World.var?_cell gBuilt hvar (i * 2 + 1)]
    have e := pairBuilt hd i hi b z hz
    simpa using e
  refine ⟨fun t h1 h2 => ?_, tlt_cell (hcell 1 (by omega) _ _ rfl).1, fun m h1 h2 => ?_, tlt_cell (hcell 1 (by omega) _ _ rfl).1⟩
  · have h3 : t = 1 ∨ t = 2 ∨ t = 3 ∨ t = 4 ∨ t = 5 ∨ t = 6 ∨ t = 7 ∨ t = 8 ∨ t = 9 ∨ t = 10 ∨ t = 11 ∨ t = 12 := by omega
    rcases h3 with rfl | rfl | rfl | rfl | rfl | rfl | rfl | rfl | rfl | rfl | rfl | rfl
    · exact (hcell 1 (by omega) _ _ rfl).1
    · exact (hcell 2 (by omega) _ _ rfl).1
    · exact (hcell 3 (by omega) _ _ rfl).1
    · exact (hcell 4 (by omega) _ _ rfl).1
    · exact (hcell 5 (by omega) _ _ rfl).1
    · exact (hcell 6 (by omega) _ _ rfl).1
    · exact (hcell 7 (by omega) _ _ rfl).1
    · exact (hcell 8 (by omega) _ _ rfl).1
    · exact (hcell 9 (by omega) _ _ rfl).1
    · exact (hcell 10 (by omega) _ _ rfl).1
    · exact (hcell 11 (by omega) _ _ rfl).1
    · exact (hcell 12 (by omega) _ _ rfl).1
  · have h3 : m = 1 ∨ m = 2 ∨ m = 3 ∨ m = 4 ∨ m = 5 ∨ m = 6 ∨ m = 7 ∨ m = 8 ∨ m = 9 ∨ m = 10 ∨ m = 11 ∨ m = 12 := by omega
    rcases h3 with rfl | rfl | rfl | rfl | rfl | rfl | rfl | rfl | rfl | rfl | rfl | rfl
    · exact (hcell 1 (by omega) _ _ rfl).2
    · exact (hcell 2 (by omega) _ _ rfl).2
    · exact (hcell 3 (by omega) _ _ rfl).2
    · exact (hcell 4 (by omega) _ _ rfl).2
    · exact (hcell 5 (by omega) _ _ rfl).2
    · exact (hcell 6 (by omega) _ _ rfl).2
    · exact (hcell 7 (by omega) _ _ rfl).2
    · exact (hcell 8 (by omega) _ _ rfl).2
    · exact (hcell 9 (by omega) _ _ rfl).2
    · exact (hcell 10 (by omega) _ _ rfl).2
    · exact (hcell 11 (by omega) _ _ rfl).2
    · exact (hcell 12 (by omega) _ _ rfl).2
theorem var_lt {W : World} {n : String} {g : Nat} {cs : Array Value} (hg : Tryz.prog.globalNamed n = some g) (h : W.var? Tryz.prog n = some cs) : g < W.heap.size := by
  unfold World.var? at h
  rw [hg] at h
  simp only [Option.bind_some] at h
  split at h
  · rename_i hb; exact (Array.getElem?_eq_some_iff.1 hb).1
  · cases h
theorem var_below {W W' : World} {n : String} {g : Nat} {cs : Array Value} (hg : Tryz.prog.globalNamed n = some g) (h : W.var? Tryz.prog n = some cs) (hb : Below W.heap.size W W') : W'.var? Tryz.prog n = some cs := by
  have hlt := var_lt hg h
  unfold World.var? at h ⊢
  rw [hg] at h ⊢
  simp only [Option.bind_some] at h ⊢
  rw [hb.block g hlt]
  exact h
theorem pow_below {W w' : World} (h : Lib.TabIs Tryz.prog W "internal/strconv.uint64pow10" .u64 Lib.pow10Tab) (hb : Below W.heap.size W w') : Lib.TabIs Tryz.prog w' "internal/strconv.uint64pow10" .u64 Lib.pow10Tab := var_below gPow h hb
theorem greats_of {W : World} {r : List (String × DataW Unit)} (h : laidMet Tryz.prog (("loop.example/kilnmill/impl.greatest", Rows.laid_loop_example_kilnmill_impl_greatest) :: r) W) : Mill.Greats W := by
  have ht : Lib.TabIs Tryz.prog W "loop.example/kilnmill/impl.greatest" .u64 [0, 0, 0, 255, 65535, 4294967295, 18446744073709551615, 127, 32767, 2147483647, 9223372036854775807] := Lib.tabIs_of_head gGreat gGreatT Tryz.underlying117 Tryz.underlying95 cU64 cGreat h
  refine ⟨fun t h1 h2 => ?_, tlt_cell (ht.cell gGreat 3 (by decide))⟩
  have hc := ht.cell gGreat t (by simp; omega)
  rw [hc]
  have : t = 3 ∨ t = 4 ∨ t = 5 ∨ t = 6 ∨ t = 7 ∨ t = 8 ∨ t = 9 ∨ t = 10 := by omega
  rcases this with rfl | rfl | rfl | rfl | rfl | rfl | rfl | rfl <;> rfl
structure PG (W : World) : Prop where
  great : Mill.Greats W
  built : Mill.Builts W
  tabs : Prj.Tabs W.heap.size W
  pow : ∀ w1, Below W.heap.size W w1 → Lib.TabIs Tryz.prog w1 "internal/strconv.uint64pow10" .u64 Lib.pow10Tab
theorem pgOf {W : World} (h : laidMetH Tryz.prog Rows.fnExactPrintRow.laid W) : PG W := by
  have h0 : laidMet Tryz.prog Rows.fnExactPrintRow.laid W := h
  have h2 := laidMet.tail (laidMet.tail h0)
  have hp : Lib.TabIs Tryz.prog W "internal/strconv.uint64pow10" .u64 Lib.pow10Tab := Lib.tabIs_of_head (zs := Lib.pow10Tab) gPow gPowT Tryz.underlying199 Tryz.underlying95 cU64 cPow h2
  have h3 := laidMet.tail h2
  have h4 := laidMet.tail h3
  have h5 := laidMet.tail h4
  have h6 := laidMet.tail h5
  have h7 := laidMet.tail h6
  have t4 := tabType h4
  have t5 := tabUn h5
  have t6 := tabBin h6
  have t7 := tabBuilt h7
  exact ⟨greats_of h3, t7.2.2, ⟨fun t ht => t4.1 t (by omega) ht, t5.1, t6.1, t7.1, t4.2, t5.2, t6.2, t7.2.1⟩, fun w1 h1 => pow_below hp h1⟩
end Prj
end Go.Proofs.YtkaoeoeloihigaaGreatDoor

namespace Go.Proofs.YtkaoeoeloihigaaGreatDoor
namespace Prj
open Go.ChangeShapes Go.WideShapes Go.ChangeAt Go.RowKit Go.Lib

theorem own : ownKnob Tryz.prog.godebug = none := by kernel_rfl
theorem laidOut : laidOutB Tryz.prog = true := by kernel_rfl
theorem vars_len {H : Type} {enc : TypeId × Value → H} {w : World} {spare : Nat → Bool} : ∀ (ns : List String) (gs : List (DataW H)) (ps : List MemPlace), DataW.TrodVars enc Tryz.prog w spare ns gs ps → gs.length = ns.length
  | [], [], _, _ => rfl
  | [], _ :: _, _, h => by simp [DataW.TrodVars] at h
  | _ :: _, [], _, h => by simp [DataW.TrodVars] at h
  | n :: ns, d :: ds, _, h => by
    obtain ⟨g, t, cs, fuel, p, q, _, _, _, _, hs, _⟩ := h
    simp [vars_len ns ds q hs]
theorem five {α : Type} {l : List α} (h : l.length = 5) : ∃ a b c d e, l = [a, b, c, d, e] := by
  match l, h with
  | [a, b, c, d, e], _ => exact ⟨a, b, c, d, e, rfl⟩
set_option maxRecDepth 1000000 in
theorem pLaid (os : Os) (args : Array Value) : laidMet Tryz.prog Rows.fnExactPrintRow.laid (((World.laidAll Tryz.prog os Rows.fnExactPrintRow.laid)).forCall (fun _ _ => 0) ⟨#[], args, []⟩).memory :=
  laidMet_laidAll args (by kernel_rfl) (by kernel_rfl)
set_option maxRecDepth 1000000 in
theorem pWitness (os : Os) {H : Type} (enc : TypeId × Value → H) :
    (OpenSpec.ofChange Rows.fnExactPrintSpec).preRow enc Tryz.prog Tryz.f3 Rows.fnExactPrintRow.domain false Rows.fnExactPrintRow.laid (((World.laidAll Tryz.prog os Rows.fnExactPrintRow.laid).forCall (fun _ _ => 0) ⟨#[], #[.agg #[.slice none 0 0]], []⟩).memory) #[.agg #[.slice none 0 0]] := by
  have hw : (DataW.whole enc Tryz.prog (((World.laidAll Tryz.prog os Rows.fnExactPrintRow.laid).forCall (fun _ _ => 0) ⟨#[], #[.agg #[.slice none 0 0]], []⟩).memory) Tryz.f3.params.toList Rows.fnExactPrintSpec.vars false ((#[.agg #[.slice none 0 0]] : Array Value).toList) 8).map (fun x => (x.1, x.2.1)) =
      some ([.agg [.nil]], [Rows.laid_loop_example_kilnmill_impl_greatest, Rows.laid_loop_example_kilnmill_impl_builtWords, Rows.laid_loop_example_kilnmill_impl_typeWords, Rows.laid_loop_example_kilnmill_impl_unMarks, Rows.laid_loop_example_kilnmill_impl_binMarks]) := by kernel_rfl
  obtain ⟨⟨x1, x2, x3⟩, hx, hx1⟩ := Option.map_eq_some_iff.1 hw
  simp only [Prod.mk.injEq] at hx1
  obtain ⟨rfl, rfl⟩ := hx1
  exact OpenSpec.preRow_of_cond 8 hx (by kernel_rfl) (fun k hk => by cases hk) (by kernel_rfl) (pLaid os _)
set_option maxRecDepth 1000000 in
theorem ptree_open {H : Type} {enc : TypeId × Value → H} {w : World} {base b0 : Nat} {r : Reach} {spare : Nat → Bool} {held : Bool} {v : Value} {d : DataW H} {p : List MemPlace} (hv : Value.okWide Tryz.prog w r b0 24 v)
    (h : DataW.Trod enc Tryz.prog w base spare held 24 v d p) : ∃ (ns : List Mill.Nd) (a : Option Addr) (cap : Nat), v = .agg #[.slice a ns.length cap] ∧ Mill.NodesOff w (.slice a ns.length cap) ns ∧ ns.length ≤ 9223372036854775807 ∧ ∀ d ∈ ns, d.text.size ≤ 9223372036854775807 := by
  obtain ⟨cs, rfl, hsz⟩ := okWide_struct Tryz.underlying24 hv
  rw [Mill.cellsLTree] at hsz
  obtain ⟨fuel, hf⟩ := h
  obtain ⟨xs, n, _, _, _, hxl, hfld⟩ := DataW.trod_struct Tryz.underlying24 hf
  have hxl1 : xs.length = 1 := hxl
  obtain ⟨l⟩ := cs
  match l, hsz, xs, hxl1 with
  | [c], _, [y], _ =>
    have f0 : DataW.trod enc Tryz.prog w base spare held n 22 (((Value.agg #[c]).cells.toList.drop 0).take (Tryz.prog.cellsOf 22)) = some y := hfld 0 _ rfl
    rw [Mill.cellsLNodes] at f0
    have e0 : DataW.trod enc Tryz.prog w base spare held n 22 [c] = some y := f0
    obtain ⟨ns, hN, h1, h2⟩   := Mill.nodes_open e0
    obtain ⟨a, cap, rfl, _⟩ := id hN
    exact ⟨ns, a, cap, rfl, hN, h1, h2⟩

set_option maxRecDepth 100000 in
set_option maxHeartbeats 2000000 in
theorem pLifted (os : Os) (started : os.Started) (H : Type) (enc : TypeId × Value → H) (F : Stop.Interp) :
    ReturnsInHanded {} Tryz.checked os 3 .any ((OpenSpec.ofChange Rows.fnExactPrintSpec).preRow enc Tryz.prog Tryz.f3 Rows.fnExactPrintRow.domain false Rows.fnExactPrintRow.laid) (((OpenSpec.ofChange Rows.fnExactPrintSpec).at F).post enc Tryz.prog Tryz.f3 false true false false) := by
  refine returnsInHanded_of_row (C := Tryz.checked) (s := OpenSpec.ofChange Rows.fnExactPrintSpec) own started (by kernel_rfl) Tryz.func3
    (witness_row_atRef (enc := enc) (C := Tryz.checked) false (World.laidAll Tryz.prog os Rows.fnExactPrintRow.laid) #[.agg #[.slice none 0 0]] (World.laidAll_os _ _ _) (by kernel_rfl) (by kernel_rfl) (by kernel_rfl) (pWitness os enc)) ?_
  intro W base args ds gs before hval0 hW _ _ _ hL _ _
  have hval : ∀ (j : Nat) t v, Tryz.f3.params[j]? = some t → args[j]? = some v → Value.okWide Tryz.prog W .any base t v := hval0
  have hW' := hW
  obtain ⟨p, q, hA0, hV0, rfl, _, _⟩ := hW
  have hA : DataW.TrodAll enc Tryz.prog W 0 (fun _ => true) true Tryz.f3.params.toList args.toList ds p := hA0
  have hV : DataW.TrodVars enc Tryz.prog W (fun _ => true) ["loop.example/kilnmill/impl.greatest", "loop.example/kilnmill/impl.builtWords", "loop.example/kilnmill/impl.typeWords", "loop.example/kilnmill/impl.unMarks", "loop.example/kilnmill/impl.binMarks"] gs q := hV0
  rw [Tryz.params3] at hA hval
  have hlt := hA.lt
  obtain ⟨v0, d0, rfl, rfl, h0⟩ := trodAll_one hA
  obtain ⟨ns, a, cap, rfl, hN, hn, hx⟩ := ptree_open (hval 0 24 v0 rfl rfl) h0
  have hG := pgOf hL
  obtain ⟨g1, g2, g3, g4, g5, hgs⟩ := five (vars_len _ _ _ hV)
  clear hA0 hV0 hval0
  refine (Prj.plaw_any ns a cap W hN hn hx hG.great hG.built hG.tabs hG.pow).mono ?_
  rintro e W' ⟨rfl, bel⟩
  have e1 : ((OpenSpec.ofChange Rows.fnExactPrintSpec).at F).fn H ([d0] ++ gs) = { results := [.lit (.bool true)], args := [d0], vars := gs } := by rw [hgs]; rfl
  refine ⟨_, rfl, _, _, _, [], p, q, hW', ?_, ?_, ?_, bel.frame _, fun h => by cases h⟩
  · rw [e1]; exact trodAll_mk1 (shut_bool Tryz.underlying4 _)
  · rw [e1]; exact trodAll_mk1 (Below.trod laidOut (by kernel_rfl) (of_decide_eq_true (by kernel_rfl)) h0 bel hlt)
  · rw [e1]; exact Below.trodVars laidOut bel (by kernel_rfl) hV

theorem pSaid : Rows.FnExactPrintSaid :=
  OpenClaim.holds_of_cond 3 Tryz.f3 rfl rfl rfl rfl rfl rfl rfl ⟨rfl, rfl, rfl, rfl, rfl⟩ rfl rfl rfl rfl rfl (by kernel_rfl) Tryz.func3 (by kernel_rfl)
    (of_decide_eq_true (by kernel_rfl)) (by unfold Func.isWrapper; first | (rw [if_pos (by decide +kernel)]; kernel_rfl) | (rw [if_neg (by decide +kernel)]; exact ⟨rfl, rfl⟩))
    (fun os started H enc _ F0 => by rw [OpenClaim.pre_eq_preRow]; exact pLifted os started H enc F0)

theorem pPlain (f : FuncId) (fn : Func) (hf : Tryz.pinned.checked.prog.funcNamed "loop.example/kilnmill/laws.FnExactPrint" = some f) (hfn : Tryz.pinned.checked.prog.funcs[f]? = some fn) :
    true = Tryz.pinned.checked.prog.looks [] ∧ ∀ (j : Nat) t, fn.params[j]? = some t → Tryz.pinned.checked.prog.wantsStandIn t = false := by
  obtain rfl : f = 3 := Option.some.inj ((show Tryz.prog.funcNamed "loop.example/kilnmill/laws.FnExactPrint" = some 3 by kernel_rfl).symm.trans hf) |>.symm
  obtain rfl : fn = Tryz.f3 := (Option.some.inj (Tryz.func3.symm.trans hfn)).symm
  refine ⟨by kernel_rfl, fun j t ht => ?_⟩
  rw [Tryz.params3] at ht
  obtain rfl : t = 24 := by simpa using Array.mem_of_getElem? ht
  exact (show Tryz.prog.wantsStandIn 24 = false by kernel_rfl)
end Prj

theorem fnExactPrint_holds : Rows.FnExactPrintCardSaid :=
  Claim7.holds_tied_plain_at .later [] _ _ _ _ Prj.pSaid (fun _ h => by cases h) (by kernel_rfl) (fun _ h => by cases h) fnExactPrint_row_tie rfl ⟨rfl, rfl⟩ (by kernel_rfl) rfl Prj.pPlain (by kernel_rfl)

end Go.Proofs.YtkaoeoeloihigaaGreatDoor
