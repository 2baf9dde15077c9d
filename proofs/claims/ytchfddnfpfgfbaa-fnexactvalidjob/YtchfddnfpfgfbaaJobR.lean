import Derived.Test.YtchfddnfpfgfbaaJobE
import Derived.Test.YtchfddnfpfgfbaaRows
import Derived.WalkKit
import Derived.ProofKit
import Derived.OpenShut
import Derived.OpenVars
import Derived.Lib.LaidIn
import Derived.Lib.LaidTab
import Derived.Deep.DeepHandedRow
import Derived.Deep.DeepWitnessRowRef
import Derived.SizedLaws
import Derived.ChangeVars
import Derived.Carry
import Derived.Deep.Slices
import Derived.ChangeArms
namespace Go.Proofs.Ytchfddnfpfgfbaa
namespace Jb
open Go.ChangeShapes Go.WideShapes Go.ChangeAt Go.RowKit Go.Lib Go.Deep

theorem cellsLV : Try.prog.cellsOf 24 = 2 := by kernel_rfl
theorem cellsStrings : Try.prog.cellsOf 22 = 1 := by kernel_rfl
theorem cellsString : Try.prog.cellsOf 9 = 1 := by kernel_rfl
theorem lt_cell {W : World} {b o : Nat} {v : Value} (h : W.cell? ⟨b, o, none⟩ = some v) : b < W.heap.size := by
  unfold World.cell? at h
  split at h
  · rename_i hb; exact (Array.getElem?_eq_some_iff.1 hb).1
  · cases h
theorem strings_open {H : Type} {enc : TypeId × Value → H} {w : World} {base : Nat} {spare : Nat → Bool} {held : Bool} {fuel : Nat} {v : Value} {x : DataW H × List MemPlace}
    (h : DataW.trod enc Try.prog w base spare held fuel 22 [v] = some x) : ∃ ns : List ByteArray, Jb.Off w v ns ∧ ns.length ≤ 9223372036854775807 ∧ ∀ d ∈ ns, d.size ≤ 9223372036854775807 := by
  rcases open_slice Try.underlying22 h with ⟨hv, _⟩ | ⟨a, len, cap, m, n, D, Pl, hv, hb, hl, hm, hmm, _, hx⟩
  · cases hv
    exact ⟨[], ⟨none, 0, rfl, fun i hi => by simp at hi⟩, by simp, by simp⟩
  · cases hv
    have hlm : len ≤ m := by rw [hmm]; split <;> omega
    rw [cellsString] at hx
    obtain ⟨d, hd⟩ := choose_lt (α := ByteArray) (n := len) (p := fun i d => w.cells? base (a.add (i * 1)) 1 = some [.string d] ∧ d.size ≤ 9223372036854775807) (fun i hi => by
      obtain ⟨cs', h1, h2⟩ := hx i (by omega)
      obtain ⟨z, hz, _, hs⟩ := DataW.trod_string Try.underlying9 h2
      subst hz
      exact ⟨z, h1, by simpa [maxLen] using hs⟩)
    refine ⟨(List.range len).map d, ⟨some a, cap, by simp, fun i hi => ?_⟩, by simp [maxLen] at hm ⊢; omega, fun e he => ?_⟩
    · have hi' : i < len := by simpa using hi
      obtain ⟨h1, _⟩ := hd i hi'
      obtain ⟨_, _, hcell⟩ := World.cells?_some h1
      have hc0 : w.cell? ((a.add (i * 1)).add 0) = some (.string (d i)) := hcell 0 (by omega)
      obtain ⟨b, o, sp⟩ := a
      have hsp : sp = none := by
        obtain ⟨_, _, hcell0⟩ := World.cells?_some (hd 0 (by omega)).1
        have e0 : w.cell? ((Addr.add ⟨b, o, sp⟩ (0 * 1)).add 0) = some (.string (d 0)) := hcell0 0 (by omega)
        simp [Addr.add] at e0
        exact World.cell?_spot e0
      subst hsp
      have hadd : ∀ o k, (Addr.add ⟨b, o, none⟩ k) = ⟨b, o + k, none⟩ := fun o k => by unfold Addr.add; split <;> simp_all
      rw [hadd, hadd] at hc0
      refine ⟨b, o, rfl, lt_cell hc0, ?_⟩
      rw [Nat.mul_one, Nat.add_zero] at hc0
      rw [hc0]; simp
    · simp only [List.mem_map, List.mem_range] at he
      obtain ⟨i, hi, rfl⟩ := he
      exact (hd i hi).2
set_option maxRecDepth 100000 in
theorem value_open {H : Type} {enc : TypeId × Value → H} {w : World} {base b0 : Nat} {r : Reach} {spare : Nat → Bool} {held : Bool} {v : Value} {d : DataW H} {p : List MemPlace} (hv : Value.okWide Try.prog w r b0 24 v)
    (h : DataW.Trod enc Try.prog w base spare held 24 v d p) : ∃ (a : ByteArray) (s : Value) (ns : List ByteArray), v = .agg #[.string a, s] ∧ a.size ≤ 9223372036854775807 ∧ Jb.Off w s ns ∧ ns.length ≤ 9223372036854775807 ∧ ∀ d ∈ ns, d.size ≤ 9223372036854775807 := by
  obtain ⟨cs, rfl, hsz⟩ := okWide_struct Try.underlying24 hv
  rw [cellsLV] at hsz
  obtain ⟨fuel, hf⟩ := h
  obtain ⟨xs, m, _, _, _, hxl, hfld⟩ := DataW.trod_struct Try.underlying24 hf
  have hxl3 : xs.length = 2 := hxl
  obtain ⟨l⟩ := cs
  match l, hsz, xs, hxl3 with
  | [v0, v2], _, [y0, y2], _ =>
    have f0 : DataW.trod enc Try.prog w base spare held m 9 (((Value.agg #[v0, v2]).cells.toList.drop 0).take (Try.prog.cellsOf 9)) = some y0 := hfld 0 _ rfl
    rw [cellsString] at f0
    have e0 : DataW.trod enc Try.prog w base spare held m 9 [v0] = some y0 := f0
    have f2 : DataW.trod enc Try.prog w base spare held m 22 (((Value.agg #[v0, v2]).cells.toList.drop 1).take (Try.prog.cellsOf 22)) = some y2 := hfld 1 _ rfl
    rw [cellsStrings] at f2
    have e2 : DataW.trod enc Try.prog w base spare held m 22 [v2] = some y2 := f2
    obtain ⟨z0, h0, _, hs⟩ := DataW.trod_string Try.underlying9 e0
    obtain ⟨ns, hN, hn, hx⟩ := strings_open e2
    cases h0
    exact ⟨z0, v2, ns, rfl, by simpa [maxLen] using hs, hN, hn, hx⟩
theorem own : ownKnob Try.prog.godebug = none := by kernel_rfl
theorem laidOut : laidOutB Try.prog = true := by kernel_rfl
set_option maxRecDepth 1000000 in
theorem vvWitness (os : Os) {H : Type} (enc : TypeId × Value → H) :
    (OpenSpec.ofChange Rows.fnExactValidJobSpec).preRow enc Try.prog Try.f3 Rows.fnExactValidJobRow.domain false Rows.fnExactValidJobRow.laid (((World.holding Try.prog os ⟨#[], #[], []⟩).forCall (fun _ _ => 0) ⟨#[], #[.agg #[.string ⟨#[]⟩, .slice none 0 0]], []⟩).memory) #[.agg #[.string ⟨#[]⟩, .slice none 0 0]] := by
  have hw : (DataW.whole enc Try.prog (((World.holding Try.prog os ⟨#[], #[], []⟩).forCall (fun _ _ => 0) ⟨#[], #[.agg #[.string ⟨#[]⟩, .slice none 0 0]], []⟩).memory) Try.f3.params.toList Rows.fnExactValidJobSpec.vars false #[Value.agg #[.string ⟨#[]⟩, .slice none 0 0]].toList 8).map (fun x => (x.1, x.2.1)) =
      some ([.agg [.lit (.string []), .nil]], []) := by kernel_rfl
  obtain ⟨⟨x1, x2, x3⟩, hx, hx1⟩ := Option.map_eq_some_iff.1 hw
  simp only [Prod.mk.injEq] at hx1
  obtain ⟨rfl, rfl⟩ := hx1
  exact OpenSpec.preRow_of_cond 8 hx (by kernel_rfl) (fun k hk => by cases hk) (by kernel_rfl) ⟨[], rfl, List.nodup_nil, fun _ _ h => (by cases h)⟩

set_option maxRecDepth 100000 in
set_option maxHeartbeats 2000000 in
theorem vvLifted (os : Os) (started : os.Started) (H : Type) (enc : TypeId × Value → H) (F : Stop.Interp) :
    ReturnsInHanded {} Try.checked os 3 .any ((OpenSpec.ofChange Rows.fnExactValidJobSpec).preRow enc Try.prog Try.f3 Rows.fnExactValidJobRow.domain false Rows.fnExactValidJobRow.laid) (((OpenSpec.ofChange Rows.fnExactValidJobSpec).at F).post enc Try.prog Try.f3 false true false false) := by
  refine returnsInHanded_of_row (C := Try.checked) (s := OpenSpec.ofChange Rows.fnExactValidJobSpec) own started (by kernel_rfl) Try.func3
    (witness_row_atRef (enc := enc) (C := Try.checked) false (World.holding Try.prog os ⟨#[], #[], []⟩) #[.agg #[.string ⟨#[]⟩, .slice none 0 0]] rfl (by kernel_rfl) (by kernel_rfl) (by kernel_rfl) (vvWitness os enc)) ?_
  intro W base args ds gs before hval0 hW _ _ _ _ _ _
  have hval : ∀ (j : Nat) t v, Try.f3.params[j]? = some t → args[j]? = some v → Value.okWide Try.prog W .any base t v := hval0
  have hW' := hW
  obtain ⟨p, q, hA0, hV0, rfl, _, _⟩ := hW
  have hA : DataW.TrodAll enc Try.prog W 0 (fun _ => true) true Try.f3.params.toList args.toList ds p := hA0
  have hV : DataW.TrodVars enc Try.prog W (fun _ => true) [] gs q := hV0
  rw [Try.params3] at hA hval
  have hlt := hA.lt
  obtain ⟨v0, d0, rfl, rfl, h0⟩ := trodAll_one hA
  obtain ⟨a, s, ns, rfl, ha, hN, hn, hx⟩ := value_open (hval 0 24 v0 rfl rfl) h0
  have hgs := trodVars_none hV
  clear hA0 hV0 hval0
  refine (Jb.law_any a ns s ha hn hx W hN).mono ?_
  rintro e W' ⟨rfl, bel⟩
  have e1 : ((OpenSpec.ofChange Rows.fnExactValidJobSpec).at F).fn H ([d0] ++ gs) = { results := [.lit (.bool true)], args := [d0], vars := gs } := by rw [hgs.1]; rfl
  refine ⟨_, rfl, _, _, _, [], p, q, hW', ?_, ?_, ?_, bel.frame _, fun h => by cases h⟩
  · rw [e1]; exact trodAll_mk1 (shut_bool Try.underlying4 _)
  · rw [e1]; exact trodAll_mk1 (Below.trod laidOut (by kernel_rfl) (of_decide_eq_true (by kernel_rfl)) h0 bel hlt)
  · rw [e1]; exact Below.trodVars laidOut bel (by kernel_rfl) hV
end Jb

theorem fnExactValidJob_holds : Rows.FnExactValidJobSaid :=
  OpenClaim.holds_of_cond 3 Try.f3 rfl rfl rfl rfl rfl rfl rfl ⟨rfl, rfl, rfl, rfl, rfl⟩ rfl rfl rfl rfl rfl (by kernel_rfl) Try.func3 (by kernel_rfl)
    (of_decide_eq_true (by kernel_rfl)) (by unfold Func.isWrapper; first | (rw [if_pos (by decide +kernel)]; kernel_rfl) | (rw [if_neg (by decide +kernel)]; exact ⟨rfl, rfl⟩))
    (fun os started H enc _ F0 => by rw [OpenClaim.pre_eq_preRow]; exact Jb.vvLifted os started H enc F0)
end Go.Proofs.Ytchfddnfpfgfbaa
