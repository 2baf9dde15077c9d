import Derived.Test.YtkijfehdgiiejaaDoorBitL
import Derived.Test.YtkijfehdgiiejaaDoorRows
import Derived.Test.YtkijfehdgiiejaaDoorCards
import Derived.Test.YtkijfehdgiiejaaDoorTie
import Derived.Stop.LaidErr
import Derived.Lay
import Derived.SevenTiedAt
import Derived.WalkKit
import Derived.ProofKit
import Derived.OpenShut
import Derived.OpenVars
import Derived.Lib.LaidIn
import Derived.Lib.LaidTab
import Derived.Deep.DeepHandedRow
import Derived.Deep.DeepWitnessRowRef
import Derived.SizedLaws
import Derived.ChangeVars
import Derived.ChangeSlices
import Derived.Carry
import Derived.Deep.Slices
import Derived.ChangeArms
namespace Go.Proofs.YtkijfehdgiiejaaDoor
namespace Val
open Go.ChangeShapes Go.WideShapes Go.ChangeAt Go.RowKit Go.Lib Go.Deep

theorem own : ownKnob Tryd.prog.godebug = none := by kernel_rfl
theorem laidOut : laidOutB Tryd.prog = true := by kernel_rfl
theorem cellsU8 : Tryd.prog.cellsOf 5 = 1 := by kernel_rfl
theorem lt_cell {W : World} {b o : Nat} {v : Value} (h : W.cell? ⟨b, o, none⟩ = some v) : b < W.heap.size := by
  unfold World.cell? at h
  split at h
  · rename_i hb; exact (Array.getElem?_eq_some_iff.1 hb).1
  · cases h
theorem wf8 {n : Int} (h : (Lit.int .u8 n).wf = true) : 0 ≤ n ∧ n ≤ 255 := by
  have e1 : IntKind.u8.min = 0 := by decide
  have e2 : IntKind.u8.max = 255 := by decide
  simp only [Lit.wf, e1, e2, Bool.and_eq_true, decide_eq_true_eq] at h
  exact h
theorem vars_len {H : Type} {enc : TypeId × Value → H} {w : World} {spare : Nat → Bool} : ∀ (ns : List String) (gs : List (DataW H)) (ps : List MemPlace), DataW.TrodVars enc Tryd.prog w spare ns gs ps → gs.length = ns.length
  | [], [], _, _ => rfl
  | [], _ :: _, _, h => by simp [DataW.TrodVars] at h
  | _ :: _, [], _, h => by simp [DataW.TrodVars] at h
  | n :: ns, d :: ds, _, h => by
    obtain ⟨g, t, cs, fuel, p, q, _, _, _, _, hs, _⟩ := h
    simp [vars_len ns ds q hs]
theorem two_l {α : Type} {l : List α} (h : l.length = 2) : ∃ a b, l = [a, b] := by
  match l, h with
  | [a, b], _ => exact ⟨a, b, rfl⟩
theorem bytes_open {H : Type} {enc : TypeId × Value → H} {w : World} {base : Nat} {held : Bool} {fuel : Nat} {v : Value} {x : DataW H × List MemPlace}
    (h : DataW.trod enc Tryd.prog w base (fun _ => true) held fuel 22 [v] = some x) : ∃ (a : Option Addr) (n c : Nat), v = .slice a n c ∧ Mill.Bytes w w.heap.size v n ∧ n ≤ c ∧ n ≤ 9223372036854775807 := by
  rcases open_ints Tryd.underlying22 Tryd.underlying5 cellsU8 h with ⟨hv, _⟩ | ⟨a, len, cap, zs, hv, _, hl, hm, hz, _, hc, hw⟩
  · cases hv
    exact ⟨none, 0, 0, rfl, .inl ⟨none, 0, rfl, rfl⟩, by omega, by omega⟩
  · cases hv
    have hz' : zs.length = cap := hz
    refine ⟨some a, len, cap, rfl, ?_, hl, by simp [maxLen] at hm; omega⟩
    by_cases h0 : len = 0
    · subst h0
      exact .inl ⟨some a, cap, rfl, rfl⟩
    · obtain ⟨b, o, sp⟩ := a
      have hsp : sp = none := by
        have e0 := hc 0 (by omega)
        simp [Addr.add] at e0
        exact World.cell?_spot e0
      subst hsp
      have hadd : ∀ o k, (Addr.add ⟨b, o, none⟩ k) = ⟨b, o + k, none⟩ := fun o k => by unfold Addr.add; split <;> simp_all
      have e0 := hc 0 (by omega)
      rw [hadd] at e0
      refine .inr ⟨b, o, cap, rfl, lt_cell e0, fun i hi => ?_⟩
      have ei := hc i (by omega)
      rw [hadd] at ei
      have hm2 : zs.getD i 0 ∈ zs := by
        rw [List.getD_eq_getElem?_getD, List.getElem?_eq_getElem (by omega)]
        exact List.getElem_mem _
      have := wf8 (hw _ hm2)
      exact ⟨_, this.1, this.2, ei⟩
set_option maxRecDepth 1000000 in
theorem bitsLaid (os : Os) (args : Array Value) : laidMet Tryd.prog Rows.fnBitsRow.laid ((World.laidAll Tryd.prog os Rows.fnBitsRow.laid).forCall (fun _ _ => 0) ⟨#[], args, []⟩).memory :=
  laidMet_laidAll args (by kernel_rfl) (by kernel_rfl)
set_option maxRecDepth 1000000 in
theorem bitsWitness (os : Os) {H : Type} (enc : TypeId × Value → H) :
    (OpenSpec.ofChange Rows.fnBitsSpec).preRow enc Tryd.prog Tryd.f3 Rows.fnBitsRow.domain false Rows.fnBitsRow.laid (((World.laidAll Tryd.prog os Rows.fnBitsRow.laid).forCall (fun _ _ => 0) ⟨#[], #[.slice none 0 0], []⟩).memory) #[.slice none 0 0] := by
  have hw : (DataW.whole enc Tryd.prog (((World.laidAll Tryd.prog os Rows.fnBitsRow.laid).forCall (fun _ _ => 0) ⟨#[], #[.slice none 0 0], []⟩).memory) Tryd.f3.params.toList Rows.fnBitsSpec.vars false ((#[.slice none 0 0] : Array Value).toList) 8).map (fun x => (x.1, x.2.1)) =
      some ([.nil], [.held (enc (77, .pointer (some ⟨(World.holding Tryd.prog os ⟨#[], #[], []⟩).heap.size, 0, none⟩))), .held (enc (77, .pointer (some ⟨(World.holding Tryd.prog os ⟨#[], #[], []⟩).heap.size + 1, 0, none⟩)))]) := by kernel_rfl
  obtain ⟨⟨x1, x2, x3⟩, hx, hx1⟩ := Option.map_eq_some_iff.1 hw
  simp only [Prod.mk.injEq] at hx1
  obtain ⟨rfl, rfl⟩ := hx1
  exact OpenSpec.preRow_of_cond 8 hx (by kernel_rfl) (fun k hk => by cases hk) (by kernel_rfl) (bitsLaid os _)

set_option maxRecDepth 100000 in
set_option maxHeartbeats 2000000 in
theorem bitsLifted (os : Os) (started : os.Started) (H : Type) (enc : TypeId × Value → H) (F : Stop.Interp) :
    ReturnsInHanded {} Tryd.checked os 3 .any ((OpenSpec.ofChange Rows.fnBitsSpec).preRow enc Tryd.prog Tryd.f3 Rows.fnBitsRow.domain false Rows.fnBitsRow.laid) (((OpenSpec.ofChange Rows.fnBitsSpec).at F).post enc Tryd.prog Tryd.f3 false true false false) := by
  refine returnsInHanded_of_row (C := Tryd.checked) (s := OpenSpec.ofChange Rows.fnBitsSpec) own started (by kernel_rfl) Tryd.func3
    (witness_row_atRef (enc := enc) (C := Tryd.checked) false (World.laidAll Tryd.prog os Rows.fnBitsRow.laid) #[.slice none 0 0] (World.laidAll_os _ _ _) (by kernel_rfl) (by kernel_rfl) (by kernel_rfl) (bitsWitness os enc)) ?_
  intro W base args ds gs before hval0 hW _ _ _ _ _ _
  have hval : ∀ (j : Nat) t v, Tryd.f3.params[j]? = some t → args[j]? = some v → Value.okWide Tryd.prog W .any base t v := hval0
  have hW' := hW
  obtain ⟨p, q, hA0, hV0, rfl, _, _⟩ := hW
  have hA : DataW.TrodAll enc Tryd.prog W 0 (fun _ => true) true Tryd.f3.params.toList args.toList ds p := hA0
  have hV : DataW.TrodVars enc Tryd.prog W (fun _ => true) ["loop.example/kilnmill/impl.errType", "loop.example/kilnmill/impl.errLong"] gs q := hV0
  rw [Tryd.params3] at hA hval
  have hlt := hA.lt
  obtain ⟨v0, d0, rfl, rfl, h0⟩ := trodAll_one hA
  obtain ⟨sa, sl, sc, rfl⟩ := okWide_slice Tryd.underlying22 (hval 0 22 v0 rfl rfl)
  have hO : ∃ (a : Option Addr) (n c : Nat), Value.slice sa sl sc = .slice a n c ∧ Mill.Bytes W W.heap.size (.slice sa sl sc) n ∧ n ≤ c ∧ n ≤ 9223372036854775807 := by
    obtain ⟨fuel, hf⟩ := h0
    exact bytes_open hf
  obtain ⟨a, n, c, hv, hB, hnc, hn⟩ := hO
  injection hv with hv1 hv2 hv3
  subst hv1; subst hv2; subst hv3
  obtain ⟨g1, g2, hgs⟩ := two_l (vars_len _ _ _ hV)
  clear hA0 hV0 hval0
  refine (Val.lawBits sa sl sc W hB hnc hn).mono ?_
  rintro e W' ⟨rfl, bel⟩
  have e1 : ((OpenSpec.ofChange Rows.fnBitsSpec).at F).fn H ([d0] ++ gs) = { results := [.lit (.bool true)], args := [d0], vars := gs } := by rw [hgs]; rfl
  refine ⟨_, rfl, _, _, _, [], p, q, hW', ?_, ?_, ?_, bel.frame _, fun h => by cases h⟩
  · rw [e1]; exact trodAll_mk1 (shut_bool Tryd.underlying4 _)
  · rw [e1]; exact trodAll_mk1 (Below.trod laidOut (by kernel_rfl) (of_decide_eq_true (by kernel_rfl)) h0 bel (fun p hp => hlt p hp))
  · rw [e1]; exact Below.trodVars laidOut bel (by kernel_rfl) hV

theorem bitsSaid : Rows.FnBitsSaid :=
  OpenClaim.holds_of_cond 3 Tryd.f3 rfl rfl rfl rfl rfl rfl rfl ⟨rfl, rfl, rfl, rfl, rfl⟩ rfl rfl rfl rfl rfl (by kernel_rfl) Tryd.func3 (by kernel_rfl)
    (of_decide_eq_true (by kernel_rfl)) (by unfold Func.isWrapper; first | (rw [if_pos (by decide +kernel)]; kernel_rfl) | (rw [if_neg (by decide +kernel)]; exact ⟨rfl, rfl⟩))
    (fun os started H enc _ F0 => by rw [OpenClaim.pre_eq_preRow]; exact bitsLifted os started H enc F0)

theorem bitsPlain (f : FuncId) (fn : Func) (hf : Tryd.pinned.checked.prog.funcNamed "loop.example/kilnmill/laws.FnBits" = some f) (hfn : Tryd.pinned.checked.prog.funcs[f]? = some fn) :
    false = Tryd.pinned.checked.prog.looks [] ∧ ∀ (j : Nat) t, fn.params[j]? = some t → Tryd.pinned.checked.prog.wantsStandIn t = false := by
  obtain rfl : f = 3 := Option.some.inj ((show Tryd.prog.funcNamed "loop.example/kilnmill/laws.FnBits" = some 3 by kernel_rfl).symm.trans hf) |>.symm
  obtain rfl : fn = Tryd.f3 := (Option.some.inj (Tryd.func3.symm.trans hfn)).symm
  refine ⟨by kernel_rfl, fun j t ht => ?_⟩
  rw [Tryd.params3] at ht
  have h2 : t = 22 := by simpa using Array.mem_of_getElem? ht
  subst h2
  exact (show Tryd.prog.wantsStandIn 22 = false by kernel_rfl)
end Val

theorem fnBits_holds : Rows.FnBitsCardSaid :=
  Claim7.holds_tied_plain_at .later [] _ _ _ _ Val.bitsSaid (fun _ h => by cases h) (by kernel_rfl) (fun _ h => by cases h) fnBits_row_tie rfl ⟨rfl, rfl⟩ (by kernel_rfl) rfl Val.bitsPlain (by kernel_rfl)
end Go.Proofs.YtkijfehdgiiejaaDoor
