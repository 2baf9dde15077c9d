import Derived.Test.YticjcabnnjhbgaaDoorScanAC
namespace Go.Proofs.YticjcabnnjhbgaaDoor
open Go.Shelf
namespace Mill
open Go.ChangeShapes Go.WideShapes Go.ChangeAt Go.RowKit Go.Lib
open Go.ChangeMaps (open_string shut_string)

def cellOfLit : DataW Unit → Value
  | .lit (.int k z) => .int k z
  | _ => .bool false
def cellsOfData : DataW Unit → Array Value
  | .agg l => (l.map cellOfLit).toArray
  | _ => #[]
def textOfData : DataW Unit → ByteArray
  | .iface _ (.ptr (.agg [.lit (.string t)])) => ⟨t.toArray⟩
  | _ => ⟨#[]⟩
noncomputable def laidWorld (os : Os) : World :=
  let N := (World.settled Tryd.prog os).heap.size
  let w0 := World.holding Tryd.prog os ⟨#[.cells #[.string (textOfData Rows.laid_strconv_ErrRange)] 96, .cells #[.string (textOfData Rows.laid_strconv_ErrSyntax)] 96], #[], []⟩
  let put (h : Array Obj) (g : Nat) (cs : Array Value) : Array Obj := h.modify g fun
    | .cells _ t frozen => .cells cs t frozen
    | o => o
  let h0 := put (put w0.heap 3 #[.iface 94 (.pointer (some ⟨N, 0, none⟩))]) 2 #[.iface 94 (.pointer (some ⟨N + 1, 0, none⟩))]
  let h1 := put h0 0 (cellsOfData Rows.laid_loop_example_kilnmill_impl_greatest)
  let h2 := put h1 4 (cellsOfData Rows.laid_internal_strconv_uint64pow10)
  let h3 := put h2 5 (cellsOfData Rows.laid_math_bits_deBruijn32tab)
  let h4 := put h3 6 (cellsOfData Rows.laid_math_bits_deBruijn64tab)
  { w0 with heap := h4 }
noncomputable abbrev N0 : Nat := (World.settled Tryd.prog default).heap.size
set_option maxRecDepth 1000000 in
theorem laid_met (os : Os) (args : Array Value) : laidMet Tryd.prog Rows.fnExactScanRow.laid ((laidWorld os).forCall (fun _ _ => 0) ⟨#[], args, []⟩).memory :=
  (LaidIn.of_run (l := Rows.fnExactScanRow.laid) [5, 6, 4, 3, N0, 2, N0 + 1, 0] 8 (by kernel_rfl) (by kernel_rfl) (by kernel_rfl) (by kernel_rfl)).met

theorem witness_row (os : Os) {H : Type} (enc : TypeId × Value → H) :
    (OpenSpec.ofChange Rows.fnExactScanSpec).preRow enc Tryd.prog Tryd.f3 Rows.fnExactScanRow.domain false Rows.fnExactScanRow.laid ((laidWorld os).forCall (fun _ _ => 0) ⟨#[], #[.string ⟨#[]⟩], []⟩).memory #[.string ⟨#[]⟩] := by
  have hw : (DataW.whole enc Tryd.prog ((laidWorld os).forCall (fun _ _ => 0) ⟨#[], #[.string ⟨#[]⟩], []⟩).memory Tryd.f3.params.toList Rows.fnExactScanSpec.vars false #[Value.string ⟨#[]⟩].toList 8).map (fun x => (x.1, x.2.1)) =
      some ([.lit (.string [])], [Rows.laid_loop_example_kilnmill_impl_greatest]) := by kernel_rfl
  obtain ⟨⟨x1, x2, x3⟩, hx, hx1⟩ := Option.map_eq_some_iff.1 hw
  simp only [Prod.mk.injEq] at hx1
  obtain ⟨rfl, rfl⟩ := hx1
  exact OpenSpec.preRow_of_cond 8 hx (by kernel_rfl) (fun k hk => by cases hk) (by kernel_rfl) (laid_met os _)

theorem varsOf {H : Type} (enc : TypeId × Value → H) (W : World) (sp : Nat → Bool) (h : Lib.TabIs Tryd.prog W "loop.example/kilnmill/impl.greatest" .u64 [0, 0, 0, 255, 65535, 4294967295, 18446744073709551615, 127, 32767, 2147483647, 9223372036854775807]) :
    DataW.TrodVars enc Tryd.prog W sp ["loop.example/kilnmill/impl.greatest"] [Rows.laid_loop_example_kilnmill_impl_greatest] (MemPlace.row ⟨0, 0, none⟩ 11) := by
  have h4 : DataW.trod enc Tryd.prog W 0 sp true 3 70 [.int .u64 0, .int .u64 0, .int .u64 0, .int .u64 255, .int .u64 65535, .int .u64 4294967295, .int .u64 18446744073709551615, .int .u64 127, .int .u64 32767, .int .u64 2147483647, .int .u64 9223372036854775807] = some (Rows.laid_loop_example_kilnmill_impl_greatest, []) := by kernel_rfl
  have := trodVars_mk1 gTab gTabType h h4
  simpa using this
theorem tab_below {W W' : World} {zs : List Int} (h : Lib.TabIs Tryd.prog W "loop.example/kilnmill/impl.greatest" .u64 zs) (hg : 0 < W.heap.size) (hb : Below W.heap.size W W') : Lib.TabIs Tryd.prog W' "loop.example/kilnmill/impl.greatest" .u64 zs := by
  unfold Lib.TabIs World.var? at *
  rw [gTab] at h ⊢
  simp only [Option.bind_some] at h ⊢
  rw [hb.block 0 hg]
  exact h

set_option maxRecDepth 100000 in
set_option maxHeartbeats 2000000 in
theorem lifted (os : Os) (started : os.Started) (H : Type) (enc : TypeId × Value → H) (F : Stop.Interp) :
    ReturnsInHanded {} Tryd.checked os 3 .any ((OpenSpec.ofChange Rows.fnExactScanSpec).preRow enc Tryd.prog Tryd.f3 Rows.fnExactScanRow.domain false Rows.fnExactScanRow.laid) (((OpenSpec.ofChange Rows.fnExactScanSpec).at F).post enc Tryd.prog Tryd.f3 false true false false) := by
  refine returnsInHanded_of_row (C := Tryd.checked) (s := OpenSpec.ofChange Rows.fnExactScanSpec) own started (by kernel_rfl) Tryd.func3
    (witness_row_atRef (enc := enc) (C := Tryd.checked) false (laidWorld os) #[.string ⟨#[]⟩] rfl (by kernel_rfl) (by kernel_rfl) (by kernel_rfl) (witness_row os enc)) ?_
  intro W base args ds gs before hval0 hW _ _ _ hL _ _
  have hval : ∀ (j : Nat) t v, Tryd.f3.params[j]? = some t → args[j]? = some v → Value.okWide Tryd.prog W .any base t v := hval0
  have hW' := hW
  obtain ⟨p, q, hA0, hV0, rfl, _, _⟩ := hW
  have hA : DataW.TrodAll enc Tryd.prog W 0 (fun _ => true) true Tryd.f3.params.toList args.toList ds p := hA0
  have hV : DataW.TrodVars enc Tryd.prog W (fun _ => true) ["loop.example/kilnmill/impl.greatest"] gs q := hV0
  rw [Tryd.params3] at hA hval
  obtain ⟨v0, d0, rfl, rfl, h0⟩ := trodAll_one hA
  obtain ⟨s, rfl, rfl, rfl, ws⟩ := open_string Tryd.underlying9 (hval 0 9 v0 rfl rfl) h0
  have hT := tabOf hL
  have hG := globsOf hL
  obtain ⟨rfl, rfl⟩ := DataW.TrodVars.unique hV (varsOf enc W _ hT)
  clear hA0 hV0 hval0
  refine (law_any s W hG).mono ?_
  rintro e W' ⟨rfl, bel⟩
  have e1 : ((OpenSpec.ofChange Rows.fnExactScanSpec).at F).fn H ([.lit (.string s.data.toList)] ++ [Rows.laid_loop_example_kilnmill_impl_greatest]) = { results := [.lit (.bool true)], args := [.lit (.string s.data.toList)], vars := [Rows.laid_loop_example_kilnmill_impl_greatest] } := rfl
  refine ⟨_, rfl, _, _, _, [], [], MemPlace.row ⟨0, 0, none⟩ 11, hW', ?_, ?_, ?_, bel.frame _, fun h => by cases h⟩
  · rw [e1]; exact trodAll_mk1 (shut_bool Tryd.underlying4 _)
  · rw [e1]; exact trodAll_mk1 (shut_string Tryd.underlying9 ws)
  · rw [e1]; exact varsOf enc W' _ (tab_below hT hG.big.1 bel)

theorem said : Rows.FnExactScanSaid :=
  OpenClaim.holds_of_cond 3 Tryd.f3 rfl rfl rfl rfl rfl rfl rfl ⟨rfl, rfl, rfl, rfl, rfl⟩ rfl rfl rfl rfl rfl (by kernel_rfl) Tryd.func3 (by kernel_rfl)
    (of_decide_eq_true (by kernel_rfl)) (by unfold Func.isWrapper; first | (rw [if_pos (by decide +kernel)]; kernel_rfl) | (rw [if_neg (by decide +kernel)]; exact ⟨rfl, rfl⟩))
    (fun os started H enc _ F0 => by rw [OpenClaim.pre_eq_preRow]; exact lifted os started H enc F0)

theorem plain (f : FuncId) (fn : Func) (hf : Tryd.pinned.checked.prog.funcNamed "loop.example/kilnmill/laws.FnExactScan" = some f) (hfn : Tryd.pinned.checked.prog.funcs[f]? = some fn) :
    true = Tryd.pinned.checked.prog.looks [] ∧ ∀ (j : Nat) t, fn.params[j]? = some t → Tryd.pinned.checked.prog.wantsStandIn t = false := by
  obtain rfl : f = 3 := Option.some.inj ((show Tryd.prog.funcNamed "loop.example/kilnmill/laws.FnExactScan" = some 3 by kernel_rfl).symm.trans hf) |>.symm
  obtain rfl : fn = Tryd.f3 := (Option.some.inj (Tryd.func3.symm.trans hfn)).symm
  refine ⟨by kernel_rfl, fun j t ht => ?_⟩
  rw [Tryd.params3] at ht
  obtain rfl : t = 9 := by simpa using Array.mem_of_getElem? ht
  exact (show Tryd.prog.wantsStandIn 9 = false by kernel_rfl)
end Mill

theorem fnExactScan_holds : Rows.FnExactScanCardSaid :=
  Claim7.holds_tied_plain_at .later [] _ _ _ _ Mill.said (fun _ h => by cases h) (by kernel_rfl) (fun _ h => by cases h) fnExactScan_row_tie rfl ⟨rfl, rfl⟩ (by kernel_rfl) rfl Mill.plain (by kernel_rfl)

end Go.Proofs.YticjcabnnjhbgaaDoor
