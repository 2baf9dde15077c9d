/-
  NARROWER THAN 'FOR EVERY INPUT', by the rows' own cells (each row's printed sentence says how): FnExactValidTree: laid.
  DERIVED. THE GIVEN ROWS OF THIS SEAT. 1 by the template 'for every input the law returns true; each argument reads behind the call as it read before'; 0 by the template 'total and deterministic' (their statements: YtiomecoceandoaaDoorTotals.lean).
  GIVEN WITH THE SEED: the statements are not yours to turn. If you find one false, say at which input.
  Laid BY PROGRAM, IN A SANDBOX (cutbox-rows.mjs): the forced cells as the released guide's own fill.sh prints them over the translation 018ed8eb52f49490… (all of the seat's roots in one cut). By AI agents, Wed Nov 11 2026. No macro, syntax, notation, axiom, sorry.
-/
import Derived.Test.YtiomecoceandoaaDoorChecked
import GoSem.Claim
import GoSem.ClaimJoined
import GoSem.ClaimMapViews
import Derived.JoinedTies
import Derived.KernelRfl
namespace Go.Proofs.YtiomecoceandoaaDoor
/- THE CELL 'sum', in the pinned program and in every row, IS THE sha256 OF THE DUMP (.gsa) THAT YtiomecoceandoaaDoorProg.lean LOADS. Nothing in Lean hashes anything: it is a label: what it is worth is what the hold of that sum in a sandbox is worth. -/
noncomputable def Tryd.pinned : Pinned := { name := "ytiomecoceandoaadoor", sum := "018ed8eb52f4949054c5b417fda6da21c676e77dae09a3f219210d07d7d69ef1", checked := Tryd.checked }
namespace Rows
def none {H : Type} : Left H := { results := [], args := [] }

/- WHAT THE LISTED PACKAGE-LEVEL VARIABLES READ AS WHEN THE CALL BEGINS. Each datum BY PROGRAM (the guide's laid-datum.mjs) off the statement by which the dump's own 'gosem.cut.vars' lays the variable. In a bare row this is a premise. The card (YtiomecoceandoaaDoorCards.lean) ties it to the program's text. -/
def laid_loop_example_kilnmill_impl_greatest {H : Type} : DataW H := .agg [.lit (.int .u64 0), .lit (.int .u64 0), .lit (.int .u64 0), .lit (.int .u64 255), .lit (.int .u64 65535), .lit (.int .u64 4294967295), .lit (.int .u64 18446744073709551615), .lit (.int .u64 127), .lit (.int .u64 32767), .lit (.int .u64 2147483647), .lit (.int .u64 9223372036854775807)]
def laid_loop_example_kilnmill_impl_builtWords {H : Type} : DataW H := .agg [.agg [.lit (.string []), .lit (.int .i64 0)], .agg [.lit (.string [114, 101, 97, 100]), .lit (.int .i64 1)], .agg [.lit (.string [104, 97, 115]), .lit (.int .i64 1)], .agg [.lit (.string [108, 105, 115, 116]), .lit (.int .i64 1)], .agg [.lit (.string [116, 111, 111, 108]), .lit (.int .i64 2)], .agg [.lit (.string [97, 114, 103]), .lit (.int .i64 0)], .agg [.lit (.string [108, 101, 110]), .lit (.int .i64 1)], .agg [.lit (.string [97, 116]), .lit (.int .i64 2)], .agg [.lit (.string [99, 117, 116]), .lit (.int .i64 3)], .agg [.lit (.string [102, 105, 110, 100]), .lit (.int .i64 2)], .agg [.lit (.string [99, 104, 114]), .lit (.int .i64 1)], .agg [.lit (.string [100, 101, 99]), .lit (.int .i64 1)], .agg [.lit (.string [110, 117, 109]), .lit (.int .i64 1)]]

/-- 'laws.FnExactValidTree': WHATEVER THE INPUT: true; the input reads as it did. -/
def fnExactValidTreeSpec : ChangeSpec := { name := "fnExactValidTree", vars := ["loop.example/kilnmill/impl.greatest", "loop.example/kilnmill/impl.builtWords"], fn := fun _ => fun
  | [d, g1, g2] => { results := [.lit (.bool true)], args := [d], vars := [g1, g2] }
  | _ => none }
def fnExactValidTreeRow : OpenClaim := { program := "ytiomecoceandoaadoor", sum := "018ed8eb52f4949054c5b417fda6da21c676e77dae09a3f219210d07d7d69ef1", func := "loop.example/kilnmill/laws.FnExactValidTree", spec := "fnExactValidTree", unfollowed := true, recurses := true, named := ["loop.example/kilnmill/impl.greatest", "loop.example/kilnmill/impl.builtWords"], apart := false, laid := [("loop.example/kilnmill/impl.greatest", laid_loop_example_kilnmill_impl_greatest), ("loop.example/kilnmill/impl.builtWords", laid_loop_example_kilnmill_impl_builtWords)] }
def FnExactValidTreeSaid : Prop := fnExactValidTreeRow.holds Tryd.pinned (OpenSpec.ofChange fnExactValidTreeSpec)

/-- ITS FALSE NEIGHBOUR: 'it returns false'. Refute it at one input. -/
def fnExactValidTreeWrong : ChangeSpec := { name := "fnExactValidTree", vars := ["loop.example/kilnmill/impl.greatest", "loop.example/kilnmill/impl.builtWords"], fn := fun _ => fun
  | [d, g1, g2] => { results := [.lit (.bool false)], args := [d], vars := [g1, g2] }
  | _ => none }
def FnExactValidTreeWrongFalsely : Prop := fnExactValidTreeRow.holds Tryd.pinned (OpenSpec.ofChange fnExactValidTreeWrong)

/- THE SECOND FORM. 'bulk': how many values and letters a reading holds, each counted each time it is reached (what is shared counts as often as it is met; a slice's spare places count too). A statement '..UptoSaid' is the law's where the arguments, and the package variables that the reading takes, are together of bulk at most 1048576: NARROWER than '..Said'. Prove '..Said' where nothing that the law and all that it calls make is longer than what came in: it says more and counts as full. Else prove '..UptoSaid'. A law counts once. -/
mutual
def uptoBulk {H : Type} : DataW H → Nat
  | .lit (.string bytes) => bytes.length + 1
  | .lit _ => 1
  | .nil => 1
  | .ptr d => uptoBulk d + 1
  | .slice elems spare => uptoBulkAll elems + uptoBulkAll spare + 1
  | .agg parts => uptoBulkAll parts + 1
  | .iface _ d => uptoBulk d + 1
  | .map entries => uptoBulkEntries entries + 1
  | .held _ => 1
def uptoBulkAll {H : Type} : List (DataW H) → Nat
  | [] => 0
  | d :: r => uptoBulk d + uptoBulkAll r
def uptoBulkEntries {H : Type} : List (Lit × DataW H) → Nat
  | [] => 0
  | x :: r => uptoBulkEntry x + uptoBulkEntries r
def uptoBulkEntry {H : Type} : Lit × DataW H → Nat
  | (.string bytes, d) => bytes.length + uptoBulk d + 1
  | (_, d) => uptoBulk d + 1
 end
def uptoSmall : (H : Type) → List (DataW H) → Bool := fun _ ds => decide (uptoBulkAll ds ≤ 1048576)
def OpenSpec.upto (s : _root_.Go.ChangeSpec) : _root_.Go.OpenSpec := { _root_.Go.OpenSpec.ofChange s with cond := some uptoSmall }

/-- 'laws.FnExactValidTree', WHERE WHAT IT READS IS OF BULK AT MOST 1048576: true; the input reads as it did. -/
def fnExactValidTreeUptoRow : OpenClaim := { program := "ytiomecoceandoaadoor", sum := "018ed8eb52f4949054c5b417fda6da21c676e77dae09a3f219210d07d7d69ef1", func := "loop.example/kilnmill/laws.FnExactValidTree", spec := "fnExactValidTree", unfollowed := true, recurses := true, named := ["loop.example/kilnmill/impl.greatest", "loop.example/kilnmill/impl.builtWords"], apart := false, laid := [("loop.example/kilnmill/impl.greatest", laid_loop_example_kilnmill_impl_greatest), ("loop.example/kilnmill/impl.builtWords", laid_loop_example_kilnmill_impl_builtWords)], narrowed := true }
def FnExactValidTreeUptoSaid : Prop := fnExactValidTreeUptoRow.holds Tryd.pinned (OpenSpec.upto fnExactValidTreeSpec)

end Rows
end Go.Proofs.YtiomecoceandoaaDoor
