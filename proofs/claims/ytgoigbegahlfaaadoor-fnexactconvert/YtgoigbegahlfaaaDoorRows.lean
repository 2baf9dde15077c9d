/-
  NARROWER THAN 'FOR EVERY INPUT', by the rows' own cells (each row's printed sentence says how): FnExactUnary: ifaces, laid · FnExactConvert: ifaces, laid.
  DERIVED. THE GIVEN ROWS OF THIS SEAT. 2 by the template 'for every input the law returns true; each argument reads behind the call as it read before'; 0 by the template 'total and deterministic' (their statements: YtgoigbegahlfaaaDoorTotals.lean).
  GIVEN WITH THE SEED: the statements are not yours to turn. If you find one false, say at which input.
  Laid BY PROGRAM, IN A SANDBOX (cutbox-rows.mjs): the forced cells as the released guide's own fill.sh prints them over the translation 7da26ce8521eee8a… (all of the seat's roots in one cut). By AI agents, Wed Nov 11 2026. No macro, syntax, notation, axiom, sorry.
-/
import Derived.Test.YtgoigbegahlfaaaDoorChecked
import GoSem.Claim
import GoSem.ClaimJoined
import GoSem.ClaimMapViews
import Derived.JoinedTies
import Derived.KernelRfl
namespace Go.Proofs.YtgoigbegahlfaaaDoor
/- THE CELL 'sum', in the pinned program and in every row, IS THE sha256 OF THE DUMP (.gsa) THAT YtgoigbegahlfaaaDoorProg.lean LOADS. Nothing in Lean hashes anything: it is a label: what it is worth is what the hold of that sum in a sandbox is worth. -/
noncomputable def Tryd.pinned : Pinned := { name := "ytgoigbegahlfaaadoor", sum := "7da26ce8521eee8a88138c58715aa7b466861ae9bec0183dffcb8f065f46d3ec", checked := Tryd.checked }
namespace Rows
def none {H : Type} : Left H := { results := [], args := [] }

/- WHAT THE LISTED PACKAGE-LEVEL VARIABLES READ AS WHEN THE CALL BEGINS. Each datum BY PROGRAM (the guide's laid-datum.mjs) off the statement by which the dump's own 'gosem.cut.vars' lays the variable. In a bare row this is a premise. The card (YtgoigbegahlfaaaDoorCards.lean) ties it to the program's text. -/
def laid_loop_example_kilnmill_impl_errType {H : Type} : DataW H := .iface "*errors.errorString" (.ptr (.agg [.lit (.string [116, 121, 112, 101])]))

/-- 'laws.FnExactUnary': WHATEVER THE INPUT: true; the input reads as it did. -/
def fnExactUnarySpec : ChangeSpec := { name := "fnExactUnary", vars := ["loop.example/kilnmill/impl.errType"], fn := fun _ => fun
  | [d1, d2, g1] => { results := [.lit (.bool true)], args := [d1, d2], vars := [g1] }
  | _ => none }
def fnExactUnaryRow : OpenClaim := { program := "ytgoigbegahlfaaadoor", sum := "7da26ce8521eee8a88138c58715aa7b466861ae9bec0183dffcb8f065f46d3ec", func := "loop.example/kilnmill/laws.FnExactUnary", spec := "fnExactUnary", unfollowed := true, recurses := true, named := ["loop.example/kilnmill/impl.errType"], ifaces := true, apart := false, laid := [("loop.example/kilnmill/impl.errType", laid_loop_example_kilnmill_impl_errType)] }
def FnExactUnarySaid : Prop := fnExactUnaryRow.holds Tryd.pinned (OpenSpec.ofChange fnExactUnarySpec)

/-- ITS FALSE NEIGHBOUR: 'it returns false'. Refute it at one input. -/
def fnExactUnaryWrong : ChangeSpec := { name := "fnExactUnary", vars := ["loop.example/kilnmill/impl.errType"], fn := fun _ => fun
  | [d1, d2, g1] => { results := [.lit (.bool false)], args := [d1, d2], vars := [g1] }
  | _ => none }
def FnExactUnaryWrongFalsely : Prop := fnExactUnaryRow.holds Tryd.pinned (OpenSpec.ofChange fnExactUnaryWrong)

/-- 'laws.FnExactConvert': WHATEVER THE INPUT: true; the input reads as it did. -/
def fnExactConvertSpec : ChangeSpec := { name := "fnExactConvert", vars := ["loop.example/kilnmill/impl.errType"], fn := fun _ => fun
  | [d1, d2, g1] => { results := [.lit (.bool true)], args := [d1, d2], vars := [g1] }
  | _ => none }
def fnExactConvertRow : OpenClaim := { program := "ytgoigbegahlfaaadoor", sum := "7da26ce8521eee8a88138c58715aa7b466861ae9bec0183dffcb8f065f46d3ec", func := "loop.example/kilnmill/laws.FnExactConvert", spec := "fnExactConvert", unfollowed := true, recurses := true, named := ["loop.example/kilnmill/impl.errType"], ifaces := true, apart := false, laid := [("loop.example/kilnmill/impl.errType", laid_loop_example_kilnmill_impl_errType)] }
def FnExactConvertSaid : Prop := fnExactConvertRow.holds Tryd.pinned (OpenSpec.ofChange fnExactConvertSpec)

/-- ITS FALSE NEIGHBOUR: 'it returns false'. Refute it at one input. -/
def fnExactConvertWrong : ChangeSpec := { name := "fnExactConvert", vars := ["loop.example/kilnmill/impl.errType"], fn := fun _ => fun
  | [d1, d2, g1] => { results := [.lit (.bool false)], args := [d1, d2], vars := [g1] }
  | _ => none }
def FnExactConvertWrongFalsely : Prop := fnExactConvertRow.holds Tryd.pinned (OpenSpec.ofChange fnExactConvertWrong)

/- THE SECOND FORM. 'bulk': how many values and letters a reading holds, each counted each time it is reached (what is shared counts as often as it is met; a slice's spare places count too). A statement '..UptoSaid' is the law's where the arguments, and the package variables that the reading takes, are together of bulk at most 1048576: NARROWER than '..Said'. Prove '..Said' where nothing that the law and all that it calls make is longer than what came in: it says more and counts as full. Else prove '..UptoSaid'. A law counts once. -/
mutual
def uptoBulk {H : Type} : DataW H → Nat
  | .lit (.string bytes) => bytes.length + 1
  | .lit _ => 1
  | .nil => 1
  | .ptr d => uptoBulk d + 1
  | .slice elems spare => uptoBulkAll elems + uptoBulkAll spare + 1
  | .agg parts => uptoBulkAll parts + 1
  | .iface _ d => uptoBulk d + 1
  | .map entries => uptoBulkEntries entries + 1
  | .held _ => 1
def uptoBulkAll {H : Type} : List (DataW H) → Nat
  | [] => 0
  | d :: r => uptoBulk d + uptoBulkAll r
def uptoBulkEntries {H : Type} : List (Lit × DataW H) → Nat
  | [] => 0
  | x :: r => uptoBulkEntry x + uptoBulkEntries r
def uptoBulkEntry {H : Type} : Lit × DataW H → Nat
  | (.string bytes, d) => bytes.length + uptoBulk d + 1
  | (_, d) => uptoBulk d + 1
 end
def uptoSmall : (H : Type) → List (DataW H) → Bool := fun _ ds => decide (uptoBulkAll ds ≤ 1048576)
def OpenSpec.upto (s : _root_.Go.ChangeSpec) : _root_.Go.OpenSpec := { _root_.Go.OpenSpec.ofChange s with cond := some uptoSmall }

/-- 'laws.FnExactUnary', WHERE WHAT IT READS IS OF BULK AT MOST 1048576: true; the input reads as it did. -/
def fnExactUnaryUptoRow : OpenClaim := { program := "ytgoigbegahlfaaadoor", sum := "7da26ce8521eee8a88138c58715aa7b466861ae9bec0183dffcb8f065f46d3ec", func := "loop.example/kilnmill/laws.FnExactUnary", spec := "fnExactUnary", unfollowed := true, recurses := true, named := ["loop.example/kilnmill/impl.errType"], ifaces := true, apart := false, laid := [("loop.example/kilnmill/impl.errType", laid_loop_example_kilnmill_impl_errType)], narrowed := true }
def FnExactUnaryUptoSaid : Prop := fnExactUnaryUptoRow.holds Tryd.pinned (OpenSpec.upto fnExactUnarySpec)

/-- 'laws.FnExactConvert', WHERE WHAT IT READS IS OF BULK AT MOST 1048576: true; the input reads as it did. -/
def fnExactConvertUptoRow : OpenClaim := { program := "ytgoigbegahlfaaadoor", sum := "7da26ce8521eee8a88138c58715aa7b466861ae9bec0183dffcb8f065f46d3ec", func := "loop.example/kilnmill/laws.FnExactConvert", spec := "fnExactConvert", unfollowed := true, recurses := true, named := ["loop.example/kilnmill/impl.errType"], ifaces := true, apart := false, laid := [("loop.example/kilnmill/impl.errType", laid_loop_example_kilnmill_impl_errType)], narrowed := true }
def FnExactConvertUptoSaid : Prop := fnExactConvertUptoRow.holds Tryd.pinned (OpenSpec.upto fnExactConvertSpec)

end Rows
end Go.Proofs.YtgoigbegahlfaaaDoor
