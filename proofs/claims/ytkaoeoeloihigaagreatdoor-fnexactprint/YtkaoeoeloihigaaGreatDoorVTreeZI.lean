import Derived.Test.YtkaoeoeloihigaaGreatDoorVTreeZJ
import Derived.Test.YtkaoeoeloihigaaGreatDoorVTreeZM
namespace Go.Proofs.YtkaoeoeloihigaaGreatDoor
open Go.RowKit

set_option maxRecDepth 100000 in
set_option maxHeartbeats 1000000 in
theorem rootOf_any (ns : List Mill.Nd) (v : Value) (w : World) (hN : Mill.NodesAt w v ns) (hs : ∀ d ∈ ns, d.text.size ≤ 1048576) (hG : Mill.Greats w) (hW : Mill.Builts w) :
    Calls Tryz.prog 14 #[.agg #[v]] w fun e w' => Mill.RootPost w ns e w' := by
  by_cases hl : ns.length ≤ 12001
  · exact rootOf_short ns v w hN hl hs hG hW
  · have HF : Hid (Mill.rootOk ns = false) := by rw [Hid, Mill.rootOk]; simp [hl]
    obtain ⟨a, cap, rfl, hcx⟩ := hN
    clear hcx
    generalize ns.length = n at *
    go_enter Tryz.func14, Tryz.ntmps14
    go_wp2
    exact bodyPost_ret (v := .tuple #[.agg #[.slice none 0 0], .bool false]) (by simp [results, Tryz.results14, go_sem]) rfl (Mill.root_no HF (((Below.refl _ w).alloc (Nat.le_refl _) _).alloc (by simp) _))

end Go.Proofs.YtkaoeoeloihigaaGreatDoor
