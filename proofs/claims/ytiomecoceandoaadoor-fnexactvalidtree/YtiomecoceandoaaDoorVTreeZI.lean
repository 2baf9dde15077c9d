import Derived.Test.YtiomecoceandoaaDoorVTreeZJ
import Derived.Test.YtiomecoceandoaaDoorVTreeZM
namespace Go.Proofs.YtiomecoceandoaaDoor
open Go.RowKit

set_option maxRecDepth 100000 in
set_option maxHeartbeats 1000000 in
theorem rootOf_any (ns : List Mill.Nd) (v : Value) (w : World) (hN : Mill.NodesAt w v ns) (hs : ∀ d ∈ ns, d.text.size ≤ 1048576) (hG : Mill.Greats w) (hW : Mill.Builts w) :
    Calls Tryd.prog 14 #[.agg #[v]] w fun e w' => Mill.RootPost w ns e w' := by
  by_cases hl : ns.length ≤ 12001
  · exact rootOf_short ns v w hN hl hs hG hW
  · have HF : Hid (Mill.rootOk ns = false) := by rw [Hid, Mill.rootOk]; simp [hl]
    obtain ⟨a, cap, rfl, hcx⟩ := hN
    clear hcx
    generalize ns.length = n at *
    go_enter Tryd.func14, Tryd.ntmps14
    go_wp2
    exact bodyPost_ret (v := .tuple #[.agg #[.slice none 0 0], .bool false]) (by simp [results, Tryd.results14, go_sem]) rfl (Mill.root_no HF (((Below.refl _ w).alloc (Nat.le_refl _) _).alloc (by simp) _))

set_option maxRecDepth 100000 in
set_option maxHeartbeats 1000000 in
theorem implValid_any (ns : List Mill.Nd) (v : Value) (w : World) (hN : Mill.NodesAt w v ns) (hs : ∀ d ∈ ns, d.text.size ≤ 1048576) (hG : Mill.Greats w) (hW : Mill.Builts w) :
    Calls Tryd.prog 7 #[.agg #[v]] w fun e w' => e = .returned (.bool (Mill.rootOk ns)) ∧ Below w.heap.size w w' := by
  have hb0 : ∀ o : Obj, Below w.heap.size w (w.alloc o) := fun o => (Below.refl _ w).alloc (Nat.le_refl _) o
  have HS : Hid (∀ d ∈ ns, d.text.size ≤ 1048576) := hs
  clear hs
  have hvs : ∃ a c, v = .slice a ns.length c := by obtain ⟨a, c, h, _⟩ := hN; exact ⟨a, c, h⟩
  obtain ⟨a, cap, rfl⟩ := hvs
  generalize hn : ns.length = n at *
  go_enter Tryd.func7, Tryd.ntmps7
  go_wp2_with (go_at_call 14; (refine (rootOf_any ns _ _ (Mill.nodesAt_below hN (hb0 _)) HS.out (hG.below (hb0 _)) (hW.below (hb0 _))).mono ?_; rintro e w1 ⟨⟨ax, nx, cx, rfl, _⟩, hb⟩; rw [World.size_alloc] at hb))
  go_ret
  have hz := hb.size
  rw [World.size_alloc] at hz
  exact ⟨rfl, ((hb0 _).trans (hb.mono (Nat.le_succ _))).alloc (by omega) _⟩
end Go.Proofs.YtiomecoceandoaaDoor
