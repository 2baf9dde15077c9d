import Derived.Test.YtkaoeoeloihigaaGreatDoorVTreeLA
import Derived.Test.YtkaoeoeloihigaaGreatDoorVTreeZI
namespace Go.Proofs.YtkaoeoeloihigaaGreatDoor
open Go.RowKit

theorem Mill.szL_ok : ∀ (ns : List Mill.Nd) (l : Int), 0 ≤ Mill.szL ns l → l ≤ 1048576 → ∀ d ∈ ns, d.text.size ≤ 1048576
  | [], _, _, _, d, hd => by cases hd
  | e :: r, l, h, hl, d, hd => by
    rw [Mill.szL] at h
    split at h
    · omega
    · rename_i hn
      rcases List.mem_cons.1 hd with rfl | hd
      · omega
      · exact Mill.szL_ok r _ h (by omega) d hd
theorem Mill.szT_ok (ns : List Mill.Nd) (h : 0 ≤ Mill.szT ns 1048576) : ns.length ≤ 1048576 ∧ ∀ d ∈ ns, d.text.size ≤ 1048576 := by
  unfold Mill.szT at h
  split at h
  · omega
  · exact ⟨by omega, Mill.szL_ok ns _ h (by omega)⟩
theorem toTree_D (ns : List Mill.Nd) (v : Value) (w0 w : World) (hN : Hid (Mill.NodesOff w0 v ns)) (hb0 : Below w0.heap.size w0 w) (hl : ns.length ≤ 1048576) :
    Calls Tryz.prog 6 #[.agg #[v]] w fun e w' => ∃ a c, e = .returned (.agg #[.slice a ns.length c]) ∧ Hid (w'.ownsRow w.heap.size 68 6 (.slice a ns.length c) ns.length (Mill.ndCs ns)) ∧ Below w.heap.size w w' := by
  refine (toTree_any ns v w (Mill.nodesOff_below hN.out hb0) hl).mono ?_
  rintro e w' ⟨v', rfl, own, hb⟩
  obtain ⟨a, c, rfl⟩ := Mill.rowLen own
  exact ⟨a, c, rfl, own, hb⟩
theorem Mill.ownsNodes {w w' : World} {B : Nat} {v : Value} {ns : List Mill.Nd} (h : Hid (w.ownsRow B 68 6 v ns.length (Mill.ndCs ns))) (hb : Below w.heap.size w w') : Mill.NodesAt w' v ns := Mill.nodesAt_below (Mill.nodesAt_own h.out) hb

end Go.Proofs.YtkaoeoeloihigaaGreatDoor
