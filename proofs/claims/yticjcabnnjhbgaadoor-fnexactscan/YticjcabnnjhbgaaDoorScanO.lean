import Derived.Test.YticjcabnnjhbgaaDoorScanN
import Derived.Maps.OwnSet
namespace Go.Proofs.YticjcabnnjhbgaaDoor
open Go.RowKit Go.Maps Go.WideMaps

def Mill.wordList : List (List UInt8 × Int) := [([98, 111, 111, 108], 1), ([116, 101, 120, 116], 2), ([117, 56], 3), ([117, 49, 54], 4), ([117, 51, 50], 5), ([117, 54, 52], 6), ([105, 56], 7), ([105, 49, 54], 8), ([105, 51, 50], 9), ([105, 54, 52], 10), ([102, 110], 0), ([108, 101, 116], 0), ([105, 102], 0), ([101, 108, 115, 101], 0), ([119, 104, 105, 108, 101], 0), ([98, 114, 101, 97, 107], 0), ([99, 111, 110, 116, 105, 110, 117, 101], 0), ([114, 101, 116, 117, 114, 110], 0), ([102, 97, 105, 108], 0), ([119, 114, 105, 116, 101], 0), ([115, 97, 121], 0), ([116, 114, 117, 101], 0), ([102, 97, 108, 115, 101], 0), ([114, 101, 97, 100], 0), ([104, 97, 115], 0), ([108, 105, 115, 116], 0), ([116, 111, 111, 108], 0), ([97, 114, 103], 0), ([108, 101, 110], 0), ([97, 116], 0), ([99, 117, 116], 0), ([102, 105, 110, 100], 0), ([99, 104, 114], 0), ([100, 101, 99], 0), ([110, 117, 109], 0)]
def Mill.wordsD : DataW Unit := Mill.wordList.foldl (fun D p => D.put (.string p.1) (.lit (.int .i64 p.2))) (.map [])

theorem Mill.wpList_insert_own {H : Type} {P : Program} (w : World) {ops : Array Oper} {rest : List Oper} {o : Oper} {a : Act} {Q : Exit → Act → World → Prop}
    (hg : o.guard = none) (m x v : Operand) (t : TypeId) (hop : o.op = Op.insert t m x v)
    (k e : TypeId) (K : Keyed P k) (ht : P.underlying t = some (.map k e)) (R : Value → Option (DataW H × List MemPlace)) (b n : Nat) (D : DataW H)
    (hm : a.eval m = .map (some b)) (hown : w.ownsMap P k R b n D) (hn : n < maxLen) (key val : Value) (kl : Lit) (hx : a.eval x = key) (hv : a.eval v = val) (hkey : keyOf P k key = some kl)
    (d : DataW H) (ps : List MemPlace) (hval : R val = some (d, ps))
    (hK : ∀ w', w'.ownsMap P k R b (n + 1) (D.put kl d) → w.grownBy w' (some b) → wpList P ops Q rest (a.put o.dst undef) w') :
    wpList P ops Q (o :: rest) a w := by
  refine wpList_plain hg fun K' hK' => ?_
  obtain ⟨w', hrun, r1, r2⟩ := hown.update K ht hn hkey hval
  unfold Oper.wp
  simp [execOp, hop, hm, hx, hv, hrun, Result.andThen]
  exact hK' _ _ (hK w' r1 r2)

theorem Tryd.lawStr : Keyed Tryd.prog 9 := string_keyed Tryd.underlying9
theorem Tryd.zeroInt (w : World) : (zeroValue 3).run Tryd.prog w = .ok (.int .i64 0) w := by kernel_rfl

theorem Mill.grow {B : Nat} {w W W' : World} (h : Below B w W) (hs : B < W.heap.size) (g : W.grownBy W' (some B)) : Below B w W' ∧ B < W'.heap.size :=
  ⟨h.grown g (by omega) (fun j hj => by cases hj; exact Nat.le_refl _), by have := g.size; omega⟩

set_option maxRecDepth 100000 in
set_option maxHeartbeats 2000000 in
theorem takenWords_any (w : World) :
    Calls Tryd.prog 22 #[] w fun e w' => e = .returned (.map (some w.heap.size)) ∧ w'.ownsMap Tryd.prog 9 (plainElem Tryd.prog 3) w.heap.size 35 Mill.wordsD ∧ Below w.heap.size w w' := by
  have hmm := @run_makeMap Tryd.prog
  have hM : (w.alloc (.map #[] 0)).ownsMap Tryd.prog 9 (plainElem (H := Unit) Tryd.prog 3) w.heap.size 0 (.map []) := World.ownsMap_made w _ _ _
  have hB : Below w.heap.size w (w.alloc (.map #[] 0)) ∧ w.heap.size < (w.alloc (.map #[] 0)).heap.size := ⟨(Below.refl _ _).alloc (Nat.le_refl _) _, by simp⟩
  go_enter Tryd.func22, Tryd.ntmps22
  go_wp2_with (refine Mill.wpList_insert_own _ rfl _ _ _ 48 rfl 9 3 Tryd.lawStr Tryd.underlying48 _ w.heap.size _ _ rfl hM (by decide) _ _ _ rfl rfl (keyOf_string_mk Tryd.underlying9 (by decide)) _ [] (plainElem_int Tryd.underlying3 (by decide)) ?_; intro w1 hM1 hG1; replace hM := hM1; replace hB := Mill.grow hB.1 hB.2 hG1; clear hM1 hG1)
  go_ret
  exact ⟨rfl, hM, hB.1⟩
end Go.Proofs.YticjcabnnjhbgaaDoor
