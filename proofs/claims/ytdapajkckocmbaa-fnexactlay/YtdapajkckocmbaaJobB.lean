import Derived.Test.YtdapajkckocmbaaJobA
import Derived.OwnWalk
namespace Go.Proofs.Ytdapajkckocmbaa
open Go.RowKit

def Jb.Off (w : World) (v : Value) (xs : List ByteArray) : Prop :=
  ∃ a cap, v = .slice a xs.length cap ∧ ∀ i (hi : i < xs.length), ∃ g o, a = some ⟨g, o, none⟩ ∧ g < w.heap.size ∧ w.cell? ⟨g, o + i, none⟩ = some (.string xs[i])
theorem Jb.Off.below {w w' : World} {v : Value} {xs : List ByteArray} (h : Jb.Off w v xs) (hb : Below w.heap.size w w') : Jb.Off w' v xs := by
  obtain ⟨a, cap, rfl, hc⟩ := h
  refine ⟨a, cap, rfl, fun i hi => ?_⟩
  obtain ⟨g, o, ha, hg, hcell⟩ := hc i hi
  exact ⟨g, o, ha, Nat.lt_of_lt_of_le hg hb.size, by rw [hb.cell (p := ⟨g, o + i, none⟩) hg]; exact hcell⟩
def Jb.szL : List ByteArray → Int → Int
  | [], l => l
  | d :: r, l => if l - (d.size : Int) < 0 then -1 else Jb.szL r (l - (d.size : Int))
theorem Jb.ret_int {a b : Int} (h : a = b) : (Ending.returned (.int .i64 a) : Ending) = .returned (.int .i64 b) := by rw [h]
def Jb.fillTo (ns : List ByteArray) : Nat → List Value → List Value
  | 0, xs => xs
  | i + 1, xs => match ns[i]? with
    | some d => (Jb.fillTo ns i xs).set i (.string d)
    | none => Jb.fillTo ns i xs
theorem Jb.fillTo_len (ns : List ByteArray) (i : Nat) (xs : List Value) : (Jb.fillTo ns i xs).length = xs.length := by
  induction i with
  | zero => rfl
  | succ i ih =>
    rw [Jb.fillTo]
    split
    · rw [List.length_set, ih]
    · exact ih
theorem Jb.fillTo_at (ns : List ByteArray) (n : Nat) (xs : List Value) (hn : n ≤ xs.length) (hl : n ≤ ns.length) (i : Nat) (hi : i < n) : (Jb.fillTo ns n xs)[i]? = some (.string (ns[i]'(by omega))) := by
  induction n with
  | zero => omega
  | succ n ih =>
    rw [Jb.fillTo]
    have hns : ns[n]? = some (ns[n]'(by omega)) := List.getElem?_eq_getElem (by omega)
    rw [hns]
    simp only
    by_cases h : i = n
    · subst h
      rw [List.getElem?_set_self (by rw [Jb.fillTo_len]; omega)]
    · rw [List.getElem?_set_ne (by omega)]
      exact ih (by omega) (by omega) (by omega)
theorem Jb.fillTo_all (ns : List ByteArray) (xs : List Value) (h : xs.length = ns.length) : Jb.fillTo ns ns.length xs = ns.map Value.string := by
  apply List.ext_getElem?
  intro j
  by_cases hj : j < ns.length
  · rw [Jb.fillTo_at ns ns.length xs (by omega) (Nat.le_refl _) j hj, List.getElem?_map, List.getElem?_eq_getElem hj]; rfl
  · rw [List.getElem?_eq_none (by rw [Jb.fillTo_len]; omega), List.getElem?_eq_none (by rw [List.length_map]; omega)]
theorem Try.infoStr : (Try.prog.info? 9).map (fun i => (i.zero, i.size, i.bytes)) = some (some (.string ByteArray.empty), 1, 16) := by kernel_rfl
end Go.Proofs.Ytdapajkckocmbaa
