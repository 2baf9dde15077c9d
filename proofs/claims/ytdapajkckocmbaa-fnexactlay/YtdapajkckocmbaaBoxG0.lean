import Derived.Test.YtdapajkckocmbaaBoxF
import Derived.Test.YtdapajkckocmbaaBoxI
import Derived.Maps.OwnSet
import Derived.Deep.RegionHeld3
namespace Go.Proofs.Ytdapajkckocmbaa
open Go.RowKit Go.Maps Go.WideMaps

def Bx.dF (f : Bx.Fl) : DataW Unit := .agg [.lit (.string f.name.data.toList), .lit (.string f.text.data.toList)]
def Bx.elem (v : Value) : Option (DataW Unit × List MemPlace) :=
  match v with
  | .agg cs => match cs.toList with
    | [.string a, .string b] => some (Bx.dF ⟨a, b⟩, [])
    | _ => none
  | _ => none
theorem Bx.elem_mk (a b : ByteArray) : Bx.elem (.agg #[.string a, .string b]) = some (Bx.dF ⟨a, b⟩, []) := rfl
theorem Bx.data_eq {a b : ByteArray} (h : a.data.toList = b.data.toList) : a = b := ByteArray.ext (Array.toList_inj.1 h)
theorem Bx.elem_inv {v : Value} {f : Bx.Fl} {ps : List MemPlace} (h : Bx.elem v = some (Bx.dF f, ps)) : v = .agg #[.string f.name, .string f.text] := by
  unfold Bx.elem at h
  split at h
  · rename_i cs
    split at h
    · rename_i a b hl
      obtain ⟨l⟩ := cs
      simp only at hl
      subst hl
      simp only [Bx.dF, Option.some.injEq, Prod.mk.injEq, DataW.agg.injEq, List.cons.injEq, DataW.lit.injEq, Lit.string.injEq, and_true] at h
      obtain ⟨⟨h1, h2⟩, _⟩ := h
      rw [Bx.data_eq h1, Bx.data_eq h2]
    · cases h
  · cases h
def Bx.Reads (D : DataW Unit) (fs : List Bx.Fl) : Prop := IsMap D ∧ ∀ (x : ByteArray) (zd : DataW Unit), D.atKey (.string x.data.toList) zd = match Bx.look fs x with | some f => Bx.dF f | none => zd
theorem Bx.reads_nil : Bx.Reads (.map []) [] := ⟨⟨_, rfl⟩, fun _ _ => rfl⟩
theorem Bx.Reads.has {D : DataW Unit} {fs : List Bx.Fl} (h : Bx.Reads D fs) (x : ByteArray) : Maps.has D (.string x.data.toList) = (Bx.look fs x).isSome := by
  have h2 := h.2 x
  cases hl : Bx.look fs x with
  | none => rw [hl] at h2; exact Maps.has_false_of_atKey h2
  | some f => rw [hl] at h2; exact Maps.has_true_of_atKey h2
theorem Bx.Reads.put {D : DataW Unit} {fs : List Bx.Fl} (h : Bx.Reads D fs) (hu : Bx.Up fs) (f : Bx.Fl) : Bx.Reads (D.put (.string f.name.data.toList) (Bx.dF f)) (Bx.put fs f) := by
  refine ⟨?_, fun x zd => ?_⟩
  · obtain ⟨l, rfl⟩ := h.1; exact ⟨_, rfl⟩
  · rw [Bx.look_put hu]
    by_cases e : f.name = x
    · subst e
      rw [if_pos rfl, Maps.atKey_put_same h.1 (by trivial)]
    · have hne : (Lit.string x.data.toList) ≠ (Lit.string f.name.data.toList) := fun e2 => e (by injection e2 with e2; exact (Bx.data_eq e2).symm)
      rw [if_neg e, Maps.atKey_put_other hne]; exact h.2 x zd
def Bx.MapIs (w : World) (mb n : Nat) (fs : List Bx.Fl) : Prop := ∃ D, w.ownsMap Try.prog 9 Bx.elem mb n D ∧ Bx.Reads D fs
theorem Try.lawStr : Keyed Try.prog 9 := string_keyed Try.underlying9
theorem Try.zeroFile (w : World) : (zeroValue 55).run Try.prog w = .ok (.agg #[.string ⟨#[]⟩, .string ⟨#[]⟩]) w := by kernel_rfl
theorem Bx.MapIs.below {w w' : World} {mb n : Nat} {fs : List Bx.Fl} (h : Bx.MapIs w mb n fs) (hb : Below w.heap.size w w') : Bx.MapIs w' mb n fs := by
  obtain ⟨D, ho, hr⟩ := h
  exact ⟨D, World.ownsMap.kept (row := none) ho ⟨hb.os, hb.tape, hb.output, hb.size, fun k hk _ => hb.block k hk⟩ (by simp), hr⟩
structure Bx.BoxAt (w : World) (B g : Nat) (fs : List Bx.Fl) (ns : List ByteArray) (mb K : Nat) (a : Option Addr) (n cap : Nat) : Prop where
  blk : w.heap[g]? = some (.cells #[.map (some mb), .slice a n cap] 72 (0, 0))
  le : B ≤ g
  lem : B ≤ mb
  map : Bx.MapIs w mb K fs
  row : w.ownsRow B 9 1 (.slice a n cap) n (Bi.ints ns)
theorem Bx.BoxAt.below {w w' : World} {B g : Nat} {fs : List Bx.Fl} {ns : List ByteArray} {mb K : Nat} {a : Option Addr} {n cap : Nat} (h : Bx.BoxAt w B g fs ns mb K a n cap) (hb : Below w.heap.size w w') : Bx.BoxAt w' B g fs ns mb K a n cap := by
  exact ⟨by rw [hb.block g (Array.getElem?_eq_some_iff.1 h.blk).1]; exact h.blk, h.le, h.lem, h.map.below hb, Bx.own_below h.row hb⟩
def Bx.val : Option Bx.Fl → Value
  | some f => .agg #[.string f.name, .string f.text]
  | none => .agg #[.string ⟨#[]⟩, .string ⟨#[]⟩]
theorem Bx.BoxAt.look {w : World} {B g : Nat} {fs : List Bx.Fl} {ns : List ByteArray} {mb K : Nat} {a : Option Addr} {n cap : Nat} (h : Bx.BoxAt w B g fs ns mb K a n cap) {x : ByteArray} (hx : x.size ≤ 1048576) :
    (Instr.lookup 69 (.map (some mb)) (.string x) true).run Try.prog w = .ok (.tuple #[Bx.val (Bx.look fs x), .bool (Bx.look fs x).isSome]) w := by
  obtain ⟨D, ho, hr⟩ := h.map
  obtain ⟨v, ps, hrun, hv⟩ := ho.look_ok Try.lawStr Try.underlying69 (Try.zeroFile w) (Bx.elem_mk _ _) (keyOf_string_mk Try.underlying9 (s := x) (by unfold maxLen; omega))
  rw [hr.has] at hrun
  rw [hr.2] at hv
  rw [hrun]
  cases hl : Bx.look fs x with
  | none => rw [hl] at hv; rw [Bx.elem_inv hv]; rfl
  | some f => rw [hl] at hv; rw [Bx.elem_inv hv]; rfl
theorem Bx.MapIs.store {w : World} {mb K : Nat} {fs : List Bx.Fl} (h : Bx.MapIs w mb K fs) (hu : Bx.Up fs) (hK : K ≤ 1000000) (a b : ByteArray) (ha : a.size ≤ 1048576) :
    ∃ w', (Instr.mapUpdate 69 (.map (some mb)) (.string a) (.agg #[.string a, .string b])).run Try.prog w = .ok () w' ∧ Bx.MapIs w' mb (K + 1) (Bx.put fs ⟨a, b⟩) ∧ w.grownBy w' (some mb) := by
  obtain ⟨D, ho, hr⟩ := h
  obtain ⟨w', hrun, ho', hg⟩ := ho.update Try.lawStr Try.underlying69 (by unfold maxLen; omega) (keyOf_string_mk Try.underlying9 (s := a) (by unfold maxLen; omega)) (Bx.elem_mk a b)
  exact ⟨w', hrun, ⟨_, ho', hr.put hu ⟨a, b⟩⟩, hg⟩
theorem Bx.BoxAt.ne {w : World} {B g : Nat} {fs : List Bx.Fl} {ns : List ByteArray} {mb K : Nat} {a : Option Addr} {n cap : Nat} (h : Bx.BoxAt w B g fs ns mb K a n cap) : g ≠ mb := fun e => by
  obtain ⟨D, ⟨es, clock, hb, _⟩, _⟩ := h.map
  rw [← e, h.blk] at hb; cases hb
theorem Bx.BoxAt.rowne {w : World} {B g : Nat} {fs : List Bx.Fl} {ns : List ByteArray} {mb K : Nat} {a : Option Addr} {n cap : Nat} (h : Bx.BoxAt w B g fs ns mb K a n cap) : (Value.slice a n cap).ownBlock = none ∨ ((Value.slice a n cap).ownBlock ≠ some mb ∧ (Value.slice a n cap).ownBlock ≠ some g) := by
  obtain ⟨D, ⟨es, clock, hb, _⟩, _⟩ := h.map
  rcases h.row.2 with ⟨hv, _⟩ | ⟨g2, cap2, cur, hv, _, hg2, _⟩
  · rw [hv]; exact .inl rfl
  · rw [hv]
    refine .inr ⟨fun e => ?_, fun e => ?_⟩
    · have : g2 = mb := by simpa [Value.ownBlock] using e
      rw [this, hb] at hg2; cases hg2
    · have : g2 = g := by simpa [Value.ownBlock] using e
      rw [this, h.blk] at hg2
      injection hg2 with hg2; injection hg2 with _ h2; exact absurd h2 (by decide)
theorem Bx.BoxAt.store {w : World} {B g : Nat} {fs fs' : List Bx.Fl} {ns : List ByteArray} {mb K : Nat} {a0 : Option Addr} {n cap : Nat} (h : Bx.BoxAt w B g fs ns mb K a0 n cap) {w' : World} (hm : Bx.MapIs w' mb (K + 1) fs') (hg : w.grownBy w' (some mb)) : Bx.BoxAt w' B g fs' ns mb (K + 1) a0 n cap := by
  refine ⟨by rw [hg.block g (Array.getElem?_eq_some_iff.1 h.blk).1 (fun e => h.ne (by injection e))]; exact h.blk, h.le, h.lem, hm, ?_⟩
  refine h.row.kept hg ?_
  rcases h.rowne with h1 | h1
  · exact .inl h1
  · exact .inr h1.1
theorem Bx.look_mem {fs : List Bx.Fl} {x : ByteArray} {f : Bx.Fl} (h : Bx.look fs x = some f) : ∃ a ∈ fs, a.name = x := by
  unfold Bx.look at h
  exact ⟨f, List.mem_of_find?_eq_some h, by simpa using List.find?_some h⟩
def Bx.SetPost (B g : Nat) (fs : List Bx.Fl) (mb K : Nat) (a b : ByteArray) (w : World) (e : Ending) (w' : World) : Prop := e = .returned (.tuple #[]) ∧ (∃ a1 n1 cap1, (Bx.put fs ⟨a, b⟩).length = n1 ∧ Bx.BoxAt w' B g (Bx.put fs ⟨a, b⟩) ((Bx.put fs ⟨a, b⟩).map Bx.Fl.name) mb (K + 1) a1 n1 cap1) ∧ Below B w w'
theorem Bx.search_any (B : Nat) (fs : List Bx.Fl) (hu : Bx.Up fs) (a0 : Option Addr) (n cap : Nat) (hn : fs.length = n) (x : ByteArray) (w : World) (hl : n ≤ 1000000) (hrow : w.ownsRow B 9 1 (.slice a0 n cap) n (Bi.ints (fs.map Bx.Fl.name))) (hx : Bx.look fs x = none) :
    Calls Try.prog 55 #[.slice a0 n cap, .string x] w fun e w' => e = .returned (.tuple #[.int .i64 (Bx.cut fs x : Nat), .bool false]) ∧ ∃ q, w' = w.drewN q := by
  rcases hrow.2 with ⟨hv, h0⟩ | ⟨g, c2, cur, hv, _, hg, hnc, _, hsz, htk⟩
  · injection hv with e1 e2 e3
    subst h0 e1
    have hfs : fs = [] := List.length_eq_zero_iff.1 hn
    subst hfs
    refine (Any2.slices_BinarySearch_string_empty Try.laysBs none cap x w).mono ?_
    rintro e w' ⟨rfl, rfl⟩
    exact ⟨rfl, 0, rfl⟩
  · injection hv with e1 e2 e3
    subst e1 e3
    have hS : ∀ t (ht : t < fs.length), ((fs[t]?).map Bx.Fl.name).getD ByteArray.empty = fs[t].name := fun t ht => by simp [List.getElem?_eq_getElem ht]
    have hcall := Any2.slices_BinarySearch_string Try.laysBs g 0 n cap (fun t => ((fs[t]?).map Bx.Fl.name).getD ByteArray.empty) x w (by omega) (fun j hj => by
      have hj2 : j < fs.length := by omega
      rw [hS j hj2, Nat.zero_add, hrow.cellAt j (by omega)]
      simp [Bi.ints, List.getElem?_eq_getElem hj2])
    refine hcall.mono ?_
    rintro e w' ⟨rfl, q, rfl⟩
    refine ⟨?_, q, rfl⟩
    have hse := Bx.search hu x (fun t => ((fs[t]?).map Bx.Fl.name).getD ByteArray.empty) hS
    rw [hn] at hse
    rw [hse]
    have hno : ¬ (Bx.cut fs x < n ∧ ((fs[Bx.cut fs x]?).map Bx.Fl.name).getD ByteArray.empty = x) := by
      rintro ⟨h1, h2⟩
      have h3 : Bx.cut fs x < fs.length := by omega
      rw [hS _ h3] at h2
      exact Bx.look_none_iff.1 hx _ (List.getElem_mem h3) h2
    simp only [decide_eq_false hno]
end Go.Proofs.Ytdapajkckocmbaa
