import Derived.Test.YtdapajkckocmbaaBoxA
import Derived.Deep.Slices
import Derived.ChangeArms
import Derived.OpenShut
import Derived.OpenVars
import Derived.Carry
namespace Go.Proofs.Ytdapajkckocmbaa
open Go.RowKit
namespace Bx
open Go.ChangeShapes Go.WideShapes Go.ChangeAt Go.Deep

theorem cellsLFile : Try.prog.cellsOf 62 = 2 := by kernel_rfl
theorem cellsLPlace : Try.prog.cellsOf 24 = 1 := by kernel_rfl
theorem cellsLFiles : Try.prog.cellsOf 22 = 1 := by kernel_rfl
theorem cellsString : Try.prog.cellsOf 9 = 1 := by kernel_rfl

instance : Inhabited Bx.Fl := ⟨⟨⟨#[]⟩, ⟨#[]⟩⟩⟩
theorem lt_cell {W : World} {b o : Nat} {v : Value} (h : W.cell? ⟨b, o, none⟩ = some v) : b < W.heap.size := by
  unfold World.cell? at h
  split at h
  · rename_i hb; exact (Array.getElem?_eq_some_iff.1 hb).1
  · cases h
set_option maxRecDepth 100000 in
theorem file_open {H : Type} {enc : TypeId × Value → H} {w : World} {base : Nat} {spare : Nat → Bool} {held : Bool} {fuel : Nat} {cs : List Value} {x : DataW H × List MemPlace}
    (h : DataW.trod enc Try.prog w base spare held fuel 62 cs = some x) : ∃ d : Bx.Fl, cs = Bx.fC d ∧ d.name.size ≤ 9223372036854775807 ∧ d.text.size ≤ 9223372036854775807 := by
  obtain ⟨xs, n, _, _, hlen, hxl, hf⟩ := DataW.trod_struct Try.underlying62 h
  rw [cellsLFile] at hlen
  have hxl2 : xs.length = 2 := hxl
  clear hxl
  match xs, hxl2, cs, hlen with
  | [y0, y1], _, [v0, v1], _ =>
    have f0 : DataW.trod enc Try.prog w base spare held n 9 (([v0, v1].drop 0).take (Try.prog.cellsOf 9)) = some y0 := hf 0 _ rfl
    rw [cellsString] at f0
    have e0 : DataW.trod enc Try.prog w base spare held n 9 [v0] = some y0 := f0
    have f1 : DataW.trod enc Try.prog w base spare held n 9 (([v0, v1].drop 1).take (Try.prog.cellsOf 9)) = some y1 := hf 1 _ rfl
    rw [cellsString] at f1
    have e1 : DataW.trod enc Try.prog w base spare held n 9 [v1] = some y1 := f1
    obtain ⟨z0, h0, _, hs0⟩ := DataW.trod_string Try.underlying9 e0
    obtain ⟨z1, h1, _, hs1⟩ := DataW.trod_string Try.underlying9 e1
    cases h0; cases h1
    exact ⟨⟨z0, z1⟩, rfl, by simpa [maxLen] using hs0, by simpa [maxLen] using hs1⟩
theorem files_open {H : Type} {enc : TypeId × Value → H} {w : World} {base : Nat} {spare : Nat → Bool} {held : Bool} {fuel : Nat} {v : Value} {x : DataW H × List MemPlace}
    (h : DataW.trod enc Try.prog w base spare held fuel 22 [v] = some x) : ∃ fs : List Bx.Fl, Bx.Off w v fs ∧ fs.length ≤ 9223372036854775807 ∧ ∀ d ∈ fs, d.name.size ≤ 9223372036854775807 ∧ d.text.size ≤ 9223372036854775807 := by
  rcases open_slice Try.underlying22 h with ⟨hv, _⟩ | ⟨a, len, cap, m, n, D, Pl, hv, hb, hl, hm, hmm, _, hx⟩
  · cases hv
    exact ⟨[], ⟨none, 0, rfl, fun i hi => by simp at hi⟩, by simp, by simp⟩
  · cases hv
    have hlm : len ≤ m := by rw [hmm]; split <;> omega
    rw [cellsLFile] at hx
    obtain ⟨d, hd⟩ := choose_lt (α := Bx.Fl) (n := len) (p := fun i d => w.cells? base (a.add (i * 2)) 2 = some (Bx.fC d) ∧ d.name.size ≤ 9223372036854775807 ∧ d.text.size ≤ 9223372036854775807) (fun i hi => by
      obtain ⟨cs', h1, h2⟩ := hx i (by omega)
      obtain ⟨d, rfl, hs⟩ := file_open h2
      exact ⟨d, h1, hs⟩)
    refine ⟨(List.range len).map d, ⟨some a, cap, by simp, fun i hi => ?_⟩, by simp [maxLen] at hm ⊢; omega, fun e he => ?_⟩
    · have hi' : i < len := by simpa using hi
      obtain ⟨h1, _⟩ := hd i hi'
      obtain ⟨_, _, hcell⟩ := World.cells?_some h1
      have hc0 : w.cell? ((a.add (i * 2)).add 0) = some (.string (d i).name) := hcell 0 (by omega)
      have hc1 : w.cell? ((a.add (i * 2)).add 1) = some (.string (d i).text) := hcell 1 (by omega)
      obtain ⟨b, o, sp⟩ := a
      have hsp : sp = none := by
        obtain ⟨_, _, hcell0⟩ := World.cells?_some (hd 0 (by omega)).1
        have e0 : w.cell? ((Addr.add ⟨b, o, sp⟩ (0 * 2)).add 0) = some (.string (d 0).name) := hcell0 0 (by omega)
        simp [Addr.add] at e0
        exact World.cell?_spot e0
      subst hsp
      have hadd : ∀ o k, (Addr.add ⟨b, o, none⟩ k) = ⟨b, o + k, none⟩ := fun o k => by unfold Addr.add; split <;> simp_all
      rw [hadd, hadd] at hc0 hc1
      rw [Nat.add_zero] at hc0
      refine ⟨b, o, rfl, lt_cell hc0, ?_, ?_⟩
      · rw [hc0]; simp
      · rw [hc1]; simp
    · simp only [List.mem_map, List.mem_range] at he
      obtain ⟨i, hi, rfl⟩ := he
      exact (hd i hi).2
set_option maxRecDepth 100000 in
theorem place_open {H : Type} {enc : TypeId × Value → H} {w : World} {base b0 : Nat} {r : Reach} {spare : Nat → Bool} {held : Bool} {v : Value} {d : DataW H} {p : List MemPlace} (hv : Value.okWide Try.prog w r b0 24 v)
    (h : DataW.Trod enc Try.prog w base spare held 24 v d p) : ∃ (s : Value) (fs : List Bx.Fl), v = .agg #[s] ∧ Bx.Off w s fs ∧ fs.length ≤ 9223372036854775807 ∧ ∀ d ∈ fs, d.name.size ≤ 9223372036854775807 ∧ d.text.size ≤ 9223372036854775807 := by
  obtain ⟨cs, rfl, hsz⟩ := okWide_struct Try.underlying24 hv
  rw [cellsLPlace] at hsz
  obtain ⟨fuel, hf⟩ := h
  obtain ⟨xs, m, _, _, _, hxl, hfld⟩ := DataW.trod_struct Try.underlying24 hf
  have hxl3 : xs.length = 1 := hxl
  obtain ⟨l⟩ := cs
  match l, hsz, xs, hxl3 with
  | [v0], _, [y0], _ =>
    have f0 : DataW.trod enc Try.prog w base spare held m 22 (((Value.agg #[v0]).cells.toList.drop 0).take (Try.prog.cellsOf 22)) = some y0 := hfld 0 _ rfl
    rw [cellsLFiles] at f0
    have e0 : DataW.trod enc Try.prog w base spare held m 22 [v0] = some y0 := f0
    obtain ⟨fs, hN, hn, hx⟩ := files_open e0
    exact ⟨v0, fs, rfl, hN, hn, hx⟩
end Bx
end Go.Proofs.Ytdapajkckocmbaa
