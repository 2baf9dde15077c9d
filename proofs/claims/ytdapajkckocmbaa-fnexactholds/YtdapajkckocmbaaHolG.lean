import Derived.Test.YtdapajkckocmbaaHolA
import Derived.Test.YtdapajkckocmbaaBoxE
namespace Go.Proofs.Ytdapajkckocmbaa
open Go.RowKit
namespace Bx
open Go.ChangeShapes Go.WideShapes Go.ChangeAt Go.Deep

theorem cellsLSeen : Try.prog.cellsOf 79 = 4 := by kernel_rfl
theorem cellsLReply : Try.prog.cellsOf 77 = 2 := by kernel_rfl
theorem cellsInt : Try.prog.cellsOf 3 = 1 := by kernel_rfl
instance : Inhabited Bx.Sn := ⟨⟨0, ⟨#[]⟩, 0, ⟨#[]⟩⟩⟩
set_option maxRecDepth 100000 in
theorem reply_open {H : Type} {enc : TypeId × Value → H} {w : World} {base : Nat} {spare : Nat → Bool} {held : Bool} {fuel : Nat} {cs : List Value} {x : DataW H × List MemPlace}
    (h : DataW.trod enc Try.prog w base spare held fuel 77 cs = some x) : ∃ (c : Int) (t : ByteArray), cs = [.int .i64 c, .string t] ∧ t.size ≤ 9223372036854775807 := by
  obtain ⟨xs, n, _, _, hlen, hxl, hf⟩ := DataW.trod_struct Try.underlying77 h
  rw [cellsLReply] at hlen
  have hxl2 : xs.length = 2 := hxl
  clear hxl
  match xs, hxl2, cs, hlen with
  | [y0, y1], _, [v0, v1], _ =>
    have f0 : DataW.trod enc Try.prog w base spare held n 3 (([v0, v1].drop 0).take (Try.prog.cellsOf 3)) = some y0 := hf 0 _ rfl
    rw [cellsInt] at f0
    have e0 : DataW.trod enc Try.prog w base spare held n 3 [v0] = some y0 := f0
    have f1 : DataW.trod enc Try.prog w base spare held n 9 (([v0, v1].drop 1).take (Try.prog.cellsOf 9)) = some y1 := hf 1 _ rfl
    rw [cellsString] at f1
    have e1 : DataW.trod enc Try.prog w base spare held n 9 [v1] = some y1 := f1
    obtain ⟨z0, h0, _, _⟩ := DataW.trod_int Try.underlying3 e0
    obtain ⟨z1, h1, _, hs1⟩ := DataW.trod_string Try.underlying9 e1
    cases h0; cases h1
    exact ⟨z0, z1, rfl, by simpa [maxLen] using hs1⟩
set_option maxRecDepth 100000 in
theorem seen_open {H : Type} {enc : TypeId × Value → H} {w : World} {base : Nat} {spare : Nat → Bool} {held : Bool} {fuel : Nat} {cs : List Value} {x : DataW H × List MemPlace}
    (h : DataW.trod enc Try.prog w base spare held fuel 79 cs = some x) : ∃ d : Bx.Sn, cs = Bx.sC d ∧ d.name.size ≤ 9223372036854775807 ∧ d.text.size ≤ 9223372036854775807 := by
  obtain ⟨xs, n, _, _, hlen, hxl, hf⟩ := DataW.trod_struct Try.underlying79 h
  rw [cellsLSeen] at hlen
  have hxl2 : xs.length = 3 := hxl
  clear hxl
  match xs, hxl2, cs, hlen with
  | [y0, y1, y2], _, [v0, v1, v2, v3], _ =>
    have f0 : DataW.trod enc Try.prog w base spare held n 3 (([v0, v1, v2, v3].drop 0).take (Try.prog.cellsOf 3)) = some y0 := hf 0 _ rfl
    rw [cellsInt] at f0
    have e0 : DataW.trod enc Try.prog w base spare held n 3 [v0] = some y0 := f0
    have f1 : DataW.trod enc Try.prog w base spare held n 9 (([v0, v1, v2, v3].drop 1).take (Try.prog.cellsOf 9)) = some y1 := hf 1 _ rfl
    rw [cellsString] at f1
    have e1 : DataW.trod enc Try.prog w base spare held n 9 [v1] = some y1 := f1
    have f2 : DataW.trod enc Try.prog w base spare held n 77 (([v0, v1, v2, v3].drop 2).take (Try.prog.cellsOf 77)) = some y2 := hf 2 _ rfl
    rw [cellsLReply] at f2
    have e2 : DataW.trod enc Try.prog w base spare held n 77 [v2, v3] = some y2 := f2
    obtain ⟨z0, h0, _, _⟩ := DataW.trod_int Try.underlying3 e0
    obtain ⟨z1, h1, _, hs1⟩ := DataW.trod_string Try.underlying9 e1
    obtain ⟨c, t, h2, hs2⟩ := reply_open e2
    cases h0; cases h1; cases h2
    exact ⟨⟨z0, z1, c, t⟩, rfl, by simpa [maxLen] using hs1, hs2⟩
theorem seens_open {H : Type} {enc : TypeId × Value → H} {w : World} {base : Nat} {spare : Nat → Bool} {held : Bool} {fuel : Nat} {v : Value} {x : DataW H × List MemPlace}
    (h : DataW.trod enc Try.prog w base spare held fuel 46 [v] = some x) : ∃ ss : List Bx.Sn, Bx.SOff w v ss ∧ ss.length ≤ 9223372036854775807 ∧ ∀ d ∈ ss, d.name.size ≤ 9223372036854775807 ∧ d.text.size ≤ 9223372036854775807 := by
  rcases open_slice Try.underlying46 h with ⟨hv, _⟩ | ⟨a, len, cap, m, n, D, Pl, hv, hb, hl, hm, hmm, _, hx⟩
  · cases hv
    exact ⟨[], ⟨none, 0, rfl, fun i hi => by simp at hi⟩, by simp, by simp⟩
  · cases hv
    have hlm : len ≤ m := by rw [hmm]; split <;> omega
    rw [cellsLSeen] at hx
    obtain ⟨d, hd⟩ := choose_lt (α := Bx.Sn) (n := len) (p := fun i d => w.cells? base (a.add (i * 4)) 4 = some (Bx.sC d) ∧ d.name.size ≤ 9223372036854775807 ∧ d.text.size ≤ 9223372036854775807) (fun i hi => by
      obtain ⟨cs', h1, h2⟩ := hx i (by omega)
      obtain ⟨d, rfl, hs⟩ := seen_open h2
      exact ⟨d, h1, hs⟩)
    refine ⟨(List.range len).map d, ⟨some a, cap, by simp, fun i hi => ?_⟩, by simp [maxLen] at hm ⊢; omega, fun e he => ?_⟩
    · have hi' : i < len := by simpa using hi
      obtain ⟨h1, _⟩ := hd i hi'
      obtain ⟨_, _, hcell⟩ := World.cells?_some h1
      have hc0 : w.cell? ((a.add (i * 4)).add 0) = some (.int .i64 (d i).kind) := hcell 0 (by omega)
      have hc1 : w.cell? ((a.add (i * 4)).add 1) = some (.string (d i).name) := hcell 1 (by omega)
      have hc2 : w.cell? ((a.add (i * 4)).add 2) = some (.int .i64 (d i).code) := hcell 2 (by omega)
      have hc3 : w.cell? ((a.add (i * 4)).add 3) = some (.string (d i).text) := hcell 3 (by omega)
      obtain ⟨b, o, sp⟩ := a
      have hsp : sp = none := by
        obtain ⟨_, _, hcell0⟩ := World.cells?_some (hd 0 (by omega)).1
        have e0 : w.cell? ((Addr.add ⟨b, o, sp⟩ (0 * 4)).add 0) = some (.int .i64 (d 0).kind) := hcell0 0 (by omega)
        simp [Addr.add] at e0
        exact World.cell?_spot e0
      subst hsp
      have hadd : ∀ o k, (Addr.add ⟨b, o, none⟩ k) = ⟨b, o + k, none⟩ := fun o k => by unfold Addr.add; split <;> simp_all
      rw [hadd, hadd] at hc0 hc1 hc2 hc3
      rw [Nat.add_zero] at hc0
      refine ⟨b, o, rfl, lt_cell hc0, ?_, ?_, ?_, ?_⟩
      · rw [hc0]; simp
      · rw [hc1]; simp
      · rw [hc2]; simp
      · rw [hc3]; simp
    · simp only [List.mem_map, List.mem_range] at he
      obtain ⟨i, hi, rfl⟩ := he
      exact (hd i hi).2
end Bx
end Go.Proofs.Ytdapajkckocmbaa
