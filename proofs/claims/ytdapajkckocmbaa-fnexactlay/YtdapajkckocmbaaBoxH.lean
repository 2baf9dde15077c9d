import Derived.Test.YtdapajkckocmbaaBoxG2
namespace Go.Proofs.Ytdapajkckocmbaa
open Go.RowKit Go.Maps Go.WideMaps

theorem Bx.set_any (B g : Nat) (fs : List Bx.Fl) (hu : Bx.Up fs) (mb K : Nat) (a0 : Option Addr) (n cap : Nat) (hn : fs.length = n) (a b : ByteArray) (w : World) (hB : B ≤ w.heap.size) (hl : n ≤ 1000) (hK : K ≤ 1000) (ha : a.size ≤ 1048576) (h : Bx.BoxAt w B g fs (fs.map Bx.Fl.name) mb K a0 n cap) :
    Calls Try.prog 40 #[.pointer (some ⟨g, 0, none⟩), .agg #[.string a, .string b]] w (Bx.SetPost B g fs mb K a b w) := by
  cases hf : Bx.look fs a with
  | some f0 => exact Bx.set_there B g fs hu mb K a0 n cap hn a b w hB hl hK ha h f0 hf
  | none => exact Bx.set_new B g fs hu mb K a0 n cap hn a b w hB hl hK ha h hf
/-- A box that holds these files. -/
def Bx.Holds (w : World) (B g : Nat) (fs : List Bx.Fl) (K : Nat) : Prop := ∃ mb a n cap, fs.length = n ∧ Bx.BoxAt w B g fs (fs.map Bx.Fl.name) mb K a n cap
theorem Bx.Holds.below {w w' : World} {B g : Nat} {fs : List Bx.Fl} {K : Nat} (h : Bx.Holds w B g fs K) (hb : Below w.heap.size w w') : Bx.Holds w' B g fs K := by
  obtain ⟨mb, a, n, cap, hn, h⟩ := h; exact ⟨mb, a, n, cap, hn, h.below hb⟩
theorem Bx.Holds.lt {w : World} {B g : Nat} {fs : List Bx.Fl} {K : Nat} (h : Bx.Holds w B g fs K) : B ≤ g ∧ g < w.heap.size := by
  obtain ⟨mb, a, n, cap, hn, h⟩ := h; exact ⟨h.le, (Array.getElem?_eq_some_iff.1 h.blk).1⟩
theorem Bx.set_holds (B g : Nat) (fs : List Bx.Fl) (hu : Bx.Up fs) (K : Nat) (a b : ByteArray) (w : World) (hB : B ≤ w.heap.size) (hl : fs.length ≤ 1000) (hK : K ≤ 1000) (ha : a.size ≤ 1048576) (h : Bx.Holds w B g fs K) :
    Calls Try.prog 40 #[.pointer (some ⟨g, 0, none⟩), .agg #[.string a, .string b]] w fun e w' => e = .returned (.tuple #[]) ∧ Bx.Holds w' B g (Bx.put fs ⟨a, b⟩) (K + 1) ∧ Below B w w' := by
  obtain ⟨mb, a0, n, cap, hn, h⟩ := h
  refine (Bx.set_any B g fs hu mb K a0 n cap hn a b w hB (by omega) hK ha h).mono ?_
  rintro e w' ⟨rfl, ⟨a1, n1, cap1, hn1, h1⟩, hb⟩
  exact ⟨rfl, ⟨mb, a1, n1, cap1, hn1, h1⟩, hb⟩
set_option maxRecDepth 100000 in
set_option maxHeartbeats 2000000 in
theorem Bx.boxOf_any (fs : List Bx.Fl) (hu : Bx.Up fs) (v : Value) (w : World) (hl : fs.length ≤ 900) (hx : ∀ d ∈ fs, d.name.size ≤ 1048576) (hN : Bx.Off w v fs) :
    Calls Try.prog 32 #[.agg #[v]] w fun e w' => ∃ g, e = .returned (.pointer (some ⟨g, 0, none⟩)) ∧ Bx.Holds w' w.heap.size g fs fs.length ∧ Below w.heap.size w w' := by
  have hmm := @run_makeMap Try.prog
  obtain ⟨p, cap, rfl, hc⟩ := hN
  obtain ⟨n, HN⟩ : ∃ n, Hid (fs.length = n) := ⟨_, (rfl : fs.length = _)⟩
  have HC : Hid (∀ i (hi : i < fs.length), ∃ g o, p = some ⟨g, o, none⟩ ∧ g < w.heap.size ∧ w.cell? ⟨g, o + i * 2, none⟩ = some (.string fs[i].name) ∧ w.cell? ⟨g, o + i * 2 + 1, none⟩ = some (.string fs[i].text)) := hc
  clear hc
  rw [HN.out] at hl
  simp only [HN.out]
  go_enter Try.func32, Try.ntmps32
  go_wp2_with fail
  have H0 : Bx.Holds (((w.alloc (Obj.cells #[Value.slice p n cap] 29)).alloc (Obj.map #[] 0)).alloc (Obj.cells #[Value.map (some (w.heap.size + 1)), Value.slice none 0 0] 72)) (w.heap.size + 1) (w.heap.size + 1 + 1) (fs.take 0) 0 := by
    refine ⟨w.heap.size + 1, none, 0, 0, by simp, ?_, by omega, by omega, ?_, ?_⟩
    · have h := (MapKept.heap_alloc ((w.alloc (Obj.cells #[Value.slice p n cap] 29)).alloc (Obj.map #[] 0)) (Obj.cells #[Value.map (some (w.heap.size + 1)), Value.slice none 0 0] 72)).1
      simpa using h
    · have h : ((w.alloc (Obj.cells #[Value.slice p n cap] 29)).alloc (Obj.map #[] 0)).ownsMap Try.prog 9 Bx.elem (w.alloc (Obj.cells #[Value.slice p n cap] 29)).heap.size 0 (.map []) := World.ownsMap_made _ _ _ _
      rw [World.size_alloc] at h
      exact ⟨_, h.alloc _, by simpa using Bx.reads_nil⟩
    · exact ⟨by simp [Bi.ints], .inl ⟨rfl, rfl⟩⟩
  have HH0 := (show Hid (Bx.Holds _ (w.heap.size + 1) (w.heap.size + 1 + 1) (fs.take 0) 0) from H0)
  clear H0
  have hb0 : Below w.heap.size w (((w.alloc (Obj.cells #[Value.slice p n cap] 29)).alloc (Obj.map #[] 0)).alloc (Obj.cells #[Value.map (some (w.heap.size + 1)), Value.slice none 0 0] 72)) := (((Below.refl _ w).alloc (Nat.le_refl _) _).alloc (by simp) _).alloc (by simp only [World.size_alloc]; omega) _
  go_loopw [12] (fun t wr => ∃ i : Nat, i ≤ n ∧ t = .int .i64 (i : Int) ∧ Bx.Holds wr (w.heap.size + 1) (w.heap.size + 1 + 1) (fs.take i) i ∧ Below w.heap.size w wr) (fun t _ => n - (intOf t).toNat)
  case atStart => exact ⟨0, by omega, rfl, HH0.out, hb0⟩
  case round =>
    obtain ⟨i, hi, rfl, hH, hbw⟩ := hrel
    have hz := hbw.size
    by_cases hlt : i < n
    · have hil : i < fs.length := by rw [HN.out]; exact hlt
      obtain ⟨g, o, rfl, hg, hcell, hcell2⟩ := HC.out i hil
      have e0 : wr.cell? ⟨g, o + i * 2, none⟩ = some (.string fs[i].name) := by rw [hbw.cell (p := ⟨g, o + i * 2, none⟩) hg, hcell]
      have e1 : wr.cell? ⟨g, o + i * 2 + 1, none⟩ = some (.string fs[i].text) := by rw [hbw.cell (p := ⟨g, o + i * 2 + 1, none⟩) hg, hcell2]
      have hxd := hx fs[i] (List.getElem_mem hil)
      have hlw : w.heap.size + 1 ≤ wr.heap.size := by have := hH.lt; omega
      have HST : Hid (∀ o : Obj, Calls Try.prog 40 #[.pointer (some ⟨w.heap.size + 1 + 1, 0, none⟩), .agg #[.string fs[i].name, .string fs[i].text]] (wr.alloc o) fun e w' => e = .returned (.tuple #[]) ∧ Bx.Holds w' (w.heap.size + 1) (w.heap.size + 1 + 1) (fs.take (i + 1)) (i + 1) ∧ Below (w.heap.size + 1) (wr.alloc o) w') := fun o => by
        have := Bx.set_holds (w.heap.size + 1) (w.heap.size + 1 + 1) (fs.take i) (Bx.up_take hu i) i fs[i].name fs[i].text (wr.alloc o) (by simp; omega) (by simp; omega) (by omega) hxd (hH.below ((Below.refl _ wr).alloc (Nat.le_refl _) o))
        rw [show (⟨fs[i].name, fs[i].text⟩ : Bx.Fl) = fs[i] from rfl, Bx.build_up fs hu i hil] at this
        exact this
      generalize fs[i] = d at *
      clear hcell hcell2 HC HH0 hb0 hH
      go_wp2_with (go_at_call 40; refine (HST.out _).mono ?_; rintro e w1 ⟨rfl, hH1, hb1⟩)
      go_roundw
      case rel => exact ⟨i + 1, by omega, by go_num, hH1, (hbw.alloc hz _).trans (hb1.mono (by omega))⟩
      case measure => simp [intOf]; omega
    · have hie : i = n := by omega
      subst hie
      have HF : Hid (Bx.Holds wr w.heap.size (w.heap.size + 1 + 1) fs i) := by
        have e : fs.take i = fs := List.take_of_length_le (by rw [HN.out]; omega)
        rw [e] at hH
        obtain ⟨mb, a, n, cap, hn, h⟩ := hH
        exact ⟨mb, a, n, cap, hn, h.blk, by omega, by have := h.lem; omega, h.map, Bx.own_mono h.row (by omega)⟩
      clear HC hH HH0
      go_wp2
      go_ret
      exact ⟨_, rfl, HF.out, hbw⟩
end Go.Proofs.Ytdapajkckocmbaa
