import Derived.Test.YtdapajkckocmbaaBoxH
namespace Go.Proofs.Ytdapajkckocmbaa
open Go.RowKit Go.Maps Go.WideMaps

def Bx.lineL (s : ByteArray) (f : Bx.Fl) : List UInt8 := if Lib.hasPrefix f.name.data.toList s.data.toList = true then f.name.data.toList ++ [10] else []
def Bx.listL (fs : List Bx.Fl) (s : ByteArray) : List UInt8 := fs.flatMap (Bx.lineL s)
theorem Bx.listL_len (fs : List Bx.Fl) (s : ByteArray) (hx : ∀ d ∈ fs, d.name.size ≤ 1048576) : (Bx.listL fs s).length ≤ fs.length * 1048577 := by
  induction fs with
  | nil => simp [Bx.listL]
  | cons a r ih =>
    have h1 := ih (fun d hd => hx d (List.mem_cons_of_mem _ hd))
    have h2 := hx a List.mem_cons_self
    have h3 : (Bx.lineL s a).length ≤ 1048577 := by
      unfold Bx.lineL; split
      · rw [List.length_append, Array.length_toList]; simp only [List.length_singleton]; exact Nat.succ_le_succ h2
      · simp
    unfold Bx.listL at h1 ⊢
    rw [List.flatMap_cons, List.length_append, List.length_cons]; omega
theorem Bx.take_line (fs : List Bx.Fl) (s : ByteArray) (i : Nat) (hi : i < fs.length) : Bx.listL (fs.take (i + 1)) s = Bx.listL (fs.take i) s ++ Bx.lineL s fs[i] := by
  unfold Bx.listL
  rw [List.take_add_one, List.getElem?_eq_getElem hi, List.flatMap_append]; simp
theorem Bx.take_len (fs : List Bx.Fl) (s : ByteArray) (i : Nat) (hl : fs.length ≤ 1000) (hx : ∀ d ∈ fs, d.name.size ≤ 1048576) : (Bx.listL (fs.take i) s).length ≤ 1048577000 := by
  have := Bx.listL_len (fs.take i) s (fun d hd => hx d (List.mem_of_mem_take hd))
  have h2 : (fs.take i).length ≤ 1000 := by rw [List.length_take]; omega
  omega
theorem Bx.builder_new (T e : TypeId) (w : World) : Lib.IsBuilderF T e w.heap.size w.heap.size (Lib.byteCells []) (w.alloc (.cells #[.pointer none, .slice none 0 0] T)) := Lib.IsBuilderF.of (Lib.fresh_isBuilder T e w)
theorem Bx.cells_app (l : List UInt8) (s : ByteArray) : Lib.byteCells l ++ Lib.strCells s = Lib.byteCells (l ++ s.data.toList) := by
  simp [Lib.byteCells, Lib.strCells]
theorem Bx.cells_one (l : List UInt8) : Lib.byteCells l ++ [.int .u8 10] = Lib.byteCells (l ++ [10]) := by
  simp [Lib.byteCells]
set_option maxRecDepth 100000 in
set_option maxHeartbeats 2000000 in
theorem Bx.list_any (B g : Nat) (fs : List Bx.Fl) (K : Nat) (s : ByteArray) (w : World) (hl : fs.length ≤ 1000) (hx : ∀ d ∈ fs, d.name.size ≤ 1048576) (_hs : s.size ≤ 1048576) (h : Bx.Holds w B g fs K) :
    Calls Try.prog 52 #[.pointer (some ⟨g, 0, none⟩), .string s] w fun e w' => e = .returned (.string ⟨(Bx.listL fs s).toArray⟩) ∧ Below w.heap.size w w' := by
  obtain ⟨mb, a0, n, cap, hn, h⟩ := h
  have hg : g < w.heap.size := (Array.getElem?_eq_some_iff.1 h.blk).1
  have c1 : w.cell? ⟨g, 1, none⟩ = some (.slice a0 n cap) := by simp [World.cell?, h.blk]
  have HN : Hid (fs.length = n) := hn
  rw [hn] at hl
  have HC : Hid (∀ i (hi : i < fs.length), ∃ g2, a0 = some ⟨g2, 0, none⟩ ∧ g2 < w.heap.size ∧ w.cell? ⟨g2, i, none⟩ = some (.string fs[i].name)) := fun i hi => by
    rcases h.row.2 with ⟨hv, h0⟩ | ⟨g2, c2, cur, hv, _, hg2, _⟩
    · omega
    · injection hv with e1 e2 e3
      subst e1 e3
      refine ⟨g2, rfl, (Array.getElem?_eq_some_iff.1 hg2).1, ?_⟩
      rw [h.row.cellAt i (by omega)]
      simp [Bi.ints, List.getElem?_eq_getElem hi]
  have HTL : Hid (∀ i, (Bx.listL (fs.take i) s).length ≤ 1048577000) := fun i => Bx.take_len fs s i (by omega) hx
  clear h hn
  go_enter Try.func52, Try.ntmps52
  go_wp2_with fail
  have hbn := Bx.builder_new 101 5 w
  go_loopw [13] (fun t wr => ∃ i : Nat, i ≤ n ∧ t = .int .i64 (i : Int) ∧ Lib.IsBuilderF 101 5 w.heap.size w.heap.size (Lib.byteCells (Bx.listL (fs.take i) s)) wr ∧ Below w.heap.size w wr) (fun t _ => n - (intOf t).toNat)
  case atStart => exact ⟨0, by omega, rfl, by simpa [Bx.listL] using hbn, (Below.refl _ w).alloc (Nat.le_refl _) _⟩
  case round =>
    obtain ⟨i, hi, rfl, hbu, hbw⟩ := hrel
    have hz := hbw.size
    by_cases hlt : i < n
    · have hil : i < fs.length := by rw [HN.out]; exact hlt
      obtain ⟨g2, rfl, hg2, hcell⟩ := HC.out i hil
      have e0 : wr.cell? ⟨g2, i, none⟩ = some (.string fs[i].name) := by rw [hbw.cell (p := ⟨g2, i, none⟩) hg2, hcell]
      have hxd := hx fs[i] (List.getElem_mem hil)
      have hTL := HTL.out i
      have HTK : Hid (Bx.listL (fs.take (i + 1)) s = Bx.listL (fs.take i) s ++ Bx.lineL s fs[i]) := Bx.take_line fs s i hil
      have HBU : Hid (Lib.IsBuilderF 101 5 w.heap.size w.heap.size (Lib.byteCells (Bx.listL (fs.take i) s)) wr) := hbu
      have HLN : Hid ((Lib.byteCells (Bx.listL (fs.take i) s)).length ≤ 1048577000) := by rw [Hid, Lib.byteCells, List.length_map]; exact hTL
      generalize fs[i] = d at *
      obtain ⟨bp, HP⟩ : ∃ bp, Hid (Lib.hasPrefix d.name.data.toList s.data.toList = bp) := ⟨_, (rfl : Lib.hasPrefix d.name.data.toList s.data.toList = _)⟩
      clear hcell HC hbn hbu hTL HTL
      cases bp with
      | false =>
        have HF : Hid (Bx.listL (fs.take (i + 1)) s = Bx.listL (fs.take i) s) := by rw [Hid, HTK.out, Bx.lineL, HP.out]; simp
        go_wp2_with (go_at_call 65; refine (Try.strings_HasPrefix d.name s wr).mono ?_; rintro e w1 ⟨rfl, rfl⟩; rw [HP.out])
        go_roundw
        case rel => exact ⟨i + 1, by omega, by go_num, by rw [HF.out]; exact HBU.out, hbw⟩
        case measure => simp [intOf]; omega
      | true =>
        have HF : Hid (Bx.listL (fs.take (i + 1)) s = (Bx.listL (fs.take i) s ++ d.name.data.toList) ++ [10]) := by rw [Hid, HTK.out, Bx.lineL, HP.out]; simp
        go_wp2_with (go_at_call 65; refine (Try.strings_HasPrefix d.name s wr).mono ?_; rintro e w1 ⟨rfl, rfl⟩; rw [HP.out])
        go_wp2_with (go_at_call 66; refine (Try.Builder_WriteString_k w.heap.size w.heap.size _ d.name _ HBU.out (by have := HLN.out; omega) hz).mono ?_; rintro e w2 ⟨rfl, hb2, hbl2, _⟩; rw [Bx.cells_app] at hb2)
        go_wp2_with (go_at_call 67; refine (Try.Builder_WriteByte_k w.heap.size w.heap.size _ 10 _ (.inr hb2) (by have := HLN.out; simp only [Lib.byteCells, List.length_map, List.length_append, Array.length_toList] at this ⊢; have h3 : d.name.data.size ≤ 1048576 := hxd; omega) (Nat.le_trans hz hbl2.size)).mono ?_; rintro e w3 ⟨rfl, hb3, hbl3, _⟩; rw [Bx.cells_one] at hb3)
        go_roundw
        case rel => exact ⟨i + 1, by omega, by go_num, by rw [HF.out]; exact .inr hb3, (hbw.trans hbl2).trans hbl3⟩
        case measure => simp [intOf]; omega
    · have hie : i = n := by omega
      subst hie
      have e : fs.take i = fs := List.take_of_length_le (by rw [HN.out]; omega)
      rw [e] at hbu
      have HBU : Hid (Lib.IsBuilderF 101 5 w.heap.size w.heap.size (Lib.byteCells (Bx.listL fs s)) wr) := hbu
      clear HC hbu hbn HTL e
      go_wp2_with (go_at_call 68; refine (Try.Builder_String_any_k w.heap.size w.heap.size _ _ HBU.out hz).mono ?_; rintro e w2 ⟨rfl, _, hbl2, _⟩)
      go_ret
      exact ⟨rfl, hbw.trans hbl2⟩
end Go.Proofs.Ytdapajkckocmbaa
