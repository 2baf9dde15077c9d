import Derived.Test.YtdapajkckocmbaaBoxJ
namespace Go.Proofs.Ytdapajkckocmbaa
open Go.RowKit Go.Maps Go.WideMaps

def Bx.see (fs : List Bx.Fl) (k : Int) (x : ByteArray) : Int × ByteArray :=
  if k = 3 then (0, ⟨(Bx.listL fs x).toArray⟩) else if k ≠ 1 ∧ k ≠ 2 then (5, ⟨#[]⟩) else
    match Bx.look fs x with
    | none => (4, ⟨#[]⟩)
    | some f => if k = 2 then (0, ⟨#[]⟩) else (0, f.text)
theorem Bx.see_look {w : World} {B g : Nat} {fs : List Bx.Fl} {K : Nat} (h : Bx.Holds w B g fs K) (x : ByteArray) (hs : x.size ≤ 1048576) : ∃ mb, (∀ o, (w.alloc o).cell? ⟨g, 0, none⟩ = some (.map (some mb))) ∧ ∀ o, (Instr.lookup 69 (.map (some mb)) (.string x) true).run Try.prog (w.alloc o) = .ok (.tuple #[Bx.val (Bx.look fs x), .bool (Bx.look fs x).isSome]) (w.alloc o) := by
  obtain ⟨mb, a0, n, cap, hn, h⟩ := h
  refine ⟨mb, fun o => ?_, fun o => ?_⟩
  · have h2 := h.below ((Below.refl _ w).alloc (Nat.le_refl _) o); simp [World.cell?, h2.blk]
  · exact (h.below ((Below.refl _ w).alloc (Nat.le_refl _) o)).look hs
theorem Bx.reply_cells {w w2 : World} {o : Obj} (hb : Below (w.heap.size + 1 + 1) ((w.alloc (Obj.cells #[Value.int IntKind.i64 0, Value.string ⟨#[]⟩] 34)).alloc o) w2) : w2.cell? ⟨w.heap.size, 0, none⟩ = some (.int .i64 0) ∧ w2.cell? ⟨w.heap.size, 1, none⟩ = some (.string ⟨#[]⟩) ∧ w2.frozen? ⟨w.heap.size, 0, none⟩ = false ∧ w2.frozen? ⟨w.heap.size, 1, none⟩ = false := by
  have h0 := (((Below.refl _ (w.alloc (Obj.cells #[Value.int IntKind.i64 0, Value.string ⟨#[]⟩] 34))).alloc (Nat.le_refl _) o).block w.heap.size (by simp))
  have h1 := hb.block w.heap.size (by omega)
  rw [h0, (MapKept.heap_alloc w _).1] at h1
  exact ⟨by simp [World.cell?, h1], by simp [World.cell?, h1], by simp [World.frozen?, h1], by simp [World.frozen?, h1]⟩
set_option maxRecDepth 100000 in
set_option maxHeartbeats 2000000 in
theorem Bx.see_list_none (B g : Nat) (fs : List Bx.Fl) (K : Nat) (x : ByteArray) (w : World) (hs : x.size ≤ 1048576) (h : Bx.Holds w B g fs K) (hl : fs.length ≤ 1000) (hx : ∀ d ∈ fs, d.name.size ≤ 1048576) (hf : Bx.look fs x = none) :
    Calls Try.prog 33 #[.pointer (some ⟨g, 0, none⟩), .int .i64 3, .string x] w fun e w' => e = .returned (.agg #[.int .i64 0, .string ⟨(Bx.listL fs x).toArray⟩]) ∧ Below w.heap.size w w' := by
  have HH : Hid (Bx.Holds w B g fs K) := h
  have hg := h.lt.2
  obtain ⟨mb, hc, hlk⟩ := Bx.see_look h x hs
  have c0 := hc (Obj.cells #[Value.int IntKind.i64 0, Value.string ⟨#[]⟩] 34)
  have l0 := hlk (Obj.cells #[Value.int IntKind.i64 0, Value.string ⟨#[]⟩] 34)
  clear hc hlk h
  rw [hf] at l0
  simp only [Bx.val, Option.isSome] at l0
  have HX : Hid (∀ d ∈ fs, d.name.size ≤ 1048576) := hx
  clear hf hx
  go_enter Try.func33, Try.ntmps33
  go_wp2_with (go_at_call 52; refine (Bx.list_any B g fs K x _ hl HX.out hs (HH.out.below (by repeat' (first | exact Below.refl _ _ | refine Below.alloc ?_ ?_ _ | exact Nat.le_refl _ | (simp; done))))).mono ?_; rintro e w2 ⟨rfl, hb2⟩; simp only [World.size_alloc] at hb2; have hbw : Below w.heap.size w w2 := (((Below.refl _ w).alloc (Nat.le_refl _) _).alloc (by simp) _).trans (hb2.mono (by omega)); obtain ⟨r0, r1, r2, r3⟩ := Bx.reply_cells hb2)
  exact bodyPost_ret (v := .agg #[.int .i64 0, .string ⟨(Bx.listL fs x).toArray⟩]) (by simp [results, Try.results33, go_sem, r0, r1]) rfl ⟨rfl, by repeat' (first | exact hbw | refine Below.setCell ?_ ?_ _ | exact Nat.le_refl _)⟩
set_option maxRecDepth 100000 in
set_option maxHeartbeats 2000000 in
theorem Bx.see_other_none (B g : Nat) (fs : List Bx.Fl) (K : Nat) (x : ByteArray) (w : World) (hs : x.size ≤ 1048576) (h : Bx.Holds w B g fs K) (k : Int) (h3 : k ≠ 3) (h1 : k ≠ 1) (h2 : k ≠ 2) (hf : Bx.look fs x = none) :
    Calls Try.prog 33 #[.pointer (some ⟨g, 0, none⟩), .int .i64 k, .string x] w fun e w' => e = .returned (.agg #[.int .i64 5, .string ⟨#[]⟩]) ∧ Below w.heap.size w w' := by
  have HH : Hid (Bx.Holds w B g fs K) := h
  have hg := h.lt.2
  obtain ⟨mb, hc, hlk⟩ := Bx.see_look h x hs
  have c0 := hc (Obj.cells #[Value.int IntKind.i64 0, Value.string ⟨#[]⟩] 34)
  have l0 := hlk (Obj.cells #[Value.int IntKind.i64 0, Value.string ⟨#[]⟩] 34)
  clear hc hlk h
  rw [hf] at l0
  simp only [Bx.val, Option.isSome] at l0
  have b3 : (k == 3) = false := by simpa using h3
  have b1 : (k != 1) = true := by simpa using h1
  have b2 : (k != 2) = true := by simpa using h2
  clear hf HH
  go_enter Try.func33, Try.ntmps33
  go_wp2
  exact bodyPost_ret (v := .agg #[.int .i64 5, .string ⟨#[]⟩]) (by simp [results, Try.results33, go_sem]) rfl ⟨rfl, by repeat' (first | exact Below.refl _ _ | refine Below.setCell ?_ ?_ _ | refine Below.alloc ?_ ?_ _ | exact Nat.le_refl _ | (simp; done) | (simp only [World.size_alloc]; omega))⟩
set_option maxRecDepth 100000 in
set_option maxHeartbeats 2000000 in
theorem Bx.see_1_none (B g : Nat) (fs : List Bx.Fl) (K : Nat) (x : ByteArray) (w : World) (hs : x.size ≤ 1048576) (h : Bx.Holds w B g fs K)  (hf : Bx.look fs x = none) :
    Calls Try.prog 33 #[.pointer (some ⟨g, 0, none⟩), .int .i64 1, .string x] w fun e w' => e = .returned (.agg #[.int .i64 4, .string ⟨#[]⟩]) ∧ Below w.heap.size w w' := by
  have HH : Hid (Bx.Holds w B g fs K) := h
  have hg := h.lt.2
  obtain ⟨mb, hc, hlk⟩ := Bx.see_look h x hs
  have c0 := hc (Obj.cells #[Value.int IntKind.i64 0, Value.string ⟨#[]⟩] 34)
  have l0 := hlk (Obj.cells #[Value.int IntKind.i64 0, Value.string ⟨#[]⟩] 34)
  clear hc hlk h
  rw [hf] at l0
  simp only [Bx.val, Option.isSome] at l0
  clear hf HH
  go_enter Try.func33, Try.ntmps33
  go_wp2
  exact bodyPost_ret (v := .agg #[.int .i64 4, .string ⟨#[]⟩]) (by simp [results, Try.results33, go_sem]) rfl ⟨rfl, by repeat' (first | exact Below.refl _ _ | refine Below.setCell ?_ ?_ _ | refine Below.alloc ?_ ?_ _ | exact Nat.le_refl _ | (simp; done) | (simp only [World.size_alloc]; omega))⟩
set_option maxRecDepth 100000 in
set_option maxHeartbeats 2000000 in
theorem Bx.see_2_none (B g : Nat) (fs : List Bx.Fl) (K : Nat) (x : ByteArray) (w : World) (hs : x.size ≤ 1048576) (h : Bx.Holds w B g fs K)  (hf : Bx.look fs x = none) :
    Calls Try.prog 33 #[.pointer (some ⟨g, 0, none⟩), .int .i64 2, .string x] w fun e w' => e = .returned (.agg #[.int .i64 4, .string ⟨#[]⟩]) ∧ Below w.heap.size w w' := by
  have HH : Hid (Bx.Holds w B g fs K) := h
  have hg := h.lt.2
  obtain ⟨mb, hc, hlk⟩ := Bx.see_look h x hs
  have c0 := hc (Obj.cells #[Value.int IntKind.i64 0, Value.string ⟨#[]⟩] 34)
  have l0 := hlk (Obj.cells #[Value.int IntKind.i64 0, Value.string ⟨#[]⟩] 34)
  clear hc hlk h
  rw [hf] at l0
  simp only [Bx.val, Option.isSome] at l0
  clear hf HH
  go_enter Try.func33, Try.ntmps33
  go_wp2
  exact bodyPost_ret (v := .agg #[.int .i64 4, .string ⟨#[]⟩]) (by simp [results, Try.results33, go_sem]) rfl ⟨rfl, by repeat' (first | exact Below.refl _ _ | refine Below.setCell ?_ ?_ _ | refine Below.alloc ?_ ?_ _ | exact Nat.le_refl _ | (simp; done) | (simp only [World.size_alloc]; omega))⟩
set_option maxRecDepth 100000 in
set_option maxHeartbeats 2000000 in
theorem Bx.see_list_some (B g : Nat) (fs : List Bx.Fl) (K : Nat) (x : ByteArray) (w : World) (hs : x.size ≤ 1048576) (h : Bx.Holds w B g fs K) (hl : fs.length ≤ 1000) (hx : ∀ d ∈ fs, d.name.size ≤ 1048576) (f0 : Bx.Fl) (hf : Bx.look fs x = some f0) :
    Calls Try.prog 33 #[.pointer (some ⟨g, 0, none⟩), .int .i64 3, .string x] w fun e w' => e = .returned (.agg #[.int .i64 0, .string ⟨(Bx.listL fs x).toArray⟩]) ∧ Below w.heap.size w w' := by
  have HH : Hid (Bx.Holds w B g fs K) := h
  have hg := h.lt.2
  obtain ⟨mb, hc, hlk⟩ := Bx.see_look h x hs
  have c0 := hc (Obj.cells #[Value.int IntKind.i64 0, Value.string ⟨#[]⟩] 34)
  have l0 := hlk (Obj.cells #[Value.int IntKind.i64 0, Value.string ⟨#[]⟩] 34)
  clear hc hlk h
  rw [hf] at l0
  simp only [Bx.val, Option.isSome] at l0
  have HX : Hid (∀ d ∈ fs, d.name.size ≤ 1048576) := hx
  clear hf hx
  go_enter Try.func33, Try.ntmps33
  go_wp2_with (go_at_call 52; refine (Bx.list_any B g fs K x _ hl HX.out hs (HH.out.below (by repeat' (first | exact Below.refl _ _ | refine Below.alloc ?_ ?_ _ | exact Nat.le_refl _ | (simp; done))))).mono ?_; rintro e w2 ⟨rfl, hb2⟩; simp only [World.size_alloc] at hb2; have hbw : Below w.heap.size w w2 := (((Below.refl _ w).alloc (Nat.le_refl _) _).alloc (by simp) _).trans (hb2.mono (by omega)); obtain ⟨r0, r1, r2, r3⟩ := Bx.reply_cells hb2)
  exact bodyPost_ret (v := .agg #[.int .i64 0, .string ⟨(Bx.listL fs x).toArray⟩]) (by simp [results, Try.results33, go_sem, r0, r1]) rfl ⟨rfl, by repeat' (first | exact hbw | refine Below.setCell ?_ ?_ _ | exact Nat.le_refl _)⟩
set_option maxRecDepth 100000 in
set_option maxHeartbeats 2000000 in
theorem Bx.see_other_some (B g : Nat) (fs : List Bx.Fl) (K : Nat) (x : ByteArray) (w : World) (hs : x.size ≤ 1048576) (h : Bx.Holds w B g fs K) (k : Int) (f0 : Bx.Fl) (h3 : k ≠ 3) (h1 : k ≠ 1) (h2 : k ≠ 2) (hf : Bx.look fs x = some f0) :
    Calls Try.prog 33 #[.pointer (some ⟨g, 0, none⟩), .int .i64 k, .string x] w fun e w' => e = .returned (.agg #[.int .i64 5, .string ⟨#[]⟩]) ∧ Below w.heap.size w w' := by
  have HH : Hid (Bx.Holds w B g fs K) := h
  have hg := h.lt.2
  obtain ⟨mb, hc, hlk⟩ := Bx.see_look h x hs
  have c0 := hc (Obj.cells #[Value.int IntKind.i64 0, Value.string ⟨#[]⟩] 34)
  have l0 := hlk (Obj.cells #[Value.int IntKind.i64 0, Value.string ⟨#[]⟩] 34)
  clear hc hlk h
  rw [hf] at l0
  simp only [Bx.val, Option.isSome] at l0
  have b3 : (k == 3) = false := by simpa using h3
  have b1 : (k != 1) = true := by simpa using h1
  have b2 : (k != 2) = true := by simpa using h2
  clear hf HH
  go_enter Try.func33, Try.ntmps33
  go_wp2
  exact bodyPost_ret (v := .agg #[.int .i64 5, .string ⟨#[]⟩]) (by simp [results, Try.results33, go_sem]) rfl ⟨rfl, by repeat' (first | exact Below.refl _ _ | refine Below.setCell ?_ ?_ _ | refine Below.alloc ?_ ?_ _ | exact Nat.le_refl _ | (simp; done) | (simp only [World.size_alloc]; omega))⟩
set_option maxRecDepth 100000 in
set_option maxHeartbeats 2000000 in
theorem Bx.see_1_some (B g : Nat) (fs : List Bx.Fl) (K : Nat) (x : ByteArray) (w : World) (hs : x.size ≤ 1048576) (h : Bx.Holds w B g fs K) (f0 : Bx.Fl) (hf : Bx.look fs x = some f0) :
    Calls Try.prog 33 #[.pointer (some ⟨g, 0, none⟩), .int .i64 1, .string x] w fun e w' => e = .returned (.agg #[.int .i64 0, .string f0.text]) ∧ Below w.heap.size w w' := by
  have HH : Hid (Bx.Holds w B g fs K) := h
  have hg := h.lt.2
  obtain ⟨mb, hc, hlk⟩ := Bx.see_look h x hs
  have c0 := hc (Obj.cells #[Value.int IntKind.i64 0, Value.string ⟨#[]⟩] 34)
  have l0 := hlk (Obj.cells #[Value.int IntKind.i64 0, Value.string ⟨#[]⟩] 34)
  clear hc hlk h
  rw [hf] at l0
  simp only [Bx.val, Option.isSome] at l0
  clear hf HH
  go_enter Try.func33, Try.ntmps33
  go_wp2
  exact bodyPost_ret (v := .agg #[.int .i64 0, .string f0.text]) (by simp [results, Try.results33, go_sem]) rfl ⟨rfl, by repeat' (first | exact Below.refl _ _ | refine Below.setCell ?_ ?_ _ | refine Below.alloc ?_ ?_ _ | exact Nat.le_refl _ | (simp; done) | (simp only [World.size_alloc]; omega))⟩
set_option maxRecDepth 100000 in
set_option maxHeartbeats 2000000 in
theorem Bx.see_2_some (B g : Nat) (fs : List Bx.Fl) (K : Nat) (x : ByteArray) (w : World) (hs : x.size ≤ 1048576) (h : Bx.Holds w B g fs K) (f0 : Bx.Fl) (hf : Bx.look fs x = some f0) :
    Calls Try.prog 33 #[.pointer (some ⟨g, 0, none⟩), .int .i64 2, .string x] w fun e w' => e = .returned (.agg #[.int .i64 0, .string ⟨#[]⟩]) ∧ Below w.heap.size w w' := by
  have HH : Hid (Bx.Holds w B g fs K) := h
  have hg := h.lt.2
  obtain ⟨mb, hc, hlk⟩ := Bx.see_look h x hs
  have c0 := hc (Obj.cells #[Value.int IntKind.i64 0, Value.string ⟨#[]⟩] 34)
  have l0 := hlk (Obj.cells #[Value.int IntKind.i64 0, Value.string ⟨#[]⟩] 34)
  clear hc hlk h
  rw [hf] at l0
  simp only [Bx.val, Option.isSome] at l0
  clear hf HH
  go_enter Try.func33, Try.ntmps33
  go_wp2
  exact bodyPost_ret (v := .agg #[.int .i64 0, .string ⟨#[]⟩]) (by simp [results, Try.results33, go_sem]) rfl ⟨rfl, by repeat' (first | exact Below.refl _ _ | refine Below.setCell ?_ ?_ _ | refine Below.alloc ?_ ?_ _ | exact Nat.le_refl _ | (simp; done) | (simp only [World.size_alloc]; omega))⟩
theorem Bx.see_any (B g : Nat) (fs : List Bx.Fl) (K : Nat) (k : Int) (x : ByteArray) (w : World) (hl : fs.length ≤ 1000) (hx : ∀ d ∈ fs, d.name.size ≤ 1048576) (hs : x.size ≤ 1048576) (h : Bx.Holds w B g fs K) :
    Calls Try.prog 33 #[.pointer (some ⟨g, 0, none⟩), .int .i64 k, .string x] w fun e w' => e = .returned (.agg #[.int .i64 (Bx.see fs k x).1, .string (Bx.see fs k x).2]) ∧ Below w.heap.size w w' := by
  unfold Bx.see
  by_cases h3 : k = 3
  · subst h3
    rw [if_pos rfl]
    cases hf : Bx.look fs x with
    | none => exact Bx.see_list_none B g fs K x w hs h hl hx hf
    | some f0 => exact Bx.see_list_some B g fs K x w hs h hl hx f0 hf
  · rw [if_neg h3]
    by_cases h1 : k = 1
    · subst h1
      rw [if_neg (by simp)]
      cases hf : Bx.look fs x with
      | none => exact Bx.see_1_none B g fs K x w hs h hf
      | some f0 => simp only; rw [if_neg (by decide)]; exact Bx.see_1_some B g fs K x w hs h f0 hf
    · by_cases h2 : k = 2
      · subst h2
        rw [if_neg (by simp)]
        cases hf : Bx.look fs x with
        | none => exact Bx.see_2_none B g fs K x w hs h hf
        | some f0 => simp only; rw [if_pos trivial]; exact Bx.see_2_some B g fs K x w hs h f0 hf
      · rw [if_pos ⟨h1, h2⟩]
        cases hf : Bx.look fs x with
        | none => exact Bx.see_other_none B g fs K x w hs h k h3 h1 h2 hf
        | some f0 => exact Bx.see_other_some B g fs K x w hs h k f0 h3 h1 h2 hf
end Go.Proofs.Ytdapajkckocmbaa
