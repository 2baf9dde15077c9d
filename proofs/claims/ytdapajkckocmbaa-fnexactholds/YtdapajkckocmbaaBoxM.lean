import Derived.Test.YtdapajkckocmbaaBoxL
import Derived.Test.YtdapajkckocmbaaBoxD
namespace Go.Proofs.Ytdapajkckocmbaa
open Go.RowKit Go.Maps Go.WideMaps

def Bx.seeP (fs : List Bx.Fl) (k : Int) (x : ByteArray) : Int × ByteArray := if Bx.ok fs 40 = true then Bx.see fs k x else (5, ⟨#[]⟩)
theorem Bx.look_in {fs : List Bx.Fl} {x : ByteArray} {f : Bx.Fl} (h : Bx.look fs x = some f) : f ∈ fs := by
  unfold Bx.look at h; exact List.mem_of_find?_eq_some h
theorem Bx.see_size {fs : List Bx.Fl} (k : Int) (x : ByteArray) (hl : fs.length ≤ 900) (hx : ∀ d ∈ fs, d.name.size ≤ 1048576 ∧ d.text.size ≤ 1048576) : (Bx.see fs k x).2.size ≤ 1048576000 := by
  unfold Bx.see
  split
  · have := Bx.listL_len fs x (fun d hd => (hx d hd).1)
    show (Bx.listL fs x).toArray.size ≤ _
    rw [List.size_toArray]; omega
  · split
    · exact Nat.zero_le _
    · split
      · exact Nat.zero_le _
      · rename_i f hf
        split
        · exact Nat.zero_le _
        · have := (hx f (Bx.look_in hf)).2; simp only; omega
theorem Bx.reply_cells2 {w w2 : World} {o : Obj} (hb : Below (w.heap.size + 1 + 1) ((w.alloc o).alloc (.cells #[.int .i64 0, .string ⟨#[]⟩] 34)) w2) : w2.cell? ⟨w.heap.size + 1, 0, none⟩ = some (.int .i64 0) ∧ w2.cell? ⟨w.heap.size + 1, 1, none⟩ = some (.string ⟨#[]⟩) ∧ w2.frozen? ⟨w.heap.size + 1, 0, none⟩ = false ∧ w2.frozen? ⟨w.heap.size + 1, 1, none⟩ = false := by
  have h0 := (MapKept.heap_alloc (w.alloc o) (.cells #[.int .i64 0, .string ⟨#[]⟩] 34)).1
  rw [World.size_alloc] at h0
  have h1 := (hb.block (w.heap.size + 1) (by omega)).trans h0
  exact ⟨by simp [World.cell?, h1], by simp [World.cell?, h1], by simp [World.frozen?, h1], by simp [World.frozen?, h1]⟩
theorem Bx.place_cell {w w2 : World} {v : Value} {o : Obj} {t : TypeId} (hb : Below (w.heap.size + 1 + 1) ((w.alloc (.cells #[v] t)).alloc o) w2) : w2.cell? ⟨w.heap.size, 0, none⟩ = some v := by
  have h0 := (((Below.refl _ (w.alloc (.cells #[v] t))).alloc (Nat.le_refl _) o).block w.heap.size (by simp))
  have h1 := hb.block w.heap.size (by omega)
  rw [h0, (MapKept.heap_alloc w _).1] at h1
  simp [World.cell?, h1]
set_option maxRecDepth 100000 in
set_option maxHeartbeats 2000000 in
theorem Bx.implSee_any (fs : List Bx.Fl) (v : Value) (k : Int) (x : ByteArray) (w : World) (hn : fs.length ≤ 1048576) (hx : ∀ d ∈ fs, d.name.size ≤ 1048576 ∧ d.text.size ≤ 1048576) (hs : x.size ≤ 1048576) (hN : Bx.Off w v fs) :
    Calls Try.prog 13 #[.agg #[v], .int .i64 k, .string x] w fun e w' => e = .returned (.agg #[.int .i64 (Bx.seeP fs k x).1, .string (Bx.seeP fs k x).2]) ∧ Below w.heap.size w w' := by
  have HV : Hid (∀ b w1, Bx.ok fs 40 = b → Bx.Off w1 v fs → Calls Try.prog 10 #[.agg #[v]] w1 fun e w' => e = .returned (.bool b) ∧ Below w1.heap.size w1 w') := fun b w1 hb h => by
    have := Bx.implPlace_any fs v w1 hn hx h
    rw [hb] at this; exact this
  have HN : Hid (∀ W, Below w.heap.size w W → Bx.Off W v fs) := fun W hW => hN.below hW
  obtain ⟨p, cap, rfl⟩ := hN.slice
  have hal : ∀ o1 o2 : Obj, Below w.heap.size w ((w.alloc o1).alloc o2) := fun o1 o2 => ((Below.refl _ w).alloc (Nat.le_refl _) o1).alloc (by simp) o2
  cases hok : Bx.ok fs 40 with
  | false =>
    have HR : Hid (Bx.seeP fs k x = (5, ⟨#[]⟩)) := by rw [Hid, Bx.seeP, hok]; rfl
    have HVV : Hid (∀ w1, Bx.Off w1 (.slice p fs.length cap) fs → Calls Try.prog 10 #[.agg #[.slice p fs.length cap]] w1 fun e w' => e = .returned (.bool false) ∧ Below w1.heap.size w1 w') := fun w1 h => HV.out false w1 hok h
    rw [HR.out]
    clear HV hok hx hn hN HR
    revert HVV HN
    generalize fs.length = n
    intro HN HVV
    go_enter Try.func13, Try.ntmps13
    go_wp2_with (go_at_call 10; refine (HVV.out _ (HN.out _ (hal _ _))).mono ?_; rintro e w2 ⟨rfl, hb2⟩; simp only [World.size_alloc] at hb2; have hb3 : Below w.heap.size w w2 := (hal _ _).trans (hb2.mono (by omega)); obtain ⟨r0, r1, r2, r3⟩ := Bx.reply_cells2 hb2)
    exact bodyPost_ret (v := .agg #[.int .i64 5, .string ⟨#[]⟩]) (by simp [results, Try.results13, go_sem, r0, r1]) rfl ⟨rfl, by repeat' (first | exact hb3 | refine Below.setCell ?_ ?_ _ | exact Nat.le_succ _)⟩
  | true =>
    have hu := Bx.ok_up hok
    have hl := Bx.ok_len hok
    have HR : Hid (Bx.seeP fs k x = Bx.see fs k x) := by rw [Hid, Bx.seeP, hok]; rfl
    have HVV : Hid (∀ w1, Bx.Off w1 (.slice p fs.length cap) fs → Calls Try.prog 10 #[.agg #[.slice p fs.length cap]] w1 fun e w' => e = .returned (.bool true) ∧ Below w1.heap.size w1 w') := fun w1 h => HV.out true w1 hok h
    have HBO : Hid (∀ w1, Bx.Off w1 (.slice p fs.length cap) fs → Calls Try.prog 32 #[.agg #[.slice p fs.length cap]] w1 fun e w' => ∃ g, e = .returned (.pointer (some ⟨g, 0, none⟩)) ∧ Bx.Holds w' w1.heap.size g fs fs.length ∧ Below w1.heap.size w1 w') := fun w1 h => Bx.boxOf_any fs hu _ w1 (by omega) (fun d hd => (hx d hd).1) h
    have HSE : Hid (∀ B g K w1, Bx.Holds w1 B g fs K → Calls Try.prog 33 #[.pointer (some ⟨g, 0, none⟩), .int .i64 k, .string x] w1 fun e w' => e = .returned (.agg #[.int .i64 (Bx.see fs k x).1, .string (Bx.see fs k x).2]) ∧ Below w1.heap.size w1 w') := fun B g K w1 h => Bx.see_any B g fs K k x w1 (by omega) (fun d hd => (hx d hd).1) hs h
    have hz := Bx.see_size k x (by omega) hx
    rw [HR.out]
    generalize Bx.see fs k x = r at *
    obtain ⟨rc, rt⟩ := r
    simp only at *
    clear HV hok hx hn hN HR hl hu
    revert HVV HN HBO
    generalize fs.length = n
    intro HN HVV HBO
    go_enter Try.func13, Try.ntmps13
    go_wp2_with (first
      | (go_at_call 10; refine (HVV.out _ (HN.out _ (hal _ _))).mono ?_; rintro e w2 ⟨rfl, hb2⟩; simp only [World.size_alloc] at hb2; have hb3 : Below w.heap.size w w2 := (hal _ _).trans (hb2.mono (by omega)); have p0 := Bx.place_cell hb2)
      | (go_at_call 32; refine (HBO.out w2 (HN.out w2 hb3)).mono ?_; rintro e w3 ⟨g, rfl, hH3, hbw3⟩; have hb4 : Below (w.heap.size + 1 + 1) _ w3 := hb2.trans (hbw3.mono (by have := hb2.size; simp only [World.size_alloc] at this; omega)))
      | (go_at_call 33; refine (HSE.out _ _ _ _ hH3).mono ?_; rintro e w4 ⟨rfl, hbw4⟩; have hb5 : Below (w.heap.size + 1 + 1) _ w4 := hb4.trans (hbw4.mono (by have := hb4.size; simp only [World.size_alloc] at this; omega)))
      | (go_at_call 31; refine (Bx.copied_any rc rt _ hz).mono ?_; rintro e w5 ⟨rfl, hbw5⟩; have hb6 : Below (w.heap.size + 1 + 1) _ w5 := hb5.trans (hbw5.mono (by have := hb5.size; simp only [World.size_alloc] at this; omega)); have hb7 : Below w.heap.size w w5 := (hal _ _).trans (hb6.mono (by omega)); obtain ⟨r0, r1, r2, r3⟩ := Bx.reply_cells2 hb6))
    exact bodyPost_ret (v := .agg #[.int .i64 rc, .string rt]) (by simp [results, Try.results13, go_sem, r0, r1]) rfl ⟨rfl, by repeat' (first | exact hb7 | refine Below.setCell ?_ ?_ _ | exact Nat.le_succ _)⟩
end Go.Proofs.Ytdapajkckocmbaa
