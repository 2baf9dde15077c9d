import Derived.Test.YtdapajkckocmbaaHolD
namespace Go.Proofs.Ytdapajkckocmbaa
open Go.RowKit Go.Maps Go.WideMaps

set_option maxRecDepth 100000 in
set_option maxHeartbeats 2000000 in
theorem Bx.implHolds_any (fs : List Bx.Fl) (ss : List Bx.Sn) (v u : Value) (w : World) (hn : fs.length ≤ 1048576) (hx : ∀ d ∈ fs, d.name.size ≤ 1048576 ∧ d.text.size ≤ 1048576) (hm : ss.length ≤ 1048576) (hy : ∀ d ∈ ss, d.name.size ≤ 1048576) (hN : Bx.Off w v fs) (hS : Bx.SOff w u ss) :
    Calls Try.prog 26 #[.agg #[v], u] w fun e w' => e = .returned (.bool (Bx.holds fs ss)) ∧ Below w.heap.size w w' := by
  have HV : Hid (∀ b w1, Bx.ok fs 40 = b → Bx.Off w1 v fs → Calls Try.prog 10 #[.agg #[v]] w1 fun e w' => e = .returned (.bool b) ∧ Below w1.heap.size w1 w') := fun b w1 hb h => by
    have := Bx.implPlace_any fs v w1 hn hx h
    rw [hb] at this; exact this
  have HN : Hid (∀ W, Below w.heap.size w W → Bx.Off W v fs) := fun W hW => hN.below hW
  have HSS : Hid (∀ W, Below w.heap.size w W → Bx.SOff W u ss) := fun W hW => hS.below hW
  obtain ⟨p, cap, rfl⟩ := hN.slice
  obtain ⟨p2, cap2, rfl⟩ := hS.slice
  have hal : ∀ o1 : Obj, Below w.heap.size w (w.alloc o1) := fun o1 => (Below.refl _ w).alloc (Nat.le_refl _) o1
  cases hok : Bx.ok fs 40 with
  | false =>
    have HR : Hid (Bx.holds fs ss = false) := by rw [Hid, Bx.holds, hok]; rfl
    have HVV : Hid (∀ w1, Bx.Off w1 (.slice p fs.length cap) fs → Calls Try.prog 10 #[.agg #[.slice p fs.length cap]] w1 fun e w' => e = .returned (.bool false) ∧ Below w1.heap.size w1 w') := fun w1 h => HV.out false w1 hok h
    rw [HR.out]
    clear HV hok hx hn hN HR hS HSS
    generalize ss.length = m at *
    revert HVV HN
    generalize fs.length = n
    intro HN HVV
    go_enter Try.func26, Try.ntmps26
    go_wp2_with (go_at_call 10; refine (HVV.out _ (HN.out _ (hal _))).mono ?_; rintro e w2 ⟨rfl, hb2⟩; simp only [World.size_alloc] at hb2; have hb3 : Below w.heap.size w w2 := (hal _).trans (hb2.mono (by omega)))
    go_ret
    exact ⟨rfl, hb3⟩
  | true =>
    have hu := Bx.ok_up hok
    have hl := Bx.ok_len hok
    have HVV : Hid (∀ w1, Bx.Off w1 (.slice p fs.length cap) fs → Calls Try.prog 10 #[.agg #[.slice p fs.length cap]] w1 fun e w' => e = .returned (.bool true) ∧ Below w1.heap.size w1 w') := fun w1 h => HV.out true w1 hok h
    have HBO : Hid (∀ w1, Bx.Off w1 (.slice p fs.length cap) fs → Calls Try.prog 32 #[.agg #[.slice p fs.length cap]] w1 fun e w' => ∃ g, e = .returned (.pointer (some ⟨g, 0, none⟩)) ∧ Bx.Holds w' w1.heap.size g fs fs.length ∧ Below w1.heap.size w1 w') := fun w1 h => Bx.boxOf_any fs hu _ w1 (by omega) (fun d hd => (hx d hd).1) h
    have HCT : Hid (∀ B g K cb w1, Bx.SOff w1 (.slice p2 ss.length cap2) ss → Bx.Holds w1 B g fs K → w1.cell? ⟨cb, 0, none⟩ = some (.pointer (some ⟨g, 0, none⟩)) → cb < w1.heap.size → Calls Try.prog 47 #[.slice p2 ss.length cap2, .func (Fn.func 48) #[] #[.pointer (some ⟨cb, 0, none⟩)]] w1 fun e w' => e = .returned (.bool (!ss.all (Bx.so fs))) ∧ Below w1.heap.size w1 w') := fun B g K cb w1 h1 h2 h3 h4 => Bx.cont_any fs ss B g K cb _ w1 (by omega) (fun d hd => (hx d hd).1) hm hy h1 h2 h3 h4
    have HR : Hid (Bx.holds fs ss = ss.all (Bx.so fs)) := by rw [Hid, Bx.holds, hok]; rfl
    rw [HR.out]
    clear HV hok hx hn hN HR hl hu hy hS
    generalize ss.all (Bx.so fs) = bb at *
    revert HCT HSS
    generalize ss.length = m at *
    intro HSS HCT
    revert HVV HN HBO
    generalize fs.length = n
    intro HN HVV HBO
    go_enter Try.func26, Try.ntmps26
    go_wp2_with (first
      | (go_at_call 10; refine (HVV.out _ (HN.out _ (hal _))).mono ?_; rintro e w2 ⟨rfl, hb2⟩; simp only [World.size_alloc] at hb2; have hb3 : Below w.heap.size w w2 := (hal _).trans (hb2.mono (by omega)); have p0 := Bx.row1 hb2)
      | (go_at_call 32; refine (HBO.out w2 (HN.out w2 hb3)).mono ?_; rintro e w3 ⟨g, rfl, hH3, hbw3⟩; have hb4 : Below w.heap.size w w3 := hb3.trans (hbw3.mono hb3.size); have hal3 : Below w3.heap.size w3 (w3.alloc (.cells #[.pointer (some ⟨g, 0, none⟩)] 58)) := (Below.refl _ _).alloc (Nat.le_refl _) _)
      | (go_at_call 47; refine (HCT.out _ _ _ _ _ (HSS.out _ (hb4.trans (hal3.mono hb4.size))) (hH3.below hal3) (Bx.row1 (Below.refl _ _)) (by simp)).mono ?_; rintro e w4 ⟨rfl, hb5⟩; simp only [World.size_alloc] at hb5))
    go_ret
    exact ⟨by simp, (hb4.trans (hal3.mono hb4.size)).trans (hb5.mono (by have := hb4.size; omega))⟩
end Go.Proofs.Ytdapajkckocmbaa
