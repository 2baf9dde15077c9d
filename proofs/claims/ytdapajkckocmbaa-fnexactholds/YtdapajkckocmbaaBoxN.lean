import Derived.Test.YtdapajkckocmbaaBoxM
namespace Go.Proofs.Ytdapajkckocmbaa
open Go.RowKit Go.Maps Go.WideMaps

/-- Where a name stands. -/
def Bx.at (fs : List Bx.Fl) (x : ByteArray) (r : Int) : Prop := (r = -1 ∧ Bx.look fs x = none) ∨ ∃ i : Nat, ∃ hi : i < fs.length, r = (i : Int) ∧ Bx.look fs x = some fs[i]
theorem Bx.look_at (fs : List Bx.Fl) (x : ByteArray) (i : Nat) (hi : i < fs.length) (h : ∀ j (hj : j < i), (fs[j]'(by omega)).name ≠ x) (he : fs[i].name = x) : Bx.look fs x = some fs[i] := by
  induction fs generalizing i with
  | nil => simp at hi
  | cons a r ih =>
    rw [Bx.look_cons]
    cases i with
    | zero => rw [if_pos (by simpa using he)]; rfl
    | succ k =>
      have h0 := h 0 (by omega)
      rw [if_neg (by simpa using h0)]
      exact ih k (by simpa using hi) (fun j hj => by simpa using h (j + 1) (by omega)) (by simpa using he)
theorem Bx.beq_eq {a b : ByteArray} : (a.toList == b.toList) = decide (a = b) := by
  by_cases h : a = b
  · subst h; simp
  · simp only [h, decide_false, beq_eq_false_iff_ne]; exact fun e => h (Bx.list_eq e)
set_option maxRecDepth 100000 in
set_option maxHeartbeats 1000000 in
theorem Bx.at_any (fs : List Bx.Fl) (v : Value) (x : ByteArray) (w : World) (hn : fs.length ≤ 1048576) (hN : Bx.Off w v fs) :
    Calls Try.prog 30 #[v, .string x] w fun e w' => ∃ r, e = .returned (.int .i64 r) ∧ Bx.at fs x r ∧ w = w' := by
  obtain ⟨p, cap, rfl, hc⟩ := hN
  obtain ⟨n, HN⟩ : ∃ n, Hid (fs.length = n) := ⟨_, (rfl : fs.length = _)⟩
  have HC : Hid (∀ i (hi : i < fs.length), ∃ g o, p = some ⟨g, o, none⟩ ∧ g < w.heap.size ∧ w.cell? ⟨g, o + i * 2, none⟩ = some (.string fs[i].name) ∧ w.cell? ⟨g, o + i * 2 + 1, none⟩ = some (.string fs[i].text)) := hc
  clear hc
  rw [HN.out] at hn
  simp only [HN.out]
  go_enter Try.func30, Try.ntmps30
  go_wp2
  go_loopw [5] (fun t wr => ∃ i : Nat, i ≤ n ∧ t = .int .i64 (i : Int) ∧ (∀ j (hj : j < fs.length), j < i → fs[j].name ≠ x) ∧ w = wr) (fun t _ => n - (intOf t).toNat)
  case atStart => exact ⟨0, by omega, rfl, fun j _ hj => by omega, rfl⟩
  case round =>
    obtain ⟨i, hi, rfl, hno, rfl⟩ := hrel
    have HNO : Hid (∀ j (hj : j < fs.length), j < i → fs[j].name ≠ x) := hno
    clear hno
    by_cases hlt : i < n
    · have hil : i < fs.length := by rw [HN.out]; exact hlt
      obtain ⟨g, o, rfl, hg, hcell, _⟩ := HC.out i hil
      by_cases he : fs[i].name = x
      · have HR : Hid (Bx.at fs x (i : Int)) := .inr ⟨i, hil, rfl, Bx.look_at fs x i hil (fun j hj => HNO.out j (by omega) hj) he⟩
        clear HC
        have hbe : (fs[i].name.toList == x.toList) = true := by rw [Bx.beq_eq]; simpa using he
        generalize fs[i] = d at *
        clear he
        go_wp2
        go_ret
        exact ⟨_, rfl, HR.out, rfl⟩
      · have HR : Hid (∀ j (hj : j < fs.length), j < i + 1 → fs[j].name ≠ x) := fun j hj hji => by
          by_cases e : j = i
          · subst e; exact he
          · exact HNO.out j hj (by omega)
        have hbe : (fs[i].name.toList == x.toList) = false := by rw [Bx.beq_eq]; simpa using he
        clear HC
        generalize fs[i] = d at *
        clear he
        go_wp2
        go_roundw
        case rel => exact ⟨i + 1, by omega, by go_num, HR.out, by first | rfl | trivial⟩
        case measure => simp [intOf]; omega
    · have HR : Hid (Bx.at fs x (-1)) := .inl ⟨rfl, Bx.look_none_iff.2 (fun f hf => by
        obtain ⟨j, hj, rfl⟩ := List.getElem_of_mem hf
        exact HNO.out j hj (by have := HN.out; omega))⟩
      clear HC
      go_wp2
      go_ret
      exact ⟨_, rfl, HR.out, rfl⟩
end Go.Proofs.Ytdapajkckocmbaa
