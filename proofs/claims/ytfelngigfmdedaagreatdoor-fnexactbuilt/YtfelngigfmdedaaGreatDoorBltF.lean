import Derived.Test.YtfelngigfmdedaaGreatDoorBltE
namespace Go.Proofs.YtfelngigfmdedaaGreatDoor
open Go.RowKit

theorem Val.l4Text_w (x : ByteArray) (w : World) :
    Calls Tryz.prog 15 #[.string x] w fun e w' => e = .returned (.agg #[.int .i64 2, .int .i64 0, .string x]) ∧ Below w.heap.size w w' := Val.l4Text_any x w
theorem Val.alloc1 {w w1 : World} {o1 : Obj} (hb : Below (w.heap.size + 1) (w.alloc o1) w1) : Below w.heap.size w w1 :=
  ((Below.refl _ w).alloc (Nat.le_refl _) _).trans (hb.mono (by omega))
theorem Val.set3w {w w1 : World} (hb : Below w.heap.size w w1) (x y z : Value) : Below w.heap.size w (((w1.setCell ⟨w.heap.size, 0, none⟩ x).setCell ⟨w.heap.size, 1, none⟩ y).setCell ⟨w.heap.size, 2, none⟩ z) :=
  ((hb.setCell (p := ⟨w.heap.size, 0, none⟩) (Nat.le_refl _) _).setCell (p := ⟨w.heap.size, 1, none⟩) (Nat.le_refl _) _).setCell (p := ⟨w.heap.size, 2, none⟩) (Nat.le_refl _) _
theorem Val.row3' {w w1 : World} {a0 a1 a2 : Value} {t : TypeId} (hb : Below (w.heap.size + 1) (w.alloc (.cells #[a0, a1, a2] t)) w1) :
    (w1.cell? ⟨w.heap.size, 0, none⟩ = some a0 ∧ w1.cell? ⟨w.heap.size, 1, none⟩ = some a1 ∧ w1.cell? ⟨w.heap.size, 2, none⟩ = some a2) ∧ w1.frozen? ⟨w.heap.size, 0, none⟩ = false ∧ w1.frozen? ⟨w.heap.size, 1, none⟩ = false ∧ w1.frozen? ⟨w.heap.size, 2, none⟩ = false :=
  Val.row3 (t := t) hb (by omega) (Val.new_at w _)
def Val.rangeW : ByteArray := ⟨#[114, 97, 110, 103, 101]⟩
set_option maxRecDepth 100000 in
set_option maxHeartbeats 1000000 in
theorem Val.l4Cut_no (s : ByteArray) (i j : Int) (h : ¬ (0 ≤ i ∧ i ≤ j ∧ j ≤ (s.size : Int))) (w : World) :
    Calls Tryz.prog 13 #[.string s, .int .i64 i, .int .i64 j] w fun e w' => e = .returned (Val.ansV (Val.zero, Val.rangeW)) ∧ Below w.heap.size w w' := by
  have h3 : i < 0 ∨ (0 ≤ i ∧ j < i) ∨ (0 ≤ i ∧ i ≤ j ∧ (s.size : Int) < j) := by omega
  rcases h3 with h1 | ⟨h1, h2⟩ | ⟨h1, h2, h3⟩
  all_goals
    go_enter Tryz.func13, Tryz.ntmps13
    go_wp2
  all_goals exact bodyPost_ret (v := Val.ansV (Val.zero, Val.rangeW)) (by simp [results, Tryz.results13, go_sem, Val.ansV, Val.v, Val.zero, Val.rangeW]) rfl ⟨rfl, (Below.refl _ w).alloc (Nat.le_refl _) _⟩
set_option maxRecDepth 100000 in
set_option maxHeartbeats 1000000 in
theorem Val.l4Cut_yes (s : ByteArray) (i j : Nat) (h1 : i ≤ j) (h2 : j ≤ s.size) (w : World) :
    Calls Tryz.prog 13 #[.string s, .int .i64 (i : Int), .int .i64 (j : Int)] w fun e w' => e = .returned (Val.ansV (⟨2, 0, s.extract i j⟩, ⟨#[]⟩)) ∧ Below w.heap.size w w' := by
  go_enter Tryz.func13, Tryz.ntmps13
  go_wp2_with (go_at_call 15; (refine (Val.l4Text_w _ _).mono ?_; rintro e w1 ⟨rfl, hb1⟩; simp only [World.size_alloc] at hb1; obtain ⟨⟨a0, a1, a2⟩, f0, f1, f2⟩ := Val.row3' hb1))
  exact bodyPost_ret (v := Val.ansV (⟨2, 0, s.extract i j⟩, ⟨#[]⟩)) (by simp [results, Tryz.results13, go_sem, a0, a1, a2, Val.ansV, Val.v]) rfl ⟨rfl, Val.set3w (Val.alloc1 hb1) _ _ _⟩
theorem Val.occ (s x : ByteArray) (i : Nat) (_h : i + x.size ≤ s.size) : Lib.occAt s.data.toList x.data.toList i = ((s.extract i (i + x.size)).toList == x.toList) := by
  rw [ByteArray.toList_eq, ByteArray.toList_eq, Lib.extract_data, Lib.occAt, show i + x.size - i = x.data.toList.length by simp]
  rw [Bool.eq_iff_iff, List.isPrefixOf_iff_prefix, beq_iff_eq, List.prefix_iff_eq_take]
  exact eq_comm
theorem Val.occ_long (s x : ByteArray) (i : Nat) (hi : i ≤ s.size) (h : s.size < i + x.size) : Lib.occAt s.data.toList x.data.toList i = false := by
  rw [Bool.eq_false_iff]
  intro hc
  rw [Lib.occAt, List.isPrefixOf_iff_prefix] at hc
  have := hc.length_le
  simp at this
  omega
set_option maxRecDepth 100000 in
set_option maxHeartbeats 1000000 in
theorem Val.l4Find_any (s x : ByteArray) (hs : s.size ≤ 1048576) (hx : x.size ≤ 1048576) (w : World) :
    Calls Tryz.prog 14 #[.string s, .string x] w fun e w' => e = .returned (.int .i64 (Lib.index s.data.toList x.data.toList)) ∧ Below w.heap.size w w' := by
  go_enter Tryz.func14, Tryz.ntmps14
  go_wp2_with fail
  go_loopw [5] (fun t wr => ∃ i : Nat, t = .int .i64 (i : Int) ∧ i ≤ s.size + 1 ∧ (∀ j, j < i → Lib.occAt s.data.toList x.data.toList j = false) ∧ Below w.heap.size w wr) (fun t _ => s.size + 1 - (intOf t).toNat)
  case atStart => exact ⟨0, rfl, by omega, fun j hj => by omega, Below.refl _ _⟩
  case round =>
    obtain ⟨i, rfl, hi, hu, hbw⟩ := hrel
    have HU : Hid (∀ j, j < i → Lib.occAt s.data.toList x.data.toList j = false) := hu
    clear hu
    by_cases hlt : i + x.size ≤ s.size
    · have ho := Val.occ s x i hlt
      go_wp2
      · go_ret
        rename_i he
        exact ⟨Val.ret_i (Lib.index_first (i := i) (by simp; omega) (by rw [ho]; exact he) HU.out).symm, hbw⟩
      · rename_i he
        go_roundw
        case rel =>
          refine ⟨i + 1, by go_num, by omega, fun j hj => ?_, hbw⟩
          by_cases hji : j < i
          · exact HU.out j hji
          · have : j = i := by omega
            subst this
            rw [ho]; simpa using he
        case measure => simp [intOf]; omega
    · have HN : Hid (∀ j, j ≤ s.size → Lib.occAt s.data.toList x.data.toList j = false) := fun j hjs => by
        by_cases hji : j < i
        · exact HU.out j hji
        · exact Val.occ_long s x j hjs (by omega)
      go_wp2
      go_ret
      exact ⟨Val.ret_i (Lib.index_none (fun j hj => HN.out j (by simpa using hj))).symm, hbw⟩
def Val.loose : List UInt8 → Int → Int
  | [], n => n
  | c :: r, n => Val.loose r (Val.u (n * 10 + (c.toNat : Int) - 48))
end Go.Proofs.YtfelngigfmdedaaGreatDoor
