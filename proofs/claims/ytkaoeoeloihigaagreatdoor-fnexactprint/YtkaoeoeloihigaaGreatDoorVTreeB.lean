import Derived.Test.YtkaoeoeloihigaaGreatDoorVTreeA
import Derived.Deep.Light
import Derived.Deep.RegionWith
namespace Go.Proofs.YtkaoeoeloihigaaGreatDoor
open Go.RowKit

def Mill.kindOk (d : Mill.Nd) : Bool :=
  if d.kind = 1 then decide (3 ≤ d.type) && decide (d.type ≤ 10) && decide (IntKind.u64.wrap d.n ≤ Mill.maxOf d.type)
  else if d.kind = 2 then decide (d.text.size ≤ 3000)
  else if d.kind = 3 then decide (d.n = 0) || decide (d.n = 1)
  else if d.kind = 5 then decide (1 ≤ d.op) && decide (d.op ≤ 3)
  else if d.kind = 6 then decide (1 ≤ d.op) && decide (d.op ≤ 18)
  else if d.kind = 8 then decide (1 ≤ d.op) && decide (d.op ≤ 12)
  else if d.kind = 9 then decide (3 ≤ d.type) && decide (d.type ≤ 10)
  else if d.kind = 22 then decide (1 ≤ d.type) && decide (d.type ≤ 10)
  else if d.kind = 23 then decide (0 ≤ d.type) && decide (d.type ≤ 10)
  else true
def Mill.unused (d : Mill.Nd) : Bool := (Mill.uOp d.kind || (d.op == 0)) && (Mill.uType d.kind || (d.type == 0)) && (Mill.uN d.kind || (d.n == 0)) && (Mill.uText d.kind || d.text.toList.isEmpty)
def Mill.fields (d : Mill.Nd) : Bool := Mill.unused d && (!Mill.named d.kind || Mill.nameOk d.text) && Mill.kindOk d

theorem Mill.fields_unused (d : Mill.Nd) (h : Mill.unused d = false) : Mill.fields d = false := by simp [Mill.fields, h]
theorem Mill.fields_name (d : Mill.Nd) (h : Mill.named d.kind = true) (h2 : Mill.nameOk d.text = false) : Mill.fields d = false := by simp [Mill.fields, h, h2]
theorem Mill.fields_kind (d : Mill.Nd) (h0 : Mill.unused d = true) (h : Mill.named d.kind = false ∨ Mill.nameOk d.text = true) : Mill.fields d = Mill.kindOk d := by
  rcases h with h | h <;> simp [Mill.fields, h0, h]


theorem Mill.nd_cells {w w1 : World} {c0 c1 c2 c3 c4 c5 : Value} {t : TypeId} (hb : Below (w.heap.size + 1) (w.alloc (.cells #[c0, c1, c2, c3, c4, c5] t)) w1) :
    w1.cell? ⟨w.heap.size, 0, none⟩ = some c0 ∧ w1.cell? ⟨w.heap.size, 1, none⟩ = some c1 ∧ w1.cell? ⟨w.heap.size, 2, none⟩ = some c2 ∧ w1.cell? ⟨w.heap.size, 3, none⟩ = some c3 ∧ w1.cell? ⟨w.heap.size, 4, none⟩ = some c4 ∧ w1.cell? ⟨w.heap.size, 5, none⟩ = some c5 := by
  refine ⟨?_, ?_, ?_, ?_, ?_, ?_⟩
  · rw [hb.cell (p := ⟨w.heap.size, 0, none⟩) (by simp)]; simp [go_sem]
  · rw [hb.cell (p := ⟨w.heap.size, 1, none⟩) (by simp)]; simp [go_sem]
  · rw [hb.cell (p := ⟨w.heap.size, 2, none⟩) (by simp)]; simp [go_sem]
  · rw [hb.cell (p := ⟨w.heap.size, 3, none⟩) (by simp)]; simp [go_sem]
  · rw [hb.cell (p := ⟨w.heap.size, 4, none⟩) (by simp)]; simp [go_sem]
  · rw [hb.cell (p := ⟨w.heap.size, 5, none⟩) (by simp)]; simp [go_sem]
theorem Mill.nd_below {w w1 : World} {o : Obj} (hb : Below (w.heap.size + 1) (w.alloc o) w1) : Below w.heap.size w w1 := ((Below.refl _ w).alloc (Nat.le_refl _) _).trans (hb.mono (by omega))

set_option maxRecDepth 100000 in
set_option maxHeartbeats 1000000 in
theorem l2Fields_2 (o t n : Int) (x : ByteArray) (k : Int) (w : World) :
    Calls Tryz.prog 20 #[Mill.ndV ⟨2, o, t, n, x, k⟩] w fun e w' => e = .returned (.bool (Mill.fields ⟨2, o, t, n, x, k⟩)) ∧ Below w.heap.size w w' := by
  have HU : Hid (Mill.usesV 2 = .tuple #[.bool false, .bool false, .bool false, .bool true]) := by rw [Hid]; rfl
  have HN : Hid (Mill.named 2 = false) := by rw [Hid]; rfl
  simp only [Mill.ndV]
  go_enter Tryz.func20, Tryz.ntmps20
  go_wp2_with (first
    | (go_at_call 35; refine (l2Uses_any _ _).mono ?_; rintro e w' ⟨rfl, rfl⟩; rw [HU.out])
    | (go_at_call 36; refine (l2Named_any _ _).mono ?_; rintro e w' ⟨rfl, rfl⟩; rw [HN.out]))
  all_goals go_ret
  all_goals refine ⟨Mill.ret_bool ?_, ?_⟩
  all_goals first | exact (Below.refl _ w).alloc (Nat.le_refl _) _ | skip
  all_goals go_light
  all_goals simp_all [Mill.fields, Mill.unused, Mill.kindOk, Mill.uOp, Mill.uType, Mill.uN, Mill.uText, Mill.named]
  all_goals first | omega | (rw [Bool.eq_iff_iff]; simp; omega)
set_option maxRecDepth 100000 in
set_option maxHeartbeats 1000000 in
theorem l2Fields_3 (o t n : Int) (x : ByteArray) (k : Int) (w : World) :
    Calls Tryz.prog 20 #[Mill.ndV ⟨3, o, t, n, x, k⟩] w fun e w' => e = .returned (.bool (Mill.fields ⟨3, o, t, n, x, k⟩)) ∧ Below w.heap.size w w' := by
  have HU : Hid (Mill.usesV 3 = .tuple #[.bool false, .bool false, .bool true, .bool false]) := by rw [Hid]; rfl
  have HN : Hid (Mill.named 3 = false) := by rw [Hid]; rfl
  simp only [Mill.ndV]
  go_enter Tryz.func20, Tryz.ntmps20
  go_wp2_with (first
    | (go_at_call 35; refine (l2Uses_any _ _).mono ?_; rintro e w' ⟨rfl, rfl⟩; rw [HU.out])
    | (go_at_call 36; refine (l2Named_any _ _).mono ?_; rintro e w' ⟨rfl, rfl⟩; rw [HN.out]))
  all_goals go_ret
  all_goals refine ⟨Mill.ret_bool ?_, ?_⟩
  all_goals first | exact (Below.refl _ w).alloc (Nat.le_refl _) _ | skip
  all_goals go_light
  all_goals simp_all [Mill.fields, Mill.unused, Mill.kindOk, Mill.uOp, Mill.uType, Mill.uN, Mill.uText, Mill.named]
  all_goals first | omega | (rw [Bool.eq_iff_iff]; simp; omega)
set_option maxRecDepth 100000 in
set_option maxHeartbeats 1000000 in
theorem l2Fields_4 (o t n : Int) (x : ByteArray) (k : Int) (w : World) :
    Calls Tryz.prog 20 #[Mill.ndV ⟨4, o, t, n, x, k⟩] w fun e w' => e = .returned (.bool (Mill.fields ⟨4, o, t, n, x, k⟩)) ∧ Below w.heap.size w w' := by
  have HU : Hid (Mill.usesV 4 = .tuple #[.bool false, .bool false, .bool false, .bool true]) := by rw [Hid]; rfl
  have HN : Hid (Mill.named 4 = true) := by rw [Hid]; rfl
  cases hq : Mill.nameOk x
  all_goals
    simp only [Mill.ndV]
    go_enter Tryz.func20, Tryz.ntmps20
    go_wp2_with (first
      | (go_at_call 35; refine (l2Uses_any _ _).mono ?_; rintro e w' ⟨rfl, rfl⟩; rw [HU.out])
      | (go_at_call 36; refine (l2Named_any _ _).mono ?_; rintro e w' ⟨rfl, rfl⟩; rw [HN.out])
      | (go_at_call 37; refine (l1NameOk_any _ _).mono ?_; rintro e w1 ⟨rfl, hb⟩; rw [hq]; rw [World.size_alloc] at hb; obtain ⟨g0, g1, g2, g3, g4, g5⟩ := Mill.nd_cells hb))
    all_goals go_ret
    all_goals refine ⟨Mill.ret_bool ?_, ?_⟩
    all_goals first | exact (Below.refl _ w).alloc (Nat.le_refl _) _ | exact Mill.nd_below (by assumption) | skip
    all_goals go_light
    all_goals simp_all [Mill.fields, Mill.unused, Mill.kindOk, Mill.uOp, Mill.uType, Mill.uN, Mill.uText, Mill.named]
    all_goals first | omega | (rw [Bool.eq_iff_iff]; simp; omega)
set_option maxRecDepth 100000 in
set_option maxHeartbeats 1000000 in
theorem l2Fields_5 (o t n : Int) (x : ByteArray) (k : Int) (w : World) :
    Calls Tryz.prog 20 #[Mill.ndV ⟨5, o, t, n, x, k⟩] w fun e w' => e = .returned (.bool (Mill.fields ⟨5, o, t, n, x, k⟩)) ∧ Below w.heap.size w w' := by
  have HU : Hid (Mill.usesV 5 = .tuple #[.bool true, .bool false, .bool false, .bool false]) := by rw [Hid]; rfl
  have HN : Hid (Mill.named 5 = false) := by rw [Hid]; rfl
  simp only [Mill.ndV]
  go_enter Tryz.func20, Tryz.ntmps20
  go_wp2_with (first
    | (go_at_call 35; refine (l2Uses_any _ _).mono ?_; rintro e w' ⟨rfl, rfl⟩; rw [HU.out])
    | (go_at_call 36; refine (l2Named_any _ _).mono ?_; rintro e w' ⟨rfl, rfl⟩; rw [HN.out]))
  all_goals go_ret
  all_goals refine ⟨Mill.ret_bool ?_, ?_⟩
  all_goals first | exact (Below.refl _ w).alloc (Nat.le_refl _) _ | skip
  all_goals go_light
  all_goals simp_all [Mill.fields, Mill.unused, Mill.kindOk, Mill.uOp, Mill.uType, Mill.uN, Mill.uText, Mill.named]
  all_goals first | omega | (rw [Bool.eq_iff_iff]; simp; omega)
set_option maxRecDepth 100000 in
set_option maxHeartbeats 1000000 in
theorem l2Fields_6 (o t n : Int) (x : ByteArray) (k : Int) (w : World) :
    Calls Tryz.prog 20 #[Mill.ndV ⟨6, o, t, n, x, k⟩] w fun e w' => e = .returned (.bool (Mill.fields ⟨6, o, t, n, x, k⟩)) ∧ Below w.heap.size w w' := by
  have HU : Hid (Mill.usesV 6 = .tuple #[.bool true, .bool false, .bool false, .bool false]) := by rw [Hid]; rfl
  have HN : Hid (Mill.named 6 = false) := by rw [Hid]; rfl
  simp only [Mill.ndV]
  go_enter Tryz.func20, Tryz.ntmps20
  go_wp2_with (first
    | (go_at_call 35; refine (l2Uses_any _ _).mono ?_; rintro e w' ⟨rfl, rfl⟩; rw [HU.out])
    | (go_at_call 36; refine (l2Named_any _ _).mono ?_; rintro e w' ⟨rfl, rfl⟩; rw [HN.out]))
  all_goals go_ret
  all_goals refine ⟨Mill.ret_bool ?_, ?_⟩
  all_goals first | exact (Below.refl _ w).alloc (Nat.le_refl _) _ | skip
  all_goals go_light
  all_goals simp_all [Mill.fields, Mill.unused, Mill.kindOk, Mill.uOp, Mill.uType, Mill.uN, Mill.uText, Mill.named]
  all_goals first | omega | (rw [Bool.eq_iff_iff]; simp; omega)
set_option maxRecDepth 100000 in
set_option maxHeartbeats 1000000 in
theorem l2Fields_7 (o t n : Int) (x : ByteArray) (k : Int) (w : World) :
    Calls Tryz.prog 20 #[Mill.ndV ⟨7, o, t, n, x, k⟩] w fun e w' => e = .returned (.bool (Mill.fields ⟨7, o, t, n, x, k⟩)) ∧ Below w.heap.size w w' := by
  have HU : Hid (Mill.usesV 7 = .tuple #[.bool false, .bool false, .bool false, .bool true]) := by rw [Hid]; rfl
  have HN : Hid (Mill.named 7 = true) := by rw [Hid]; rfl
  cases hq : Mill.nameOk x
  all_goals
    simp only [Mill.ndV]
    go_enter Tryz.func20, Tryz.ntmps20
    go_wp2_with (first
      | (go_at_call 35; refine (l2Uses_any _ _).mono ?_; rintro e w' ⟨rfl, rfl⟩; rw [HU.out])
      | (go_at_call 36; refine (l2Named_any _ _).mono ?_; rintro e w' ⟨rfl, rfl⟩; rw [HN.out])
      | (go_at_call 37; refine (l1NameOk_any _ _).mono ?_; rintro e w1 ⟨rfl, hb⟩; rw [hq]; rw [World.size_alloc] at hb; obtain ⟨g0, g1, g2, g3, g4, g5⟩ := Mill.nd_cells hb))
    all_goals go_ret
    all_goals refine ⟨Mill.ret_bool ?_, ?_⟩
    all_goals first | exact (Below.refl _ w).alloc (Nat.le_refl _) _ | exact Mill.nd_below (by assumption) | skip
    all_goals go_light
    all_goals simp_all [Mill.fields, Mill.unused, Mill.kindOk, Mill.uOp, Mill.uType, Mill.uN, Mill.uText, Mill.named]
    all_goals first | omega | (rw [Bool.eq_iff_iff]; simp; omega)
set_option maxRecDepth 100000 in
set_option maxHeartbeats 1000000 in
theorem l2Fields_8 (o t n : Int) (x : ByteArray) (k : Int) (w : World) :
    Calls Tryz.prog 20 #[Mill.ndV ⟨8, o, t, n, x, k⟩] w fun e w' => e = .returned (.bool (Mill.fields ⟨8, o, t, n, x, k⟩)) ∧ Below w.heap.size w w' := by
  have HU : Hid (Mill.usesV 8 = .tuple #[.bool true, .bool false, .bool false, .bool false]) := by rw [Hid]; rfl
  have HN : Hid (Mill.named 8 = false) := by rw [Hid]; rfl
  simp only [Mill.ndV]
  go_enter Tryz.func20, Tryz.ntmps20
  go_wp2_with (first
    | (go_at_call 35; refine (l2Uses_any _ _).mono ?_; rintro e w' ⟨rfl, rfl⟩; rw [HU.out])
    | (go_at_call 36; refine (l2Named_any _ _).mono ?_; rintro e w' ⟨rfl, rfl⟩; rw [HN.out]))
  all_goals go_ret
  all_goals refine ⟨Mill.ret_bool ?_, ?_⟩
  all_goals first | exact (Below.refl _ w).alloc (Nat.le_refl _) _ | skip
  all_goals go_light
  all_goals simp_all [Mill.fields, Mill.unused, Mill.kindOk, Mill.uOp, Mill.uType, Mill.uN, Mill.uText, Mill.named]
  all_goals first | omega | (rw [Bool.eq_iff_iff]; simp; omega)
set_option maxRecDepth 100000 in
set_option maxHeartbeats 1000000 in
theorem l2Fields_9 (o t n : Int) (x : ByteArray) (k : Int) (w : World) :
    Calls Tryz.prog 20 #[Mill.ndV ⟨9, o, t, n, x, k⟩] w fun e w' => e = .returned (.bool (Mill.fields ⟨9, o, t, n, x, k⟩)) ∧ Below w.heap.size w w' := by
  have HU : Hid (Mill.usesV 9 = .tuple #[.bool false, .bool true, .bool false, .bool false]) := by rw [Hid]; rfl
  have HN : Hid (Mill.named 9 = false) := by rw [Hid]; rfl
  simp only [Mill.ndV]
  go_enter Tryz.func20, Tryz.ntmps20
  go_wp2_with (first
    | (go_at_call 35; refine (l2Uses_any _ _).mono ?_; rintro e w' ⟨rfl, rfl⟩; rw [HU.out])
    | (go_at_call 36; refine (l2Named_any _ _).mono ?_; rintro e w' ⟨rfl, rfl⟩; rw [HN.out])
    | (go_at_call 38; refine (l1Integer_any _ _).mono ?_; rintro e w' ⟨rfl, rfl⟩))
  all_goals go_ret
  all_goals refine ⟨Mill.ret_bool ?_, ?_⟩
  all_goals first | exact (Below.refl _ w).alloc (Nat.le_refl _) _ | skip
  all_goals go_light
  all_goals simp_all [Mill.fields, Mill.unused, Mill.kindOk, Mill.uOp, Mill.uType, Mill.uN, Mill.uText, Mill.named]
  all_goals first | omega | (rw [Bool.eq_iff_iff]; simp; omega)
set_option maxRecDepth 100000 in
set_option maxHeartbeats 1000000 in
theorem l2Fields_10 (o t n : Int) (x : ByteArray) (k : Int) (w : World) :
    Calls Tryz.prog 20 #[Mill.ndV ⟨10, o, t, n, x, k⟩] w fun e w' => e = .returned (.bool (Mill.fields ⟨10, o, t, n, x, k⟩)) ∧ Below w.heap.size w w' := by
  have HU : Hid (Mill.usesV 10 = .tuple #[.bool false, .bool false, .bool false, .bool true]) := by rw [Hid]; rfl
  have HN : Hid (Mill.named 10 = true) := by rw [Hid]; rfl
  cases hq : Mill.nameOk x
  all_goals
    simp only [Mill.ndV]
    go_enter Tryz.func20, Tryz.ntmps20
    go_wp2_with (first
      | (go_at_call 35; refine (l2Uses_any _ _).mono ?_; rintro e w' ⟨rfl, rfl⟩; rw [HU.out])
      | (go_at_call 36; refine (l2Named_any _ _).mono ?_; rintro e w' ⟨rfl, rfl⟩; rw [HN.out])
      | (go_at_call 37; refine (l1NameOk_any _ _).mono ?_; rintro e w1 ⟨rfl, hb⟩; rw [hq]; rw [World.size_alloc] at hb; obtain ⟨g0, g1, g2, g3, g4, g5⟩ := Mill.nd_cells hb))
    all_goals go_ret
    all_goals refine ⟨Mill.ret_bool ?_, ?_⟩
    all_goals first | exact (Below.refl _ w).alloc (Nat.le_refl _) _ | exact Mill.nd_below (by assumption) | skip
    all_goals go_light
    all_goals simp_all [Mill.fields, Mill.unused, Mill.kindOk, Mill.uOp, Mill.uType, Mill.uN, Mill.uText, Mill.named]
    all_goals first | omega | (rw [Bool.eq_iff_iff]; simp; omega)
set_option maxRecDepth 100000 in
set_option maxHeartbeats 1000000 in
theorem l2Fields_11 (o t n : Int) (x : ByteArray) (k : Int) (w : World) :
    Calls Tryz.prog 20 #[Mill.ndV ⟨11, o, t, n, x, k⟩] w fun e w' => e = .returned (.bool (Mill.fields ⟨11, o, t, n, x, k⟩)) ∧ Below w.heap.size w w' := by
  have HU : Hid (Mill.usesV 11 = .tuple #[.bool false, .bool false, .bool false, .bool true]) := by rw [Hid]; rfl
  have HN : Hid (Mill.named 11 = true) := by rw [Hid]; rfl
  cases hq : Mill.nameOk x
  all_goals
    simp only [Mill.ndV]
    go_enter Tryz.func20, Tryz.ntmps20
    go_wp2_with (first
      | (go_at_call 35; refine (l2Uses_any _ _).mono ?_; rintro e w' ⟨rfl, rfl⟩; rw [HU.out])
      | (go_at_call 36; refine (l2Named_any _ _).mono ?_; rintro e w' ⟨rfl, rfl⟩; rw [HN.out])
      | (go_at_call 37; refine (l1NameOk_any _ _).mono ?_; rintro e w1 ⟨rfl, hb⟩; rw [hq]; rw [World.size_alloc] at hb; obtain ⟨g0, g1, g2, g3, g4, g5⟩ := Mill.nd_cells hb))
    all_goals go_ret
    all_goals refine ⟨Mill.ret_bool ?_, ?_⟩
    all_goals first | exact (Below.refl _ w).alloc (Nat.le_refl _) _ | exact Mill.nd_below (by assumption) | skip
    all_goals go_light
    all_goals simp_all [Mill.fields, Mill.unused, Mill.kindOk, Mill.uOp, Mill.uType, Mill.uN, Mill.uText, Mill.named]
    all_goals first | omega | (rw [Bool.eq_iff_iff]; simp; omega)
set_option maxRecDepth 100000 in
set_option maxHeartbeats 1000000 in
theorem l2Fields_22 (o t n : Int) (x : ByteArray) (k : Int) (w : World) :
    Calls Tryz.prog 20 #[Mill.ndV ⟨22, o, t, n, x, k⟩] w fun e w' => e = .returned (.bool (Mill.fields ⟨22, o, t, n, x, k⟩)) ∧ Below w.heap.size w w' := by
  have HU : Hid (Mill.usesV 22 = .tuple #[.bool false, .bool true, .bool false, .bool true]) := by rw [Hid]; rfl
  have HN : Hid (Mill.named 22 = true) := by rw [Hid]; rfl
  cases hq : Mill.nameOk x
  all_goals
    simp only [Mill.ndV]
    go_enter Tryz.func20, Tryz.ntmps20
    go_wp2_with (first
      | (go_at_call 35; refine (l2Uses_any _ _).mono ?_; rintro e w' ⟨rfl, rfl⟩; rw [HU.out])
      | (go_at_call 36; refine (l2Named_any _ _).mono ?_; rintro e w' ⟨rfl, rfl⟩; rw [HN.out])
      | (go_at_call 37; refine (l1NameOk_any _ _).mono ?_; rintro e w1 ⟨rfl, hb⟩; rw [hq]; rw [World.size_alloc] at hb; obtain ⟨g0, g1, g2, g3, g4, g5⟩ := Mill.nd_cells hb))
    all_goals go_ret
    all_goals refine ⟨Mill.ret_bool ?_, ?_⟩
    all_goals first | exact (Below.refl _ w).alloc (Nat.le_refl _) _ | exact Mill.nd_below (by assumption) | skip
    all_goals go_light
    all_goals simp_all [Mill.fields, Mill.unused, Mill.kindOk, Mill.uOp, Mill.uType, Mill.uN, Mill.uText, Mill.named]
    all_goals first | omega | (rw [Bool.eq_iff_iff]; simp; omega)
set_option maxRecDepth 100000 in
set_option maxHeartbeats 1000000 in
theorem l2Fields_23 (o t n : Int) (x : ByteArray) (k : Int) (w : World) :
    Calls Tryz.prog 20 #[Mill.ndV ⟨23, o, t, n, x, k⟩] w fun e w' => e = .returned (.bool (Mill.fields ⟨23, o, t, n, x, k⟩)) ∧ Below w.heap.size w w' := by
  have HU : Hid (Mill.usesV 23 = .tuple #[.bool false, .bool true, .bool false, .bool true]) := by rw [Hid]; rfl
  have HN : Hid (Mill.named 23 = true) := by rw [Hid]; rfl
  cases hq : Mill.nameOk x
  all_goals
    simp only [Mill.ndV]
    go_enter Tryz.func20, Tryz.ntmps20
    go_wp2_with (first
      | (go_at_call 35; refine (l2Uses_any _ _).mono ?_; rintro e w' ⟨rfl, rfl⟩; rw [HU.out])
      | (go_at_call 36; refine (l2Named_any _ _).mono ?_; rintro e w' ⟨rfl, rfl⟩; rw [HN.out])
      | (go_at_call 37; refine (l1NameOk_any _ _).mono ?_; rintro e w1 ⟨rfl, hb⟩; rw [hq]; rw [World.size_alloc] at hb; obtain ⟨g0, g1, g2, g3, g4, g5⟩ := Mill.nd_cells hb))
    all_goals go_ret
    all_goals refine ⟨Mill.ret_bool ?_, ?_⟩
    all_goals first | exact (Below.refl _ w).alloc (Nat.le_refl _) _ | exact Mill.nd_below (by assumption) | skip
    all_goals go_light
    all_goals simp_all [Mill.fields, Mill.unused, Mill.kindOk, Mill.uOp, Mill.uType, Mill.uN, Mill.uText, Mill.named]
    all_goals first | omega | (rw [Bool.eq_iff_iff]; simp; omega)
end Go.Proofs.YtkaoeoeloihigaaGreatDoor
