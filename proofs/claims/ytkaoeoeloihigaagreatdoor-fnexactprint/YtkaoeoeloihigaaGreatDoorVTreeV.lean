import Derived.Test.YtkaoeoeloihigaaGreatDoorVTreeU
namespace Go.Proofs.YtkaoeoeloihigaaGreatDoor
open Go.RowKit Go.Maps Go.WideMaps

def Mill.useR (d : Mill.Nd) : Bool :=
  if d.kind = 1 then decide (3 ≤ d.type) && decide (d.type ≤ 10) && decide (IntKind.u64.wrap d.n ≤ Mill.maxOf d.type)
  else if d.kind = 2 then decide (d.text.size ≤ 3000)
  else if d.kind = 4 ∨ d.kind = 7 ∨ d.kind = 10 ∨ d.kind = 11 then Mill.nameOk d.text
  else if d.kind = 5 then decide (1 ≤ d.op) && decide (d.op ≤ 3)
  else if d.kind = 6 then decide (1 ≤ d.op) && decide (d.op ≤ 18)
  else if d.kind = 8 then decide (1 ≤ d.op) && decide (d.op ≤ 12)
  else if d.kind = 9 then decide (3 ≤ d.type) && decide (d.type ≤ 10)
  else if d.kind = 22 then Mill.nameOk d.text && (decide (1 ≤ d.type) && decide (d.type ≤ 10))
  else if d.kind = 23 then Mill.nameOk d.text && ((decide (1 ≤ d.type) && decide (d.type ≤ 10)) || (d.type == 0))
  else true
def Mill.Greats (w : World) : Prop := (∀ t : Nat, 3 ≤ t → t ≤ 10 → w.cell? ⟨1, t, none⟩ = some (.int .u64 (Mill.maxOf (t : Int)))) ∧ 1 < w.heap.size

set_option maxRecDepth 100000 in
set_option maxHeartbeats 1000000 in
theorem usesRight_2 (o t y : Int) (x : ByteArray) (k : Int) (b : Nat) (w : World) :
    Calls Tryz.prog 26 #[Mill.ndV ⟨2, o, t, y, x, k⟩, .map (some b)] w fun e w' => e = .returned (.bool (Mill.useR ⟨2, o, t, y, x, k⟩)) ∧ Below w.heap.size w w' := by
  have HF : Hid (Mill.useR ⟨2, o, t, y, x, k⟩ = decide ((x.size : Int) ≤ 3000)) := by rw [Hid, Bool.eq_iff_iff]; simp [Mill.useR]; omega
  simp only [Mill.ndV]
  go_enter Tryz.func26, Tryz.ntmps26
  go_wp2
  go_ret
  exact ⟨Mill.ret_bool HF.out.symm, (Below.refl _ w).alloc (Nat.le_refl _) _⟩

set_option maxRecDepth 100000 in
set_option maxHeartbeats 1000000 in
theorem usesRight_5 (o t y : Int) (x : ByteArray) (k : Int) (b : Nat) (w : World) :
    Calls Tryz.prog 26 #[Mill.ndV ⟨5, o, t, y, x, k⟩, .map (some b)] w fun e w' => e = .returned (.bool (Mill.useR ⟨5, o, t, y, x, k⟩)) ∧ Below w.heap.size w w' := by
  simp only [Mill.ndV]
  go_enter Tryz.func26, Tryz.ntmps26
  go_wp2
  all_goals go_ret
  all_goals exact ⟨Mill.ret_bool (by go_light; simp_all [Mill.useR] <;> omega), (Below.refl _ w).alloc (Nat.le_refl _) _⟩

set_option maxRecDepth 100000 in
set_option maxHeartbeats 1000000 in
theorem usesRight_6 (o t y : Int) (x : ByteArray) (k : Int) (b : Nat) (w : World) :
    Calls Tryz.prog 26 #[Mill.ndV ⟨6, o, t, y, x, k⟩, .map (some b)] w fun e w' => e = .returned (.bool (Mill.useR ⟨6, o, t, y, x, k⟩)) ∧ Below w.heap.size w w' := by
  simp only [Mill.ndV]
  go_enter Tryz.func26, Tryz.ntmps26
  go_wp2
  all_goals go_ret
  all_goals exact ⟨Mill.ret_bool (by go_light; simp_all [Mill.useR] <;> omega), (Below.refl _ w).alloc (Nat.le_refl _) _⟩

set_option maxRecDepth 100000 in
set_option maxHeartbeats 1000000 in
theorem usesRight_8 (o t y : Int) (x : ByteArray) (k : Int) (b : Nat) (w : World) :
    Calls Tryz.prog 26 #[Mill.ndV ⟨8, o, t, y, x, k⟩, .map (some b)] w fun e w' => e = .returned (.bool (Mill.useR ⟨8, o, t, y, x, k⟩)) ∧ Below w.heap.size w w' := by
  simp only [Mill.ndV]
  go_enter Tryz.func26, Tryz.ntmps26
  go_wp2
  all_goals go_ret
  all_goals exact ⟨Mill.ret_bool (by go_light; simp_all [Mill.useR] <;> omega), (Below.refl _ w).alloc (Nat.le_refl _) _⟩

set_option maxRecDepth 100000 in
set_option maxHeartbeats 1000000 in
theorem usesRight_9 (o t y : Int) (x : ByteArray) (k : Int) (b : Nat) (w : World) :
    Calls Tryz.prog 26 #[Mill.ndV ⟨9, o, t, y, x, k⟩, .map (some b)] w fun e w' => e = .returned (.bool (Mill.useR ⟨9, o, t, y, x, k⟩)) ∧ Below w.heap.size w w' := by
  have HF : Hid (Mill.useR ⟨9, o, t, y, x, k⟩ = (decide (3 ≤ t) && decide (t ≤ 10))) := by rw [Hid]; simp [Mill.useR]
  simp only [Mill.ndV]
  go_enter Tryz.func26, Tryz.ntmps26
  go_wp2_with (go_at_call 45; refine (isIntType_any _ _).mono ?_; rintro e w' ⟨rfl, rfl⟩)
  go_ret
  exact ⟨Mill.ret_bool HF.out.symm, (Below.refl _ w).alloc (Nat.le_refl _) _⟩

set_option maxRecDepth 100000 in
set_option maxHeartbeats 1000000 in
theorem usesRight_4 (o t y : Int) (x : ByteArray) (k : Int) (b : Nat) (w : World) (hs : x.size ≤ 1048576) (hM : Mill.TWords w b) :
    Calls Tryz.prog 26 #[Mill.ndV ⟨4, o, t, y, x, k⟩, .map (some b)] w fun e w' => e = .returned (.bool (Mill.useR ⟨4, o, t, y, x, k⟩)) ∧ Below w.heap.size w w' := by
  have HF : Hid (Mill.useR ⟨4, o, t, y, x, k⟩ = Mill.nameOk x) := by rw [Hid]; simp [Mill.useR]
  simp only [Mill.ndV]
  go_enter Tryz.func26, Tryz.ntmps26
  go_wp2_with (go_at_call 47; refine (isName_any x b _ hs (hM.alloc _)).mono ?_; rintro e w1 ⟨rfl, hb⟩; rw [World.size_alloc] at hb)
  go_ret
  exact ⟨Mill.ret_bool HF.out.symm, Mill.nd_below hb⟩

set_option maxRecDepth 100000 in
set_option maxHeartbeats 1000000 in
theorem usesRight_7 (o t y : Int) (x : ByteArray) (k : Int) (b : Nat) (w : World) (hs : x.size ≤ 1048576) (hM : Mill.TWords w b) :
    Calls Tryz.prog 26 #[Mill.ndV ⟨7, o, t, y, x, k⟩, .map (some b)] w fun e w' => e = .returned (.bool (Mill.useR ⟨7, o, t, y, x, k⟩)) ∧ Below w.heap.size w w' := by
  have HF : Hid (Mill.useR ⟨7, o, t, y, x, k⟩ = Mill.nameOk x) := by rw [Hid]; simp [Mill.useR]
  simp only [Mill.ndV]
  go_enter Tryz.func26, Tryz.ntmps26
  go_wp2_with (go_at_call 47; refine (isName_any x b _ hs (hM.alloc _)).mono ?_; rintro e w1 ⟨rfl, hb⟩; rw [World.size_alloc] at hb)
  go_ret
  exact ⟨Mill.ret_bool HF.out.symm, Mill.nd_below hb⟩

set_option maxRecDepth 100000 in
set_option maxHeartbeats 1000000 in
theorem usesRight_10 (o t y : Int) (x : ByteArray) (k : Int) (b : Nat) (w : World) (hs : x.size ≤ 1048576) (hM : Mill.TWords w b) :
    Calls Tryz.prog 26 #[Mill.ndV ⟨10, o, t, y, x, k⟩, .map (some b)] w fun e w' => e = .returned (.bool (Mill.useR ⟨10, o, t, y, x, k⟩)) ∧ Below w.heap.size w w' := by
  have HF : Hid (Mill.useR ⟨10, o, t, y, x, k⟩ = Mill.nameOk x) := by rw [Hid]; simp [Mill.useR]
  simp only [Mill.ndV]
  go_enter Tryz.func26, Tryz.ntmps26
  go_wp2_with (go_at_call 47; refine (isName_any x b _ hs (hM.alloc _)).mono ?_; rintro e w1 ⟨rfl, hb⟩; rw [World.size_alloc] at hb)
  go_ret
  exact ⟨Mill.ret_bool HF.out.symm, Mill.nd_below hb⟩

set_option maxRecDepth 100000 in
set_option maxHeartbeats 1000000 in
theorem usesRight_11 (o t y : Int) (x : ByteArray) (k : Int) (b : Nat) (w : World) (hs : x.size ≤ 1048576) (hM : Mill.TWords w b) :
    Calls Tryz.prog 26 #[Mill.ndV ⟨11, o, t, y, x, k⟩, .map (some b)] w fun e w' => e = .returned (.bool (Mill.useR ⟨11, o, t, y, x, k⟩)) ∧ Below w.heap.size w w' := by
  have HF : Hid (Mill.useR ⟨11, o, t, y, x, k⟩ = Mill.nameOk x) := by rw [Hid]; simp [Mill.useR]
  simp only [Mill.ndV]
  go_enter Tryz.func26, Tryz.ntmps26
  go_wp2_with (go_at_call 47; refine (isName_any x b _ hs (hM.alloc _)).mono ?_; rintro e w1 ⟨rfl, hb⟩; rw [World.size_alloc] at hb)
  go_ret
  exact ⟨Mill.ret_bool HF.out.symm, Mill.nd_below hb⟩

set_option maxRecDepth 100000 in
set_option maxHeartbeats 1000000 in
theorem usesRight_22 (o t y : Int) (x : ByteArray) (k : Int) (b : Nat) (w : World) (hs : x.size ≤ 1048576) (hM : Mill.TWords w b) :
    Calls Tryz.prog 26 #[Mill.ndV ⟨22, o, t, y, x, k⟩, .map (some b)] w fun e w' => e = .returned (.bool (Mill.useR ⟨22, o, t, y, x, k⟩)) ∧ Below w.heap.size w w' := by
  obtain ⟨q, HQ⟩ : ∃ q, Hid (Mill.nameOk x = q) := ⟨_, (rfl : Mill.nameOk x = _)⟩
  obtain ⟨r, HR⟩ : ∃ r, Hid ((decide (1 ≤ t) && decide (t ≤ 10)) = r) := ⟨_, (rfl : (decide (1 ≤ t) && decide (t ≤ 10)) = _)⟩
  have HF : Hid (Mill.useR ⟨22, o, t, y, x, k⟩ = (q && r)) := by rw [Hid, ← HQ.out, ← HR.out]; simp [Mill.useR]
  cases q <;> cases r
  all_goals
    simp only [Mill.ndV]
    go_enter Tryz.func26, Tryz.ntmps26
    go_wp2_with (first
      | (go_at_call 47; refine (isName_is x _ HQ b _ hs (hM.alloc _)).mono ?_; rintro e w1 ⟨rfl, hb⟩; rw [World.size_alloc] at hb; obtain ⟨g0, g1, g2, g3, g4, g5⟩ := Mill.nd_cells hb)
      | (go_at_call 48; refine (isType_is t _ HR _).mono ?_; rintro e w' ⟨rfl, rfl⟩))
    go_ret
    exact ⟨Mill.ret_bool (by rw [HF.out]; rfl), Mill.nd_below hb⟩

set_option maxRecDepth 100000 in
set_option maxHeartbeats 1000000 in
theorem usesRight_23 (o t y : Int) (x : ByteArray) (k : Int) (b : Nat) (w : World) (hs : x.size ≤ 1048576) (hM : Mill.TWords w b) :
    Calls Tryz.prog 26 #[Mill.ndV ⟨23, o, t, y, x, k⟩, .map (some b)] w fun e w' => e = .returned (.bool (Mill.useR ⟨23, o, t, y, x, k⟩)) ∧ Below w.heap.size w w' := by
  obtain ⟨q, HQ⟩ : ∃ q, Hid (Mill.nameOk x = q) := ⟨_, (rfl : Mill.nameOk x = _)⟩
  obtain ⟨r, HR⟩ : ∃ r, Hid ((decide (1 ≤ t) && decide (t ≤ 10)) = r) := ⟨_, (rfl : (decide (1 ≤ t) && decide (t ≤ 10)) = _)⟩
  have HF : Hid (Mill.useR ⟨23, o, t, y, x, k⟩ = (q && (r || (t == 0)))) := by rw [Hid, ← HQ.out, ← HR.out]; simp [Mill.useR]
  cases q <;> cases r
  all_goals
    simp only [Mill.ndV]
    go_enter Tryz.func26, Tryz.ntmps26
    go_wp2_with (first
      | (go_at_call 47; refine (isName_is x _ HQ b _ hs (hM.alloc _)).mono ?_; rintro e w1 ⟨rfl, hb⟩; rw [World.size_alloc] at hb; obtain ⟨g0, g1, g2, g3, g4, g5⟩ := Mill.nd_cells hb)
      | (go_at_call 48; refine (isType_is t _ HR _).mono ?_; rintro e w' ⟨rfl, rfl⟩))
    go_ret
    exact ⟨Mill.ret_bool (by rw [HF.out]; rfl), Mill.nd_below hb⟩

set_option maxRecDepth 100000 in
set_option maxHeartbeats 1000000 in
theorem usesRight_3 (o t y : Int) (x : ByteArray) (k : Int) (b : Nat) (w : World) :
    Calls Tryz.prog 26 #[Mill.ndV ⟨3, o, t, y, x, k⟩, .map (some b)] w fun e w' => e = .returned (.bool (Mill.useR ⟨3, o, t, y, x, k⟩)) ∧ Below w.heap.size w w' := by
  have HF : Hid (Mill.useR ⟨3, o, t, y, x, k⟩ = true) := by rw [Hid]; simp [Mill.useR]
  simp only [Mill.ndV]
  go_enter Tryz.func26, Tryz.ntmps26
  go_wp2
  go_ret
  exact ⟨Mill.ret_bool HF.out.symm, (Below.refl _ w).alloc (Nat.le_refl _) _⟩

set_option maxRecDepth 100000 in
set_option maxHeartbeats 1000000 in
theorem usesRight_12 (o t y : Int) (x : ByteArray) (k : Int) (b : Nat) (w : World) :
    Calls Tryz.prog 26 #[Mill.ndV ⟨12, o, t, y, x, k⟩, .map (some b)] w fun e w' => e = .returned (.bool (Mill.useR ⟨12, o, t, y, x, k⟩)) ∧ Below w.heap.size w w' := by
  have HF : Hid (Mill.useR ⟨12, o, t, y, x, k⟩ = true) := by rw [Hid]; simp [Mill.useR]
  simp only [Mill.ndV]
  go_enter Tryz.func26, Tryz.ntmps26
  go_wp2
  go_ret
  exact ⟨Mill.ret_bool HF.out.symm, (Below.refl _ w).alloc (Nat.le_refl _) _⟩

set_option maxRecDepth 100000 in
set_option maxHeartbeats 1000000 in
theorem usesRight_13 (o t y : Int) (x : ByteArray) (k : Int) (b : Nat) (w : World) :
    Calls Tryz.prog 26 #[Mill.ndV ⟨13, o, t, y, x, k⟩, .map (some b)] w fun e w' => e = .returned (.bool (Mill.useR ⟨13, o, t, y, x, k⟩)) ∧ Below w.heap.size w w' := by
  have HF : Hid (Mill.useR ⟨13, o, t, y, x, k⟩ = true) := by rw [Hid]; simp [Mill.useR]
  simp only [Mill.ndV]
  go_enter Tryz.func26, Tryz.ntmps26
  go_wp2
  go_ret
  exact ⟨Mill.ret_bool HF.out.symm, (Below.refl _ w).alloc (Nat.le_refl _) _⟩

set_option maxRecDepth 100000 in
set_option maxHeartbeats 1000000 in
theorem usesRight_14 (o t y : Int) (x : ByteArray) (k : Int) (b : Nat) (w : World) :
    Calls Tryz.prog 26 #[Mill.ndV ⟨14, o, t, y, x, k⟩, .map (some b)] w fun e w' => e = .returned (.bool (Mill.useR ⟨14, o, t, y, x, k⟩)) ∧ Below w.heap.size w w' := by
  have HF : Hid (Mill.useR ⟨14, o, t, y, x, k⟩ = true) := by rw [Hid]; simp [Mill.useR]
  simp only [Mill.ndV]
  go_enter Tryz.func26, Tryz.ntmps26
  go_wp2
  go_ret
  exact ⟨Mill.ret_bool HF.out.symm, (Below.refl _ w).alloc (Nat.le_refl _) _⟩

set_option maxRecDepth 100000 in
set_option maxHeartbeats 1000000 in
theorem usesRight_15 (o t y : Int) (x : ByteArray) (k : Int) (b : Nat) (w : World) :
    Calls Tryz.prog 26 #[Mill.ndV ⟨15, o, t, y, x, k⟩, .map (some b)] w fun e w' => e = .returned (.bool (Mill.useR ⟨15, o, t, y, x, k⟩)) ∧ Below w.heap.size w w' := by
  have HF : Hid (Mill.useR ⟨15, o, t, y, x, k⟩ = true) := by rw [Hid]; simp [Mill.useR]
  simp only [Mill.ndV]
  go_enter Tryz.func26, Tryz.ntmps26
  go_wp2
  go_ret
  exact ⟨Mill.ret_bool HF.out.symm, (Below.refl _ w).alloc (Nat.le_refl _) _⟩

set_option maxRecDepth 100000 in
set_option maxHeartbeats 1000000 in
theorem usesRight_16 (o t y : Int) (x : ByteArray) (k : Int) (b : Nat) (w : World) :
    Calls Tryz.prog 26 #[Mill.ndV ⟨16, o, t, y, x, k⟩, .map (some b)] w fun e w' => e = .returned (.bool (Mill.useR ⟨16, o, t, y, x, k⟩)) ∧ Below w.heap.size w w' := by
  have HF : Hid (Mill.useR ⟨16, o, t, y, x, k⟩ = true) := by rw [Hid]; simp [Mill.useR]
  simp only [Mill.ndV]
  go_enter Tryz.func26, Tryz.ntmps26
  go_wp2
  go_ret
  exact ⟨Mill.ret_bool HF.out.symm, (Below.refl _ w).alloc (Nat.le_refl _) _⟩

set_option maxRecDepth 100000 in
set_option maxHeartbeats 1000000 in
theorem usesRight_17 (o t y : Int) (x : ByteArray) (k : Int) (b : Nat) (w : World) :
    Calls Tryz.prog 26 #[Mill.ndV ⟨17, o, t, y, x, k⟩, .map (some b)] w fun e w' => e = .returned (.bool (Mill.useR ⟨17, o, t, y, x, k⟩)) ∧ Below w.heap.size w w' := by
  have HF : Hid (Mill.useR ⟨17, o, t, y, x, k⟩ = true) := by rw [Hid]; simp [Mill.useR]
  simp only [Mill.ndV]
  go_enter Tryz.func26, Tryz.ntmps26
  go_wp2
  go_ret
  exact ⟨Mill.ret_bool HF.out.symm, (Below.refl _ w).alloc (Nat.le_refl _) _⟩

set_option maxRecDepth 100000 in
set_option maxHeartbeats 1000000 in
theorem usesRight_18 (o t y : Int) (x : ByteArray) (k : Int) (b : Nat) (w : World) :
    Calls Tryz.prog 26 #[Mill.ndV ⟨18, o, t, y, x, k⟩, .map (some b)] w fun e w' => e = .returned (.bool (Mill.useR ⟨18, o, t, y, x, k⟩)) ∧ Below w.heap.size w w' := by
  have HF : Hid (Mill.useR ⟨18, o, t, y, x, k⟩ = true) := by rw [Hid]; simp [Mill.useR]
  simp only [Mill.ndV]
  go_enter Tryz.func26, Tryz.ntmps26
  go_wp2
  go_ret
  exact ⟨Mill.ret_bool HF.out.symm, (Below.refl _ w).alloc (Nat.le_refl _) _⟩

set_option maxRecDepth 100000 in
set_option maxHeartbeats 1000000 in
theorem usesRight_19 (o t y : Int) (x : ByteArray) (k : Int) (b : Nat) (w : World) :
    Calls Tryz.prog 26 #[Mill.ndV ⟨19, o, t, y, x, k⟩, .map (some b)] w fun e w' => e = .returned (.bool (Mill.useR ⟨19, o, t, y, x, k⟩)) ∧ Below w.heap.size w w' := by
  have HF : Hid (Mill.useR ⟨19, o, t, y, x, k⟩ = true) := by rw [Hid]; simp [Mill.useR]
  simp only [Mill.ndV]
  go_enter Tryz.func26, Tryz.ntmps26
  go_wp2
  go_ret
  exact ⟨Mill.ret_bool HF.out.symm, (Below.refl _ w).alloc (Nat.le_refl _) _⟩

set_option maxRecDepth 100000 in
set_option maxHeartbeats 1000000 in
theorem usesRight_20 (o t y : Int) (x : ByteArray) (k : Int) (b : Nat) (w : World) :
    Calls Tryz.prog 26 #[Mill.ndV ⟨20, o, t, y, x, k⟩, .map (some b)] w fun e w' => e = .returned (.bool (Mill.useR ⟨20, o, t, y, x, k⟩)) ∧ Below w.heap.size w w' := by
  have HF : Hid (Mill.useR ⟨20, o, t, y, x, k⟩ = true) := by rw [Hid]; simp [Mill.useR]
  simp only [Mill.ndV]
  go_enter Tryz.func26, Tryz.ntmps26
  go_wp2
  go_ret
  exact ⟨Mill.ret_bool HF.out.symm, (Below.refl _ w).alloc (Nat.le_refl _) _⟩

set_option maxRecDepth 100000 in
set_option maxHeartbeats 1000000 in
theorem usesRight_21 (o t y : Int) (x : ByteArray) (k : Int) (b : Nat) (w : World) :
    Calls Tryz.prog 26 #[Mill.ndV ⟨21, o, t, y, x, k⟩, .map (some b)] w fun e w' => e = .returned (.bool (Mill.useR ⟨21, o, t, y, x, k⟩)) ∧ Below w.heap.size w w' := by
  have HF : Hid (Mill.useR ⟨21, o, t, y, x, k⟩ = true) := by rw [Hid]; simp [Mill.useR]
  simp only [Mill.ndV]
  go_enter Tryz.func26, Tryz.ntmps26
  go_wp2
  go_ret
  exact ⟨Mill.ret_bool HF.out.symm, (Below.refl _ w).alloc (Nat.le_refl _) _⟩

set_option maxRecDepth 100000 in
set_option maxHeartbeats 1000000 in
theorem usesRight_24 (o t y : Int) (x : ByteArray) (k : Int) (b : Nat) (w : World) :
    Calls Tryz.prog 26 #[Mill.ndV ⟨24, o, t, y, x, k⟩, .map (some b)] w fun e w' => e = .returned (.bool (Mill.useR ⟨24, o, t, y, x, k⟩)) ∧ Below w.heap.size w w' := by
  have HF : Hid (Mill.useR ⟨24, o, t, y, x, k⟩ = true) := by rw [Hid]; simp [Mill.useR]
  simp only [Mill.ndV]
  go_enter Tryz.func26, Tryz.ntmps26
  go_wp2
  go_ret
  exact ⟨Mill.ret_bool HF.out.symm, (Below.refl _ w).alloc (Nat.le_refl _) _⟩

end Go.Proofs.YtkaoeoeloihigaaGreatDoor

namespace Go.Proofs.YtkaoeoeloihigaaGreatDoor
open Go.RowKit Go.Maps Go.WideMaps

set_option maxRecDepth 100000 in
set_option maxHeartbeats 1000000 in
theorem isLiteral_is (m : Nat) (hm3 : 3 ≤ m) (hm : m ≤ 10) (y : Int) (b : Bool) (hb : Hid (decide (IntKind.u64.wrap y ≤ Mill.maxOf (m : Int)) = b)) (w : World) (hcc : w.cell? ⟨1, m, none⟩ = some (.int .u64 (Mill.maxOf (m : Int)))) :
    Calls Tryz.prog 46 #[.int .i64 (m : Int), .int .i64 y] w fun e w' => e = .returned (.bool b) ∧ w = w' := by
  have h1 : (m : Int) < 11 := by omega
  have h0 : (0 : Int) ≤ (m : Int) := by omega
  have h1' : m < 11 := by omega
  clear hm3 hm
  go_enter Tryz.func46, Tryz.ntmps46
  go_wp2
  go_ret
  exact ⟨Mill.ret_bool hb.out, rfl⟩

set_option maxRecDepth 100000 in
set_option maxHeartbeats 1000000 in
theorem usesRight_1 (o t y : Int) (x : ByteArray) (k : Int) (b : Nat) (w : World) (hG : Mill.Greats w) :
    Calls Tryz.prog 26 #[Mill.ndV ⟨1, o, t, y, x, k⟩, .map (some b)] w fun e w' => e = .returned (.bool (Mill.useR ⟨1, o, t, y, x, k⟩)) ∧ Below w.heap.size w w' := by
  simp only [Mill.ndV]
  obtain ⟨r, HR⟩ : ∃ r, Hid ((decide (3 ≤ t) && decide (t ≤ 10)) = r) := ⟨_, (rfl : (decide (3 ≤ t) && decide (t ≤ 10)) = _)⟩
  cases r with
  | false =>
    have HF : Hid (Mill.useR ⟨1, o, t, y, x, k⟩ = false) := by rw [Hid, Mill.useR]; simp only [if_true, HR.out, Bool.false_and]
    go_enter Tryz.func26, Tryz.ntmps26
    go_wp2_with (first | (go_at_call 45; refine (isIntType_is _ false HR _).mono ?_; rintro e _ ⟨rfl, rfl⟩))
    go_ret
    exact ⟨Mill.ret_bool HF.out.symm, (Below.refl _ w).alloc (Nat.le_refl _) _⟩
  | true =>
    have HF : Hid (Mill.useR ⟨1, o, t, y, x, k⟩ = decide (IntKind.u64.wrap y ≤ Mill.maxOf t)) := by rw [Hid, Mill.useR]; simp only [if_true, HR.out, Bool.true_and]
    have ht : 3 ≤ t ∧ t ≤ 10 := by have := HR.out; simpa using this
    obtain ⟨ht1, ht2⟩ := ht
    obtain ⟨m, rfl⟩ : ∃ m : Nat, t = (m : Int) := ⟨t.toNat, by omega⟩
    obtain ⟨hc, hg⟩ := hG
    have hcc : (w.alloc (.cells #[.int .i64 1, .int .i64 o, .int .i64 (m : Int), .int .i64 y, .string x, .int .i64 k] 68)).cell? ⟨1, m, none⟩ = some (.int .u64 (Mill.maxOf (m : Int))) := by rw [World.cell?_alloc_past _ _ _ hg]; exact hc m (by omega) (by omega)
    have hm : (m : Int) < 11 := by omega
    have hm0 : (0 : Int) ≤ (m : Int) := by omega
    have hm' : m < 11 := by omega
    clear hc
    go_enter Tryz.func26, Tryz.ntmps26
    go_wp2_with (first | (go_at_call 45; refine (isIntType_is _ true HR _).mono ?_; rintro e _ ⟨rfl, rfl⟩) | (go_at_call 46; refine (isLiteral_is _ (by omega) (by omega) _ _ rfl _ hcc).mono ?_; rintro e _ ⟨rfl, rfl⟩))
    go_ret
    exact ⟨Mill.ret_bool HF.out.symm, (Below.refl _ w).alloc (Nat.le_refl _) _⟩

set_option maxRecDepth 100000 in
set_option maxHeartbeats 1000000 in
theorem usesRight_other (c : Int) (hc : c < 1 ∨ 24 < c) (o t y : Int) (x : ByteArray) (k : Int) (b : Nat) (w : World) :
    Calls Tryz.prog 26 #[Mill.ndV ⟨c, o, t, y, x, k⟩, .map (some b)] w fun e w' => e = .returned (.bool (Mill.useR ⟨c, o, t, y, x, k⟩)) ∧ Below w.heap.size w w' := by
  have hn : ∀ m : Int, 1 ≤ m → m ≤ 24 → c ≠ m := fun m h1 h2 => by omega
  have HF : Hid (Mill.useR ⟨c, o, t, y, x, k⟩ = true) := by rw [Hid]; simp [Mill.useR, hn]
  have n1 := hn 1 (by omega) (by omega); have n2 := hn 2 (by omega) (by omega); have n4 := hn 4 (by omega) (by omega); have n5 := hn 5 (by omega) (by omega); have n6 := hn 6 (by omega) (by omega); have n7 := hn 7 (by omega) (by omega); have n8 := hn 8 (by omega) (by omega); have n9 := hn 9 (by omega) (by omega); have n10 := hn 10 (by omega) (by omega); have n11 := hn 11 (by omega) (by omega); have n22 := hn 22 (by omega) (by omega); have n23 := hn 23 (by omega) (by omega)
  clear hn hc
  simp only [Mill.ndV]
  go_enter Tryz.func26, Tryz.ntmps26
  go_wp2
  go_ret
  exact ⟨Mill.ret_bool HF.out.symm, (Below.refl _ w).alloc (Nat.le_refl _) _⟩

theorem usesRight_any (d : Mill.Nd) (b : Nat) (w : World) (hs : d.text.size ≤ 1048576) (hM : Mill.TWords w b) (hG : Mill.Greats w) :
    Calls Tryz.prog 26 #[Mill.ndV d, .map (some b)] w fun e w' => e = .returned (.bool (Mill.useR d)) ∧ Below w.heap.size w w' := by
  obtain ⟨c, o, t, y, x, k⟩ := d
  rcases Mill.kinds24 c with rfl | rfl | rfl | rfl | rfl | rfl | rfl | rfl | rfl | rfl | rfl | rfl | rfl | rfl | rfl | rfl | rfl | rfl | rfl | rfl | rfl | rfl | rfl | rfl | hc
  · exact usesRight_1 o t y x k b w hG
  · exact usesRight_2 o t y x k b w
  · exact usesRight_3 o t y x k b w
  · exact usesRight_4 o t y x k b w hs hM
  · exact usesRight_5 o t y x k b w
  · exact usesRight_6 o t y x k b w
  · exact usesRight_7 o t y x k b w hs hM
  · exact usesRight_8 o t y x k b w
  · exact usesRight_9 o t y x k b w
  · exact usesRight_10 o t y x k b w hs hM
  · exact usesRight_11 o t y x k b w hs hM
  · exact usesRight_12 o t y x k b w
  · exact usesRight_13 o t y x k b w
  · exact usesRight_14 o t y x k b w
  · exact usesRight_15 o t y x k b w
  · exact usesRight_16 o t y x k b w
  · exact usesRight_17 o t y x k b w
  · exact usesRight_18 o t y x k b w
  · exact usesRight_19 o t y x k b w
  · exact usesRight_20 o t y x k b w
  · exact usesRight_21 o t y x k b w
  · exact usesRight_22 o t y x k b w hs hM
  · exact usesRight_23 o t y x k b w hs hM
  · exact usesRight_24 o t y x k b w
  · exact usesRight_other c hc o t y x k b w

end Go.Proofs.YtkaoeoeloihigaaGreatDoor
