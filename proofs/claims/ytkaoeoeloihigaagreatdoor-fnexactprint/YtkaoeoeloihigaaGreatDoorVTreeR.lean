import Derived.Test.YtkaoeoeloihigaaGreatDoorVTreeQ
namespace Go.Proofs.YtkaoeoeloihigaaGreatDoor
open Go.RowKit

def Mill.takenN (d : Mill.Nd) (m : Nat) : Mill.Nd := ⟨d.kind, if Mill.uOp d.kind then d.op else 0, if Mill.uType d.kind then d.type else 0, if d.kind = 1 then d.n else if d.kind = 3 then (if d.n = 1 then 1 else 0) else 0, if Mill.uText d.kind then d.text else ⟨#[]⟩, (m : Int)⟩
def Mill.Parts (P : Nat → Prop) (w : World) (d : Mill.Nd) (us : List Value) (e : Ending) (w' : World) : Prop :=
  ∃ S, e = .returned (.tuple #[Mill.ndV (Mill.takenN d us.length), S]) ∧ Below w.heap.size w w' ∧ Mill.Sl (fun g => P g ∨ (w.heap.size ≤ g ∧ g < w'.heap.size)) w' S us.length us
theorem Mill.sl_nil (P : Nat → Prop) (w : World) : Mill.Sl P w (.slice none 0 0) 0 [] := ⟨none, 0, rfl, fun j u hj => by simp at hj⟩
theorem Mill.sl_new {P : Nat → Prop} {w : World} {cs : Array Value} {t : TypeId} {n c : Nat} {us : List Value} (hu : cs.toList = us) (hP : P w.heap.size) : Mill.Sl P (w.alloc (.cells cs t)) (.slice (some ⟨w.heap.size, 0, none⟩) n c) n us := by
  refine ⟨_, _, rfl, fun j u hj => ⟨_, rfl, hP, ?_⟩⟩
  rw [cell_of_row _ _ _ cs t (0, 0) (heap_alloc_new w _)]
  rw [← hu] at hj
  simpa using hj
theorem Mill.sl_one {P : Nat → Prop} {w : World} {B c : Nat} {u : Value} (h : w.cell? ⟨B, 0, none⟩ = some u) (hP : P B) : Mill.Sl P w (.slice (some ⟨B, 0, none⟩) 1 c) 1 [u] := by
  refine ⟨_, _, rfl, fun j v hj => ⟨B, rfl, hP, ?_⟩⟩
  match j, hj with
  | 0, hj => simp at hj; rw [← hj]; exact h
theorem Mill.sl_two {P : Nat → Prop} {w : World} {B c : Nat} {u v : Value} (h : w.cell? ⟨B, 0, none⟩ = some u) (h1 : w.cell? ⟨B, 1, none⟩ = some v) (hP : P B) : Mill.Sl P w (.slice (some ⟨B, 0, none⟩) 2 c) 2 [u, v] := by
  refine ⟨_, _, rfl, fun j z hj => ⟨B, rfl, hP, ?_⟩⟩
  match j, hj with
  | 0, hj => simp at hj; rw [← hj]; exact h
  | 1, hj => simp at hj; rw [← hj]; exact h1
theorem Mill.sl_three {P : Nat → Prop} {w : World} {B c : Nat} {u v z : Value} (h : w.cell? ⟨B, 0, none⟩ = some u) (h1 : w.cell? ⟨B, 1, none⟩ = some v) (h2 : w.cell? ⟨B, 2, none⟩ = some z) (hP : P B) : Mill.Sl P w (.slice (some ⟨B, 0, none⟩) 3 c) 3 [u, v, z] := by
  refine ⟨_, _, rfl, fun j y hj => ⟨B, rfl, hP, ?_⟩⟩
  match j, hj with
  | 0, hj => simp at hj; rw [← hj]; exact h
  | 1, hj => simp at hj; rw [← hj]; exact h1
  | 2, hj => simp at hj; rw [← hj]; exact h2

set_option maxRecDepth 100000 in
set_option maxHeartbeats 1000000 in
theorem above_any (c o t y : Int) (x : ByteArray) (k : Int) (a : Option Addr) (n cc : Nat) (w : World) :
    Calls Tryz.prog 131 #[.agg #[.int .i64 c, .int .i64 o, .int .i64 t, .int .i64 y, .string x, .int .i64 k], .slice a n cc] w fun e w' => e = .returned (.tuple #[.agg #[.int .i64 c, .int .i64 o, .int .i64 t, .int .i64 y, .string x, .int .i64 (n : Int)], .slice a n cc]) ∧ w' = (w.alloc (.cells #[.int .i64 c, .int .i64 o, .int .i64 t, .int .i64 y, .string x, .int .i64 (n : Int)] 68)).alloc (.cells #[.int .i64 c, .int .i64 o, .int .i64 t, .int .i64 y, .string x, .int .i64 (n : Int)] 68) := by
  go_enter Tryz.func131, Tryz.ntmps131
  go_wp2
  exact bodyPost_ret (v := .tuple #[.agg #[.int .i64 c, .int .i64 o, .int .i64 t, .int .i64 y, .string x, .int .i64 (n : Int)], .slice a n cc]) (by simp [results, Tryz.results131, go_sem]) rfl ⟨rfl, rfl⟩

set_option maxRecDepth 100000 in
set_option maxHeartbeats 1000000 in
theorem parts_1 (o t y : Int) (x : ByteArray) (k : Int) (P : Nat → Prop) (w : World) :
    Calls Tryz.prog 136 #[.agg #[.int .i64 t, .int .i64 y]] w fun e w' => Mill.Parts P w ⟨1, o, t, y, x, k⟩ [] e w' := by
  have HV : Hid (Mill.ndV (Mill.takenN ⟨1, o, t, y, x, k⟩ 0) = .agg #[.int .i64 1, .int .i64 0, .int .i64 t, .int .i64 y, .string ⟨#[]⟩, .int .i64 0]) := by rw [Hid]; rfl
  go_enter Tryz.func136, Tryz.ntmps136
  go_wp2
  refine bodyPost_ret (v := .tuple #[.agg #[.int .i64 1, .int .i64 0, .int .i64 t, .int .i64 y, .string ⟨#[]⟩, .int .i64 0], .slice none 0 0]) (by simp [results, Tryz.results136, go_sem]) rfl ⟨_, by rw [← HV.out]; rfl, (by repeat (first | exact Below.refl _ _ | refine Below.alloc ?_ (by first | exact Nat.le_refl _ | (simp only [World.size_alloc]; omega)) _)), Mill.sl_nil _ _⟩

set_option maxRecDepth 100000 in
set_option maxHeartbeats 1000000 in
theorem parts_2 (o t y : Int) (x : ByteArray) (k : Int) (P : Nat → Prop) (w : World) :
    Calls Tryz.prog 137 #[.agg #[.string x]] w fun e w' => Mill.Parts P w ⟨2, o, t, y, x, k⟩ [] e w' := by
  have HV : Hid (Mill.ndV (Mill.takenN ⟨2, o, t, y, x, k⟩ 0) = .agg #[.int .i64 2, .int .i64 0, .int .i64 0, .int .i64 0, .string x, .int .i64 0]) := by rw [Hid]; rfl
  go_enter Tryz.func137, Tryz.ntmps137
  go_wp2
  refine bodyPost_ret (v := .tuple #[.agg #[.int .i64 2, .int .i64 0, .int .i64 0, .int .i64 0, .string x, .int .i64 0], .slice none 0 0]) (by simp [results, Tryz.results137, go_sem]) rfl ⟨_, by rw [← HV.out]; rfl, (by repeat (first | exact Below.refl _ _ | refine Below.alloc ?_ (by first | exact Nat.le_refl _ | (simp only [World.size_alloc]; omega)) _)), Mill.sl_nil _ _⟩

set_option maxRecDepth 100000 in
set_option maxHeartbeats 1000000 in
theorem parts_4 (o t y : Int) (x : ByteArray) (k : Int) (P : Nat → Prop) (w : World) :
    Calls Tryz.prog 139 #[.agg #[.string x]] w fun e w' => Mill.Parts P w ⟨4, o, t, y, x, k⟩ [] e w' := by
  have HV : Hid (Mill.ndV (Mill.takenN ⟨4, o, t, y, x, k⟩ 0) = .agg #[.int .i64 4, .int .i64 0, .int .i64 0, .int .i64 0, .string x, .int .i64 0]) := by rw [Hid]; rfl
  go_enter Tryz.func139, Tryz.ntmps139
  go_wp2
  refine bodyPost_ret (v := .tuple #[.agg #[.int .i64 4, .int .i64 0, .int .i64 0, .int .i64 0, .string x, .int .i64 0], .slice none 0 0]) (by simp [results, Tryz.results139, go_sem]) rfl ⟨_, by rw [← HV.out]; rfl, (by repeat (first | exact Below.refl _ _ | refine Below.alloc ?_ (by first | exact Nat.le_refl _ | (simp only [World.size_alloc]; omega)) _)), Mill.sl_nil _ _⟩

set_option maxRecDepth 100000 in
set_option maxHeartbeats 1000000 in
theorem parts_14 (o t y : Int) (x : ByteArray) (k : Int) (P : Nat → Prop) (w : World) :
    Calls Tryz.prog 147 #[.agg #[]] w fun e w' => Mill.Parts P w ⟨14, o, t, y, x, k⟩ [] e w' := by
  have HV : Hid (Mill.ndV (Mill.takenN ⟨14, o, t, y, x, k⟩ 0) = .agg #[.int .i64 14, .int .i64 0, .int .i64 0, .int .i64 0, .string ⟨#[]⟩, .int .i64 0]) := by rw [Hid]; rfl
  go_enter Tryz.func147, Tryz.ntmps147
  go_wp2
  refine bodyPost_ret (v := .tuple #[.agg #[.int .i64 14, .int .i64 0, .int .i64 0, .int .i64 0, .string ⟨#[]⟩, .int .i64 0], .slice none 0 0]) (by simp [results, Tryz.results147, go_sem]) rfl ⟨_, by rw [← HV.out]; rfl, (by repeat (first | exact Below.refl _ _ | refine Below.alloc ?_ (by first | exact Nat.le_refl _ | (simp only [World.size_alloc]; omega)) _)), Mill.sl_nil _ _⟩

set_option maxRecDepth 100000 in
set_option maxHeartbeats 1000000 in
theorem parts_15 (o t y : Int) (x : ByteArray) (k : Int) (P : Nat → Prop) (w : World) :
    Calls Tryz.prog 148 #[.agg #[]] w fun e w' => Mill.Parts P w ⟨15, o, t, y, x, k⟩ [] e w' := by
  have HV : Hid (Mill.ndV (Mill.takenN ⟨15, o, t, y, x, k⟩ 0) = .agg #[.int .i64 15, .int .i64 0, .int .i64 0, .int .i64 0, .string ⟨#[]⟩, .int .i64 0]) := by rw [Hid]; rfl
  go_enter Tryz.func148, Tryz.ntmps148
  go_wp2
  refine bodyPost_ret (v := .tuple #[.agg #[.int .i64 15, .int .i64 0, .int .i64 0, .int .i64 0, .string ⟨#[]⟩, .int .i64 0], .slice none 0 0]) (by simp [results, Tryz.results148, go_sem]) rfl ⟨_, by rw [← HV.out]; rfl, (by repeat (first | exact Below.refl _ _ | refine Below.alloc ?_ (by first | exact Nat.le_refl _ | (simp only [World.size_alloc]; omega)) _)), Mill.sl_nil _ _⟩

set_option maxRecDepth 100000 in
set_option maxHeartbeats 1000000 in
theorem parts_22 (o t y : Int) (x : ByteArray) (k : Int) (P : Nat → Prop) (w : World) :
    Calls Tryz.prog 135 #[.agg #[.string x, .int .i64 t]] w fun e w' => Mill.Parts P w ⟨22, o, t, y, x, k⟩ [] e w' := by
  have HV : Hid (Mill.ndV (Mill.takenN ⟨22, o, t, y, x, k⟩ 0) = .agg #[.int .i64 22, .int .i64 0, .int .i64 t, .int .i64 0, .string x, .int .i64 0]) := by rw [Hid]; rfl
  go_enter Tryz.func135, Tryz.ntmps135
  go_wp2
  refine bodyPost_ret (v := .tuple #[.agg #[.int .i64 22, .int .i64 0, .int .i64 t, .int .i64 0, .string x, .int .i64 0], .slice none 0 0]) (by simp [results, Tryz.results135, go_sem]) rfl ⟨_, by rw [← HV.out]; rfl, (by repeat (first | exact Below.refl _ _ | refine Below.alloc ?_ (by first | exact Nat.le_refl _ | (simp only [World.size_alloc]; omega)) _)), Mill.sl_nil _ _⟩

set_option maxRecDepth 100000 in
set_option maxHeartbeats 1000000 in
theorem parts_16n (o t y : Int) (x : ByteArray) (k : Int) (P : Nat → Prop) (w : World) :
    Calls Tryz.prog 149 #[.agg #[.nilIface]] w fun e w' => Mill.Parts P w ⟨16, o, t, y, x, k⟩ [] e w' := by
  have HV : Hid (Mill.ndV (Mill.takenN ⟨16, o, t, y, x, k⟩ 0) = .agg #[.int .i64 16, .int .i64 0, .int .i64 0, .int .i64 0, .string ⟨#[]⟩, .int .i64 0]) := by rw [Hid]; rfl
  go_enter Tryz.func149, Tryz.ntmps149
  go_wp2
  refine bodyPost_ret (v := .tuple #[.agg #[.int .i64 16, .int .i64 0, .int .i64 0, .int .i64 0, .string ⟨#[]⟩, .int .i64 0], .slice none 0 0]) (by simp [results, Tryz.results149, go_sem]) rfl ⟨_, by rw [← HV.out]; rfl, (by repeat (first | exact Below.refl _ _ | refine Below.alloc ?_ (by first | exact Nat.le_refl _ | (simp only [World.size_alloc]; omega)) _)), Mill.sl_nil _ _⟩

set_option maxRecDepth 100000 in
set_option maxHeartbeats 1000000 in
theorem parts_5 (o t y : Int) (x : ByteArray) (k : Int) (tu : TypeId) (yu : Value) (P : Nat → Prop) (w : World) :
    Calls Tryz.prog 140 #[.agg #[.int .i64 o, .iface tu yu]] w fun e w' => Mill.Parts P w ⟨5, o, t, y, x, k⟩ [.iface tu yu] e w' := by
  have HV : Hid (Mill.ndV (Mill.takenN ⟨5, o, t, y, x, k⟩ 1) = .agg #[.int .i64 5, .int .i64 o, .int .i64 0, .int .i64 0, .string ⟨#[]⟩, .int .i64 1]) := by rw [Hid]; rfl
  go_enter Tryz.func140, Tryz.ntmps140
  go_wp2_with (go_at_call 131; refine (above_any _ _ _ _ _ _ _ _ _ _).mono ?_; rintro e w' ⟨rfl, rfl⟩)
  refine bodyPost_ret (v := .tuple #[.agg #[.int .i64 5, .int .i64 o, .int .i64 0, .int .i64 0, .string ⟨#[]⟩, .int .i64 1], .slice (some ⟨w.heap.size + 1 + 1, 0, none⟩) 1 1]) (by simp [results, Tryz.results140, go_sem]) rfl ⟨_, by rw [← HV.out]; rfl, (by repeat (first | exact Below.refl _ _ | refine Below.alloc ?_ (by first | exact Nat.le_refl _ | (simp only [World.size_alloc]; omega)) _)), Mill.sl_one (by simp [go_sem]) (.inr (by simp only [World.size_alloc]; omega))⟩

set_option maxRecDepth 100000 in
set_option maxHeartbeats 1000000 in
theorem parts_9 (o t y : Int) (x : ByteArray) (k : Int) (tu : TypeId) (yu : Value) (P : Nat → Prop) (w : World) :
    Calls Tryz.prog 144 #[.agg #[.int .i64 t, .iface tu yu]] w fun e w' => Mill.Parts P w ⟨9, o, t, y, x, k⟩ [.iface tu yu] e w' := by
  have HV : Hid (Mill.ndV (Mill.takenN ⟨9, o, t, y, x, k⟩ 1) = .agg #[.int .i64 9, .int .i64 0, .int .i64 t, .int .i64 0, .string ⟨#[]⟩, .int .i64 1]) := by rw [Hid]; rfl
  go_enter Tryz.func144, Tryz.ntmps144
  go_wp2_with (go_at_call 131; refine (above_any _ _ _ _ _ _ _ _ _ _).mono ?_; rintro e w' ⟨rfl, rfl⟩)
  refine bodyPost_ret (v := .tuple #[.agg #[.int .i64 9, .int .i64 0, .int .i64 t, .int .i64 0, .string ⟨#[]⟩, .int .i64 1], .slice (some ⟨w.heap.size + 1 + 1, 0, none⟩) 1 1]) (by simp [results, Tryz.results144, go_sem]) rfl ⟨_, by rw [← HV.out]; rfl, (by repeat (first | exact Below.refl _ _ | refine Below.alloc ?_ (by first | exact Nat.le_refl _ | (simp only [World.size_alloc]; omega)) _)), Mill.sl_one (by simp [go_sem]) (.inr (by simp only [World.size_alloc]; omega))⟩

set_option maxRecDepth 100000 in
set_option maxHeartbeats 1000000 in
theorem parts_10 (o t y : Int) (x : ByteArray) (k : Int) (tu : TypeId) (yu : Value) (P : Nat → Prop) (w : World) :
    Calls Tryz.prog 145 #[.agg #[.string x, .iface tu yu]] w fun e w' => Mill.Parts P w ⟨10, o, t, y, x, k⟩ [.iface tu yu] e w' := by
  have HV : Hid (Mill.ndV (Mill.takenN ⟨10, o, t, y, x, k⟩ 1) = .agg #[.int .i64 10, .int .i64 0, .int .i64 0, .int .i64 0, .string x, .int .i64 1]) := by rw [Hid]; rfl
  go_enter Tryz.func145, Tryz.ntmps145
  go_wp2_with (go_at_call 131; refine (above_any _ _ _ _ _ _ _ _ _ _).mono ?_; rintro e w' ⟨rfl, rfl⟩)
  refine bodyPost_ret (v := .tuple #[.agg #[.int .i64 10, .int .i64 0, .int .i64 0, .int .i64 0, .string x, .int .i64 1], .slice (some ⟨w.heap.size + 1 + 1, 0, none⟩) 1 1]) (by simp [results, Tryz.results145, go_sem]) rfl ⟨_, by rw [← HV.out]; rfl, (by repeat (first | exact Below.refl _ _ | refine Below.alloc ?_ (by first | exact Nat.le_refl _ | (simp only [World.size_alloc]; omega)) _)), Mill.sl_one (by simp [go_sem]) (.inr (by simp only [World.size_alloc]; omega))⟩

set_option maxRecDepth 100000 in
set_option maxHeartbeats 1000000 in
theorem parts_11 (o t y : Int) (x : ByteArray) (k : Int) (tu : TypeId) (yu : Value) (P : Nat → Prop) (w : World) :
    Calls Tryz.prog 146 #[.agg #[.string x, .iface tu yu]] w fun e w' => Mill.Parts P w ⟨11, o, t, y, x, k⟩ [.iface tu yu] e w' := by
  have HV : Hid (Mill.ndV (Mill.takenN ⟨11, o, t, y, x, k⟩ 1) = .agg #[.int .i64 11, .int .i64 0, .int .i64 0, .int .i64 0, .string x, .int .i64 1]) := by rw [Hid]; rfl
  go_enter Tryz.func146, Tryz.ntmps146
  go_wp2_with (go_at_call 131; refine (above_any _ _ _ _ _ _ _ _ _ _).mono ?_; rintro e w' ⟨rfl, rfl⟩)
  refine bodyPost_ret (v := .tuple #[.agg #[.int .i64 11, .int .i64 0, .int .i64 0, .int .i64 0, .string x, .int .i64 1], .slice (some ⟨w.heap.size + 1 + 1, 0, none⟩) 1 1]) (by simp [results, Tryz.results146, go_sem]) rfl ⟨_, by rw [← HV.out]; rfl, (by repeat (first | exact Below.refl _ _ | refine Below.alloc ?_ (by first | exact Nat.le_refl _ | (simp only [World.size_alloc]; omega)) _)), Mill.sl_one (by simp [go_sem]) (.inr (by simp only [World.size_alloc]; omega))⟩

set_option maxRecDepth 100000 in
set_option maxHeartbeats 1000000 in
theorem parts_16 (o t y : Int) (x : ByteArray) (k : Int) (tu : TypeId) (yu : Value) (P : Nat → Prop) (w : World) :
    Calls Tryz.prog 149 #[.agg #[.iface tu yu]] w fun e w' => Mill.Parts P w ⟨16, o, t, y, x, k⟩ [.iface tu yu] e w' := by
  have HV : Hid (Mill.ndV (Mill.takenN ⟨16, o, t, y, x, k⟩ 1) = .agg #[.int .i64 16, .int .i64 0, .int .i64 0, .int .i64 0, .string ⟨#[]⟩, .int .i64 1]) := by rw [Hid]; rfl
  go_enter Tryz.func149, Tryz.ntmps149
  go_wp2_with (go_at_call 131; refine (above_any _ _ _ _ _ _ _ _ _ _).mono ?_; rintro e w' ⟨rfl, rfl⟩)
  refine bodyPost_ret (v := .tuple #[.agg #[.int .i64 16, .int .i64 0, .int .i64 0, .int .i64 0, .string ⟨#[]⟩, .int .i64 1], .slice (some ⟨w.heap.size + 1 + 1, 0, none⟩) 1 1]) (by simp [results, Tryz.results149, go_sem]) rfl ⟨_, by rw [← HV.out]; rfl, (by repeat (first | exact Below.refl _ _ | refine Below.alloc ?_ (by first | exact Nat.le_refl _ | (simp only [World.size_alloc]; omega)) _)), Mill.sl_one (by simp [go_sem]) (.inr (by simp only [World.size_alloc]; omega))⟩

set_option maxRecDepth 100000 in
set_option maxHeartbeats 1000000 in
theorem parts_17 (o t y : Int) (x : ByteArray) (k : Int) (tu : TypeId) (yu : Value) (P : Nat → Prop) (w : World) :
    Calls Tryz.prog 150 #[.agg #[.iface tu yu]] w fun e w' => Mill.Parts P w ⟨17, o, t, y, x, k⟩ [.iface tu yu] e w' := by
  have HV : Hid (Mill.ndV (Mill.takenN ⟨17, o, t, y, x, k⟩ 1) = .agg #[.int .i64 17, .int .i64 0, .int .i64 0, .int .i64 0, .string ⟨#[]⟩, .int .i64 1]) := by rw [Hid]; rfl
  go_enter Tryz.func150, Tryz.ntmps150
  go_wp2_with (go_at_call 131; refine (above_any _ _ _ _ _ _ _ _ _ _).mono ?_; rintro e w' ⟨rfl, rfl⟩)
  refine bodyPost_ret (v := .tuple #[.agg #[.int .i64 17, .int .i64 0, .int .i64 0, .int .i64 0, .string ⟨#[]⟩, .int .i64 1], .slice (some ⟨w.heap.size + 1 + 1, 0, none⟩) 1 1]) (by simp [results, Tryz.results150, go_sem]) rfl ⟨_, by rw [← HV.out]; rfl, (by repeat (first | exact Below.refl _ _ | refine Below.alloc ?_ (by first | exact Nat.le_refl _ | (simp only [World.size_alloc]; omega)) _)), Mill.sl_one (by simp [go_sem]) (.inr (by simp only [World.size_alloc]; omega))⟩

set_option maxRecDepth 100000 in
set_option maxHeartbeats 1000000 in
theorem parts_19 (o t y : Int) (x : ByteArray) (k : Int) (tu : TypeId) (yu : Value) (P : Nat → Prop) (w : World) :
    Calls Tryz.prog 152 #[.agg #[.iface tu yu]] w fun e w' => Mill.Parts P w ⟨19, o, t, y, x, k⟩ [.iface tu yu] e w' := by
  have HV : Hid (Mill.ndV (Mill.takenN ⟨19, o, t, y, x, k⟩ 1) = .agg #[.int .i64 19, .int .i64 0, .int .i64 0, .int .i64 0, .string ⟨#[]⟩, .int .i64 1]) := by rw [Hid]; rfl
  go_enter Tryz.func152, Tryz.ntmps152
  go_wp2_with (go_at_call 131; refine (above_any _ _ _ _ _ _ _ _ _ _).mono ?_; rintro e w' ⟨rfl, rfl⟩)
  refine bodyPost_ret (v := .tuple #[.agg #[.int .i64 19, .int .i64 0, .int .i64 0, .int .i64 0, .string ⟨#[]⟩, .int .i64 1], .slice (some ⟨w.heap.size + 1 + 1, 0, none⟩) 1 1]) (by simp [results, Tryz.results152, go_sem]) rfl ⟨_, by rw [← HV.out]; rfl, (by repeat (first | exact Below.refl _ _ | refine Below.alloc ?_ (by first | exact Nat.le_refl _ | (simp only [World.size_alloc]; omega)) _)), Mill.sl_one (by simp [go_sem]) (.inr (by simp only [World.size_alloc]; omega))⟩

set_option maxRecDepth 100000 in
set_option maxHeartbeats 1000000 in
theorem parts_6 (o t y : Int) (x : ByteArray) (k : Int) (tu : TypeId) (yu : Value) (tv : TypeId) (yv : Value) (P : Nat → Prop) (w : World) :
    Calls Tryz.prog 141 #[.agg #[.int .i64 o, .iface tu yu, .iface tv yv]] w fun e w' => Mill.Parts P w ⟨6, o, t, y, x, k⟩ [.iface tu yu, .iface tv yv] e w' := by
  have HV : Hid (Mill.ndV (Mill.takenN ⟨6, o, t, y, x, k⟩ 2) = .agg #[.int .i64 6, .int .i64 o, .int .i64 0, .int .i64 0, .string ⟨#[]⟩, .int .i64 2]) := by rw [Hid]; rfl
  go_enter Tryz.func141, Tryz.ntmps141
  go_wp2_with (go_at_call 131; refine (above_any _ _ _ _ _ _ _ _ _ _).mono ?_; rintro e w' ⟨rfl, rfl⟩)
  refine bodyPost_ret (v := .tuple #[.agg #[.int .i64 6, .int .i64 o, .int .i64 0, .int .i64 0, .string ⟨#[]⟩, .int .i64 2], .slice (some ⟨w.heap.size + 1 + 1, 0, none⟩) 2 2]) (by simp [results, Tryz.results141, go_sem]) rfl ⟨_, by rw [← HV.out]; rfl, (by repeat (first | exact Below.refl _ _ | refine Below.alloc ?_ (by first | exact Nat.le_refl _ | (simp only [World.size_alloc]; omega)) _)), Mill.sl_two (by simp [go_sem]) (by simp [go_sem]) (.inr (by simp only [World.size_alloc]; omega))⟩

set_option maxRecDepth 100000 in
set_option maxHeartbeats 1000000 in
theorem parts_18 (o t y : Int) (x : ByteArray) (k : Int) (tu : TypeId) (yu : Value) (tv : TypeId) (yv : Value) (P : Nat → Prop) (w : World) :
    Calls Tryz.prog 151 #[.agg #[.iface tu yu, .iface tv yv]] w fun e w' => Mill.Parts P w ⟨18, o, t, y, x, k⟩ [.iface tu yu, .iface tv yv] e w' := by
  have HV : Hid (Mill.ndV (Mill.takenN ⟨18, o, t, y, x, k⟩ 2) = .agg #[.int .i64 18, .int .i64 0, .int .i64 0, .int .i64 0, .string ⟨#[]⟩, .int .i64 2]) := by rw [Hid]; rfl
  go_enter Tryz.func151, Tryz.ntmps151
  go_wp2_with (go_at_call 131; refine (above_any _ _ _ _ _ _ _ _ _ _).mono ?_; rintro e w' ⟨rfl, rfl⟩)
  refine bodyPost_ret (v := .tuple #[.agg #[.int .i64 18, .int .i64 0, .int .i64 0, .int .i64 0, .string ⟨#[]⟩, .int .i64 2], .slice (some ⟨w.heap.size + 1 + 1, 0, none⟩) 2 2]) (by simp [results, Tryz.results151, go_sem]) rfl ⟨_, by rw [← HV.out]; rfl, (by repeat (first | exact Below.refl _ _ | refine Below.alloc ?_ (by first | exact Nat.le_refl _ | (simp only [World.size_alloc]; omega)) _)), Mill.sl_two (by simp [go_sem]) (by simp [go_sem]) (.inr (by simp only [World.size_alloc]; omega))⟩

set_option maxRecDepth 100000 in
set_option maxHeartbeats 1000000 in
theorem parts_13 (o t y : Int) (x : ByteArray) (k : Int) (tu : TypeId) (yu : Value) (sa : Option Addr) (sn sc : Nat) (P : Nat → Prop) (w : World) :
    Calls Tryz.prog 154 #[.agg #[.iface tu yu, .slice sa sn sc]] w fun e w' => Mill.Parts P w ⟨13, o, t, y, x, k⟩ [.iface tu yu, Mill.blV (.slice sa sn sc)] e w' := by
  have HV : Hid (Mill.ndV (Mill.takenN ⟨13, o, t, y, x, k⟩ 2) = .agg #[.int .i64 13, .int .i64 0, .int .i64 0, .int .i64 0, .string ⟨#[]⟩, .int .i64 2]) := by rw [Hid]; rfl
  go_enter Tryz.func154, Tryz.ntmps154
  go_wp2_with (go_at_call 131; refine (above_any _ _ _ _ _ _ _ _ _ _).mono ?_; rintro e w' ⟨rfl, rfl⟩)
  refine bodyPost_ret (v := .tuple #[.agg #[.int .i64 13, .int .i64 0, .int .i64 0, .int .i64 0, .string ⟨#[]⟩, .int .i64 2], .slice (some ⟨w.heap.size + 1 + 1, 0, none⟩) 2 2]) (by simp [results, Tryz.results154, go_sem]) rfl ⟨_, by rw [← HV.out]; rfl, (by repeat (first | exact Below.refl _ _ | refine Below.alloc ?_ (by first | exact Nat.le_refl _ | (simp only [World.size_alloc]; omega)) _)), Mill.sl_two (by simp [go_sem]) (by simp [go_sem, Mill.blV]) (.inr (by simp only [World.size_alloc]; omega))⟩

set_option maxRecDepth 100000 in
set_option maxHeartbeats 1000000 in
theorem parts_12n (o t y : Int) (x : ByteArray) (k : Int) (tu : TypeId) (yu : Value) (sa : Option Addr) (sn sc : Nat) (P : Nat → Prop) (w : World) :
    Calls Tryz.prog 153 #[.agg #[.iface tu yu, .slice sa sn sc, .nilIface]] w fun e w' => Mill.Parts P w ⟨12, o, t, y, x, k⟩ [.iface tu yu, Mill.blV (.slice sa sn sc)] e w' := by
  have HV : Hid (Mill.ndV (Mill.takenN ⟨12, o, t, y, x, k⟩ 2) = .agg #[.int .i64 12, .int .i64 0, .int .i64 0, .int .i64 0, .string ⟨#[]⟩, .int .i64 2]) := by rw [Hid]; rfl
  go_enter Tryz.func153, Tryz.ntmps153
  go_wp2_with (go_at_call 131; refine (above_any _ _ _ _ _ _ _ _ _ _).mono ?_; rintro e w' ⟨rfl, rfl⟩)
  refine bodyPost_ret (v := .tuple #[.agg #[.int .i64 12, .int .i64 0, .int .i64 0, .int .i64 0, .string ⟨#[]⟩, .int .i64 2], .slice (some ⟨w.heap.size + 1 + 1, 0, none⟩) 2 2]) (by simp [results, Tryz.results153, go_sem]) rfl ⟨_, by rw [← HV.out]; rfl, (by repeat (first | exact Below.refl _ _ | refine Below.alloc ?_ (by first | exact Nat.le_refl _ | (simp only [World.size_alloc]; omega)) _)), Mill.sl_two (by simp [go_sem]) (by simp [go_sem, Mill.blV]) (.inr (by simp only [World.size_alloc]; omega))⟩

set_option maxRecDepth 100000 in
set_option maxHeartbeats 1000000 in
theorem parts_12 (o t y : Int) (x : ByteArray) (k : Int) (tu : TypeId) (yu : Value) (sa : Option Addr) (sn sc : Nat) (tv : TypeId) (yv : Value) (P : Nat → Prop) (w : World) :
    Calls Tryz.prog 153 #[.agg #[.iface tu yu, .slice sa sn sc, .iface tv yv]] w fun e w' => Mill.Parts P w ⟨12, o, t, y, x, k⟩ [.iface tu yu, Mill.blV (.slice sa sn sc), .iface tv yv] e w' := by
  have HV : Hid (Mill.ndV (Mill.takenN ⟨12, o, t, y, x, k⟩ 3) = .agg #[.int .i64 12, .int .i64 0, .int .i64 0, .int .i64 0, .string ⟨#[]⟩, .int .i64 3]) := by rw [Hid]; rfl
  go_enter Tryz.func153, Tryz.ntmps153
  go_wp2_with (go_at_call 131; refine (above_any _ _ _ _ _ _ _ _ _ _).mono ?_; rintro e w' ⟨rfl, rfl⟩)
  refine bodyPost_ret (v := .tuple #[.agg #[.int .i64 12, .int .i64 0, .int .i64 0, .int .i64 0, .string ⟨#[]⟩, .int .i64 3], .slice (some ⟨w.heap.size + 1 + 1, 0, none⟩) 3 3]) (by simp [results, Tryz.results153, go_sem]) rfl ⟨_, by rw [← HV.out]; rfl, (by repeat (first | exact Below.refl _ _ | refine Below.alloc ?_ (by first | exact Nat.le_refl _ | (simp only [World.size_alloc]; omega)) _)), Mill.sl_three (by simp [go_sem]) (by simp [go_sem, Mill.blV]) (by simp [go_sem]) (.inr (by simp only [World.size_alloc]; omega))⟩

set_option maxRecDepth 100000 in
set_option maxHeartbeats 1000000 in
theorem parts_20 (o t y : Int) (x : ByteArray) (k : Int) (nm : ByteArray) (sa : Option Addr) (sn sc : Nat) (P : Nat → Prop) (w : World) :
    Calls Tryz.prog 155 #[.agg #[.string nm, .slice sa sn sc]] w fun e w' => Mill.Parts P w ⟨20, o, t, y, x, k⟩ [.iface 134 (.agg #[.string nm, .slice sa sn sc])] e w' := by
  have HV : Hid (Mill.ndV (Mill.takenN ⟨20, o, t, y, x, k⟩ 1) = .agg #[.int .i64 20, .int .i64 0, .int .i64 0, .int .i64 0, .string ⟨#[]⟩, .int .i64 1]) := by rw [Hid]; rfl
  go_enter Tryz.func155, Tryz.ntmps155
  go_wp2_with (go_at_call 131; refine (above_any _ _ _ _ _ _ _ _ _ _).mono ?_; rintro e w' ⟨rfl, rfl⟩)
  refine bodyPost_ret (v := .tuple #[.agg #[.int .i64 20, .int .i64 0, .int .i64 0, .int .i64 0, .string ⟨#[]⟩, .int .i64 1], .slice (some ⟨w.heap.size + 1 + 1, 0, none⟩) 1 1]) (by simp [results, Tryz.results155, go_sem]) rfl ⟨_, by rw [← HV.out]; rfl, (by repeat (first | exact Below.refl _ _ | refine Below.alloc ?_ (by first | exact Nat.le_refl _ | (simp only [World.size_alloc]; omega)) _)), Mill.sl_one (by simp [go_sem]) (.inr (by simp only [World.size_alloc]; omega))⟩

end Go.Proofs.YtkaoeoeloihigaaGreatDoor
