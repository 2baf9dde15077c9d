import Derived.Test.YtiomecoceandoaaDoorVTreeQ
namespace Go.Proofs.YtiomecoceandoaaDoor
open Go.RowKit

def Mill.takenN (d : Mill.Nd) (m : Nat) : Mill.Nd := ⟨d.kind, if Mill.uOp d.kind then d.op else 0, if Mill.uType d.kind then d.type else 0, if d.kind = 1 then d.n else if d.kind = 3 then (if d.n = 1 then 1 else 0) else 0, if Mill.uText d.kind then d.text else ⟨#[]⟩, (m : Int)⟩
def Mill.Parts (P : Nat → Prop) (w : World) (d : Mill.Nd) (us : List Value) (e : Ending) (w' : World) : Prop :=
  ∃ S, e = .returned (.tuple #[Mill.ndV (Mill.takenN d us.length), S]) ∧ Below w.heap.size w w' ∧ Mill.Sl (fun g => P g ∨ (w.heap.size ≤ g ∧ g < w'.heap.size)) w' S us.length us
theorem Mill.sl_nil (P : Nat → Prop) (w : World) : Mill.Sl P w (.slice none 0 0) 0 [] := ⟨none, 0, rfl, fun j u hj => by simp at hj⟩
theorem Mill.sl_new {P : Nat → Prop} {w : World} {cs : Array Value} {t : TypeId} {n c : Nat} {us : List Value} (hu : cs.toList = us) (hP : P w.heap.size) : Mill.Sl P (w.alloc (.cells cs t)) (.slice (some ⟨w.heap.size, 0, none⟩) n c) n us := by
  refine ⟨_, _, rfl, fun j u hj => ⟨_, rfl, hP, ?_⟩⟩
  rw [cell_of_row _ _ _ cs t (0, 0) (heap_alloc_new w _)]
  rw [← hu] at hj
  simpa using hj
theorem Mill.sl_one {P : Nat → Prop} {w : World} {B c : Nat} {u : Value} (h : w.cell? ⟨B, 0, none⟩ = some u) (hP : P B) : Mill.Sl P w (.slice (some ⟨B, 0, none⟩) 1 c) 1 [u] := by
  refine ⟨_, _, rfl, fun j v hj => ⟨B, rfl, hP, ?_⟩⟩
  match j, hj with
  | 0, hj => simp at hj; rw [← hj]; exact h
theorem Mill.sl_two {P : Nat → Prop} {w : World} {B c : Nat} {u v : Value} (h : w.cell? ⟨B, 0, none⟩ = some u) (h1 : w.cell? ⟨B, 1, none⟩ = some v) (hP : P B) : Mill.Sl P w (.slice (some ⟨B, 0, none⟩) 2 c) 2 [u, v] := by
  refine ⟨_, _, rfl, fun j z hj => ⟨B, rfl, hP, ?_⟩⟩
  match j, hj with
  | 0, hj => simp at hj; rw [← hj]; exact h
  | 1, hj => simp at hj; rw [← hj]; exact h1
theorem Mill.sl_three {P : Nat → Prop} {w : World} {B c : Nat} {u v z : Value} (h : w.cell? ⟨B, 0, none⟩ = some u) (h1 : w.cell? ⟨B, 1, none⟩ = some v) (h2 : w.cell? ⟨B, 2, none⟩ = some z) (hP : P B) : Mill.Sl P w (.slice (some ⟨B, 0, none⟩) 3 c) 3 [u, v, z] := by
  refine ⟨_, _, rfl, fun j y hj => ⟨B, rfl, hP, ?_⟩⟩
  match j, hj with
  | 0, hj => simp at hj; rw [← hj]; exact h
  | 1, hj => simp at hj; rw [← hj]; exact h1
  | 2, hj => simp at hj; rw [← hj]; exact h2

set_option maxRecDepth 100000 in
set_option maxHeartbeats 1000000 in
theorem above_any (c o t y : Int) (x : ByteArray) (k : Int) (a : Option Addr) (n cc : Nat) (w : World) :
    Calls Tryd.prog 76 #[.agg #[.int .i64 c, .int .i64 o, .int .i64 t, .int .i64 y, .string x, .int .i64 k], .slice a n cc] w fun e w' => e = .returned (.tuple #[.agg #[.int .i64 c, .int .i64 o, .int .i64 t, .int .i64 y, .string x, .int .i64 (n : Int)], .slice a n cc]) ∧ w' = (w.alloc (.cells #[.int .i64 c, .int .i64 o, .int .i64 t, .int .i64 y, .string x, .int .i64 (n : Int)] 39)).alloc (.cells #[.int .i64 c, .int .i64 o, .int .i64 t, .int .i64 y, .string x, .int .i64 (n : Int)] 39) := by
  go_enter Tryd.func76, Tryd.ntmps76
  go_wp2
  exact bodyPost_ret (v := .tuple #[.agg #[.int .i64 c, .int .i64 o, .int .i64 t, .int .i64 y, .string x, .int .i64 (n : Int)], .slice a n cc]) (by simp [results, Tryd.results76, go_sem]) rfl ⟨rfl, rfl⟩

set_option maxRecDepth 100000 in
set_option maxHeartbeats 1000000 in
theorem parts_1 (o t y : Int) (x : ByteArray) (k : Int) (P : Nat → Prop) (w : World) :
    Calls Tryd.prog 79 #[.agg #[.int .i64 t, .int .i64 y]] w fun e w' => Mill.Parts P w ⟨1, o, t, y, x, k⟩ [] e w' := by
  have HV : Hid (Mill.ndV (Mill.takenN ⟨1, o, t, y, x, k⟩ 0) = .agg #[.int .i64 1, .int .i64 0, .int .i64 t, .int .i64 y, .string ⟨#[]⟩, .int .i64 0]) := by rw [Hid]; rfl
  go_enter Tryd.func79, Tryd.ntmps79
  go_wp2
  refine bodyPost_ret (v := .tuple #[.agg #[.int .i64 1, .int .i64 0, .int .i64 t, .int .i64 y, .string ⟨#[]⟩, .int .i64 0], .slice none 0 0]) (by simp [results, Tryd.results79, go_sem]) rfl ⟨_, by rw [← HV.out]; rfl, (by repeat (first | exact Below.refl _ _ | refine Below.alloc ?_ (by first | exact Nat.le_refl _ | (simp only [World.size_alloc]; omega)) _)), Mill.sl_nil _ _⟩

set_option maxRecDepth 100000 in
set_option maxHeartbeats 1000000 in
theorem parts_2 (o t y : Int) (x : ByteArray) (k : Int) (P : Nat → Prop) (w : World) :
    Calls Tryd.prog 80 #[.agg #[.string x]] w fun e w' => Mill.Parts P w ⟨2, o, t, y, x, k⟩ [] e w' := by
  have HV : Hid (Mill.ndV (Mill.takenN ⟨2, o, t, y, x, k⟩ 0) = .agg #[.int .i64 2, .int .i64 0, .int .i64 0, .int .i64 0, .string x, .int .i64 0]) := by rw [Hid]; rfl
  go_enter Tryd.func80, Tryd.ntmps80
  go_wp2
  refine bodyPost_ret (v := .tuple #[.agg #[.int .i64 2, .int .i64 0, .int .i64 0, .int .i64 0, .string x, .int .i64 0], .slice none 0 0]) (by simp [results, Tryd.results80, go_sem]) rfl ⟨_, by rw [← HV.out]; rfl, (by repeat (first | exact Below.refl _ _ | refine Below.alloc ?_ (by first | exact Nat.le_refl _ | (simp only [World.size_alloc]; omega)) _)), Mill.sl_nil _ _⟩

set_option maxRecDepth 100000 in
set_option maxHeartbeats 1000000 in
theorem parts_4 (o t y : Int) (x : ByteArray) (k : Int) (P : Nat → Prop) (w : World) :
    Calls Tryd.prog 82 #[.agg #[.string x]] w fun e w' => Mill.Parts P w ⟨4, o, t, y, x, k⟩ [] e w' := by
  have HV : Hid (Mill.ndV (Mill.takenN ⟨4, o, t, y, x, k⟩ 0) = .agg #[.int .i64 4, .int .i64 0, .int .i64 0, .int .i64 0, .string x, .int .i64 0]) := by rw [Hid]; rfl
  go_enter Tryd.func82, Tryd.ntmps82
  go_wp2
  refine bodyPost_ret (v := .tuple #[.agg #[.int .i64 4, .int .i64 0, .int .i64 0, .int .i64 0, .string x, .int .i64 0], .slice none 0 0]) (by simp [results, Tryd.results82, go_sem]) rfl ⟨_, by rw [← HV.out]; rfl, (by repeat (first | exact Below.refl _ _ | refine Below.alloc ?_ (by first | exact Nat.le_refl _ | (simp only [World.size_alloc]; omega)) _)), Mill.sl_nil _ _⟩

set_option maxRecDepth 100000 in
set_option maxHeartbeats 1000000 in
theorem parts_14 (o t y : Int) (x : ByteArray) (k : Int) (P : Nat → Prop) (w : World) :
    Calls Tryd.prog 90 #[.agg #[]] w fun e w' => Mill.Parts P w ⟨14, o, t, y, x, k⟩ [] e w' := by
  have HV : Hid (Mill.ndV (Mill.takenN ⟨14, o, t, y, x, k⟩ 0) = .agg #[.int .i64 14, .int .i64 0, .int .i64 0, .int .i64 0, .string ⟨#[]⟩, .int .i64 0]) := by rw [Hid]; rfl
  go_enter Tryd.func90, Tryd.ntmps90
  go_wp2
  refine bodyPost_ret (v := .tuple #[.agg #[.int .i64 14, .int .i64 0, .int .i64 0, .int .i64 0, .string ⟨#[]⟩, .int .i64 0], .slice none 0 0]) (by simp [results, Tryd.results90, go_sem]) rfl ⟨_, by rw [← HV.out]; rfl, (by repeat (first | exact Below.refl _ _ | refine Below.alloc ?_ (by first | exact Nat.le_refl _ | (simp only [World.size_alloc]; omega)) _)), Mill.sl_nil _ _⟩

set_option maxRecDepth 100000 in
set_option maxHeartbeats 1000000 in
theorem parts_15 (o t y : Int) (x : ByteArray) (k : Int) (P : Nat → Prop) (w : World) :
    Calls Tryd.prog 91 #[.agg #[]] w fun e w' => Mill.Parts P w ⟨15, o, t, y, x, k⟩ [] e w' := by
  have HV : Hid (Mill.ndV (Mill.takenN ⟨15, o, t, y, x, k⟩ 0) = .agg #[.int .i64 15, .int .i64 0, .int .i64 0, .int .i64 0, .string ⟨#[]⟩, .int .i64 0]) := by rw [Hid]; rfl
  go_enter Tryd.func91, Tryd.ntmps91
  go_wp2
  refine bodyPost_ret (v := .tuple #[.agg #[.int .i64 15, .int .i64 0, .int .i64 0, .int .i64 0, .string ⟨#[]⟩, .int .i64 0], .slice none 0 0]) (by simp [results, Tryd.results91, go_sem]) rfl ⟨_, by rw [← HV.out]; rfl, (by repeat (first | exact Below.refl _ _ | refine Below.alloc ?_ (by first | exact Nat.le_refl _ | (simp only [World.size_alloc]; omega)) _)), Mill.sl_nil _ _⟩

set_option maxRecDepth 100000 in
set_option maxHeartbeats 1000000 in
theorem parts_22 (o t y : Int) (x : ByteArray) (k : Int) (P : Nat → Prop) (w : World) :
    Calls Tryd.prog 78 #[.agg #[.string x, .int .i64 t]] w fun e w' => Mill.Parts P w ⟨22, o, t, y, x, k⟩ [] e w' := by
  have HV : Hid (Mill.ndV (Mill.takenN ⟨22, o, t, y, x, k⟩ 0) = .agg #[.int .i64 22, .int .i64 0, .int .i64 t, .int .i64 0, .string x, .int .i64 0]) := by rw [Hid]; rfl
  go_enter Tryd.func78, Tryd.ntmps78
  go_wp2
  refine bodyPost_ret (v := .tuple #[.agg #[.int .i64 22, .int .i64 0, .int .i64 t, .int .i64 0, .string x, .int .i64 0], .slice none 0 0]) (by simp [results, Tryd.results78, go_sem]) rfl ⟨_, by rw [← HV.out]; rfl, (by repeat (first | exact Below.refl _ _ | refine Below.alloc ?_ (by first | exact Nat.le_refl _ | (simp only [World.size_alloc]; omega)) _)), Mill.sl_nil _ _⟩

set_option maxRecDepth 100000 in
set_option maxHeartbeats 1000000 in
theorem parts_16n (o t y : Int) (x : ByteArray) (k : Int) (P : Nat → Prop) (w : World) :
    Calls Tryd.prog 92 #[.agg #[.nilIface]] w fun e w' => Mill.Parts P w ⟨16, o, t, y, x, k⟩ [] e w' := by
  have HV : Hid (Mill.ndV (Mill.takenN ⟨16, o, t, y, x, k⟩ 0) = .agg #[.int .i64 16, .int .i64 0, .int .i64 0, .int .i64 0, .string ⟨#[]⟩, .int .i64 0]) := by rw [Hid]; rfl
  go_enter Tryd.func92, Tryd.ntmps92
  go_wp2
  refine bodyPost_ret (v := .tuple #[.agg #[.int .i64 16, .int .i64 0, .int .i64 0, .int .i64 0, .string ⟨#[]⟩, .int .i64 0], .slice none 0 0]) (by simp [results, Tryd.results92, go_sem]) rfl ⟨_, by rw [← HV.out]; rfl, (by repeat (first | exact Below.refl _ _ | refine Below.alloc ?_ (by first | exact Nat.le_refl _ | (simp only [World.size_alloc]; omega)) _)), Mill.sl_nil _ _⟩

set_option maxRecDepth 100000 in
set_option maxHeartbeats 1000000 in
theorem parts_5 (o t y : Int) (x : ByteArray) (k : Int) (tu : TypeId) (yu : Value) (P : Nat → Prop) (w : World) :
    Calls Tryd.prog 83 #[.agg #[.int .i64 o, .iface tu yu]] w fun e w' => Mill.Parts P w ⟨5, o, t, y, x, k⟩ [.iface tu yu] e w' := by
  have HV : Hid (Mill.ndV (Mill.takenN ⟨5, o, t, y, x, k⟩ 1) = .agg #[.int .i64 5, .int .i64 o, .int .i64 0, .int .i64 0, .string ⟨#[]⟩, .int .i64 1]) := by rw [Hid]; rfl
  go_enter Tryd.func83, Tryd.ntmps83
  go_wp2_with (go_at_call 76; refine (above_any _ _ _ _ _ _ _ _ _ _).mono ?_; rintro e w' ⟨rfl, rfl⟩)
  refine bodyPost_ret (v := .tuple #[.agg #[.int .i64 5, .int .i64 o, .int .i64 0, .int .i64 0, .string ⟨#[]⟩, .int .i64 1], .slice (some ⟨w.heap.size + 1 + 1, 0, none⟩) 1 1]) (by simp [results, Tryd.results83, go_sem]) rfl ⟨_, by rw [← HV.out]; rfl, (by repeat (first | exact Below.refl _ _ | refine Below.alloc ?_ (by first | exact Nat.le_refl _ | (simp only [World.size_alloc]; omega)) _)), Mill.sl_one (by simp [go_sem]) (.inr (by simp only [World.size_alloc]; omega))⟩

set_option maxRecDepth 100000 in
set_option maxHeartbeats 1000000 in
theorem parts_9 (o t y : Int) (x : ByteArray) (k : Int) (tu : TypeId) (yu : Value) (P : Nat → Prop) (w : World) :
    Calls Tryd.prog 87 #[.agg #[.int .i64 t, .iface tu yu]] w fun e w' => Mill.Parts P w ⟨9, o, t, y, x, k⟩ [.iface tu yu] e w' := by
  have HV : Hid (Mill.ndV (Mill.takenN ⟨9, o, t, y, x, k⟩ 1) = .agg #[.int .i64 9, .int .i64 0, .int .i64 t, .int .i64 0, .string ⟨#[]⟩, .int .i64 1]) := by rw [Hid]; rfl
  go_enter Tryd.func87, Tryd.ntmps87
  go_wp2_with (go_at_call 76; refine (above_any _ _ _ _ _ _ _ _ _ _).mono ?_; rintro e w' ⟨rfl, rfl⟩)
  refine bodyPost_ret (v := .tuple #[.agg #[.int .i64 9, .int .i64 0, .int .i64 t, .int .i64 0, .string ⟨#[]⟩, .int .i64 1], .slice (some ⟨w.heap.size + 1 + 1, 0, none⟩) 1 1]) (by simp [results, Tryd.results87, go_sem]) rfl ⟨_, by rw [← HV.out]; rfl, (by repeat (first | exact Below.refl _ _ | refine Below.alloc ?_ (by first | exact Nat.le_refl _ | (simp only [World.size_alloc]; omega)) _)), Mill.sl_one (by simp [go_sem]) (.inr (by simp only [World.size_alloc]; omega))⟩

set_option maxRecDepth 100000 in
set_option maxHeartbeats 1000000 in
theorem parts_10 (o t y : Int) (x : ByteArray) (k : Int) (tu : TypeId) (yu : Value) (P : Nat → Prop) (w : World) :
    Calls Tryd.prog 88 #[.agg #[.string x, .iface tu yu]] w fun e w' => Mill.Parts P w ⟨10, o, t, y, x, k⟩ [.iface tu yu] e w' := by
  have HV : Hid (Mill.ndV (Mill.takenN ⟨10, o, t, y, x, k⟩ 1) = .agg #[.int .i64 10, .int .i64 0, .int .i64 0, .int .i64 0, .string x, .int .i64 1]) := by rw [Hid]; rfl
  go_enter Tryd.func88, Tryd.ntmps88
  go_wp2_with (go_at_call 76; refine (above_any _ _ _ _ _ _ _ _ _ _).mono ?_; rintro e w' ⟨rfl, rfl⟩)
  refine bodyPost_ret (v := .tuple #[.agg #[.int .i64 10, .int .i64 0, .int .i64 0, .int .i64 0, .string x, .int .i64 1], .slice (some ⟨w.heap.size + 1 + 1, 0, none⟩) 1 1]) (by simp [results, Tryd.results88, go_sem]) rfl ⟨_, by rw [← HV.out]; rfl, (by repeat (first | exact Below.refl _ _ | refine Below.alloc ?_ (by first | exact Nat.le_refl _ | (simp only [World.size_alloc]; omega)) _)), Mill.sl_one (by simp [go_sem]) (.inr (by simp only [World.size_alloc]; omega))⟩

set_option maxRecDepth 100000 in
set_option maxHeartbeats 1000000 in
theorem parts_11 (o t y : Int) (x : ByteArray) (k : Int) (tu : TypeId) (yu : Value) (P : Nat → Prop) (w : World) :
    Calls Tryd.prog 89 #[.agg #[.string x, .iface tu yu]] w fun e w' => Mill.Parts P w ⟨11, o, t, y, x, k⟩ [.iface tu yu] e w' := by
  have HV : Hid (Mill.ndV (Mill.takenN ⟨11, o, t, y, x, k⟩ 1) = .agg #[.int .i64 11, .int .i64 0, .int .i64 0, .int .i64 0, .string x, .int .i64 1]) := by rw [Hid]; rfl
  go_enter Tryd.func89, Tryd.ntmps89
  go_wp2_with (go_at_call 76; refine (above_any _ _ _ _ _ _ _ _ _ _).mono ?_; rintro e w' ⟨rfl, rfl⟩)
  refine bodyPost_ret (v := .tuple #[.agg #[.int .i64 11, .int .i64 0, .int .i64 0, .int .i64 0, .string x, .int .i64 1], .slice (some ⟨w.heap.size + 1 + 1, 0, none⟩) 1 1]) (by simp [results, Tryd.results89, go_sem]) rfl ⟨_, by rw [← HV.out]; rfl, (by repeat (first | exact Below.refl _ _ | refine Below.alloc ?_ (by first | exact Nat.le_refl _ | (simp only [World.size_alloc]; omega)) _)), Mill.sl_one (by simp [go_sem]) (.inr (by simp only [World.size_alloc]; omega))⟩

set_option maxRecDepth 100000 in
set_option maxHeartbeats 1000000 in
theorem parts_16 (o t y : Int) (x : ByteArray) (k : Int) (tu : TypeId) (yu : Value) (P : Nat → Prop) (w : World) :
    Calls Tryd.prog 92 #[.agg #[.iface tu yu]] w fun e w' => Mill.Parts P w ⟨16, o, t, y, x, k⟩ [.iface tu yu] e w' := by
  have HV : Hid (Mill.ndV (Mill.takenN ⟨16, o, t, y, x, k⟩ 1) = .agg #[.int .i64 16, .int .i64 0, .int .i64 0, .int .i64 0, .string ⟨#[]⟩, .int .i64 1]) := by rw [Hid]; rfl
  go_enter Tryd.func92, Tryd.ntmps92
  go_wp2_with (go_at_call 76; refine (above_any _ _ _ _ _ _ _ _ _ _).mono ?_; rintro e w' ⟨rfl, rfl⟩)
  refine bodyPost_ret (v := .tuple #[.agg #[.int .i64 16, .int .i64 0, .int .i64 0, .int .i64 0, .string ⟨#[]⟩, .int .i64 1], .slice (some ⟨w.heap.size + 1 + 1, 0, none⟩) 1 1]) (by simp [results, Tryd.results92, go_sem]) rfl ⟨_, by rw [← HV.out]; rfl, (by repeat (first | exact Below.refl _ _ | refine Below.alloc ?_ (by first | exact Nat.le_refl _ | (simp only [World.size_alloc]; omega)) _)), Mill.sl_one (by simp [go_sem]) (.inr (by simp only [World.size_alloc]; omega))⟩

set_option maxRecDepth 100000 in
set_option maxHeartbeats 1000000 in
theorem parts_17 (o t y : Int) (x : ByteArray) (k : Int) (tu : TypeId) (yu : Value) (P : Nat → Prop) (w : World) :
    Calls Tryd.prog 93 #[.agg #[.iface tu yu]] w fun e w' => Mill.Parts P w ⟨17, o, t, y, x, k⟩ [.iface tu yu] e w' := by
  have HV : Hid (Mill.ndV (Mill.takenN ⟨17, o, t, y, x, k⟩ 1) = .agg #[.int .i64 17, .int .i64 0, .int .i64 0, .int .i64 0, .string ⟨#[]⟩, .int .i64 1]) := by rw [Hid]; rfl
  go_enter Tryd.func93, Tryd.ntmps93
  go_wp2_with (go_at_call 76; refine (above_any _ _ _ _ _ _ _ _ _ _).mono ?_; rintro e w' ⟨rfl, rfl⟩)
  refine bodyPost_ret (v := .tuple #[.agg #[.int .i64 17, .int .i64 0, .int .i64 0, .int .i64 0, .string ⟨#[]⟩, .int .i64 1], .slice (some ⟨w.heap.size + 1 + 1, 0, none⟩) 1 1]) (by simp [results, Tryd.results93, go_sem]) rfl ⟨_, by rw [← HV.out]; rfl, (by repeat (first | exact Below.refl _ _ | refine Below.alloc ?_ (by first | exact Nat.le_refl _ | (simp only [World.size_alloc]; omega)) _)), Mill.sl_one (by simp [go_sem]) (.inr (by simp only [World.size_alloc]; omega))⟩

set_option maxRecDepth 100000 in
set_option maxHeartbeats 1000000 in
theorem parts_19 (o t y : Int) (x : ByteArray) (k : Int) (tu : TypeId) (yu : Value) (P : Nat → Prop) (w : World) :
    Calls Tryd.prog 95 #[.agg #[.iface tu yu]] w fun e w' => Mill.Parts P w ⟨19, o, t, y, x, k⟩ [.iface tu yu] e w' := by
  have HV : Hid (Mill.ndV (Mill.takenN ⟨19, o, t, y, x, k⟩ 1) = .agg #[.int .i64 19, .int .i64 0, .int .i64 0, .int .i64 0, .string ⟨#[]⟩, .int .i64 1]) := by rw [Hid]; rfl
  go_enter Tryd.func95, Tryd.ntmps95
  go_wp2_with (go_at_call 76; refine (above_any _ _ _ _ _ _ _ _ _ _).mono ?_; rintro e w' ⟨rfl, rfl⟩)
  refine bodyPost_ret (v := .tuple #[.agg #[.int .i64 19, .int .i64 0, .int .i64 0, .int .i64 0, .string ⟨#[]⟩, .int .i64 1], .slice (some ⟨w.heap.size + 1 + 1, 0, none⟩) 1 1]) (by simp [results, Tryd.results95, go_sem]) rfl ⟨_, by rw [← HV.out]; rfl, (by repeat (first | exact Below.refl _ _ | refine Below.alloc ?_ (by first | exact Nat.le_refl _ | (simp only [World.size_alloc]; omega)) _)), Mill.sl_one (by simp [go_sem]) (.inr (by simp only [World.size_alloc]; omega))⟩

set_option maxRecDepth 100000 in
set_option maxHeartbeats 1000000 in
theorem parts_6 (o t y : Int) (x : ByteArray) (k : Int) (tu : TypeId) (yu : Value) (tv : TypeId) (yv : Value) (P : Nat → Prop) (w : World) :
    Calls Tryd.prog 84 #[.agg #[.int .i64 o, .iface tu yu, .iface tv yv]] w fun e w' => Mill.Parts P w ⟨6, o, t, y, x, k⟩ [.iface tu yu, .iface tv yv] e w' := by
  have HV : Hid (Mill.ndV (Mill.takenN ⟨6, o, t, y, x, k⟩ 2) = .agg #[.int .i64 6, .int .i64 o, .int .i64 0, .int .i64 0, .string ⟨#[]⟩, .int .i64 2]) := by rw [Hid]; rfl
  go_enter Tryd.func84, Tryd.ntmps84
  go_wp2_with (go_at_call 76; refine (above_any _ _ _ _ _ _ _ _ _ _).mono ?_; rintro e w' ⟨rfl, rfl⟩)
  refine bodyPost_ret (v := .tuple #[.agg #[.int .i64 6, .int .i64 o, .int .i64 0, .int .i64 0, .string ⟨#[]⟩, .int .i64 2], .slice (some ⟨w.heap.size + 1 + 1, 0, none⟩) 2 2]) (by simp [results, Tryd.results84, go_sem]) rfl ⟨_, by rw [← HV.out]; rfl, (by repeat (first | exact Below.refl _ _ | refine Below.alloc ?_ (by first | exact Nat.le_refl _ | (simp only [World.size_alloc]; omega)) _)), Mill.sl_two (by simp [go_sem]) (by simp [go_sem]) (.inr (by simp only [World.size_alloc]; omega))⟩

set_option maxRecDepth 100000 in
set_option maxHeartbeats 1000000 in
theorem parts_18 (o t y : Int) (x : ByteArray) (k : Int) (tu : TypeId) (yu : Value) (tv : TypeId) (yv : Value) (P : Nat → Prop) (w : World) :
    Calls Tryd.prog 94 #[.agg #[.iface tu yu, .iface tv yv]] w fun e w' => Mill.Parts P w ⟨18, o, t, y, x, k⟩ [.iface tu yu, .iface tv yv] e w' := by
  have HV : Hid (Mill.ndV (Mill.takenN ⟨18, o, t, y, x, k⟩ 2) = .agg #[.int .i64 18, .int .i64 0, .int .i64 0, .int .i64 0, .string ⟨#[]⟩, .int .i64 2]) := by rw [Hid]; rfl
  go_enter Tryd.func94, Tryd.ntmps94
  go_wp2_with (go_at_call 76; refine (above_any _ _ _ _ _ _ _ _ _ _).mono ?_; rintro e w' ⟨rfl, rfl⟩)
  refine bodyPost_ret (v := .tuple #[.agg #[.int .i64 18, .int .i64 0, .int .i64 0, .int .i64 0, .string ⟨#[]⟩, .int .i64 2], .slice (some ⟨w.heap.size + 1 + 1, 0, none⟩) 2 2]) (by simp [results, Tryd.results94, go_sem]) rfl ⟨_, by rw [← HV.out]; rfl, (by repeat (first | exact Below.refl _ _ | refine Below.alloc ?_ (by first | exact Nat.le_refl _ | (simp only [World.size_alloc]; omega)) _)), Mill.sl_two (by simp [go_sem]) (by simp [go_sem]) (.inr (by simp only [World.size_alloc]; omega))⟩

set_option maxRecDepth 100000 in
set_option maxHeartbeats 1000000 in
theorem parts_13 (o t y : Int) (x : ByteArray) (k : Int) (tu : TypeId) (yu : Value) (sa : Option Addr) (sn sc : Nat) (P : Nat → Prop) (w : World) :
    Calls Tryd.prog 97 #[.agg #[.iface tu yu, .slice sa sn sc]] w fun e w' => Mill.Parts P w ⟨13, o, t, y, x, k⟩ [.iface tu yu, Mill.blV (.slice sa sn sc)] e w' := by
  have HV : Hid (Mill.ndV (Mill.takenN ⟨13, o, t, y, x, k⟩ 2) = .agg #[.int .i64 13, .int .i64 0, .int .i64 0, .int .i64 0, .string ⟨#[]⟩, .int .i64 2]) := by rw [Hid]; rfl
  go_enter Tryd.func97, Tryd.ntmps97
  go_wp2_with (go_at_call 76; refine (above_any _ _ _ _ _ _ _ _ _ _).mono ?_; rintro e w' ⟨rfl, rfl⟩)
  refine bodyPost_ret (v := .tuple #[.agg #[.int .i64 13, .int .i64 0, .int .i64 0, .int .i64 0, .string ⟨#[]⟩, .int .i64 2], .slice (some ⟨w.heap.size + 1 + 1, 0, none⟩) 2 2]) (by simp [results, Tryd.results97, go_sem]) rfl ⟨_, by rw [← HV.out]; rfl, (by repeat (first | exact Below.refl _ _ | refine Below.alloc ?_ (by first | exact Nat.le_refl _ | (simp only [World.size_alloc]; omega)) _)), Mill.sl_two (by simp [go_sem]) (by simp [go_sem, Mill.blV]) (.inr (by simp only [World.size_alloc]; omega))⟩

set_option maxRecDepth 100000 in
set_option maxHeartbeats 1000000 in
theorem parts_12n (o t y : Int) (x : ByteArray) (k : Int) (tu : TypeId) (yu : Value) (sa : Option Addr) (sn sc : Nat) (P : Nat → Prop) (w : World) :
    Calls Tryd.prog 96 #[.agg #[.iface tu yu, .slice sa sn sc, .nilIface]] w fun e w' => Mill.Parts P w ⟨12, o, t, y, x, k⟩ [.iface tu yu, Mill.blV (.slice sa sn sc)] e w' := by
  have HV : Hid (Mill.ndV (Mill.takenN ⟨12, o, t, y, x, k⟩ 2) = .agg #[.int .i64 12, .int .i64 0, .int .i64 0, .int .i64 0, .string ⟨#[]⟩, .int .i64 2]) := by rw [Hid]; rfl
  go_enter Tryd.func96, Tryd.ntmps96
  go_wp2_with (go_at_call 76; refine (above_any _ _ _ _ _ _ _ _ _ _).mono ?_; rintro e w' ⟨rfl, rfl⟩)
  refine bodyPost_ret (v := .tuple #[.agg #[.int .i64 12, .int .i64 0, .int .i64 0, .int .i64 0, .string ⟨#[]⟩, .int .i64 2], .slice (some ⟨w.heap.size + 1 + 1, 0, none⟩) 2 2]) (by simp [results, Tryd.results96, go_sem]) rfl ⟨_, by rw [← HV.out]; rfl, (by repeat (first | exact Below.refl _ _ | refine Below.alloc ?_ (by first | exact Nat.le_refl _ | (simp only [World.size_alloc]; omega)) _)), Mill.sl_two (by simp [go_sem]) (by simp [go_sem, Mill.blV]) (.inr (by simp only [World.size_alloc]; omega))⟩

set_option maxRecDepth 100000 in
set_option maxHeartbeats 1000000 in
theorem parts_12 (o t y : Int) (x : ByteArray) (k : Int) (tu : TypeId) (yu : Value) (sa : Option Addr) (sn sc : Nat) (tv : TypeId) (yv : Value) (P : Nat → Prop) (w : World) :
    Calls Tryd.prog 96 #[.agg #[.iface tu yu, .slice sa sn sc, .iface tv yv]] w fun e w' => Mill.Parts P w ⟨12, o, t, y, x, k⟩ [.iface tu yu, Mill.blV (.slice sa sn sc), .iface tv yv] e w' := by
  have HV : Hid (Mill.ndV (Mill.takenN ⟨12, o, t, y, x, k⟩ 3) = .agg #[.int .i64 12, .int .i64 0, .int .i64 0, .int .i64 0, .string ⟨#[]⟩, .int .i64 3]) := by rw [Hid]; rfl
  go_enter Tryd.func96, Tryd.ntmps96
  go_wp2_with (go_at_call 76; refine (above_any _ _ _ _ _ _ _ _ _ _).mono ?_; rintro e w' ⟨rfl, rfl⟩)
  refine bodyPost_ret (v := .tuple #[.agg #[.int .i64 12, .int .i64 0, .int .i64 0, .int .i64 0, .string ⟨#[]⟩, .int .i64 3], .slice (some ⟨w.heap.size + 1 + 1, 0, none⟩) 3 3]) (by simp [results, Tryd.results96, go_sem]) rfl ⟨_, by rw [← HV.out]; rfl, (by repeat (first | exact Below.refl _ _ | refine Below.alloc ?_ (by first | exact Nat.le_refl _ | (simp only [World.size_alloc]; omega)) _)), Mill.sl_three (by simp [go_sem]) (by simp [go_sem, Mill.blV]) (by simp [go_sem]) (.inr (by simp only [World.size_alloc]; omega))⟩

set_option maxRecDepth 100000 in
set_option maxHeartbeats 1000000 in
theorem parts_20 (o t y : Int) (x : ByteArray) (k : Int) (nm : ByteArray) (sa : Option Addr) (sn sc : Nat) (P : Nat → Prop) (w : World) :
    Calls Tryd.prog 98 #[.agg #[.string nm, .slice sa sn sc]] w fun e w' => Mill.Parts P w ⟨20, o, t, y, x, k⟩ [.iface 104 (.agg #[.string nm, .slice sa sn sc])] e w' := by
  have HV : Hid (Mill.ndV (Mill.takenN ⟨20, o, t, y, x, k⟩ 1) = .agg #[.int .i64 20, .int .i64 0, .int .i64 0, .int .i64 0, .string ⟨#[]⟩, .int .i64 1]) := by rw [Hid]; rfl
  go_enter Tryd.func98, Tryd.ntmps98
  go_wp2_with (go_at_call 76; refine (above_any _ _ _ _ _ _ _ _ _ _).mono ?_; rintro e w' ⟨rfl, rfl⟩)
  refine bodyPost_ret (v := .tuple #[.agg #[.int .i64 20, .int .i64 0, .int .i64 0, .int .i64 0, .string ⟨#[]⟩, .int .i64 1], .slice (some ⟨w.heap.size + 1 + 1, 0, none⟩) 1 1]) (by simp [results, Tryd.results98, go_sem]) rfl ⟨_, by rw [← HV.out]; rfl, (by repeat (first | exact Below.refl _ _ | refine Below.alloc ?_ (by first | exact Nat.le_refl _ | (simp only [World.size_alloc]; omega)) _)), Mill.sl_one (by simp [go_sem]) (.inr (by simp only [World.size_alloc]; omega))⟩

end Go.Proofs.YtiomecoceandoaaDoor
