import Derived.Test.YtkaoeoeloihigaaGreatDoorVTreeY
namespace Go.Proofs.YtkaoeoeloihigaaGreatDoor
open Go.RowKit

theorem Mill.Inner.alloc {P : Nat → Prop} {w : World} {d : Mill.Nd} {us : List Value} {x : Value} (h : Mill.Inner P w d us x) (hP : ∀ g, P g → g < w.heap.size) (o : Obj) : Mill.Inner P (w.alloc o) d us x :=
  h.below (fun _ h => h) (fun g hg => Below.heap_alloc w o g (hP g hg))
theorem Mill.lt_alloc {P : Nat → Prop} {w : World} (hP : ∀ g, P g → g < w.heap.size) (o : Obj) : ∀ g, P g → g < (w.alloc o).heap.size := fun g h => by have := hP g h; rw [World.size_alloc]; omega

set_option maxRecDepth 100000 in
set_option maxHeartbeats 1000000 in
theorem usesAll_1 (o t y : Int) (x : ByteArray) (k : Int) (P : Nat → Prop) (us : List Value) (ks : List Int) (X : Value) (w : World) (hP : ∀ g, P g → g < w.heap.size) (hk : Mill.Kinded us ks) (hl : (23 : Int) ≤ 1 → us.length ≤ 100000) (hI : Mill.Inner P w ⟨1, o, t, y, x, k⟩ us X) :
    Calls Tryz.prog 29 #[Mill.ndV ⟨1, o, t, y, x, k⟩, .iface 122 X] w fun e w' => e = .returned (.bool (Mill.ndEq ⟨1, o, t, y, x, k⟩ (Mill.takenN ⟨1, o, t, y, x, k⟩ us.length))) ∧ Below w.heap.size w w' := by
  have hm := Tryz.meth_intNode
  have hpt := pt_1 o t y x k P us ks X _ (Mill.lt_alloc hP (.cells #[.int .i64 1, .int .i64 o, .int .i64 t, .int .i64 y, .string x, .int .i64 k] 68)) hk hl (hI.alloc hP _)
  clear hI hk hP
  obtain ⟨D, HD⟩ : ∃ D, Hid (Mill.takenN ⟨1, o, t, y, x, k⟩ us.length = D) := ⟨_, (rfl : Mill.takenN _ _ = _)⟩
  rw [HD.out]
  obtain ⟨c', o', t', y', x', k'⟩ := D
  simp only [Mill.ndV]
  go_enter Tryz.func29, Tryz.ntmps29
  go_wp2_with (go_at_call 136; refine hpt.mono ?_; rintro e w1 ⟨S, rfl, hb, hS⟩; obtain ⟨sa, sc, rfl, _⟩ := hS; rw [HD.out]; simp only [Mill.ndV]; rw [World.size_alloc] at hb; obtain ⟨g0, g1, g2, g3, g4, g5⟩ := Mill.nd_cells hb; have hsz := hb.size; rw [World.size_alloc] at hsz; have hs1 : w.heap.size < w1.heap.size := (by omega))
  all_goals go_ret
  all_goals refine ⟨Mill.ret_bool ?_, (Mill.nd_below hb).alloc (by omega) _⟩
  all_goals go_light
  all_goals clear hb hpt
  all_goals simp_all [Mill.ndEq]

set_option maxRecDepth 100000 in
set_option maxHeartbeats 1000000 in
theorem usesAll_2 (o t y : Int) (x : ByteArray) (k : Int) (P : Nat → Prop) (us : List Value) (ks : List Int) (X : Value) (w : World) (hP : ∀ g, P g → g < w.heap.size) (hk : Mill.Kinded us ks) (hl : (23 : Int) ≤ 2 → us.length ≤ 100000) (hI : Mill.Inner P w ⟨2, o, t, y, x, k⟩ us X) :
    Calls Tryz.prog 29 #[Mill.ndV ⟨2, o, t, y, x, k⟩, .iface 124 X] w fun e w' => e = .returned (.bool (Mill.ndEq ⟨2, o, t, y, x, k⟩ (Mill.takenN ⟨2, o, t, y, x, k⟩ us.length))) ∧ Below w.heap.size w w' := by
  have hm := Tryz.meth_textNode
  have hpt := pt_2 o t y x k P us ks X _ (Mill.lt_alloc hP (.cells #[.int .i64 2, .int .i64 o, .int .i64 t, .int .i64 y, .string x, .int .i64 k] 68)) hk hl (hI.alloc hP _)
  clear hI hk hP
  obtain ⟨D, HD⟩ : ∃ D, Hid (Mill.takenN ⟨2, o, t, y, x, k⟩ us.length = D) := ⟨_, (rfl : Mill.takenN _ _ = _)⟩
  rw [HD.out]
  obtain ⟨c', o', t', y', x', k'⟩ := D
  simp only [Mill.ndV]
  go_enter Tryz.func29, Tryz.ntmps29
  go_wp2_with (go_at_call 137; refine hpt.mono ?_; rintro e w1 ⟨S, rfl, hb, hS⟩; obtain ⟨sa, sc, rfl, _⟩ := hS; rw [HD.out]; simp only [Mill.ndV]; rw [World.size_alloc] at hb; obtain ⟨g0, g1, g2, g3, g4, g5⟩ := Mill.nd_cells hb; have hsz := hb.size; rw [World.size_alloc] at hsz; have hs1 : w.heap.size < w1.heap.size := (by omega))
  all_goals go_ret
  all_goals refine ⟨Mill.ret_bool ?_, (Mill.nd_below hb).alloc (by omega) _⟩
  all_goals go_light
  all_goals clear hb hpt
  all_goals simp_all [Mill.ndEq]

set_option maxRecDepth 100000 in
set_option maxHeartbeats 1000000 in
theorem usesAll_3 (o t y : Int) (x : ByteArray) (k : Int) (P : Nat → Prop) (us : List Value) (ks : List Int) (X : Value) (w : World) (hP : ∀ g, P g → g < w.heap.size) (hk : Mill.Kinded us ks) (hl : (23 : Int) ≤ 3 → us.length ≤ 100000) (hI : Mill.Inner P w ⟨3, o, t, y, x, k⟩ us X) :
    Calls Tryz.prog 29 #[Mill.ndV ⟨3, o, t, y, x, k⟩, .iface 126 X] w fun e w' => e = .returned (.bool (Mill.ndEq ⟨3, o, t, y, x, k⟩ (Mill.takenN ⟨3, o, t, y, x, k⟩ us.length))) ∧ Below w.heap.size w w' := by
  have hm := Tryz.meth_boolNode
  have hpt := pt_3 o t y x k P us ks X _ (Mill.lt_alloc hP (.cells #[.int .i64 3, .int .i64 o, .int .i64 t, .int .i64 y, .string x, .int .i64 k] 68)) hk hl (hI.alloc hP _)
  clear hI hk hP
  obtain ⟨D, HD⟩ : ∃ D, Hid (Mill.takenN ⟨3, o, t, y, x, k⟩ us.length = D) := ⟨_, (rfl : Mill.takenN _ _ = _)⟩
  rw [HD.out]
  obtain ⟨c', o', t', y', x', k'⟩ := D
  simp only [Mill.ndV]
  go_enter Tryz.func29, Tryz.ntmps29
  go_wp2_with (go_at_call 138; refine hpt.mono ?_; rintro e w1 ⟨S, rfl, hb, hS⟩; obtain ⟨sa, sc, rfl, _⟩ := hS; rw [HD.out]; simp only [Mill.ndV]; rw [World.size_alloc] at hb; obtain ⟨g0, g1, g2, g3, g4, g5⟩ := Mill.nd_cells hb; have hsz := hb.size; rw [World.size_alloc] at hsz; have hs1 : w.heap.size < w1.heap.size := (by omega))
  all_goals go_ret
  all_goals refine ⟨Mill.ret_bool ?_, (Mill.nd_below hb).alloc (by omega) _⟩
  all_goals go_light
  all_goals clear hb hpt
  all_goals simp_all [Mill.ndEq]

set_option maxRecDepth 100000 in
set_option maxHeartbeats 1000000 in
theorem usesAll_4 (o t y : Int) (x : ByteArray) (k : Int) (P : Nat → Prop) (us : List Value) (ks : List Int) (X : Value) (w : World) (hP : ∀ g, P g → g < w.heap.size) (hk : Mill.Kinded us ks) (hl : (23 : Int) ≤ 4 → us.length ≤ 100000) (hI : Mill.Inner P w ⟨4, o, t, y, x, k⟩ us X) :
    Calls Tryz.prog 29 #[Mill.ndV ⟨4, o, t, y, x, k⟩, .iface 128 X] w fun e w' => e = .returned (.bool (Mill.ndEq ⟨4, o, t, y, x, k⟩ (Mill.takenN ⟨4, o, t, y, x, k⟩ us.length))) ∧ Below w.heap.size w w' := by
  have hm := Tryz.meth_nameNode
  have hpt := pt_4 o t y x k P us ks X _ (Mill.lt_alloc hP (.cells #[.int .i64 4, .int .i64 o, .int .i64 t, .int .i64 y, .string x, .int .i64 k] 68)) hk hl (hI.alloc hP _)
  clear hI hk hP
  obtain ⟨D, HD⟩ : ∃ D, Hid (Mill.takenN ⟨4, o, t, y, x, k⟩ us.length = D) := ⟨_, (rfl : Mill.takenN _ _ = _)⟩
  rw [HD.out]
  obtain ⟨c', o', t', y', x', k'⟩ := D
  simp only [Mill.ndV]
  go_enter Tryz.func29, Tryz.ntmps29
  go_wp2_with (go_at_call 139; refine hpt.mono ?_; rintro e w1 ⟨S, rfl, hb, hS⟩; obtain ⟨sa, sc, rfl, _⟩ := hS; rw [HD.out]; simp only [Mill.ndV]; rw [World.size_alloc] at hb; obtain ⟨g0, g1, g2, g3, g4, g5⟩ := Mill.nd_cells hb; have hsz := hb.size; rw [World.size_alloc] at hsz; have hs1 : w.heap.size < w1.heap.size := (by omega))
  all_goals go_ret
  all_goals refine ⟨Mill.ret_bool ?_, (Mill.nd_below hb).alloc (by omega) _⟩
  all_goals go_light
  all_goals clear hb hpt
  all_goals simp_all [Mill.ndEq]

set_option maxRecDepth 100000 in
set_option maxHeartbeats 1000000 in
theorem usesAll_5 (o t y : Int) (x : ByteArray) (k : Int) (P : Nat → Prop) (us : List Value) (ks : List Int) (X : Value) (w : World) (hP : ∀ g, P g → g < w.heap.size) (hk : Mill.Kinded us ks) (hl : (23 : Int) ≤ 5 → us.length ≤ 100000) (hI : Mill.Inner P w ⟨5, o, t, y, x, k⟩ us X) :
    Calls Tryz.prog 29 #[Mill.ndV ⟨5, o, t, y, x, k⟩, .iface 130 X] w fun e w' => e = .returned (.bool (Mill.ndEq ⟨5, o, t, y, x, k⟩ (Mill.takenN ⟨5, o, t, y, x, k⟩ us.length))) ∧ Below w.heap.size w w' := by
  have hm := Tryz.meth_unNode
  have hpt := pt_5 o t y x k P us ks X _ (Mill.lt_alloc hP (.cells #[.int .i64 5, .int .i64 o, .int .i64 t, .int .i64 y, .string x, .int .i64 k] 68)) hk hl (hI.alloc hP _)
  clear hI hk hP
  obtain ⟨D, HD⟩ : ∃ D, Hid (Mill.takenN ⟨5, o, t, y, x, k⟩ us.length = D) := ⟨_, (rfl : Mill.takenN _ _ = _)⟩
  rw [HD.out]
  obtain ⟨c', o', t', y', x', k'⟩ := D
  simp only [Mill.ndV]
  go_enter Tryz.func29, Tryz.ntmps29
  go_wp2_with (go_at_call 140; refine hpt.mono ?_; rintro e w1 ⟨S, rfl, hb, hS⟩; obtain ⟨sa, sc, rfl, _⟩ := hS; rw [HD.out]; simp only [Mill.ndV]; rw [World.size_alloc] at hb; obtain ⟨g0, g1, g2, g3, g4, g5⟩ := Mill.nd_cells hb; have hsz := hb.size; rw [World.size_alloc] at hsz; have hs1 : w.heap.size < w1.heap.size := (by omega))
  all_goals go_ret
  all_goals refine ⟨Mill.ret_bool ?_, (Mill.nd_below hb).alloc (by omega) _⟩
  all_goals go_light
  all_goals clear hb hpt
  all_goals simp_all [Mill.ndEq]

set_option maxRecDepth 100000 in
set_option maxHeartbeats 1000000 in
theorem usesAll_6 (o t y : Int) (x : ByteArray) (k : Int) (P : Nat → Prop) (us : List Value) (ks : List Int) (X : Value) (w : World) (hP : ∀ g, P g → g < w.heap.size) (hk : Mill.Kinded us ks) (hl : (23 : Int) ≤ 6 → us.length ≤ 100000) (hI : Mill.Inner P w ⟨6, o, t, y, x, k⟩ us X) :
    Calls Tryz.prog 29 #[Mill.ndV ⟨6, o, t, y, x, k⟩, .iface 132 X] w fun e w' => e = .returned (.bool (Mill.ndEq ⟨6, o, t, y, x, k⟩ (Mill.takenN ⟨6, o, t, y, x, k⟩ us.length))) ∧ Below w.heap.size w w' := by
  have hm := Tryz.meth_binNode
  have hpt := pt_6 o t y x k P us ks X _ (Mill.lt_alloc hP (.cells #[.int .i64 6, .int .i64 o, .int .i64 t, .int .i64 y, .string x, .int .i64 k] 68)) hk hl (hI.alloc hP _)
  clear hI hk hP
  obtain ⟨D, HD⟩ : ∃ D, Hid (Mill.takenN ⟨6, o, t, y, x, k⟩ us.length = D) := ⟨_, (rfl : Mill.takenN _ _ = _)⟩
  rw [HD.out]
  obtain ⟨c', o', t', y', x', k'⟩ := D
  simp only [Mill.ndV]
  go_enter Tryz.func29, Tryz.ntmps29
  go_wp2_with (go_at_call 141; refine hpt.mono ?_; rintro e w1 ⟨S, rfl, hb, hS⟩; obtain ⟨sa, sc, rfl, _⟩ := hS; rw [HD.out]; simp only [Mill.ndV]; rw [World.size_alloc] at hb; obtain ⟨g0, g1, g2, g3, g4, g5⟩ := Mill.nd_cells hb; have hsz := hb.size; rw [World.size_alloc] at hsz; have hs1 : w.heap.size < w1.heap.size := (by omega))
  all_goals go_ret
  all_goals refine ⟨Mill.ret_bool ?_, (Mill.nd_below hb).alloc (by omega) _⟩
  all_goals go_light
  all_goals clear hb hpt
  all_goals simp_all [Mill.ndEq]

set_option maxRecDepth 100000 in
set_option maxHeartbeats 1000000 in
theorem usesAll_7 (o t y : Int) (x : ByteArray) (k : Int) (P : Nat → Prop) (us : List Value) (ks : List Int) (X : Value) (w : World) (hP : ∀ g, P g → g < w.heap.size) (hk : Mill.Kinded us ks) (hl : (23 : Int) ≤ 7 → us.length ≤ 100000) (hI : Mill.Inner P w ⟨7, o, t, y, x, k⟩ us X) :
    Calls Tryz.prog 29 #[Mill.ndV ⟨7, o, t, y, x, k⟩, .iface 134 X] w fun e w' => e = .returned (.bool (Mill.ndEq ⟨7, o, t, y, x, k⟩ (Mill.takenN ⟨7, o, t, y, x, k⟩ us.length))) ∧ Below w.heap.size w w' := by
  have hm := Tryz.meth_callNode
  have hpt := pt_7 o t y x k P us ks X _ (Mill.lt_alloc hP (.cells #[.int .i64 7, .int .i64 o, .int .i64 t, .int .i64 y, .string x, .int .i64 k] 68)) hk hl (hI.alloc hP _)
  clear hI hk hP
  obtain ⟨D, HD⟩ : ∃ D, Hid (Mill.takenN ⟨7, o, t, y, x, k⟩ us.length = D) := ⟨_, (rfl : Mill.takenN _ _ = _)⟩
  rw [HD.out]
  obtain ⟨c', o', t', y', x', k'⟩ := D
  simp only [Mill.ndV]
  go_enter Tryz.func29, Tryz.ntmps29
  go_wp2_with (go_at_call 142; refine hpt.mono ?_; rintro e w1 ⟨S, rfl, hb, hS⟩; obtain ⟨sa, sc, rfl, _⟩ := hS; rw [HD.out]; simp only [Mill.ndV]; rw [World.size_alloc] at hb; obtain ⟨g0, g1, g2, g3, g4, g5⟩ := Mill.nd_cells hb; have hsz := hb.size; rw [World.size_alloc] at hsz; have hs1 : w.heap.size < w1.heap.size := (by omega))
  all_goals go_ret
  all_goals refine ⟨Mill.ret_bool ?_, (Mill.nd_below hb).alloc (by omega) _⟩
  all_goals go_light
  all_goals clear hb hpt
  all_goals simp_all [Mill.ndEq]

set_option maxRecDepth 100000 in
set_option maxHeartbeats 1000000 in
theorem usesAll_8 (o t y : Int) (x : ByteArray) (k : Int) (P : Nat → Prop) (us : List Value) (ks : List Int) (X : Value) (w : World) (hP : ∀ g, P g → g < w.heap.size) (hk : Mill.Kinded us ks) (hl : (23 : Int) ≤ 8 → us.length ≤ 100000) (hI : Mill.Inner P w ⟨8, o, t, y, x, k⟩ us X) :
    Calls Tryz.prog 29 #[Mill.ndV ⟨8, o, t, y, x, k⟩, .iface 139 X] w fun e w' => e = .returned (.bool (Mill.ndEq ⟨8, o, t, y, x, k⟩ (Mill.takenN ⟨8, o, t, y, x, k⟩ us.length))) ∧ Below w.heap.size w w' := by
  have hm := Tryz.meth_builtNode
  have hpt := pt_8 o t y x k P us ks X _ (Mill.lt_alloc hP (.cells #[.int .i64 8, .int .i64 o, .int .i64 t, .int .i64 y, .string x, .int .i64 k] 68)) hk hl (hI.alloc hP _)
  clear hI hk hP
  obtain ⟨D, HD⟩ : ∃ D, Hid (Mill.takenN ⟨8, o, t, y, x, k⟩ us.length = D) := ⟨_, (rfl : Mill.takenN _ _ = _)⟩
  rw [HD.out]
  obtain ⟨c', o', t', y', x', k'⟩ := D
  simp only [Mill.ndV]
  go_enter Tryz.func29, Tryz.ntmps29
  go_wp2_with (go_at_call 143; refine hpt.mono ?_; rintro e w1 ⟨S, rfl, hb, hS⟩; obtain ⟨sa, sc, rfl, _⟩ := hS; rw [HD.out]; simp only [Mill.ndV]; rw [World.size_alloc] at hb; obtain ⟨g0, g1, g2, g3, g4, g5⟩ := Mill.nd_cells hb; have hsz := hb.size; rw [World.size_alloc] at hsz; have hs1 : w.heap.size < w1.heap.size := (by omega))
  all_goals go_ret
  all_goals refine ⟨Mill.ret_bool ?_, (Mill.nd_below hb).alloc (by omega) _⟩
  all_goals go_light
  all_goals clear hb hpt
  all_goals simp_all [Mill.ndEq]

set_option maxRecDepth 100000 in
set_option maxHeartbeats 1000000 in
theorem usesAll_9 (o t y : Int) (x : ByteArray) (k : Int) (P : Nat → Prop) (us : List Value) (ks : List Int) (X : Value) (w : World) (hP : ∀ g, P g → g < w.heap.size) (hk : Mill.Kinded us ks) (hl : (23 : Int) ≤ 9 → us.length ≤ 100000) (hI : Mill.Inner P w ⟨9, o, t, y, x, k⟩ us X) :
    Calls Tryz.prog 29 #[Mill.ndV ⟨9, o, t, y, x, k⟩, .iface 141 X] w fun e w' => e = .returned (.bool (Mill.ndEq ⟨9, o, t, y, x, k⟩ (Mill.takenN ⟨9, o, t, y, x, k⟩ us.length))) ∧ Below w.heap.size w w' := by
  have hm := Tryz.meth_convNode
  have hpt := pt_9 o t y x k P us ks X _ (Mill.lt_alloc hP (.cells #[.int .i64 9, .int .i64 o, .int .i64 t, .int .i64 y, .string x, .int .i64 k] 68)) hk hl (hI.alloc hP _)
  clear hI hk hP
  obtain ⟨D, HD⟩ : ∃ D, Hid (Mill.takenN ⟨9, o, t, y, x, k⟩ us.length = D) := ⟨_, (rfl : Mill.takenN _ _ = _)⟩
  rw [HD.out]
  obtain ⟨c', o', t', y', x', k'⟩ := D
  simp only [Mill.ndV]
  go_enter Tryz.func29, Tryz.ntmps29
  go_wp2_with (go_at_call 144; refine hpt.mono ?_; rintro e w1 ⟨S, rfl, hb, hS⟩; obtain ⟨sa, sc, rfl, _⟩ := hS; rw [HD.out]; simp only [Mill.ndV]; rw [World.size_alloc] at hb; obtain ⟨g0, g1, g2, g3, g4, g5⟩ := Mill.nd_cells hb; have hsz := hb.size; rw [World.size_alloc] at hsz; have hs1 : w.heap.size < w1.heap.size := (by omega))
  all_goals go_ret
  all_goals refine ⟨Mill.ret_bool ?_, (Mill.nd_below hb).alloc (by omega) _⟩
  all_goals go_light
  all_goals clear hb hpt
  all_goals simp_all [Mill.ndEq]

set_option maxRecDepth 100000 in
set_option maxHeartbeats 1000000 in
theorem usesAll_10 (o t y : Int) (x : ByteArray) (k : Int) (P : Nat → Prop) (us : List Value) (ks : List Int) (X : Value) (w : World) (hP : ∀ g, P g → g < w.heap.size) (hk : Mill.Kinded us ks) (hl : (23 : Int) ≤ 10 → us.length ≤ 100000) (hI : Mill.Inner P w ⟨10, o, t, y, x, k⟩ us X) :
    Calls Tryz.prog 29 #[Mill.ndV ⟨10, o, t, y, x, k⟩, .iface 143 X] w fun e w' => e = .returned (.bool (Mill.ndEq ⟨10, o, t, y, x, k⟩ (Mill.takenN ⟨10, o, t, y, x, k⟩ us.length))) ∧ Below w.heap.size w w' := by
  have hm := Tryz.meth_letNode
  have hpt := pt_10 o t y x k P us ks X _ (Mill.lt_alloc hP (.cells #[.int .i64 10, .int .i64 o, .int .i64 t, .int .i64 y, .string x, .int .i64 k] 68)) hk hl (hI.alloc hP _)
  clear hI hk hP
  obtain ⟨D, HD⟩ : ∃ D, Hid (Mill.takenN ⟨10, o, t, y, x, k⟩ us.length = D) := ⟨_, (rfl : Mill.takenN _ _ = _)⟩
  rw [HD.out]
  obtain ⟨c', o', t', y', x', k'⟩ := D
  simp only [Mill.ndV]
  go_enter Tryz.func29, Tryz.ntmps29
  go_wp2_with (go_at_call 145; refine hpt.mono ?_; rintro e w1 ⟨S, rfl, hb, hS⟩; obtain ⟨sa, sc, rfl, _⟩ := hS; rw [HD.out]; simp only [Mill.ndV]; rw [World.size_alloc] at hb; obtain ⟨g0, g1, g2, g3, g4, g5⟩ := Mill.nd_cells hb; have hsz := hb.size; rw [World.size_alloc] at hsz; have hs1 : w.heap.size < w1.heap.size := (by omega))
  all_goals go_ret
  all_goals refine ⟨Mill.ret_bool ?_, (Mill.nd_below hb).alloc (by omega) _⟩
  all_goals go_light
  all_goals clear hb hpt
  all_goals simp_all [Mill.ndEq]

set_option maxRecDepth 100000 in
set_option maxHeartbeats 1000000 in
theorem usesAll_11 (o t y : Int) (x : ByteArray) (k : Int) (P : Nat → Prop) (us : List Value) (ks : List Int) (X : Value) (w : World) (hP : ∀ g, P g → g < w.heap.size) (hk : Mill.Kinded us ks) (hl : (23 : Int) ≤ 11 → us.length ≤ 100000) (hI : Mill.Inner P w ⟨11, o, t, y, x, k⟩ us X) :
    Calls Tryz.prog 29 #[Mill.ndV ⟨11, o, t, y, x, k⟩, .iface 144 X] w fun e w' => e = .returned (.bool (Mill.ndEq ⟨11, o, t, y, x, k⟩ (Mill.takenN ⟨11, o, t, y, x, k⟩ us.length))) ∧ Below w.heap.size w w' := by
  have hm := Tryz.meth_setNode
  have hpt := pt_11 o t y x k P us ks X _ (Mill.lt_alloc hP (.cells #[.int .i64 11, .int .i64 o, .int .i64 t, .int .i64 y, .string x, .int .i64 k] 68)) hk hl (hI.alloc hP _)
  clear hI hk hP
  obtain ⟨D, HD⟩ : ∃ D, Hid (Mill.takenN ⟨11, o, t, y, x, k⟩ us.length = D) := ⟨_, (rfl : Mill.takenN _ _ = _)⟩
  rw [HD.out]
  obtain ⟨c', o', t', y', x', k'⟩ := D
  simp only [Mill.ndV]
  go_enter Tryz.func29, Tryz.ntmps29
  go_wp2_with (go_at_call 146; refine hpt.mono ?_; rintro e w1 ⟨S, rfl, hb, hS⟩; obtain ⟨sa, sc, rfl, _⟩ := hS; rw [HD.out]; simp only [Mill.ndV]; rw [World.size_alloc] at hb; obtain ⟨g0, g1, g2, g3, g4, g5⟩ := Mill.nd_cells hb; have hsz := hb.size; rw [World.size_alloc] at hsz; have hs1 : w.heap.size < w1.heap.size := (by omega))
  all_goals go_ret
  all_goals refine ⟨Mill.ret_bool ?_, (Mill.nd_below hb).alloc (by omega) _⟩
  all_goals go_light
  all_goals clear hb hpt
  all_goals simp_all [Mill.ndEq]

set_option maxRecDepth 100000 in
set_option maxHeartbeats 1000000 in
theorem usesAll_12 (o t y : Int) (x : ByteArray) (k : Int) (P : Nat → Prop) (us : List Value) (ks : List Int) (X : Value) (w : World) (hP : ∀ g, P g → g < w.heap.size) (hk : Mill.Kinded us ks) (hl : (23 : Int) ≤ 12 → us.length ≤ 100000) (hI : Mill.Inner P w ⟨12, o, t, y, x, k⟩ us X) :
    Calls Tryz.prog 29 #[Mill.ndV ⟨12, o, t, y, x, k⟩, .iface 156 X] w fun e w' => e = .returned (.bool (Mill.ndEq ⟨12, o, t, y, x, k⟩ (Mill.takenN ⟨12, o, t, y, x, k⟩ us.length))) ∧ Below w.heap.size w w' := by
  have hm := Tryz.meth_ifNode
  have hpt := pt_12 o t y x k P us ks X _ (Mill.lt_alloc hP (.cells #[.int .i64 12, .int .i64 o, .int .i64 t, .int .i64 y, .string x, .int .i64 k] 68)) hk hl (hI.alloc hP _)
  clear hI hk hP
  obtain ⟨D, HD⟩ : ∃ D, Hid (Mill.takenN ⟨12, o, t, y, x, k⟩ us.length = D) := ⟨_, (rfl : Mill.takenN _ _ = _)⟩
  rw [HD.out]
  obtain ⟨c', o', t', y', x', k'⟩ := D
  simp only [Mill.ndV]
  go_enter Tryz.func29, Tryz.ntmps29
  go_wp2_with (go_at_call 153; refine hpt.mono ?_; rintro e w1 ⟨S, rfl, hb, hS⟩; obtain ⟨sa, sc, rfl, _⟩ := hS; rw [HD.out]; simp only [Mill.ndV]; rw [World.size_alloc] at hb; obtain ⟨g0, g1, g2, g3, g4, g5⟩ := Mill.nd_cells hb; have hsz := hb.size; rw [World.size_alloc] at hsz; have hs1 : w.heap.size < w1.heap.size := (by omega))
  all_goals go_ret
  all_goals refine ⟨Mill.ret_bool ?_, (Mill.nd_below hb).alloc (by omega) _⟩
  all_goals go_light
  all_goals clear hb hpt
  all_goals simp_all [Mill.ndEq]

set_option maxRecDepth 100000 in
set_option maxHeartbeats 1000000 in
theorem usesAll_13 (o t y : Int) (x : ByteArray) (k : Int) (P : Nat → Prop) (us : List Value) (ks : List Int) (X : Value) (w : World) (hP : ∀ g, P g → g < w.heap.size) (hk : Mill.Kinded us ks) (hl : (23 : Int) ≤ 13 → us.length ≤ 100000) (hI : Mill.Inner P w ⟨13, o, t, y, x, k⟩ us X) :
    Calls Tryz.prog 29 #[Mill.ndV ⟨13, o, t, y, x, k⟩, .iface 158 X] w fun e w' => e = .returned (.bool (Mill.ndEq ⟨13, o, t, y, x, k⟩ (Mill.takenN ⟨13, o, t, y, x, k⟩ us.length))) ∧ Below w.heap.size w w' := by
  have hm := Tryz.meth_whileNode
  have hpt := pt_13 o t y x k P us ks X _ (Mill.lt_alloc hP (.cells #[.int .i64 13, .int .i64 o, .int .i64 t, .int .i64 y, .string x, .int .i64 k] 68)) hk hl (hI.alloc hP _)
  clear hI hk hP
  obtain ⟨D, HD⟩ : ∃ D, Hid (Mill.takenN ⟨13, o, t, y, x, k⟩ us.length = D) := ⟨_, (rfl : Mill.takenN _ _ = _)⟩
  rw [HD.out]
  obtain ⟨c', o', t', y', x', k'⟩ := D
  simp only [Mill.ndV]
  go_enter Tryz.func29, Tryz.ntmps29
  go_wp2_with (go_at_call 154; refine hpt.mono ?_; rintro e w1 ⟨S, rfl, hb, hS⟩; obtain ⟨sa, sc, rfl, _⟩ := hS; rw [HD.out]; simp only [Mill.ndV]; rw [World.size_alloc] at hb; obtain ⟨g0, g1, g2, g3, g4, g5⟩ := Mill.nd_cells hb; have hsz := hb.size; rw [World.size_alloc] at hsz; have hs1 : w.heap.size < w1.heap.size := (by omega))
  all_goals go_ret
  all_goals refine ⟨Mill.ret_bool ?_, (Mill.nd_below hb).alloc (by omega) _⟩
  all_goals go_light
  all_goals clear hb hpt
  all_goals simp_all [Mill.ndEq]

set_option maxRecDepth 100000 in
set_option maxHeartbeats 1000000 in
theorem usesAll_14 (o t y : Int) (x : ByteArray) (k : Int) (P : Nat → Prop) (us : List Value) (ks : List Int) (X : Value) (w : World) (hP : ∀ g, P g → g < w.heap.size) (hk : Mill.Kinded us ks) (hl : (23 : Int) ≤ 14 → us.length ≤ 100000) (hI : Mill.Inner P w ⟨14, o, t, y, x, k⟩ us X) :
    Calls Tryz.prog 29 #[Mill.ndV ⟨14, o, t, y, x, k⟩, .iface 146 X] w fun e w' => e = .returned (.bool (Mill.ndEq ⟨14, o, t, y, x, k⟩ (Mill.takenN ⟨14, o, t, y, x, k⟩ us.length))) ∧ Below w.heap.size w w' := by
  have hm := Tryz.meth_breakNode
  have hpt := pt_14 o t y x k P us ks X _ (Mill.lt_alloc hP (.cells #[.int .i64 14, .int .i64 o, .int .i64 t, .int .i64 y, .string x, .int .i64 k] 68)) hk hl (hI.alloc hP _)
  clear hI hk hP
  obtain ⟨D, HD⟩ : ∃ D, Hid (Mill.takenN ⟨14, o, t, y, x, k⟩ us.length = D) := ⟨_, (rfl : Mill.takenN _ _ = _)⟩
  rw [HD.out]
  obtain ⟨c', o', t', y', x', k'⟩ := D
  simp only [Mill.ndV]
  go_enter Tryz.func29, Tryz.ntmps29
  go_wp2_with (go_at_call 147; refine hpt.mono ?_; rintro e w1 ⟨S, rfl, hb, hS⟩; obtain ⟨sa, sc, rfl, _⟩ := hS; rw [HD.out]; simp only [Mill.ndV]; rw [World.size_alloc] at hb; obtain ⟨g0, g1, g2, g3, g4, g5⟩ := Mill.nd_cells hb; have hsz := hb.size; rw [World.size_alloc] at hsz; have hs1 : w.heap.size < w1.heap.size := (by omega))
  all_goals go_ret
  all_goals refine ⟨Mill.ret_bool ?_, (Mill.nd_below hb).alloc (by omega) _⟩
  all_goals go_light
  all_goals clear hb hpt
  all_goals simp_all [Mill.ndEq]

set_option maxRecDepth 100000 in
set_option maxHeartbeats 1000000 in
theorem usesAll_15 (o t y : Int) (x : ByteArray) (k : Int) (P : Nat → Prop) (us : List Value) (ks : List Int) (X : Value) (w : World) (hP : ∀ g, P g → g < w.heap.size) (hk : Mill.Kinded us ks) (hl : (23 : Int) ≤ 15 → us.length ≤ 100000) (hI : Mill.Inner P w ⟨15, o, t, y, x, k⟩ us X) :
    Calls Tryz.prog 29 #[Mill.ndV ⟨15, o, t, y, x, k⟩, .iface 147 X] w fun e w' => e = .returned (.bool (Mill.ndEq ⟨15, o, t, y, x, k⟩ (Mill.takenN ⟨15, o, t, y, x, k⟩ us.length))) ∧ Below w.heap.size w w' := by
  have hm := Tryz.meth_continueNode
  have hpt := pt_15 o t y x k P us ks X _ (Mill.lt_alloc hP (.cells #[.int .i64 15, .int .i64 o, .int .i64 t, .int .i64 y, .string x, .int .i64 k] 68)) hk hl (hI.alloc hP _)
  clear hI hk hP
  obtain ⟨D, HD⟩ : ∃ D, Hid (Mill.takenN ⟨15, o, t, y, x, k⟩ us.length = D) := ⟨_, (rfl : Mill.takenN _ _ = _)⟩
  rw [HD.out]
  obtain ⟨c', o', t', y', x', k'⟩ := D
  simp only [Mill.ndV]
  go_enter Tryz.func29, Tryz.ntmps29
  go_wp2_with (go_at_call 148; refine hpt.mono ?_; rintro e w1 ⟨S, rfl, hb, hS⟩; obtain ⟨sa, sc, rfl, _⟩ := hS; rw [HD.out]; simp only [Mill.ndV]; rw [World.size_alloc] at hb; obtain ⟨g0, g1, g2, g3, g4, g5⟩ := Mill.nd_cells hb; have hsz := hb.size; rw [World.size_alloc] at hsz; have hs1 : w.heap.size < w1.heap.size := (by omega))
  all_goals go_ret
  all_goals refine ⟨Mill.ret_bool ?_, (Mill.nd_below hb).alloc (by omega) _⟩
  all_goals go_light
  all_goals clear hb hpt
  all_goals simp_all [Mill.ndEq]

set_option maxRecDepth 100000 in
set_option maxHeartbeats 1000000 in
theorem usesAll_16 (o t y : Int) (x : ByteArray) (k : Int) (P : Nat → Prop) (us : List Value) (ks : List Int) (X : Value) (w : World) (hP : ∀ g, P g → g < w.heap.size) (hk : Mill.Kinded us ks) (hl : (23 : Int) ≤ 16 → us.length ≤ 100000) (hI : Mill.Inner P w ⟨16, o, t, y, x, k⟩ us X) :
    Calls Tryz.prog 29 #[Mill.ndV ⟨16, o, t, y, x, k⟩, .iface 149 X] w fun e w' => e = .returned (.bool (Mill.ndEq ⟨16, o, t, y, x, k⟩ (Mill.takenN ⟨16, o, t, y, x, k⟩ us.length))) ∧ Below w.heap.size w w' := by
  have hm := Tryz.meth_returnNode
  have hpt := pt_16 o t y x k P us ks X _ (Mill.lt_alloc hP (.cells #[.int .i64 16, .int .i64 o, .int .i64 t, .int .i64 y, .string x, .int .i64 k] 68)) hk hl (hI.alloc hP _)
  clear hI hk hP
  obtain ⟨D, HD⟩ : ∃ D, Hid (Mill.takenN ⟨16, o, t, y, x, k⟩ us.length = D) := ⟨_, (rfl : Mill.takenN _ _ = _)⟩
  rw [HD.out]
  obtain ⟨c', o', t', y', x', k'⟩ := D
  simp only [Mill.ndV]
  go_enter Tryz.func29, Tryz.ntmps29
  go_wp2_with (go_at_call 149; refine hpt.mono ?_; rintro e w1 ⟨S, rfl, hb, hS⟩; obtain ⟨sa, sc, rfl, _⟩ := hS; rw [HD.out]; simp only [Mill.ndV]; rw [World.size_alloc] at hb; obtain ⟨g0, g1, g2, g3, g4, g5⟩ := Mill.nd_cells hb; have hsz := hb.size; rw [World.size_alloc] at hsz; have hs1 : w.heap.size < w1.heap.size := (by omega))
  all_goals go_ret
  all_goals refine ⟨Mill.ret_bool ?_, (Mill.nd_below hb).alloc (by omega) _⟩
  all_goals go_light
  all_goals clear hb hpt
  all_goals simp_all [Mill.ndEq]

set_option maxRecDepth 100000 in
set_option maxHeartbeats 1000000 in
theorem usesAll_17 (o t y : Int) (x : ByteArray) (k : Int) (P : Nat → Prop) (us : List Value) (ks : List Int) (X : Value) (w : World) (hP : ∀ g, P g → g < w.heap.size) (hk : Mill.Kinded us ks) (hl : (23 : Int) ≤ 17 → us.length ≤ 100000) (hI : Mill.Inner P w ⟨17, o, t, y, x, k⟩ us X) :
    Calls Tryz.prog 29 #[Mill.ndV ⟨17, o, t, y, x, k⟩, .iface 151 X] w fun e w' => e = .returned (.bool (Mill.ndEq ⟨17, o, t, y, x, k⟩ (Mill.takenN ⟨17, o, t, y, x, k⟩ us.length))) ∧ Below w.heap.size w w' := by
  have hm := Tryz.meth_failNode
  have hpt := pt_17 o t y x k P us ks X _ (Mill.lt_alloc hP (.cells #[.int .i64 17, .int .i64 o, .int .i64 t, .int .i64 y, .string x, .int .i64 k] 68)) hk hl (hI.alloc hP _)
  clear hI hk hP
  obtain ⟨D, HD⟩ : ∃ D, Hid (Mill.takenN ⟨17, o, t, y, x, k⟩ us.length = D) := ⟨_, (rfl : Mill.takenN _ _ = _)⟩
  rw [HD.out]
  obtain ⟨c', o', t', y', x', k'⟩ := D
  simp only [Mill.ndV]
  go_enter Tryz.func29, Tryz.ntmps29
  go_wp2_with (go_at_call 150; refine hpt.mono ?_; rintro e w1 ⟨S, rfl, hb, hS⟩; obtain ⟨sa, sc, rfl, _⟩ := hS; rw [HD.out]; simp only [Mill.ndV]; rw [World.size_alloc] at hb; obtain ⟨g0, g1, g2, g3, g4, g5⟩ := Mill.nd_cells hb; have hsz := hb.size; rw [World.size_alloc] at hsz; have hs1 : w.heap.size < w1.heap.size := (by omega))
  all_goals go_ret
  all_goals refine ⟨Mill.ret_bool ?_, (Mill.nd_below hb).alloc (by omega) _⟩
  all_goals go_light
  all_goals clear hb hpt
  all_goals simp_all [Mill.ndEq]

set_option maxRecDepth 100000 in
set_option maxHeartbeats 1000000 in
theorem usesAll_18 (o t y : Int) (x : ByteArray) (k : Int) (P : Nat → Prop) (us : List Value) (ks : List Int) (X : Value) (w : World) (hP : ∀ g, P g → g < w.heap.size) (hk : Mill.Kinded us ks) (hl : (23 : Int) ≤ 18 → us.length ≤ 100000) (hI : Mill.Inner P w ⟨18, o, t, y, x, k⟩ us X) :
    Calls Tryz.prog 29 #[Mill.ndV ⟨18, o, t, y, x, k⟩, .iface 153 X] w fun e w' => e = .returned (.bool (Mill.ndEq ⟨18, o, t, y, x, k⟩ (Mill.takenN ⟨18, o, t, y, x, k⟩ us.length))) ∧ Below w.heap.size w w' := by
  have hm := Tryz.meth_writeNode
  have hpt := pt_18 o t y x k P us ks X _ (Mill.lt_alloc hP (.cells #[.int .i64 18, .int .i64 o, .int .i64 t, .int .i64 y, .string x, .int .i64 k] 68)) hk hl (hI.alloc hP _)
  clear hI hk hP
  obtain ⟨D, HD⟩ : ∃ D, Hid (Mill.takenN ⟨18, o, t, y, x, k⟩ us.length = D) := ⟨_, (rfl : Mill.takenN _ _ = _)⟩
  rw [HD.out]
  obtain ⟨c', o', t', y', x', k'⟩ := D
  simp only [Mill.ndV]
  go_enter Tryz.func29, Tryz.ntmps29
  go_wp2_with (go_at_call 151; refine hpt.mono ?_; rintro e w1 ⟨S, rfl, hb, hS⟩; obtain ⟨sa, sc, rfl, _⟩ := hS; rw [HD.out]; simp only [Mill.ndV]; rw [World.size_alloc] at hb; obtain ⟨g0, g1, g2, g3, g4, g5⟩ := Mill.nd_cells hb; have hsz := hb.size; rw [World.size_alloc] at hsz; have hs1 : w.heap.size < w1.heap.size := (by omega))
  all_goals go_ret
  all_goals refine ⟨Mill.ret_bool ?_, (Mill.nd_below hb).alloc (by omega) _⟩
  all_goals go_light
  all_goals clear hb hpt
  all_goals simp_all [Mill.ndEq]

set_option maxRecDepth 100000 in
set_option maxHeartbeats 1000000 in
theorem usesAll_19 (o t y : Int) (x : ByteArray) (k : Int) (P : Nat → Prop) (us : List Value) (ks : List Int) (X : Value) (w : World) (hP : ∀ g, P g → g < w.heap.size) (hk : Mill.Kinded us ks) (hl : (23 : Int) ≤ 19 → us.length ≤ 100000) (hI : Mill.Inner P w ⟨19, o, t, y, x, k⟩ us X) :
    Calls Tryz.prog 29 #[Mill.ndV ⟨19, o, t, y, x, k⟩, .iface 154 X] w fun e w' => e = .returned (.bool (Mill.ndEq ⟨19, o, t, y, x, k⟩ (Mill.takenN ⟨19, o, t, y, x, k⟩ us.length))) ∧ Below w.heap.size w w' := by
  have hm := Tryz.meth_sayNode
  have hpt := pt_19 o t y x k P us ks X _ (Mill.lt_alloc hP (.cells #[.int .i64 19, .int .i64 o, .int .i64 t, .int .i64 y, .string x, .int .i64 k] 68)) hk hl (hI.alloc hP _)
  clear hI hk hP
  obtain ⟨D, HD⟩ : ∃ D, Hid (Mill.takenN ⟨19, o, t, y, x, k⟩ us.length = D) := ⟨_, (rfl : Mill.takenN _ _ = _)⟩
  rw [HD.out]
  obtain ⟨c', o', t', y', x', k'⟩ := D
  simp only [Mill.ndV]
  go_enter Tryz.func29, Tryz.ntmps29
  go_wp2_with (go_at_call 152; refine hpt.mono ?_; rintro e w1 ⟨S, rfl, hb, hS⟩; obtain ⟨sa, sc, rfl, _⟩ := hS; rw [HD.out]; simp only [Mill.ndV]; rw [World.size_alloc] at hb; obtain ⟨g0, g1, g2, g3, g4, g5⟩ := Mill.nd_cells hb; have hsz := hb.size; rw [World.size_alloc] at hsz; have hs1 : w.heap.size < w1.heap.size := (by omega))
  all_goals go_ret
  all_goals refine ⟨Mill.ret_bool ?_, (Mill.nd_below hb).alloc (by omega) _⟩
  all_goals go_light
  all_goals clear hb hpt
  all_goals simp_all [Mill.ndEq]

set_option maxRecDepth 100000 in
set_option maxHeartbeats 1000000 in
theorem usesAll_20 (o t y : Int) (x : ByteArray) (k : Int) (P : Nat → Prop) (us : List Value) (ks : List Int) (X : Value) (w : World) (hP : ∀ g, P g → g < w.heap.size) (hk : Mill.Kinded us ks) (hl : (23 : Int) ≤ 20 → us.length ≤ 100000) (hI : Mill.Inner P w ⟨20, o, t, y, x, k⟩ us X) :
    Calls Tryz.prog 29 #[Mill.ndV ⟨20, o, t, y, x, k⟩, .iface 160 X] w fun e w' => e = .returned (.bool (Mill.ndEq ⟨20, o, t, y, x, k⟩ (Mill.takenN ⟨20, o, t, y, x, k⟩ us.length))) ∧ Below w.heap.size w w' := by
  have hm := Tryz.meth_doNode
  have hpt := pt_20 o t y x k P us ks X _ (Mill.lt_alloc hP (.cells #[.int .i64 20, .int .i64 o, .int .i64 t, .int .i64 y, .string x, .int .i64 k] 68)) hk hl (hI.alloc hP _)
  clear hI hk hP
  obtain ⟨D, HD⟩ : ∃ D, Hid (Mill.takenN ⟨20, o, t, y, x, k⟩ us.length = D) := ⟨_, (rfl : Mill.takenN _ _ = _)⟩
  rw [HD.out]
  obtain ⟨c', o', t', y', x', k'⟩ := D
  simp only [Mill.ndV]
  go_enter Tryz.func29, Tryz.ntmps29
  go_wp2_with (go_at_call 155; refine hpt.mono ?_; rintro e w1 ⟨S, rfl, hb, hS⟩; obtain ⟨sa, sc, rfl, _⟩ := hS; rw [HD.out]; simp only [Mill.ndV]; rw [World.size_alloc] at hb; obtain ⟨g0, g1, g2, g3, g4, g5⟩ := Mill.nd_cells hb; have hsz := hb.size; rw [World.size_alloc] at hsz; have hs1 : w.heap.size < w1.heap.size := (by omega))
  all_goals go_ret
  all_goals refine ⟨Mill.ret_bool ?_, (Mill.nd_below hb).alloc (by omega) _⟩
  all_goals go_light
  all_goals clear hb hpt
  all_goals simp_all [Mill.ndEq]

set_option maxRecDepth 100000 in
set_option maxHeartbeats 1000000 in
theorem usesAll_21 (o t y : Int) (x : ByteArray) (k : Int) (P : Nat → Prop) (us : List Value) (ks : List Int) (X : Value) (w : World) (hP : ∀ g, P g → g < w.heap.size) (hk : Mill.Kinded us ks) (hl : (23 : Int) ≤ 21 → us.length ≤ 100000) (hI : Mill.Inner P w ⟨21, o, t, y, x, k⟩ us X) :
    Calls Tryz.prog 29 #[Mill.ndV ⟨21, o, t, y, x, k⟩, .iface 58 X] w fun e w' => e = .returned (.bool (Mill.ndEq ⟨21, o, t, y, x, k⟩ (Mill.takenN ⟨21, o, t, y, x, k⟩ us.length))) ∧ Below w.heap.size w w' := by
  have hm := Tryz.meth_blockNode
  have hpt := pt_21 o t y x k P us ks X _ (Mill.lt_alloc hP (.cells #[.int .i64 21, .int .i64 o, .int .i64 t, .int .i64 y, .string x, .int .i64 k] 68)) hk hl (hI.alloc hP _)
  clear hI hk hP
  obtain ⟨D, HD⟩ : ∃ D, Hid (Mill.takenN ⟨21, o, t, y, x, k⟩ us.length = D) := ⟨_, (rfl : Mill.takenN _ _ = _)⟩
  rw [HD.out]
  obtain ⟨c', o', t', y', x', k'⟩ := D
  simp only [Mill.ndV]
  go_enter Tryz.func29, Tryz.ntmps29
  go_wp2_with (go_at_call 133; refine hpt.mono ?_; rintro e w1 ⟨S, rfl, hb, hS⟩; obtain ⟨sa, sc, rfl, _⟩ := hS; rw [HD.out]; simp only [Mill.ndV]; rw [World.size_alloc] at hb; obtain ⟨g0, g1, g2, g3, g4, g5⟩ := Mill.nd_cells hb; have hsz := hb.size; rw [World.size_alloc] at hsz; have hs1 : w.heap.size < w1.heap.size := (by omega))
  all_goals go_ret
  all_goals refine ⟨Mill.ret_bool ?_, (Mill.nd_below hb).alloc (by omega) _⟩
  all_goals go_light
  all_goals clear hb hpt
  all_goals simp_all [Mill.ndEq]

set_option maxRecDepth 100000 in
set_option maxHeartbeats 1000000 in
theorem usesAll_22 (o t y : Int) (x : ByteArray) (k : Int) (P : Nat → Prop) (us : List Value) (ks : List Int) (X : Value) (w : World) (hP : ∀ g, P g → g < w.heap.size) (hk : Mill.Kinded us ks) (hl : (23 : Int) ≤ 22 → us.length ≤ 100000) (hI : Mill.Inner P w ⟨22, o, t, y, x, k⟩ us X) :
    Calls Tryz.prog 29 #[Mill.ndV ⟨22, o, t, y, x, k⟩, .iface 85 X] w fun e w' => e = .returned (.bool (Mill.ndEq ⟨22, o, t, y, x, k⟩ (Mill.takenN ⟨22, o, t, y, x, k⟩ us.length))) ∧ Below w.heap.size w w' := by
  have hm := Tryz.meth_paramNode
  have hpt := pt_22 o t y x k P us ks X _ (Mill.lt_alloc hP (.cells #[.int .i64 22, .int .i64 o, .int .i64 t, .int .i64 y, .string x, .int .i64 k] 68)) hk hl (hI.alloc hP _)
  clear hI hk hP
  obtain ⟨D, HD⟩ : ∃ D, Hid (Mill.takenN ⟨22, o, t, y, x, k⟩ us.length = D) := ⟨_, (rfl : Mill.takenN _ _ = _)⟩
  rw [HD.out]
  obtain ⟨c', o', t', y', x', k'⟩ := D
  simp only [Mill.ndV]
  go_enter Tryz.func29, Tryz.ntmps29
  go_wp2_with (go_at_call 135; refine hpt.mono ?_; rintro e w1 ⟨S, rfl, hb, hS⟩; obtain ⟨sa, sc, rfl, _⟩ := hS; rw [HD.out]; simp only [Mill.ndV]; rw [World.size_alloc] at hb; obtain ⟨g0, g1, g2, g3, g4, g5⟩ := Mill.nd_cells hb; have hsz := hb.size; rw [World.size_alloc] at hsz; have hs1 : w.heap.size < w1.heap.size := (by omega))
  all_goals go_ret
  all_goals refine ⟨Mill.ret_bool ?_, (Mill.nd_below hb).alloc (by omega) _⟩
  all_goals go_light
  all_goals clear hb hpt
  all_goals simp_all [Mill.ndEq]

set_option maxRecDepth 100000 in
set_option maxHeartbeats 1000000 in
theorem usesAll_23 (o t y : Int) (x : ByteArray) (k : Int) (P : Nat → Prop) (us : List Value) (ks : List Int) (X : Value) (w : World) (hP : ∀ g, P g → g < w.heap.size) (hk : Mill.Kinded us ks) (hl : (23 : Int) ≤ 23 → us.length ≤ 100000) (hI : Mill.Inner P w ⟨23, o, t, y, x, k⟩ us X) :
    Calls Tryz.prog 29 #[Mill.ndV ⟨23, o, t, y, x, k⟩, .iface 60 X] w fun e w' => e = .returned (.bool (Mill.ndEq ⟨23, o, t, y, x, k⟩ (Mill.takenN ⟨23, o, t, y, x, k⟩ us.length))) ∧ Below w.heap.size w w' := by
  have hm := Tryz.meth_fnNode
  have hpt := pt_23 o t y x k P us ks X _ (Mill.lt_alloc hP (.cells #[.int .i64 23, .int .i64 o, .int .i64 t, .int .i64 y, .string x, .int .i64 k] 68)) hk hl (hI.alloc hP _)
  clear hI hk hP
  obtain ⟨D, HD⟩ : ∃ D, Hid (Mill.takenN ⟨23, o, t, y, x, k⟩ us.length = D) := ⟨_, (rfl : Mill.takenN _ _ = _)⟩
  rw [HD.out]
  obtain ⟨c', o', t', y', x', k'⟩ := D
  simp only [Mill.ndV]
  go_enter Tryz.func29, Tryz.ntmps29
  go_wp2_with (go_at_call 134; refine hpt.mono ?_; rintro e w1 ⟨S, rfl, hb, hS⟩; obtain ⟨sa, sc, rfl, _⟩ := hS; rw [HD.out]; simp only [Mill.ndV]; rw [World.size_alloc] at hb; obtain ⟨g0, g1, g2, g3, g4, g5⟩ := Mill.nd_cells hb; have hsz := hb.size; rw [World.size_alloc] at hsz; have hs1 : w.heap.size < w1.heap.size := (by omega))
  all_goals go_ret
  all_goals refine ⟨Mill.ret_bool ?_, (Mill.nd_below hb).alloc (by omega) _⟩
  all_goals go_light
  all_goals clear hb hpt
  all_goals simp_all [Mill.ndEq]

set_option maxRecDepth 100000 in
set_option maxHeartbeats 1000000 in
theorem usesAll_24 (o t y : Int) (x : ByteArray) (k : Int) (P : Nat → Prop) (us : List Value) (ks : List Int) (X : Value) (w : World) (hP : ∀ g, P g → g < w.heap.size) (hk : Mill.Kinded us ks) (hl : (23 : Int) ≤ 24 → us.length ≤ 100000) (hI : Mill.Inner P w ⟨24, o, t, y, x, k⟩ us X) :
    Calls Tryz.prog 29 #[Mill.ndV ⟨24, o, t, y, x, k⟩, .iface 47 X] w fun e w' => e = .returned (.bool (Mill.ndEq ⟨24, o, t, y, x, k⟩ (Mill.takenN ⟨24, o, t, y, x, k⟩ us.length))) ∧ Below w.heap.size w w' := by
  have hm := Tryz.meth_programNode
  have hpt := pt_24 o t y x k P us ks X _ (Mill.lt_alloc hP (.cells #[.int .i64 24, .int .i64 o, .int .i64 t, .int .i64 y, .string x, .int .i64 k] 68)) hk hl (hI.alloc hP _)
  clear hI hk hP
  obtain ⟨D, HD⟩ : ∃ D, Hid (Mill.takenN ⟨24, o, t, y, x, k⟩ us.length = D) := ⟨_, (rfl : Mill.takenN _ _ = _)⟩
  rw [HD.out]
  obtain ⟨c', o', t', y', x', k'⟩ := D
  simp only [Mill.ndV]
  go_enter Tryz.func29, Tryz.ntmps29
  go_wp2_with (go_at_call 130; refine hpt.mono ?_; rintro e w1 ⟨S, rfl, hb, hS⟩; obtain ⟨sa, sc, rfl, _⟩ := hS; rw [HD.out]; simp only [Mill.ndV]; rw [World.size_alloc] at hb; obtain ⟨g0, g1, g2, g3, g4, g5⟩ := Mill.nd_cells hb; have hsz := hb.size; rw [World.size_alloc] at hsz; have hs1 : w.heap.size < w1.heap.size := (by omega))
  all_goals go_ret
  all_goals refine ⟨Mill.ret_bool ?_, (Mill.nd_below hb).alloc (by omega) _⟩
  all_goals go_light
  all_goals clear hb hpt
  all_goals simp_all [Mill.ndEq]

end Go.Proofs.YtkaoeoeloihigaaGreatDoor
