import Derived.Test.YtkaoeoeloihigaaGreatDoorVTreeR
import Derived.OwnWalk
namespace Go.Proofs.YtkaoeoeloihigaaGreatDoor
open Go.RowKit

set_option maxRecDepth 100000 in
set_option maxHeartbeats 1000000 in
theorem parts_3t (o t y : Int) (x : ByteArray) (k : Int) (hy : y = 1) (P : Nat → Prop) (w : World) :
    Calls Tryz.prog 138 #[.agg #[.bool true]] w fun e w' => Mill.Parts P w ⟨3, o, t, y, x, k⟩ [] e w' := by
  have HV : Hid (Mill.ndV (Mill.takenN ⟨3, o, t, y, x, k⟩ 0) = .agg #[.int .i64 3, .int .i64 0, .int .i64 0, .int .i64 1, .string ⟨#[]⟩, .int .i64 0]) := by rw [Hid]; simp [Mill.ndV, Mill.takenN, Mill.uOp, Mill.uType, Mill.uText, Mill.named, hy]
  clear hy
  go_enter Tryz.func138, Tryz.ntmps138
  go_wp2
  refine bodyPost_ret (v := .tuple #[.agg #[.int .i64 3, .int .i64 0, .int .i64 0, .int .i64 1, .string ⟨#[]⟩, .int .i64 0], .slice none 0 0]) (by simp [results, Tryz.results138, go_sem]) rfl ⟨_, by rw [← HV.out]; rfl, (by repeat (first | exact Below.refl _ _ | refine Below.alloc ?_ (by first | exact Nat.le_refl _ | (simp only [World.size_alloc]; omega)) _)), Mill.sl_nil _ _⟩

set_option maxRecDepth 100000 in
set_option maxHeartbeats 1000000 in
theorem parts_3f (o t y : Int) (x : ByteArray) (k : Int) (hy : y ≠ 1) (P : Nat → Prop) (w : World) :
    Calls Tryz.prog 138 #[.agg #[.bool false]] w fun e w' => Mill.Parts P w ⟨3, o, t, y, x, k⟩ [] e w' := by
  have HV : Hid (Mill.ndV (Mill.takenN ⟨3, o, t, y, x, k⟩ 0) = .agg #[.int .i64 3, .int .i64 0, .int .i64 0, .int .i64 0, .string ⟨#[]⟩, .int .i64 0]) := by rw [Hid]; simp [Mill.ndV, Mill.takenN, Mill.uOp, Mill.uType, Mill.uText, Mill.named, hy]
  clear hy
  go_enter Tryz.func138, Tryz.ntmps138
  go_wp2
  refine bodyPost_ret (v := .tuple #[.agg #[.int .i64 3, .int .i64 0, .int .i64 0, .int .i64 0, .string ⟨#[]⟩, .int .i64 0], .slice none 0 0]) (by simp [results, Tryz.results138, go_sem]) rfl ⟨_, by rw [← HV.out]; rfl, (by repeat (first | exact Below.refl _ _ | refine Below.alloc ?_ (by first | exact Nat.le_refl _ | (simp only [World.size_alloc]; omega)) _)), Mill.sl_nil _ _⟩

set_option maxRecDepth 100000 in
set_option maxHeartbeats 1000000 in
theorem parts_7 (o t y : Int) (x : ByteArray) (k : Int) (a : Option Addr) (n c : Nat) (us : List Value) (P : Nat → Prop) (w : World) (hP : ∀ g, P g → g < w.heap.size) (hu : us.length = n) (hS : Mill.Sl P w (.slice a n c) n us) :
    Calls Tryz.prog 142 #[.agg #[.string x, .slice a n c]] w fun e w' => Mill.Parts P w ⟨7, o, t, y, x, k⟩ us e w' := by
  have HV : Hid (Mill.ndV (Mill.takenN ⟨7, o, t, y, x, k⟩ n) = .agg #[.int .i64 7, .int .i64 0, .int .i64 0, .int .i64 0, .string x, .int .i64 (n : Int)]) := by rw [Hid]; rfl
  go_enter Tryz.func142, Tryz.ntmps142
  go_wp2_with (go_at_call 131; refine (above_any _ _ _ _ _ _ _ _ _ _).mono ?_; rintro e w' ⟨rfl, rfl⟩)
  refine bodyPost_ret (v := .tuple #[.agg #[.int .i64 7, .int .i64 0, .int .i64 0, .int .i64 0, .string x, .int .i64 (n : Int)], .slice a n c]) (by simp [results, Tryz.results142, go_sem]) rfl ⟨_, by rw [hu, ← HV.out], (by repeat (first | exact Below.refl _ _ | refine Below.alloc ?_ (by first | exact Nat.le_refl _ | (simp only [World.size_alloc]; omega)) _)), ?_⟩
  rw [hu]
  refine hS.below (fun g h => .inl h) (fun g h => ?_)
  have := hP g h
  repeat (first | rfl | rw [Below.heap_alloc _ _ _ (by simp only [World.size_alloc]; omega)] | rw [Below.heap_alloc _ _ _ this])

set_option maxRecDepth 100000 in
set_option maxHeartbeats 1000000 in
theorem parts_8 (o t y : Int) (x : ByteArray) (k : Int) (a : Option Addr) (n c : Nat) (us : List Value) (P : Nat → Prop) (w : World) (hP : ∀ g, P g → g < w.heap.size) (hu : us.length = n) (hS : Mill.Sl P w (.slice a n c) n us) :
    Calls Tryz.prog 143 #[.agg #[.int .i64 o, .slice a n c]] w fun e w' => Mill.Parts P w ⟨8, o, t, y, x, k⟩ us e w' := by
  have HV : Hid (Mill.ndV (Mill.takenN ⟨8, o, t, y, x, k⟩ n) = .agg #[.int .i64 8, .int .i64 o, .int .i64 0, .int .i64 0, .string ⟨#[]⟩, .int .i64 (n : Int)]) := by rw [Hid]; rfl
  go_enter Tryz.func143, Tryz.ntmps143
  go_wp2_with (go_at_call 131; refine (above_any _ _ _ _ _ _ _ _ _ _).mono ?_; rintro e w' ⟨rfl, rfl⟩)
  refine bodyPost_ret (v := .tuple #[.agg #[.int .i64 8, .int .i64 o, .int .i64 0, .int .i64 0, .string ⟨#[]⟩, .int .i64 (n : Int)], .slice a n c]) (by simp [results, Tryz.results143, go_sem]) rfl ⟨_, by rw [hu, ← HV.out], (by repeat (first | exact Below.refl _ _ | refine Below.alloc ?_ (by first | exact Nat.le_refl _ | (simp only [World.size_alloc]; omega)) _)), ?_⟩
  rw [hu]
  refine hS.below (fun g h => .inl h) (fun g h => ?_)
  have := hP g h
  repeat (first | rfl | rw [Below.heap_alloc _ _ _ (by simp only [World.size_alloc]; omega)] | rw [Below.heap_alloc _ _ _ this])

set_option maxRecDepth 100000 in
set_option maxHeartbeats 1000000 in
theorem parts_21 (o t y : Int) (x : ByteArray) (k : Int) (a : Option Addr) (n c : Nat) (us : List Value) (P : Nat → Prop) (w : World) (hP : ∀ g, P g → g < w.heap.size) (hu : us.length = n) (hS : Mill.Sl P w (.slice a n c) n us) :
    Calls Tryz.prog 133 #[.agg #[.slice a n c]] w fun e w' => Mill.Parts P w ⟨21, o, t, y, x, k⟩ us e w' := by
  have HV : Hid (Mill.ndV (Mill.takenN ⟨21, o, t, y, x, k⟩ n) = .agg #[.int .i64 21, .int .i64 0, .int .i64 0, .int .i64 0, .string ⟨#[]⟩, .int .i64 (n : Int)]) := by rw [Hid]; rfl
  go_enter Tryz.func133, Tryz.ntmps133
  go_wp2_with (go_at_call 131; refine (above_any _ _ _ _ _ _ _ _ _ _).mono ?_; rintro e w' ⟨rfl, rfl⟩)
  refine bodyPost_ret (v := .tuple #[.agg #[.int .i64 21, .int .i64 0, .int .i64 0, .int .i64 0, .string ⟨#[]⟩, .int .i64 (n : Int)], .slice a n c]) (by simp [results, Tryz.results133, go_sem]) rfl ⟨_, by rw [hu, ← HV.out], (by repeat (first | exact Below.refl _ _ | refine Below.alloc ?_ (by first | exact Nat.le_refl _ | (simp only [World.size_alloc]; omega)) _)), ?_⟩
  rw [hu]
  refine hS.below (fun g h => .inl h) (fun g h => ?_)
  have := hP g h
  repeat (first | rfl | rw [Below.heap_alloc _ _ _ (by simp only [World.size_alloc]; omega)] | rw [Below.heap_alloc _ _ _ this])

end Go.Proofs.YtkaoeoeloihigaaGreatDoor

namespace Go.Proofs.YtkaoeoeloihigaaGreatDoor
open Go.RowKit

theorem Tryz.infoBranch : (Tryz.prog.info? 77).map (fun i => (i.zero, i.size, i.bytes)) = some (some .nilIface, 1, 16) := by kernel_rfl
theorem Mill.fnC_at (fs : List Mill.FnR) (i : Nat) (h : i < fs.length) (j : Nat) (hj : j < 4) : (Mill.fnC fs)[i * 4 + j]? = [Value.string fs[i].name, .int .i64 fs[i].result, fs[i].sp, fs[i].sb][j]? := by
  induction fs generalizing i with
  | nil => simp at h
  | cons t r ih =>
    cases i with
    | zero =>
      simp only [Mill.fnC, List.flatMap_cons, Nat.zero_mul, Nat.zero_add]
      rw [List.getElem?_append_left (by simp; omega)]; rfl
    | succ i =>
      simp only [Mill.fnC, List.flatMap_cons]
      rw [List.getElem?_append_right (by simp; omega)]
      have e : (i + 1) * 4 + j - [Value.string t.name, .int .i64 t.result, t.sp, t.sb].length = i * 4 + j := by simp; omega
      rw [e]
      exact ih i (by simpa using h)
theorem Mill.prC_at (ps : List (ByteArray × Int)) (i : Nat) (h : i < ps.length) (j : Nat) (hj : j < 2) : (Mill.prC ps)[i * 2 + j]? = [Value.string ps[i].1, .int .i64 ps[i].2][j]? := by
  induction ps generalizing i with
  | nil => simp at h
  | cons t r ih =>
    cases i with
    | zero =>
      simp only [Mill.prC, List.flatMap_cons, Nat.zero_mul, Nat.zero_add]
      rw [List.getElem?_append_left (by simp; omega)]; rfl
    | succ i =>
      simp only [Mill.prC, List.flatMap_cons]
      rw [List.getElem?_append_right (by simp; omega)]
      have e : (i + 1) * 2 + j - [Value.string t.1, .int .i64 t.2].length = i * 2 + j := by simp; omega
      rw [e]
      exact ih i (by simpa using h)
theorem Mill.cell1_new (w : World) (o : Obj) (a : Value) (t : TypeId) (j : Nat) (u : Value) (h : [a][j]? = some u) : ((w.alloc o).alloc (.cells #[a] t)).cell? ((⟨w.heap.size + 1, 0, none⟩ : Addr).add j) = some u := by
  have hadd : (⟨w.heap.size + 1, 0, none⟩ : Addr).add j = ⟨(w.alloc o).heap.size, j, none⟩ := by unfold Addr.add; split <;> simp_all
  rw [hadd, cell_of_row _ _ _ #[a] t (0, 0) (heap_alloc_new (w.alloc o) _)]
  simpa using h
theorem Mill.iface_one (t : TypeId) (x : Value) : ∀ u ∈ [Value.iface t x], u.oneCell' = true := by
  intro u hu
  simp at hu
  subst hu
  rfl
theorem Mill.zero6 {w wr : World} {o : Obj} {T : TypeId} (hb : Below (w.heap.size + 2) ((w.alloc o).alloc (.cells #[.int .i64 0, .int .i64 0, .int .i64 0, .int .i64 0, .string ⟨#[]⟩, .int .i64 0] T)) wr) :
    (wr.cell? ⟨w.heap.size + 1, 0, none⟩ = some (.int .i64 0) ∧ wr.cell? ⟨w.heap.size + 1, 1, none⟩ = some (.int .i64 0) ∧ wr.cell? ⟨w.heap.size + 1, 2, none⟩ = some (.int .i64 0) ∧ wr.cell? ⟨w.heap.size + 1, 3, none⟩ = some (.int .i64 0) ∧ wr.cell? ⟨w.heap.size + 1, 4, none⟩ = some (.string ⟨#[]⟩) ∧ wr.cell? ⟨w.heap.size + 1, 5, none⟩ = some (.int .i64 0)) ∧ (wr.frozen? ⟨w.heap.size + 1, 0, none⟩ = false ∧ wr.frozen? ⟨w.heap.size + 1, 1, none⟩ = false ∧ wr.frozen? ⟨w.heap.size + 1, 2, none⟩ = false ∧ wr.frozen? ⟨w.heap.size + 1, 3, none⟩ = false ∧ wr.frozen? ⟨w.heap.size + 1, 4, none⟩ = false ∧ wr.frozen? ⟨w.heap.size + 1, 5, none⟩ = false) := by
  refine ⟨⟨?_, ?_, ?_, ?_, ?_, ?_⟩, ?_, ?_, ?_, ?_, ?_, ?_⟩
  · rw [hb.cell (p := ⟨w.heap.size + 1, 0, none⟩) (by simp)]; simp [go_sem]
  · rw [hb.cell (p := ⟨w.heap.size + 1, 1, none⟩) (by simp)]; simp [go_sem]
  · rw [hb.cell (p := ⟨w.heap.size + 1, 2, none⟩) (by simp)]; simp [go_sem]
  · rw [hb.cell (p := ⟨w.heap.size + 1, 3, none⟩) (by simp)]; simp [go_sem]
  · rw [hb.cell (p := ⟨w.heap.size + 1, 4, none⟩) (by simp)]; simp [go_sem]
  · rw [hb.cell (p := ⟨w.heap.size + 1, 5, none⟩) (by simp)]; simp [go_sem]
  · rw [hb.frozen (p := ⟨w.heap.size + 1, 0, none⟩) (by simp)]; simp [go_sem]
  · rw [hb.frozen (p := ⟨w.heap.size + 1, 1, none⟩) (by simp)]; simp [go_sem]
  · rw [hb.frozen (p := ⟨w.heap.size + 1, 2, none⟩) (by simp)]; simp [go_sem]
  · rw [hb.frozen (p := ⟨w.heap.size + 1, 3, none⟩) (by simp)]; simp [go_sem]
  · rw [hb.frozen (p := ⟨w.heap.size + 1, 4, none⟩) (by simp)]; simp [go_sem]
  · rw [hb.frozen (p := ⟨w.heap.size + 1, 5, none⟩) (by simp)]; simp [go_sem]

theorem Mill.six_below {B b : Nat} {w wr : World} {c0 c1 c2 c3 c4 c5 : Value} {A A' : Obj} (h : Below B w wr) (hb : B ≤ b) (hs : B ≤ wr.heap.size) :
    Below B w ((((((((wr.setCell ⟨b, 0, none⟩ c0).setCell ⟨b, 1, none⟩ c1).setCell ⟨b, 2, none⟩ c2).setCell ⟨b, 3, none⟩ c3).setCell ⟨b, 4, none⟩ c4).setCell ⟨b, 5, none⟩ c5).alloc A).alloc A') :=
  (((((((h.setCell (p := ⟨b, 0, none⟩) hb _).setCell (p := ⟨b, 1, none⟩) hb _).setCell (p := ⟨b, 2, none⟩) hb _).setCell (p := ⟨b, 3, none⟩) hb _).setCell (p := ⟨b, 4, none⟩) hb _).setCell (p := ⟨b, 5, none⟩) hb _).alloc (by simpa using hs) _).alloc (by simp; omega) _
theorem Mill.six_own {b B e size n : Nat} {wr : World} {v : Value} {xs : List Value} {c0 c1 c2 c3 c4 c5 : Value} {A A' : Obj} (h : wr.ownsRow B e size v n xs) (hb : b < B) :
    ((((((((wr.setCell ⟨b, 0, none⟩ c0).setCell ⟨b, 1, none⟩ c1).setCell ⟨b, 2, none⟩ c2).setCell ⟨b, 3, none⟩ c3).setCell ⟨b, 4, none⟩ c4).setCell ⟨b, 5, none⟩ c5).alloc A).alloc A').ownsRow B e size v n xs :=
  ((ownsRow_setCell_below (ownsRow_setCell_below (ownsRow_setCell_below (ownsRow_setCell_below (ownsRow_setCell_below (ownsRow_setCell_below h (a := ⟨b, 0, none⟩) hb _) (a := ⟨b, 1, none⟩) hb _) (a := ⟨b, 2, none⟩) hb _) (a := ⟨b, 3, none⟩) hb _) (a := ⟨b, 4, none⟩) hb _) (a := ⟨b, 5, none⟩) hb _).alloc _).alloc _

set_option maxRecDepth 100000 in
set_option maxHeartbeats 2000000 in
theorem parts_24 (o t y : Int) (x : ByteArray) (k : Int) (a : Option Addr) (n c : Nat) (fs : List Mill.FnR) (P : Nat → Prop) (w : World) (hP : ∀ g, P g → g < w.heap.size) (hf : fs.length = n) (hl : n ≤ 100000) (hS : Mill.Sl P w (.slice a n c) n (Mill.fnC fs)) :
    Calls Tryz.prog 130 #[.agg #[.slice a n c]] w fun e w' => Mill.Parts P w ⟨24, o, t, y, x, k⟩ (fs.map Mill.fnV) e w' := by
  obtain ⟨i0, hi0, hz0, hz1, hz2⟩ := info_parts Tryz.infoBranch
  have HV : Hid (Mill.ndV (Mill.takenN ⟨24, o, t, y, x, k⟩ (fs.map Mill.fnV).length) = .agg #[.int .i64 24, .int .i64 0, .int .i64 0, .int .i64 0, .string ⟨#[]⟩, .int .i64 (n : Int)]) := by rw [Hid, List.length_map, hf]; rfl
  obtain ⟨a', c', hv, hcl⟩ := hS
  cases hv
  have hcell : ∀ i (hi : i < n), ∃ g, a = some ⟨g, 0, none⟩ ∧ g < w.heap.size ∧ ∀ j, j < 4 → w.cell? ⟨g, i * 4 + j, none⟩ = [Value.string (fs[i]'(by omega)).name, .int .i64 (fs[i]'(by omega)).result, (fs[i]'(by omega)).sp, (fs[i]'(by omega)).sb][j]? := by
    intro i hi
    have h0 := Mill.fnC_at fs i (by omega) 0 (by omega)
    obtain ⟨g, ha, hg, _⟩ := hcl (i * 4 + 0) _ h0
    refine ⟨g, ha, hP g hg, fun j hj => ?_⟩
    have hj0 := Mill.fnC_at fs i (by omega) j hj
    match j, hj with
    | 0, _ => obtain ⟨g', ha', _, hq⟩ := hcl _ _ hj0; rw [ha] at ha'; cases ha'; exact hq
    | 1, _ => obtain ⟨g', ha', _, hq⟩ := hcl _ _ hj0; rw [ha] at ha'; cases ha'; exact hq
    | 2, _ => obtain ⟨g', ha', _, hq⟩ := hcl _ _ hj0; rw [ha] at ha'; cases ha'; exact hq
    | 3, _ => obtain ⟨g', ha', _, hq⟩ := hcl _ _ hj0; rw [ha] at ha'; cases ha'; exact hq
  clear hcl
  go_enter Tryz.func130, Tryz.ntmps130
  go_wp2_with (at_make; (refine wpList_make_own _ rfl _ _ 56 rfl (w.heap.size + 2) 77 i0 .nilIface 1 Tryz.underlying56 hi0 hz0 hz1 .i64 .i64 _ n rfl rfl rfl (by rw [hz2]; omega) (by unfold maxLen; omega) (by simp only [World.size_alloc]; omega) ?_; intro w0 hown0 hgrow0; have hb0 : Below (w.heap.size + 2) ((w.alloc (.cells #[.slice a n c] 47)).alloc (.cells #[.int .i64 0, .int .i64 0, .int .i64 0, .int .i64 0, .string ⟨#[]⟩, .int .i64 0] 68)) w0 := Below.grown (Below.refl _ _) hgrow0 (by simp only [World.size_alloc]; omega) (fun k h => by cases h); have r0 : w0.cell? ⟨w.heap.size, 0, none⟩ = some (.slice a n c) := (by rw [hb0.cell (p := ⟨w.heap.size, 0, none⟩) (by simp)]; simp [go_sem])))
  have hsz0 : w.heap.size + 2 ≤ w0.heap.size := by have := hb0.size; simp only [World.size_alloc] at this; omega
  go_loopw [4, 14] (fun vk tv wr => ∃ i : Nat, i ≤ n ∧ tv = .int .i64 (i : Int) ∧ wr.ownsRow (w.heap.size + 2) 77 1 vk i ((fs.take i).map Mill.fnV) ∧ Below (w.heap.size + 2) ((w.alloc (.cells #[.slice a n c] 47)).alloc (.cells #[.int .i64 0, .int .i64 0, .int .i64 0, .int .i64 0, .string ⟨#[]⟩, .int .i64 0] 68)) wr ∧ w.heap.size + 2 ≤ wr.heap.size) (fun _ tv _ => n - (intOf tv).toNat)
  case atStart => exact ⟨0, by omega, rfl, by simpa using hown0, hb0, hsz0⟩
  case round =>
    obtain ⟨i, hi, rfl, hown, hbw, hsz⟩ := hrel
    by_cases hlt : i < n
    · obtain ⟨g, rfl, hg2, hq⟩ := hcell i hlt
      have hil : i < fs.length := by omega
      have HT : Hid ((fs.take (i + 1)).map Mill.fnV = (fs.take i).map Mill.fnV ++ [Mill.fnV fs[i]]) := by rw [Hid, ← List.take_append_getElem hil, List.map_append]; rfl
      have hw : ∀ j, wr.cell? ⟨g, j, none⟩ = w.cell? ⟨g, j, none⟩ := fun j => by
        rw [hbw.cell (p := ⟨g, j, none⟩) (by simp; omega), World.cell?_alloc_past _ _ _ (by simp only [World.size_alloc]; omega), World.cell?_alloc_past _ _ _ hg2]
      have c0 := (hw (i * 4 + 0)).trans (hq 0 (by omega))
      have c1 := (hw (i * 4 + 1)).trans (hq 1 (by omega))
      have c2 := (hw (i * 4 + 2)).trans (hq 2 (by omega))
      have c3 := (hw (i * 4 + 3)).trans (hq 3 (by omega))
      simp only [Nat.add_zero, List.getElem?_cons_zero, List.getElem?_cons_succ] at c0 c1 c2 c3
      clear hcell hq hw
      rw [show Mill.fnV fs[i] = .iface 60 (.agg #[.string fs[i].name, .int .i64 fs[i].result, fs[i].sp, fs[i].sb]) from rfl] at HT
      generalize fs[i] = fi at *
      obtain ⟨nm, rr, a1, n1, d1, a2, n2, d2⟩ := fi
      simp only [Mill.FnR.sp, Mill.FnR.sb] at c0 c1 c2 c3 HT
      go_wp2_with (at_builtin; (refine wpList_append_own _ rfl _ _ 56 rfl (w.heap.size + 2) 77 i0 .nilIface 1 16 Tryz.underlying56 hi0 hz0 hz1 hz2 rfl (by decide) _ _ _ rfl ((hown.alloc _).alloc _) ⟨wr.heap.size + 1, 0, none⟩ 1 1 [.iface 60 (.agg #[.string nm, .int .i64 rr, .slice a1 n1 d1, .slice a2 n2 d2])] rfl rfl (Mill.cell1_new _ _ _ _) (Mill.iface_one _ _) (by unfold maxLen; omega) (by omega) (by simp only [World.size_alloc]; omega) ?_; intro v' w3 hown' hgrow3 _))
      have hb3 : Below (w.heap.size + 2) ((w.alloc (.cells #[.slice (some ⟨g, 0, none⟩) n c] 47)).alloc (.cells #[.int .i64 0, .int .i64 0, .int .i64 0, .int .i64 0, .string ⟨#[]⟩, .int .i64 0] 68)) w3 := Below.grown ((hbw.alloc hsz _).alloc (by simp only [World.size_alloc]; omega) _) hgrow3 (by simp only [World.size_alloc]; omega) (fun j hj => (hown.lt _ hj).1)
      have hs3 := hgrow3.size
      simp only [World.size_alloc] at hs3
      go_roundw
      case rel => exact ⟨i + 1, by omega, by go_num, by rw [HT.out]; exact hown', hb3, by omega⟩
      case measure => simp [intOf]; omega
    · have hie : i = n := by omega
      subst hie
      have hT : fs.take i = fs := List.take_of_length_le (by omega)
      rw [hT] at hown
      obtain ⟨ak, ck, rfl⟩ := Mill.rowLen hown
      obtain ⟨⟨z0, z1, z2, z3, z4, z5⟩, y0, y1, y2, y3, y4, y5⟩ := Mill.zero6 hbw
      have hbe : Below w.heap.size w wr := (((Below.refl _ w).alloc (Nat.le_refl _) _).alloc (by simp) _).trans (hbw.mono (by omega))
      have hsl : w.heap.size + 1 < wr.heap.size := by omega
      have hsl2 : w.heap.size < wr.heap.size := by omega
      have hsl3 : w.heap.size + 1 < wr.heap.size + 1 := by omega
      clear hcell hT
      go_wp2_with (go_at_call 131; refine (above_any _ _ _ _ _ _ _ _ _ _).mono ?_; rintro e w' ⟨rfl, rfl⟩)
      refine bodyPost_ret (v := .tuple #[.agg #[.int .i64 24, .int .i64 0, .int .i64 0, .int .i64 0, .string ⟨#[]⟩, .int .i64 (i : Int)], .slice ak i ck]) (by simp [results, Tryz.results130, go_sem, z0, z1, z2, z3, z4, z5, hsl, hsl2]) rfl ⟨_, by rw [HV.out], ?_, ?_⟩
      · exact Mill.six_below hbe (by omega) (by omega)
      · rw [List.length_map, hf]
        refine Mill.Sl.below (Mill.sl_own (B := w.heap.size + 2) (e := 77) (size := 1) ?_) (fun g h => .inr ⟨by omega, h.2⟩) (fun g _ => rfl)
        exact Mill.six_own hown (by omega)

end Go.Proofs.YtkaoeoeloihigaaGreatDoor

namespace Go.Proofs.YtkaoeoeloihigaaGreatDoor
open Go.RowKit

set_option maxRecDepth 100000 in
set_option maxHeartbeats 8000000 in
theorem parts_23 (o t y : Int) (x : ByteArray) (k : Int) (a : Option Addr) (n c : Nat) (sa : Option Addr) (sn sc : Nat) (ps : List (ByteArray × Int)) (P : Nat → Prop) (w : World) (hP : ∀ g, P g → g < w.heap.size) (hf : ps.length = n) (hl : n ≤ 100000) (hS : Mill.Sl P w (.slice a n c) n (Mill.prC ps)) :
    Calls Tryz.prog 134 #[.agg #[.string x, .int .i64 t, .slice a n c, .slice sa sn sc]] w fun e w' => Mill.Parts P w ⟨23, o, t, y, x, k⟩ (ps.map Mill.prV ++ [Mill.blV (.slice sa sn sc)]) e w' := by
  obtain ⟨i0, hi0, hz0, hz1, hz2⟩ := info_parts Tryz.infoBranch
  have HV : Hid (Mill.ndV (Mill.takenN ⟨23, o, t, y, x, k⟩ (ps.map Mill.prV ++ [Mill.blV (.slice sa sn sc)]).length) = .agg #[.int .i64 23, .int .i64 0, .int .i64 t, .int .i64 0, .string x, .int .i64 ((n : Int) + 1)]) := by rw [Hid, List.length_append, List.length_map, hf]; rfl
  obtain ⟨a', c', hv, hcl⟩ := hS
  cases hv
  have hcell : ∀ i (hi : i < n), ∃ g, a = some ⟨g, 0, none⟩ ∧ g < w.heap.size ∧ ∀ j, j < 2 → w.cell? ⟨g, i * 2 + j, none⟩ = [Value.string (ps[i]'(by omega)).1, .int .i64 (ps[i]'(by omega)).2][j]? := by
    intro i hi
    have h0 := Mill.prC_at ps i (by omega) 0 (by omega)
    obtain ⟨g, ha, hg, _⟩ := hcl (i * 2 + 0) _ h0
    refine ⟨g, ha, hP g hg, fun j hj => ?_⟩
    have hj0 := Mill.prC_at ps i (by omega) j hj
    match j, hj with
    | 0, _ => obtain ⟨g', ha', _, hq⟩ := hcl _ _ hj0; rw [ha] at ha'; cases ha'; exact hq
    | 1, _ => obtain ⟨g', ha', _, hq⟩ := hcl _ _ hj0; rw [ha] at ha'; cases ha'; exact hq
  clear hcl
  go_enter Tryz.func134, Tryz.ntmps134
  go_wp2_with (at_make; (refine wpList_make_own _ rfl _ _ 56 rfl (w.heap.size + 2) 77 i0 .nilIface 1 Tryz.underlying56 hi0 hz0 hz1 .i64 .i64 _ (n + 1) rfl rfl (by omega) (by rw [hz2]; omega) (by unfold maxLen; omega) (by simp only [World.size_alloc]; omega) ?_; intro w0 hown0 hgrow0; have hb0 : Below (w.heap.size + 2) ((w.alloc (.cells #[.string x, .int .i64 t, .slice a n c, .slice sa sn sc] 60)).alloc (.cells #[.int .i64 0, .int .i64 0, .int .i64 0, .int .i64 0, .string ⟨#[]⟩, .int .i64 0] 68)) w0 := Below.grown (Below.refl _ _) hgrow0 (by simp only [World.size_alloc]; omega) (fun k h => by cases h); have r2 : w0.cell? ⟨w.heap.size, 2, none⟩ = some (.slice a n c) := (by rw [hb0.cell (p := ⟨w.heap.size, 2, none⟩) (by simp)]; simp [go_sem])))
  have hsz0 : w.heap.size + 2 ≤ w0.heap.size := by have := hb0.size; simp only [World.size_alloc] at this; omega
  go_loopw [4, 15] (fun vk tv wr => ∃ i : Nat, i ≤ n ∧ tv = .int .i64 (i : Int) ∧ wr.ownsRow (w.heap.size + 2) 77 1 vk i ((ps.take i).map Mill.prV) ∧ Below (w.heap.size + 2) ((w.alloc (.cells #[.string x, .int .i64 t, .slice a n c, .slice sa sn sc] 60)).alloc (.cells #[.int .i64 0, .int .i64 0, .int .i64 0, .int .i64 0, .string ⟨#[]⟩, .int .i64 0] 68)) wr ∧ w.heap.size + 2 ≤ wr.heap.size) (fun _ tv _ => n - (intOf tv).toNat)
  case atStart => exact ⟨0, by omega, rfl, by simpa using hown0, hb0, hsz0⟩
  case round =>
    obtain ⟨i, hi, rfl, hown, hbw, hsz⟩ := hrel
    by_cases hlt : i < n
    · obtain ⟨g, rfl, hg2, hq⟩ := hcell i hlt
      have hil : i < ps.length := by omega
      have HT : Hid ((ps.take (i + 1)).map Mill.prV = (ps.take i).map Mill.prV ++ [Mill.prV ps[i]]) := by rw [Hid, ← List.take_append_getElem hil, List.map_append]; rfl
      have hw : ∀ j, wr.cell? ⟨g, j, none⟩ = w.cell? ⟨g, j, none⟩ := fun j => by
        rw [hbw.cell (p := ⟨g, j, none⟩) (by simp; omega), World.cell?_alloc_past _ _ _ (by simp only [World.size_alloc]; omega), World.cell?_alloc_past _ _ _ hg2]
      have c0 := (hw (i * 2 + 0)).trans (hq 0 (by omega))
      have c1 := (hw (i * 2 + 1)).trans (hq 1 (by omega))
      simp only [Nat.add_zero, List.getElem?_cons_zero, List.getElem?_cons_succ] at c0 c1
      clear hcell hq hw
      rw [show Mill.prV ps[i] = .iface 85 (.agg #[.string ps[i].1, .int .i64 ps[i].2]) from rfl] at HT
      generalize ps[i] = pi at *
      obtain ⟨nm, pt⟩ := pi
      simp only at c0 c1 HT
      go_wp2_with (at_builtin; (refine wpList_append_own _ rfl _ _ 56 rfl (w.heap.size + 2) 77 i0 .nilIface 1 16 Tryz.underlying56 hi0 hz0 hz1 hz2 rfl (by decide) _ _ _ rfl ((hown.alloc _).alloc _) ⟨wr.heap.size + 1, 0, none⟩ 1 1 [.iface 85 (.agg #[.string nm, .int .i64 pt])] rfl rfl (Mill.cell1_new _ _ _ _) (Mill.iface_one _ _) (by unfold maxLen; omega) (by omega) (by simp only [World.size_alloc]; omega) ?_; intro v' w3 hown' hgrow3 _))
      have hb3 : Below (w.heap.size + 2) ((w.alloc (.cells #[.string x, .int .i64 t, .slice (some ⟨g, 0, none⟩) n c, .slice sa sn sc] 60)).alloc (.cells #[.int .i64 0, .int .i64 0, .int .i64 0, .int .i64 0, .string ⟨#[]⟩, .int .i64 0] 68)) w3 := Below.grown ((hbw.alloc hsz _).alloc (by simp only [World.size_alloc]; omega) _) hgrow3 (by simp only [World.size_alloc]; omega) (fun j hj => (hown.lt _ hj).1)
      have hs3 := hgrow3.size
      simp only [World.size_alloc] at hs3
      go_roundw
      case rel => exact ⟨i + 1, by omega, by go_num, by rw [HT.out]; exact hown', hb3, by omega⟩
      case measure => simp [intOf]; omega
    · have hie : i = n := by omega
      subst hie
      have hT : ps.take i = ps := List.take_of_length_le (by omega)
      rw [hT] at hown
      obtain ⟨ak, ck, rfl⟩ := Mill.rowLen hown
      obtain ⟨⟨z0, z1, z2, z3, z4, z5⟩, y0, y1, y2, y3, y4, y5⟩ := Mill.zero6 hbw
      have hbe : Below w.heap.size w wr := (((Below.refl _ w).alloc (Nat.le_refl _) _).alloc (by simp) _).trans (hbw.mono (by omega))
      have x0 : wr.cell? ⟨w.heap.size, 0, none⟩ = some (.string x) := by rw [hbw.cell (p := ⟨w.heap.size, 0, none⟩) (by simp)]; simp [go_sem]
      have x1 : wr.cell? ⟨w.heap.size, 1, none⟩ = some (.int .i64 t) := by rw [hbw.cell (p := ⟨w.heap.size, 1, none⟩) (by simp)]; simp [go_sem]
      have x3 : wr.cell? ⟨w.heap.size, 3, none⟩ = some (.slice sa sn sc) := by rw [hbw.cell (p := ⟨w.heap.size, 3, none⟩) (by simp)]; simp [go_sem]
      have hsl : w.heap.size + 1 < wr.heap.size := by omega
      have hsl2 : w.heap.size < wr.heap.size := by omega
      have hsl3 : w.heap.size + 1 < wr.heap.size + 1 := by omega
      clear hcell hT
      go_wp2_with fail
      go_region_law (first
        | (refine Mill.step_append_own rfl (.tmp 30) (.tmp 34) 56 rfl (w.heap.size + 2) 77 i0 .nilIface 1 16 Tryz.underlying56 hi0 hz0 hz1 hz2 rfl (by decide) (.slice ak i ck) i (ps.map Mill.prV) rfl (by with_reducible first | exact (hown.alloc _).drew | exact World.ownsRow.alloc hown.drew _) ⟨wr.heap.size, 0, none⟩ 1 1 [.iface 58 (.agg #[.slice sa sn sc])] rfl rfl (by intro j u hu; exact cell_one_new _ _ _ j u hu) (Mill.iface_one _ _) (by unfold maxLen; omega) (by omega) (by simp; omega) ?_; intro v' w3 hown' hgrow3; obtain ⟨a', c', hv'⟩ := Mill.rowLen hown'; subst hv'; have hb3 : Below (w.heap.size + 2) wr w3 := Below.grown (by with_reducible first | exact ((Below.refl _ wr).alloc hsz _).drew | exact (Below.refl _ wr).drew.alloc hsz _) hgrow3 (by simp; omega) (fun j hj => (hown.lt _ hj).1); obtain ⟨⟨p0, p1, p2, p3, p4, p5⟩, q0, q1, q2, q3, q4, q5⟩ := Mill.zero6 (hbw.trans hb3); have v0 : w3.cell? ⟨w.heap.size, 0, none⟩ = some (.string x) := (by rw [hb3.cell (p := ⟨w.heap.size, 0, none⟩) (by simp)]; exact x0); have v1 : w3.cell? ⟨w.heap.size, 1, none⟩ = some (.int .i64 t) := (by rw [hb3.cell (p := ⟨w.heap.size, 1, none⟩) (by simp)]; exact x1); have hs3 := hb3.size; have hsm : w.heap.size + 1 < w3.heap.size := (by omega); have hsm2 : w.heap.size < w3.heap.size := (by omega); have hsm3 : w.heap.size + 1 < w3.heap.size + 1 := (by omega))
        | (go_simp; go_at_call 131; refine (above_any _ _ _ _ _ _ _ _ _ _).mono ?_; rintro e w' ⟨rfl, rfl⟩))
      all_goals
        go_wp2
        have hbe3 : Below w.heap.size w w3 := hbe.trans (hb3.mono (by omega))
        refine bodyPost_ret (v := .tuple #[.agg #[.int .i64 23, .int .i64 0, .int .i64 t, .int .i64 0, .string x, .int .i64 ((i : Int) + 1)], .slice a' (i + 1) c']) (by simp [results, Tryz.results134, go_sem, p0, p1, p2, p3, p4, p5, hsm, hsm2]) rfl ⟨_, by rw [HV.out], ?_, ?_⟩
        · exact Mill.six_below hbe3 (by omega) (by omega)
        · rw [List.length_append, List.length_map, hf]
          exact Mill.Sl.below (Mill.sl_own (Mill.six_own hown' (by omega))) (fun g h => .inr ⟨by omega, h.2⟩) (fun g _ => rfl)

end Go.Proofs.YtkaoeoeloihigaaGreatDoor
