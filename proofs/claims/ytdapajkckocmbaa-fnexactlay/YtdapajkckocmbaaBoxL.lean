import Derived.Test.YtdapajkckocmbaaBoxK
import Derived.Deep.RegionWith
namespace Go.Proofs.Ytdapajkckocmbaa
open Go.RowKit Go.Maps Go.WideMaps

set_option maxRecDepth 100000 in
set_option maxHeartbeats 1000000 in
theorem Bx.clone_any (x : ByteArray) (w : World) (hx : x.size ≤ 1048576000) :
    Calls Try.prog 51 #[.string x] w fun e w' => e = .returned (.string x) ∧ Below w.heap.size w w' := by
  go_enter Try.func51, Try.ntmps51
  go_wp2_with (go_at_call 64; refine (Try.stringslite_Clone x _ (by omega)).mono ?_; rintro e w1 ⟨rfl, hb1⟩)
  go_ret
  exact ⟨rfl, hb1⟩
set_option maxRecDepth 100000 in
set_option maxHeartbeats 1000000 in
theorem Bx.copied_any (c : Int) (x : ByteArray) (w : World) (hx : x.size ≤ 1048576000) :
    Calls Try.prog 31 #[.agg #[.int .i64 c, .string x]] w fun e w' => e = .returned (.agg #[.int .i64 c, .string x]) ∧ Below w.heap.size w w' := by
  have HQ : Hid (∀ w1, Below (w.heap.size + 1 + 1) ((w.alloc (.cells #[.int .i64 c, .string x] 34)).alloc (.cells #[.int .i64 0, .string ⟨#[]⟩] 34)).drew w1 → w1.cell? ⟨w.heap.size, 0, none⟩ = some (.int .i64 c) ∧ w1.cell? ⟨w.heap.size, 1, none⟩ = some (.string x) ∧ w1.cell? ⟨w.heap.size + 1, 0, none⟩ = some (.int .i64 0) ∧ w1.cell? ⟨w.heap.size + 1, 1, none⟩ = some (.string ⟨#[]⟩) ∧ w1.frozen? ⟨w.heap.size + 1, 0, none⟩ = false ∧ w1.frozen? ⟨w.heap.size + 1, 1, none⟩ = false ∧ Below w.heap.size w w1) := fun w1 h => by
    have h0 : w1.heap[w.heap.size]? = some (.cells #[.int .i64 c, .string x] 34) := by
      rw [h.block w.heap.size (by omega)]
      exact ((((Below.refl _ (w.alloc (.cells #[.int .i64 c, .string x] 34))).alloc (Nat.le_refl _) (.cells #[.int .i64 0, .string ⟨#[]⟩] 34)).block w.heap.size (by simp)).trans (MapKept.heap_alloc w _).1)
    have h1 : w1.heap[w.heap.size + 1]? = some (.cells #[.int .i64 0, .string ⟨#[]⟩] 34) := by
      rw [h.block (w.heap.size + 1) (by omega)]
      have e := (MapKept.heap_alloc (w.alloc (.cells #[.int .i64 c, .string x] 34)) (.cells #[.int .i64 0, .string ⟨#[]⟩] 34)).1
      rw [World.size_alloc] at e; exact e
    refine ⟨by simp [World.cell?, h0], by simp [World.cell?, h0], by simp [World.cell?, h1], by simp [World.cell?, h1], by simp [World.frozen?, h1], by simp [World.frozen?, h1], ?_⟩
    exact ((((Below.refl _ w).alloc (Nat.le_refl _) _).alloc (by simp) _).drew).trans (h.mono (by omega))
  have HQ2 : Hid (∀ w1 : World, w1.cell? ⟨w.heap.size, 0, none⟩ = some (.int .i64 c) → w1.cell? ⟨w.heap.size, 1, none⟩ = some (.string x) → ((w1.setCell ⟨w.heap.size + 1, 0, none⟩ (.int .i64 c)).setCell ⟨w.heap.size + 1, 1, none⟩ (.string x)).cell? ⟨w.heap.size, 0, none⟩ = some (.int .i64 c) ∧ ((w1.setCell ⟨w.heap.size + 1, 0, none⟩ (.int .i64 c)).setCell ⟨w.heap.size + 1, 1, none⟩ (.string x)).cell? ⟨w.heap.size, 1, none⟩ = some (.string x)) := fun w1 h0 h1 =>
    ⟨by rw [World.cell?_setCell_far _ _ _ _ (by simp), World.cell?_setCell_far _ _ _ _ (by simp)]; exact h0, by rw [World.cell?_setCell_far _ _ _ _ (by simp), World.cell?_setCell_far _ _ _ _ (by simp)]; exact h1⟩
  go_enter Try.func31, Try.ntmps31
  go_wp2_with fail
  refine wp_region_held_drew (S := (fun W => W.cell? ⟨w.heap.size, 0, none⟩ = some (.int .i64 c) ∧ W.cell? ⟨w.heap.size, 1, none⟩ = some (.string x))) (by kernel_rfl) (⟨by simp [go_sem], by simp [go_sem]⟩) (fun hHeld => ?_)
  refine wpAnyH_take (i := 0) (v := .pointer (some ⟨w.heap.size, 0, none⟩)) rfl (by kernel_rfl) (by kernel_rfl) (by kernel_rfl) (fun _ _ _ h => h) (Or.inl ⟨by rfl, by intro w hSw; go_simp⟩) (by assumption) ?_
  try simp [Act.put]
  refine wpAnyH_take (i := 1) (v := .int .i64 c) rfl (by kernel_rfl) (by kernel_rfl) (by kernel_rfl) (fun _ _ _ h => h) (Or.inl ⟨by rfl, by intro w hSw; go_simp⟩) (by assumption) ?_
  try simp [Act.put]
  refine wpAnyH_take (i := 2) (v := .pointer (some ⟨w.heap.size, 1, none⟩)) rfl (by kernel_rfl) (by kernel_rfl) (by kernel_rfl) (fun _ _ _ h => h) (Or.inl ⟨by rfl, by intro w hSw; go_simp⟩) (by assumption) ?_
  try simp [Act.put]
  refine wpAnyH_take (i := 3) (v := .string x) rfl (by kernel_rfl) (by kernel_rfl) (by kernel_rfl) (fun _ _ _ h => h) (Or.inl ⟨by rfl, by intro w hSw; go_simp⟩) (by assumption) ?_
  try simp [Act.put]
  refine wpAnyH_ready (rs := [4]) (by kernel_rfl) (by simp) ?_
  refine AllReadyH.cons rfl (fun KK hK => ?_) AllReadyH.nil
  go_simp
  (go_at_call 51; refine (Bx.clone_any x _ hx).mono ?_; rintro e w1 ⟨rfl, hb1⟩; obtain ⟨q0, q1, r0, r1, r2, r3, hbw⟩ := HQ.out w1 (hb1.mono (by show _ ≤ ((w.alloc _).alloc _).heap.size; simp only [World.size_alloc]; omega)))
  go_wp2
  refine hK.out _ _ (⟨q0, q1⟩) (fun hHeld => ?_)
  clear hK
  try simp [Act.put]
  refine wpAnyH_take (i := 5) (v := .agg #[.int .i64 c, .string x]) rfl (by kernel_rfl) (by kernel_rfl) (by kernel_rfl) (fun _ _ _ h => h) (Or.inl ⟨by rfl, by intro w hSw; go_simp⟩) (by assumption) ?_
  try simp [Act.put]
  refine wpAnyH_ready (rs := [6]) (by kernel_rfl) (by simp) ?_
  refine AllReadyH.cons rfl (fun KK hK => ?_) AllReadyH.nil
  go_simp
  refine hK.out _ _ (HQ2.out w1 q0 q1) (fun hHeld => ?_)
  clear hK
  try simp [Act.put]
  refine wpAnyH_done (by kernel_rfl) ?_ _
  go_wp2
  exact bodyPost_ret (v := .agg #[.int .i64 c, .string x]) (by simp [results, Try.results31, go_sem, r0, r1]) rfl ⟨rfl, by repeat' (first | exact hbw | refine Below.setCell ?_ ?_ _ | (simp; done) | exact Nat.le_succ _)⟩
end Go.Proofs.Ytdapajkckocmbaa
