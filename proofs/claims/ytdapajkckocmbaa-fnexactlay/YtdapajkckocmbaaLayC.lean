import Derived.Test.YtdapajkckocmbaaLayB
import Derived.Test.YtdapajkckocmbaaLayS
import Derived.Test.YtdapajkckocmbaaBoxL
namespace Go.Proofs.Ytdapajkckocmbaa
open Go.RowKit Go.Maps Go.WideMaps

set_option maxRecDepth 100000 in
set_option maxHeartbeats 1000000 in
theorem Bx.copiedFile_any (a b : ByteArray) (w : World) (ha : a.size ≤ 1048576) (hb : b.size ≤ 1048576) :
    Calls Try.prog 59 #[.agg #[.string a, .string b]] w fun e w' => e = .returned (.agg #[.string a, .string b]) ∧ Below w.heap.size w w' := by
  have HQ : Hid (∀ w1, Below (w.heap.size + 1 + 1) ((w.alloc (.cells #[.string a, .string b] 55)).alloc (.cells #[.string ⟨#[]⟩, .string ⟨#[]⟩] 55)) w1 → w1.cell? ⟨w.heap.size, 0, none⟩ = some (.string a) ∧ w1.cell? ⟨w.heap.size, 1, none⟩ = some (.string b) ∧ w1.cell? ⟨w.heap.size + 1, 0, none⟩ = some (.string ⟨#[]⟩) ∧ w1.cell? ⟨w.heap.size + 1, 1, none⟩ = some (.string ⟨#[]⟩) ∧ w1.frozen? ⟨w.heap.size + 1, 0, none⟩ = false ∧ w1.frozen? ⟨w.heap.size + 1, 1, none⟩ = false ∧ Below w.heap.size w w1) := fun w1 h => by
    have h0 : w1.heap[w.heap.size]? = some (.cells #[.string a, .string b] 55) := by
      rw [h.block w.heap.size (by omega)]
      exact ((((Below.refl _ (w.alloc (.cells #[.string a, .string b] 55))).alloc (Nat.le_refl _) (.cells #[.string ⟨#[]⟩, .string ⟨#[]⟩] 55)).block w.heap.size (by simp)).trans (MapKept.heap_alloc w _).1)
    have h1 : w1.heap[w.heap.size + 1]? = some (.cells #[.string ⟨#[]⟩, .string ⟨#[]⟩] 55) := by
      rw [h.block (w.heap.size + 1) (by omega)]
      have e := (MapKept.heap_alloc (w.alloc (.cells #[.string a, .string b] 55)) (.cells #[.string ⟨#[]⟩, .string ⟨#[]⟩] 55)).1
      rw [World.size_alloc] at e; exact e
    refine ⟨by simp [World.cell?, h0], by simp [World.cell?, h0], by simp [World.cell?, h1], by simp [World.cell?, h1], by simp [World.frozen?, h1], by simp [World.frozen?, h1], ?_⟩
    exact (((Below.refl _ w).alloc (Nat.le_refl _) _).alloc (by simp) _).trans (h.mono (by omega))
  have HQ2 : Hid (∀ w1 : World, Below (w.heap.size + 1 + 1) ((w.alloc (.cells #[.string a, .string b] 55)).alloc (.cells #[.string ⟨#[]⟩, .string ⟨#[]⟩] 55)) w1 → w1.cell? ⟨w.heap.size, 0, none⟩ = some (.string a) → w1.cell? ⟨w.heap.size, 1, none⟩ = some (.string b) → ((w1.setCell ⟨w.heap.size + 1, 0, none⟩ (.string a)).setCell ⟨w.heap.size + 1, 1, none⟩ (.string b)).cell? ⟨w.heap.size, 0, none⟩ = some (.string a) ∧ ((w1.setCell ⟨w.heap.size + 1, 0, none⟩ (.string a)).setCell ⟨w.heap.size + 1, 1, none⟩ (.string b)).cell? ⟨w.heap.size, 1, none⟩ = some (.string b)) := fun w1 _ h0 h1 =>
    ⟨by rw [World.cell?_setCell_far _ _ _ _ (by simp), World.cell?_setCell_far _ _ _ _ (by simp)]; exact h0, by rw [World.cell?_setCell_far _ _ _ _ (by simp), World.cell?_setCell_far _ _ _ _ (by simp)]; exact h1⟩
  go_enter Try.func59, Try.ntmps59
  go_wp2_with fail
  refine wp_region_held_drew (S := (fun W => W.cell? ⟨w.heap.size, 0, none⟩ = some (.string a) ∧ W.cell? ⟨w.heap.size, 1, none⟩ = some (.string b))) (by kernel_rfl) (⟨(HQ.out _ (Below.refl _ _).drew).1, (HQ.out _ (Below.refl _ _).drew).2.1⟩) (fun hHeld => ?_)
  refine wpAnyH_take (i := 0) (v := .pointer (some ⟨w.heap.size, 0, none⟩)) rfl (by kernel_rfl) (by kernel_rfl) (by kernel_rfl) (fun _ _ _ h => h) (Or.inl ⟨by rfl, by intro w hSw; go_simp⟩) (by assumption) ?_
  try simp [Act.put]
  refine wpAnyH_take (i := 1) (v := .string a) rfl (by kernel_rfl) (by kernel_rfl) (by kernel_rfl) (fun _ _ _ h => h) (Or.inl ⟨by rfl, by intro w hSw; go_simp⟩) (by assumption) ?_
  try simp [Act.put]
  refine wpAnyH_take (i := 3) (v := .pointer (some ⟨w.heap.size, 1, none⟩)) rfl (by kernel_rfl) (by kernel_rfl) (by kernel_rfl) (fun _ _ _ h => h) (Or.inl ⟨by rfl, by intro w hSw; go_simp⟩) (by assumption) ?_
  try simp [Act.put]
  refine wpAnyH_take (i := 4) (v := .string b) rfl (by kernel_rfl) (by kernel_rfl) (by kernel_rfl) (fun _ _ _ h => h) (Or.inl ⟨by rfl, by intro w hSw; go_simp⟩) (by assumption) ?_
  try simp [Act.put]
  refine wpAnyH_ready (rs := [2]) (by kernel_rfl) (by simp) ?_
  refine AllReadyH.cons rfl (fun KK hK => ?_) AllReadyH.nil
  go_simp
  (go_at_call 51; refine (Bx.clone_any a _ (by omega)).mono ?_; rintro e w1 ⟨rfl, hb1⟩; have hc1 : Below (w.heap.size + 1 + 1) ((w.alloc (.cells #[.string a, .string b] 55)).alloc (.cells #[.string ⟨#[]⟩, .string ⟨#[]⟩] 55)) w1 := (Below.refl (w.heap.size + 1 + 1) ((w.alloc (.cells #[.string a, .string b] 55)).alloc (.cells #[.string ⟨#[]⟩, .string ⟨#[]⟩] 55))).drew.trans (hb1.mono (by simp)); obtain ⟨q0, q1, r0, r1, r2, r3, hbw⟩ := HQ.out w1 hc1)
  go_wp2
  refine hK.out _ _ (⟨q0, q1⟩) (fun hHeld => ?_)
  clear hK
  try simp [Act.put]
  refine wpAnyH_ready (rs := [5]) (by kernel_rfl) (by simp) ?_
  refine AllReadyH.cons rfl (fun KK hK => ?_) AllReadyH.nil
  go_simp
  (go_at_call 51; refine (Bx.clone_any b _ (by omega)).mono ?_; rintro e w2 ⟨rfl, hb2⟩; have hc2 : Below (w.heap.size + 1 + 1) ((w.alloc (.cells #[.string a, .string b] 55)).alloc (.cells #[.string ⟨#[]⟩, .string ⟨#[]⟩] 55)) w2 := hc1.trans (hb2.mono (by have := hc1.size; simpa using this)); obtain ⟨q0, q1, r0, r1, r2, r3, hbw⟩ := HQ.out w2 hc2)
  go_wp2
  refine hK.out _ _ (⟨q0, q1⟩) (fun hHeld => ?_)
  clear hK
  try simp [Act.put]
  refine wpAnyH_take (i := 6) (v := .agg #[.string a, .string b]) rfl (by kernel_rfl) (by kernel_rfl) (by kernel_rfl) (fun _ _ _ h => h) (Or.inl ⟨by rfl, by intro w hSw; go_simp⟩) (by assumption) ?_
  try simp [Act.put]
  refine wpAnyH_ready (rs := [7]) (by kernel_rfl) (by simp) ?_
  refine AllReadyH.cons rfl (fun KK hK => ?_) AllReadyH.nil
  go_simp
  refine hK.out _ _ (HQ2.out w2 hc2 q0 q1) (fun hHeld => ?_)
  clear hK
  try simp [Act.put]
  refine wpAnyH_done (by kernel_rfl) ?_ _
  go_wp2
  exact bodyPost_ret (v := .agg #[.string a, .string b]) (by simp [results, Try.results59, go_sem, r0, r1]) rfl ⟨rfl, (hbw.setCell (p := ⟨w.heap.size + 1, 0, none⟩) (by simp only; omega) _).setCell (p := ⟨w.heap.size + 1, 1, none⟩) (by simp only; omega) _⟩
theorem Bx.BoxAt.lookF {w : World} {B g : Nat} {fs : List Bx.Fl} {ns : List ByteArray} {mb K : Nat} {a : Option Addr} {n cap : Nat} (h : Bx.BoxAt w B g fs ns mb K a n cap) {x : ByteArray} (hx : x.size ≤ 1048576) :
    (Instr.lookup 69 (.map (some mb)) (.string x) false).run Try.prog w = .ok (Bx.val (Bx.look fs x)) w := by
  obtain ⟨D, ho, hr⟩ := h.map
  obtain ⟨v, ps, hrun, hv⟩ := ho.lookup Try.lawStr Try.underlying69 (Try.zeroFile w) (Bx.elem_mk _ _) (keyOf_string_mk Try.underlying9 (s := x) (by unfold maxLen; omega))
  rw [hr.2] at hv
  rw [hrun]
  cases hl : Bx.look fs x with
  | none => rw [hl] at hv; rw [Bx.elem_inv hv]; rfl
  | some f => rw [hl] at hv; rw [Bx.elem_inv hv]; rfl
set_option maxRecDepth 100000 in
set_option maxHeartbeats 1000000 in
theorem Bx.placeClos_any (fs : List Bx.Fl) (B g K cb : Nat) (x : ByteArray) (f : Bx.Fl) (w : World) (hx : x.size ≤ 1048576) (hn : f.name.size ≤ 1048576) (ht : f.text.size ≤ 1048576) (hf : Bx.look fs x = some f) (hH : Bx.Holds w B g fs K) (hc : w.cell? ⟨cb, 0, none⟩ = some (.pointer (some ⟨g, 0, none⟩))) (hcb : cb < w.heap.size) :
    Calls Try.prog 58 #[.string x, .pointer (some ⟨cb, 0, none⟩)] w fun e w' => e = .returned (.agg #[.string f.name, .string f.text]) ∧ Below w.heap.size w w' := by
  obtain ⟨mb, a, n, cap, hl, hB⟩ := hH
  have hB2 := hB.below ((Below.refl _ w).alloc (Nat.le_refl _) (.cells #[.string ⟨#[]⟩, .string ⟨#[]⟩] 55))
  have hg : g < w.heap.size := (Array.getElem?_eq_some_iff.1 hB.blk).1
  have c0 : (w.alloc (.cells #[.string ⟨#[]⟩, .string ⟨#[]⟩] 55)).cell? ⟨g, 0, none⟩ = some (.map (some mb)) := by simp [World.cell?, hB2.blk]
  have hrun := hB2.lookF (x := x) hx
  rw [hf] at hrun
  simp only [Bx.val] at hrun
  have hc2 : (w.alloc (.cells #[.string ⟨#[]⟩, .string ⟨#[]⟩] 55)).cell? ⟨cb, 0, none⟩ = some (.pointer (some ⟨g, 0, none⟩)) := by rw [((Below.refl _ w).alloc (Nat.le_refl _) _).cell (p := ⟨cb, 0, none⟩) hcb]; exact hc
  clear hB hB2 hf
  go_enter Try.func58, Try.ntmps58
  go_wp2_with (go_at_call 59; refine (Bx.copiedFile_any f.name f.text _ hn ht).mono ?_; rintro e w1 ⟨rfl, hb1⟩; simp only [World.size_alloc] at hb1; have hbw : Below w.heap.size w w1 := ((Below.refl _ w).alloc (Nat.le_refl _) _).trans (hb1.mono (by omega)); have h0 := (hb1.block w.heap.size (by omega)).trans (MapKept.heap_alloc w _).1; have r0 : w1.cell? ⟨w.heap.size, 0, none⟩ = some (.string ⟨#[]⟩) := (by simp [World.cell?, h0]); have r1 : w1.cell? ⟨w.heap.size, 1, none⟩ = some (.string ⟨#[]⟩) := (by simp [World.cell?, h0]); have r2 : w1.frozen? ⟨w.heap.size, 0, none⟩ = false := (by simp [World.frozen?, h0]); have r3 : w1.frozen? ⟨w.heap.size, 1, none⟩ = false := (by simp [World.frozen?, h0]); clear h0)
  exact bodyPost_ret (v := .agg #[.string f.name, .string f.text]) (by simp [results, Try.results58, go_sem, r0, r1]) rfl ⟨rfl, (hbw.setCell (p := ⟨w.heap.size, 0, none⟩) (Nat.le_refl _) _).setCell (p := ⟨w.heap.size, 1, none⟩) (Nat.le_refl _) _⟩
theorem Bx.grow_any (n : Nat) (w : World) (hn : n ≤ 1000) :
    Calls Try.prog 73 #[.slice none 0 0, .int .i64 (n : Int)] w fun e w' => ∃ a c, e = .returned (.slice a 0 c) ∧ w'.ownsRow w.heap.size 55 2 (.slice a 0 c) 0 (Bx.fCs []) ∧ Below w.heap.size w w' := by
  by_cases h0 : n = 0
  · subst h0
    refine (Any8.slices_Grow_room Try.laysG none 0 0 0 w (by omega) (by omega) (by omega) (by omega)).mono ?_
    rintro e w' ⟨rfl, rfl⟩
    exact ⟨none, 0, rfl, ⟨rfl, .inl ⟨rfl, rfl⟩⟩, Below.refl _ _⟩
  · obtain ⟨i0, hi0, hz0, hz1, hz2⟩ := info_parts Try.infoFile
    refine (Any8.slices_Grow_grow Try.laysG i0 _ hi0 hz0 (by omega) none 0 0 n [] w (by omega) (by omega) (by rw [hz2]; omega) (by omega) (by simp) (fun _ => rfl) (fun a ha => by cases ha)).mono ?_
    rintro e w' ⟨rfl, rfl⟩
    obtain ⟨gc, hgc⟩ : ∃ gc, grownCap w (0 + n) 0 55 = gc := ⟨_, rfl⟩
    have hge : 0 + n ≤ gc := by rw [← hgc]; exact grownCap_ge _ _ _ _
    have hle : gc ≤ maxLen := by rw [← hgc]; exact grownCap_le_maxLen _ _ _ _ (by unfold maxLen; omega)
    refine ⟨some ⟨w.heap.size, 0, none⟩, gc, by rw [← hgc]; rfl, ⟨rfl, .inr ⟨w.heap.size, gc, _, rfl, Nat.le_refl _, (MapKept.heap_alloc w.drew _).1, Nat.zero_le _, hle, ?_, by simp [Bx.fCs]⟩⟩, (Below.refl _ w).drew.alloc (Nat.le_refl _) _⟩
    have hz3 : (Value.agg #[.string ByteArray.empty, .string ByteArray.empty]).cells.size = 2 := rfl
    have e1 : grownCap w (0 + n) 0 (Try.laysG_ren.t 25) = gc := hgc
    rw [Array.size_append, Array.size_append, size_zeroCells, size_zeroCells, hz3, e1]
    simp; omega
end Go.Proofs.Ytdapajkckocmbaa
