import Derived.Test.YtdapajkckocmbaaBoxG0
namespace Go.Proofs.Ytdapajkckocmbaa
open Go.RowKit Go.Maps Go.WideMaps

theorem Bx.after_insert {B g : Nat} {fs : List Bx.Fl} {ns ns' : List ByteArray} {mb K : Nat} {a0 : Option Addr} {n cap : Nat} {w Y W w4 : World} {a9 : Option Addr} {n9 cap9 : Nat} (h : Bx.BoxAt Y B g fs ns mb K a0 n cap) (hg9 : W.grownBy w4 (Value.slice a0 n cap).ownBlock) (hW : Below Y.heap.size Y W)
    (hrow : w4.ownsRow B 9 1 (.slice a9 n9 cap9) n9 (Bi.ints ns')) (hY : Below B w Y) :
    Bx.BoxAt (w4.setCell ⟨g, 1, none⟩ (.slice a9 n9 cap9)) B g fs ns' mb K a9 n9 cap9 ∧ Below B w (w4.setCell ⟨g, 1, none⟩ (.slice a9 n9 cap9)) := by
  have hgY : g < Y.heap.size := (Array.getElem?_eq_some_iff.1 h.blk).1
  have hB0 : B ≤ Y.heap.size := Nat.le_trans h.le (by omega)
  have e1 : w4.heap[g]? = some (.cells #[.map (some mb), .slice a0 n cap] 72 (0, 0)) := by
    rw [hg9.block g (Nat.lt_of_lt_of_le hgY hW.size) (fun e => by rcases h.rowne with h1 | h1; (rw [h1] at e; cases e); exact h1.2 e.symm), hW.block g hgY]; exact h.blk
  have hset : w4.grownBy (w4.setCell ⟨g, 1, none⟩ (.slice a9 n9 cap9)) (some g) := Bi.grown_set g [.slice a9 n9 cap9] 1 w4
  have hm : Bx.MapIs (w4.setCell ⟨g, 1, none⟩ (.slice a9 n9 cap9)) mb K fs := by
    obtain ⟨D, ho, hr⟩ := h.map.below hW
    have ho1 := ho.kept hg9 (fun e => by rcases h.rowne with h1 | h1; (rw [h1] at e; cases e); exact h1.1 e.symm)
    exact ⟨D, ho1.kept hset (fun e => h.ne (by injection e with e; exact e.symm)), hr⟩
  have hb4 : Below B w w4 := Below.grown (hY.trans (hW.mono hB0)) hg9 (Nat.le_trans hB0 hW.size) (fun k hk => by
    rcases h.row.2 with ⟨hv, _⟩ | ⟨g2, c2, cur, hv, hBg, _⟩
    · rw [hv] at hk; cases hk
    · rw [hv] at hk
      have : g2 = k := by simpa [Value.ownBlock] using hk
      omega)
  refine ⟨⟨?_, h.le, h.lem, hm, hrow.kept hset ?_⟩, hb4.setCell (p := ⟨g, 1, none⟩) h.le _⟩
  · simp [World.setCell, Array.getElem?_modify, e1]
  · rcases hrow.2 with ⟨hv, _⟩ | ⟨g2, c2, cur, hv, _, hg2, _⟩
    · rw [hv]; exact .inl rfl
    · rw [hv]
      refine .inr (fun e => ?_)
      have : g2 = g := by simpa [Value.ownBlock] using e
      rw [this, e1] at hg2
      injection hg2 with hg2; injection hg2 with _ h2; exact absurd h2 (by decide)
theorem Bx.cell_of {w w' : World} {k o : Nat} (h : w'.heap[k]? = w.heap[k]?) : w'.cell? ⟨k, o, none⟩ = w.cell? ⟨k, o, none⟩ := by simp only [World.cell?, h]
set_option maxRecDepth 100000 in
set_option maxHeartbeats 2000000 in
theorem Bx.set_there (B g : Nat) (fs : List Bx.Fl) (hu : Bx.Up fs) (mb K : Nat) (a0 : Option Addr) (n cap : Nat) (hn : fs.length = n) (a b : ByteArray) (w : World) (hB : B ≤ w.heap.size) (_hl : n ≤ 1000) (hK : K ≤ 1000) (ha : a.size ≤ 1048576) (h : Bx.BoxAt w B g fs (fs.map Bx.Fl.name) mb K a0 n cap) (f0 : Bx.Fl) (hf : Bx.look fs a = some f0) :
    Calls Try.prog 40 #[.pointer (some ⟨g, 0, none⟩), .agg #[.string a, .string b]] w (Bx.SetPost B g fs mb K a b w) := by
  have hg : g < w.heap.size := (Array.getElem?_eq_some_iff.1 h.blk).1
  have HBX : Hid (Bx.BoxAt w B g fs (fs.map Bx.Fl.name) mb K a0 n cap) := h
  have HS : Hid (∀ W, Below (w.heap.size + 1) (w.alloc (.cells #[.string a, .string b] 55)) W → W.cell? ⟨g, 0, none⟩ = some (.map (some mb)) ∧ W.cell? ⟨g, 1, none⟩ = some (.slice a0 n cap) ∧ W.cell? ⟨w.heap.size, 0, none⟩ = some (.string a) ∧ W.cell? ⟨w.heap.size, 1, none⟩ = some (.string b) ∧ (Instr.lookup 69 (.map (some mb)) (.string a) true).run Try.prog W = .ok (.tuple #[.agg #[.string f0.name, .string f0.text], .bool true]) W) := fun W hW => by
    have hw : Below w.heap.size w W := ((Below.refl _ w).alloc (Nat.le_refl _) _).trans (hW.mono (by omega))
    have h2 := h.below hw
    have h3 := h2.look (x := a) ha
    rw [hf] at h3
    exact ⟨by simp [World.cell?, h2.blk], by simp [World.cell?, h2.blk], (Rp.row2 hW).1, (Rp.row2 hW).2, h3⟩
  clear h
  have HU : Hid (Bx.Up fs) := hu
  have HNN : Hid (fs.length = n) := hn
  have HFF : Hid (Bx.look fs a = some f0) := hf
  clear hu hn hf
  have hX : Below w.heap.size w ((w.alloc (.cells #[.string a, .string b] 55)).alloc (.cells #[.string f0.name, .string f0.text] 55)).drew.drew := (((Below.refl _ w).alloc (Nat.le_refl _) _).alloc (by simp) _).drew.drew
  have hX1 : Below (w.heap.size + 1) (w.alloc (.cells #[.string a, .string b] 55)) ((w.alloc (.cells #[.string a, .string b] 55)).alloc (.cells #[.string f0.name, .string f0.text] 55)).drew.drew := ((Below.refl _ _).alloc (by simp) _).drew.drew
  obtain ⟨W6, hrun, hm6, hg6⟩ := Bx.MapIs.store ((HBX.out.below hX).map) HU.out (by omega) a b ha
  have HB6 : Hid (Bx.BoxAt W6 B g (Bx.put fs ⟨a, b⟩) ((Bx.put fs ⟨a, b⟩).map Bx.Fl.name) mb (K + 1) a0 n cap) := by
    have e := (HBX.out.below hX).store hm6 hg6
    rw [← Bx.put_same HU.out ⟨a, b⟩ (Bx.look_mem HFF.out)] at e; exact e
  have HN6 : Hid ((Bx.put fs ⟨a, b⟩).length = n) := by have e := congrArg List.length (Bx.put_same HU.out ⟨a, b⟩ (Bx.look_mem HFF.out)); rw [List.length_map, List.length_map, HNN.out] at e; exact e
  have HG6 : Hid (Below B w W6) := Below.grown (hX.mono hB) hg6 (Nat.le_trans hB hX.size) (fun k hk => by injection hk with hk; rw [← hk]; exact HBX.out.lem)
  have HS6 : Hid (W6.cell? ⟨g, 0, none⟩ = some (.map (some mb)) ∧ W6.cell? ⟨g, 1, none⟩ = some (.slice a0 n cap) ∧ W6.cell? ⟨w.heap.size, 0, none⟩ = some (.string a) ∧ W6.cell? ⟨w.heap.size, 1, none⟩ = some (.string b)) := by
    have hs := HS.out _ hX1
    have hk : ∀ k, k < w.heap.size + 1 → k ≠ mb → W6.heap[k]? = (((w.alloc (.cells #[.string a, .string b] 55)).alloc (.cells #[.string f0.name, .string f0.text] 55)).drew.drew).heap[k]? := fun k hk hne => hg6.block k (Nat.lt_of_lt_of_le hk (by simp)) (fun e => hne (by injection e))
    have hmb : mb < w.heap.size := by obtain ⟨D, ho, _⟩ := HBX.out.map; exact ho.lt
    exact ⟨by rw [← hs.1]; exact Bx.cell_of (hk g (by omega) HBX.out.ne), by rw [← hs.2.1]; exact Bx.cell_of (hk g (by omega) HBX.out.ne), by rw [← hs.2.2.1]; exact Bx.cell_of (hk w.heap.size (by omega) (by omega)), by rw [← hs.2.2.2.1]; exact Bx.cell_of (hk w.heap.size (by omega) (by omega))⟩
  clear hm6 hg6
  go_enter Try.func40, Try.ntmps40
  go_wp2_with fail
  refine wp_region_held_drew (S := (fun W => Below (w.heap.size + 1) (w.alloc (.cells #[.string a, .string b] 55)) W ∧ W.cell? ⟨g, 0, none⟩ = some (.map (some mb)) ∧ W.cell? ⟨g, 1, none⟩ = some (.slice a0 n cap) ∧ W.cell? ⟨w.heap.size, 0, none⟩ = some (.string a) ∧ W.cell? ⟨w.heap.size, 1, none⟩ = some (.string b) ∧ (Instr.lookup 69 (.map (some mb)) (.string a) true).run Try.prog W = .ok (.tuple #[.agg #[.string f0.name, .string f0.text], .bool true]) W)) (by kernel_rfl) (⟨(Below.refl _ _).drew, HS.out _ (Below.refl _ _).drew⟩) (fun hHeld => ?_)
  refine wpAnyH_take (i := 0) (v := .pointer (some ⟨g, 0, none⟩)) rfl (by kernel_rfl) (by kernel_rfl) (by kernel_rfl) (fun _ _ _ h => h) (Or.inl ⟨by rfl, by intro w hSw; go_simp⟩) (by assumption) ?_
  try simp [Act.put]
  refine wpAnyH_take (i := 1) (v := .pointer (some ⟨g, 0, none⟩)) rfl (by kernel_rfl) (by kernel_rfl) (by kernel_rfl) (fun _ _ _ h => h) (Or.inl ⟨by rfl, by intro w hSw; go_simp⟩) (by assumption) ?_
  try simp [Act.put]
  refine wpAnyH_take (i := 2) (v := .pointer (some ⟨g, 0, none⟩)) rfl (by kernel_rfl) (by kernel_rfl) (by kernel_rfl) (fun _ _ _ h => h) (Or.inl ⟨by rfl, by intro w hSw; go_simp⟩) (by assumption) ?_
  try simp [Act.put]
  refine wpAnyH_take (i := 3) (v := .map (some mb)) rfl (by kernel_rfl) (by kernel_rfl) (by kernel_rfl) (fun _ _ _ h => h) (Or.inl ⟨by rfl, by intro w hSw; go_simp⟩) (by assumption) ?_
  try simp [Act.put]
  refine wpAnyH_take (i := 4) (v := .pointer (some ⟨w.heap.size, 0, none⟩)) rfl (by kernel_rfl) (by kernel_rfl) (by kernel_rfl) (fun _ _ _ h => h) (Or.inl ⟨by rfl, by intro w hSw; go_simp⟩) (by assumption) ?_
  try simp [Act.put]
  refine wpAnyH_take (i := 5) (v := .string a) rfl (by kernel_rfl) (by kernel_rfl) (by kernel_rfl) (fun _ _ _ h => h) (Or.inl ⟨by rfl, by intro w hSw; go_simp⟩) (by assumption) ?_
  try simp [Act.put]
  refine wpAnyH_take (i := 6) (v := .tuple #[.agg #[.string f0.name, .string f0.text], .bool true]) rfl (by kernel_rfl) (by kernel_rfl) (by kernel_rfl) (fun _ _ _ h => h) (Or.inl ⟨by rfl, by intro w hSw; go_simp⟩) (by assumption) ?_
  try simp [Act.put]
  refine wpAnyH_take (i := 7) (v := .tuple #[.agg #[.string f0.name, .string f0.text], .bool true]) rfl (by kernel_rfl) (by kernel_rfl) (by kernel_rfl) (fun _ _ _ h => h) (Or.inl ⟨by rfl, by intro w hSw; go_simp⟩) (by assumption) ?_
  try simp [Act.put]
  refine wpAnyH_take (i := 8) (v := .agg #[.string f0.name, .string f0.text]) rfl (by kernel_rfl) (by kernel_rfl) (by kernel_rfl) (fun _ _ _ h => h) (Or.inl ⟨by rfl, by intro w hSw; go_simp⟩) (by assumption) ?_
  try simp [Act.put]
  refine wpAnyH_take (i := 9) (v := .bool true) rfl (by kernel_rfl) (by kernel_rfl) (by kernel_rfl) (fun _ _ _ h => h) (Or.inl ⟨by rfl, by intro w hSw; go_simp⟩) (by assumption) ?_
  try simp [Act.put]
  refine wpAnyH_ready (rs := [10]) (by kernel_rfl) (by simp) ?_
  refine AllReadyH.cons rfl (fun KK hK => ?_) AllReadyH.nil
  go_simp
  refine hK.out _ _ (⟨((Below.refl _ _).alloc (by simp) _).drew, HS.out _ ((Below.refl _ _).alloc (by simp) _).drew⟩) (fun hHeld => ?_)
  clear hK
  try simp [Act.put]
  refine wpAnyH_ready (rs := [11]) (by kernel_rfl) (by simp) ?_
  refine AllReadyH.cons rfl (fun KK hK => ?_) AllReadyH.nil
  go_simp
  refine hK.out _ _ (⟨((Below.refl _ _).alloc (by simp) _).drew, HS.out _ ((Below.refl _ _).alloc (by simp) _).drew⟩) (fun hHeld => ?_)
  clear hK
  try simp [Act.put]
  refine wpAnyH_take (i := 12) (v := .bool true) rfl (by kernel_rfl) (by kernel_rfl) (by kernel_rfl) (fun _ _ _ h => h) (Or.inl ⟨by rfl, by intro w hSw; go_simp⟩) (by assumption) ?_
  try simp [Act.put]
  refine wpAnyH_done (by kernel_rfl) ?_ _
  go_wp2_with fail
  refine wp_region_held_drew (S := (fun W => W.cell? ⟨g, 0, none⟩ = some (.map (some mb)) ∧ W.cell? ⟨g, 1, none⟩ = some (.slice a0 n cap) ∧ W.cell? ⟨w.heap.size, 0, none⟩ = some (.string a) ∧ W.cell? ⟨w.heap.size, 1, none⟩ = some (.string b))) (by kernel_rfl) (⟨(HS.out _ hX1).1, (HS.out _ hX1).2.1, (HS.out _ hX1).2.2.1, (HS.out _ hX1).2.2.2.1⟩) (fun hHeld => ?_)
  refine wpAnyH_take (i := 0) (v := .pointer (some ⟨g, 0, none⟩)) rfl (by kernel_rfl) (by kernel_rfl) (by kernel_rfl) (fun _ _ _ h => h) (Or.inl ⟨by rfl, by intro w hSw; go_simp⟩) (by assumption) ?_
  try simp [Act.put]
  refine wpAnyH_take (i := 1) (v := .pointer (some ⟨g, 0, none⟩)) rfl (by kernel_rfl) (by kernel_rfl) (by kernel_rfl) (fun _ _ _ h => h) (Or.inl ⟨by rfl, by intro w hSw; go_simp⟩) (by assumption) ?_
  try simp [Act.put]
  refine wpAnyH_take (i := 2) (v := .pointer (some ⟨g, 0, none⟩)) rfl (by kernel_rfl) (by kernel_rfl) (by kernel_rfl) (fun _ _ _ h => h) (Or.inl ⟨by rfl, by intro w hSw; go_simp⟩) (by assumption) ?_
  try simp [Act.put]
  refine wpAnyH_take (i := 3) (v := .map (some mb)) rfl (by kernel_rfl) (by kernel_rfl) (by kernel_rfl) (fun _ _ _ h => h) (Or.inl ⟨by rfl, by intro w hSw; go_simp⟩) (by assumption) ?_
  try simp [Act.put]
  refine wpAnyH_take (i := 4) (v := .pointer (some ⟨w.heap.size, 0, none⟩)) rfl (by kernel_rfl) (by kernel_rfl) (by kernel_rfl) (fun _ _ _ h => h) (Or.inl ⟨by rfl, by intro w hSw; go_simp⟩) (by assumption) ?_
  try simp [Act.put]
  refine wpAnyH_take (i := 5) (v := .string a) rfl (by kernel_rfl) (by kernel_rfl) (by kernel_rfl) (fun _ _ _ h => h) (Or.inl ⟨by rfl, by intro w hSw; go_simp⟩) (by assumption) ?_
  try simp [Act.put]
  refine wpAnyH_take (i := 6) (v := .agg #[.string a, .string b]) rfl (by kernel_rfl) (by kernel_rfl) (by kernel_rfl) (fun _ _ _ h => h) (Or.inl ⟨by rfl, by intro w hSw; go_simp⟩) (by assumption) ?_
  try simp [Act.put]
  refine wpAnyH_ready (rs := [7]) (by kernel_rfl) (by simp) ?_
  refine AllReadyH.cons rfl (fun KK hK => ?_) AllReadyH.nil
  go_simp
  refine hK.out _ _ (HS6.out) (fun hHeld => ?_)
  clear hK
  try simp [Act.put]
  refine wpAnyH_done (by kernel_rfl) ?_ _
  go_wp2
  go_end0
  exact ⟨rfl, ⟨a0, n, cap, HN6.out, HB6.out⟩, HG6.out⟩
end Go.Proofs.Ytdapajkckocmbaa
