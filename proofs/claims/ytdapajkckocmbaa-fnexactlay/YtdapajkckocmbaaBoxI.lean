import Derived.Test.YtdapajkckocmbaaBoxB
import Derived.Test.YtdapajkckocmbaaBxS
namespace Go.Proofs.Ytdapajkckocmbaa
open Go.RowKit

def Bi.ints (l : List ByteArray) : List Value := l.map Value.string
theorem Bi.ints_one {l : List ByteArray} : ∀ v ∈ Bi.ints l, v.oneCell' = true := fun v hv => by
  simp only [Bi.ints, List.mem_map] at hv
  obtain ⟨x, _, rfl⟩ := hv; rfl
theorem Bi.new_at (w : World) (o : Obj) : (w.alloc o).drew.heap[w.heap.size]? = some o := (MapKept.heap_alloc w o).1
theorem Bi.b1 (w : World) (o : Obj) : Below w.heap.size w (w.alloc o).drew := ((Below.refl _ w).alloc (Nat.le_refl _) o).drew
def Bi.InsertPost (B : Nat) (l' : List ByteArray) (row : Option Nat) (w : World) (e : Ending) (w' : World) : Prop := ∃ a' cap', e = .returned (.slice a' l'.length cap') ∧ w'.ownsRow B 9 1 (.slice a' l'.length cap') l'.length (Bi.ints l') ∧ w.grownBy w' row
theorem Bi.cells_set (g : Nat) : ∀ (vs : List Value) (o : Nat) (w : World) (cur : Array Value) (e : TypeId) (fr : Nat × Nat), w.heap[g]? = some (.cells cur e fr) → ∃ cur', (w.setCells g o vs).heap[g]? = some (.cells cur' e fr) ∧ cur'.size = cur.size ∧ ∀ j, cur'[j]? = if o ≤ j ∧ j < o + vs.length ∧ j < cur.size then vs[j - o]? else cur[j]?
  | [], o, w, cur, e, fr, h => ⟨cur, h, rfl, fun j => by rw [if_neg]; simp; omega⟩
  | v :: r, o, w, cur, e, fr, h => by
    have h1 : (w.setCell ⟨g, o, none⟩ v).heap[g]? = some (.cells (cur.setIfInBounds o v) e fr) := by
      simp [World.setCell, Array.getElem?_modify, h]
    obtain ⟨cur', h2, h3, h4⟩ := Bi.cells_set g r (o + 1) _ _ e fr h1
    refine ⟨cur', h2, by rw [h3]; simp, fun j => ?_⟩
    rw [h4 j]
    simp only [Array.size_setIfInBounds, List.length_cons]
    by_cases hj : o + 1 ≤ j ∧ j < o + 1 + r.length ∧ j < cur.size
    · rw [if_pos hj, if_pos (by omega), show j - o = (j - (o + 1)) + 1 by omega, List.getElem?_cons_succ]
    · rw [if_neg hj, Array.getElem?_setIfInBounds]
      by_cases e1 : o = j
      · subst e1
        rw [if_pos rfl]
        by_cases hs : o < cur.size
        · rw [if_pos hs, if_pos (by omega)]; simp
        · rw [if_neg hs, if_neg (by omega), Array.getElem?_eq_none (by omega)]
      · rw [if_neg e1, if_neg (by omega)]
theorem Bi.grown_set (g : Nat) : ∀ (vs : List Value) (o : Nat) (w : World), w.grownBy (w.setCells g o vs) (some g)
  | [], _, _ => ⟨rfl, rfl, rfl, Nat.le_refl _, fun _ _ _ => rfl⟩
  | v :: r, o, w => by
    have h := Bi.grown_set g r (o + 1) (w.setCell ⟨g, o, none⟩ v)
    have hs : (w.setCell ⟨g, o, none⟩ v).heap.size = w.heap.size := World.size_setCell ..
    refine ⟨h.os, h.tape, h.output, by rw [← hs]; exact h.size, fun k hk hne => (h.block k (by rw [hs]; exact hk) hne).trans ?_⟩
    have hkg : ¬ g = k := fun e => hne (by rw [e])
    simp [World.setCell, Array.getElem?_modify, hkg]
theorem Bi.ints_get (l : List ByteArray) (j : Nat) : (Bi.ints l)[j]? = (l[j]?).map (fun z => Value.string z) := by
  simp [Bi.ints]
theorem Bi.ins_list (l : List ByteArray) (x : ByteArray) (i : Nat) (hi : i ≤ l.length) (j : Nat) : (l.take i ++ [x] ++ l.drop i)[j]? = if j < i then l[j]? else if j = i then some x else l[j - 1]? := by
  by_cases h1 : j < i
  · rw [if_pos h1, List.append_assoc, List.getElem?_append_left (by rw [List.length_take]; omega), List.getElem?_take, if_pos h1]
  · rw [if_neg h1, List.append_assoc, List.getElem?_append_right (by rw [List.length_take]; omega), List.length_take, Nat.min_eq_left hi]
    by_cases h2 : j = i
    · subst h2; rw [if_pos rfl, Nat.sub_self]; rfl
    · rw [if_neg h2, show j - i = (j - i - 1) + 1 by omega]
      show (l.drop i)[j - i - 1]? = _
      rw [List.getElem?_drop]; congr 1; omega
theorem Bi.insert_shift (B : Nat) (l : List ByteArray) (n i : Nat) (hn : l.length = n) (hi : i < n) (x : ByteArray) (a : Option Addr) (cap vb : Nat) (w : World) (hl : n ≤ 1000000) (hroom : n + 1 ≤ cap) (hown : w.ownsRow B 9 1 (.slice a n cap) n (Bi.ints l)) (hv : w.heap[vb]? = some (.cells #[.string x] 9 (0, 0))) (hne : (Value.slice a n cap).ownBlock ≠ some vb) :
    Calls Try.prog 56 #[.slice a n cap, .int .i64 (i : Int), .slice (some ⟨vb, 0, none⟩) 1 1] w (Bi.InsertPost B (l.take i ++ [x] ++ l.drop i) (Value.slice a n cap).ownBlock w) := by
  obtain ⟨hx, hr⟩ := hown
  rcases hr with ⟨h, h0⟩ | ⟨g, c2, cur, h, hBg, hg, hnc, hmx, hsz, htk⟩
  · omega
  · injection h with e1 e2 e3
    subst e1 e3
    have hvg : vb ≠ g := fun e => hne (by rw [e]; rfl)
    rw [Nat.mul_one] at hsz htk
    have hcell : ∀ j, j < cap → w.cell? ⟨g, 0 + j, none⟩ = cur[j]? := fun j _ => by rw [Nat.zero_add]; exact Lib.cell_of_heap hg j
    have hcur : ∀ j, j < n → cur[j]? = (Bi.ints l)[j]? := fun j hj => by
      rw [← htk, List.getElem?_take, if_pos hj, Array.getElem?_toList]
    have hsome : ∀ j, j < cap → (cur[j]?).isSome = true := fun j hj => by rw [Array.getElem?_eq_getElem (by omega)]; rfl
    have hlen : (l.take i ++ [x] ++ l.drop i).length = n + 1 := by simp; omega
    have hcall := Any2.slices_Insert_string_shift Try.laysIns g 0 n cap i vb 0 1 1 (Bi.ints l) [.string x] w hi (by omega) hroom (by have := hmx; unfold maxLen at this; omega) hvg (by simp [Bi.ints, hn]) rfl
      (fun j v hj => by
        have hjn : j < n := by
          have := (List.getElem?_eq_some_iff.1 hj).1
          simpa [Bi.ints, hn] using this
        rw [hcell j (by omega), hcur j hjn]; exact hj)
      (fun j hj => by rw [hcell j (by omega)]; exact hsome j (by omega))
      (fun j hj => by simp [World.frozen?, hg])
      (fun j v hj => by
        have hj0 : j = 0 := by have := (List.getElem?_eq_some_iff.1 hj).1; simpa using this
        subst hj0
        rw [Lib.cell_of_heap hv]; simpa using hj)
      Bi.ints_one (fun v hv => by simp at hv; rw [hv]; rfl)
      9 9 1 cap (by simp [World.shape?, hv]) (by simp [World.shape?, hg, hsz]) (by omega) (by simp [World.frozen?, hv]) (by simp [World.frozen?, hv])
    refine hcall.mono ?_
    rintro e w' ⟨rfl, rfl⟩
    obtain ⟨c1, k1, k2, k3⟩ := Bi.cells_set g ((Bi.ints l).drop i) (0 + (i + 1)) w.drew cur 9 (0, 0) hg
    obtain ⟨c2, m1, m2, m3⟩ := Bi.cells_set g [.string x] (0 + i) _ c1 9 (0, 0) k1
    refine ⟨some ⟨g, 0, none⟩, cap, by rw [hlen], ?_, ?_⟩
    · rw [hlen]
      refine ⟨by simp [Bi.ints]; omega, .inr ⟨g, cap, c2, rfl, hBg, m1, hroom, hmx, by rw [m2, k2, hsz, Nat.mul_one], ?_⟩⟩
      rw [Nat.mul_one]
      apply List.ext_getElem?
      intro j
      rw [List.getElem?_take, Bi.ints_get, Bi.ins_list l x i (by omega), Array.getElem?_toList, m3 j, k3 j]
      simp only [List.length_singleton, List.length_drop, Nat.zero_add, k2, hsz]
      have hil : (Bi.ints l).length = n := by simp [Bi.ints, hn]
      by_cases hjn : j < n + 1
      · rw [if_pos hjn]
        by_cases h1 : j < i
        · rw [if_neg (by omega), if_neg (by omega), if_pos h1, hcur j (by omega), Bi.ints_get]
        · by_cases h2 : j = i
          · subst h2
            rw [if_pos (by omega), if_neg h1, if_pos rfl, Nat.sub_self]; rfl
          · rw [if_neg (by omega), if_pos (by rw [hil]; omega), if_neg h1, if_neg h2, List.getElem?_drop, Bi.ints_get]
            congr 2; omega
      · rw [if_neg hjn, if_neg (by omega), if_neg (by omega), List.getElem?_eq_none (by omega)]; rfl
    · have h1 := Bi.grown_set g ((Bi.ints l).drop i) (0 + (i + 1)) w.drew
      have h2 := Bi.grown_set g [.string x] (0 + i) (w.drew.setCells g (0 + (i + 1)) ((Bi.ints l).drop i))
      exact ⟨h2.os.trans h1.os, h2.tape.trans h1.tape, h2.output.trans h1.output, Nat.le_trans h1.size h2.size, fun k hk hne2 => (h2.block k (Nat.lt_of_lt_of_le hk h1.size) hne2).trans (h1.block k hk hne2)⟩
theorem Bi.insert_end (B : Nat) (l : List ByteArray) (n : Nat) (hn : l.length = n) (x : ByteArray) (a : Option Addr) (cap vb : Nat) (w : World) (hl : n ≤ 1000000) (hB : B ≤ w.heap.size) (hown : w.ownsRow B 9 1 (.slice a n cap) n (Bi.ints l)) (hv : w.heap[vb]? = some (.cells #[.string x] 9 (0, 0))) :
    Calls Try.prog 56 #[.slice a n cap, .int .i64 (n : Int), .slice (some ⟨vb, 0, none⟩) 1 1] w (Bi.InsertPost B (l ++ [x]) (Value.slice a n cap).ownBlock w) := by
  have hlen : (l ++ [x]).length = n + 1 := by simp [hn]
  have hil : (Bi.ints l).length = n := by simp [Bi.ints, hn]
  have hvs : ∀ j v, [Value.string x][j]? = some v → w.cell? ⟨vb, 0 + j, none⟩ = some v := fun j v hj => by
    have hj0 : j = 0 := by have := (List.getElem?_eq_some_iff.1 hj).1; simpa using this
    subst hj0
    rw [Lib.cell_of_heap hv]; simpa using hj
  have h1v : ∀ v ∈ [Value.string x], v.oneCell' = true := fun v hv => by simp at hv; rw [hv]; rfl
  by_cases hroom : n + 1 ≤ cap
  · obtain ⟨hx, hr⟩ := hown
    rcases hr with ⟨h, h0⟩ | ⟨g, c2, cur, h, hBg, hg, hnc, hmx, hsz, htk⟩
    · injection h with _ _ e3; omega
    · injection h with e1 e2 e3
      subst e1 e3
      rw [Nat.mul_one] at hsz htk
      have hcall := Any2.slices_Insert_string_end_room Try.laysIns g 0 n cap vb 0 1 1 [.string x] w (by omega) hroom (by have := hmx; unfold maxLen at this; omega) rfl
        (fun j hj => by rw [Nat.zero_add, Lib.cell_of_heap hg, Array.getElem?_eq_getElem (by omega)]; rfl)
        (fun j hj => by simp [World.frozen?, hg])
        hvs h1v
      refine hcall.mono ?_
      rintro e w' ⟨rfl, rfl⟩
      obtain ⟨c1, k1, k2, k3⟩ := Bi.cells_set g [.string x] (0 + n) w cur 9 (0, 0) hg
      refine ⟨some ⟨g, 0, none⟩, cap, by rw [hlen], ?_, Bi.grown_set g [.string x] (0 + n) w⟩
      rw [hlen]
      refine ⟨by simp [Bi.ints, hn], .inr ⟨g, cap, c1, rfl, hBg, k1, hroom, hmx, by rw [k2, hsz, Nat.mul_one], ?_⟩⟩
      rw [Nat.mul_one]
      apply List.ext_getElem?
      intro j
      rw [List.getElem?_take, Array.getElem?_toList, k3 j]
      have hcur : ∀ j, j < n → cur[j]? = (Bi.ints l)[j]? := fun j hj => by
        rw [← htk, List.getElem?_take, if_pos hj, Array.getElem?_toList]
      have e1 : Bi.ints (l ++ [x]) = Bi.ints l ++ [.string x] := by simp [Bi.ints]
      rw [e1]
      simp only [List.length_singleton, Nat.zero_add]
      by_cases hjn : j < n + 1
      · rw [if_pos hjn]
        by_cases h2 : j = n
        · subst h2
          rw [if_pos (by omega), Nat.sub_self, List.getElem?_append_right (by omega), hil, Nat.sub_self]
        · rw [if_neg (by omega), hcur j (by omega), List.getElem?_append_left (by omega)]
      · rw [if_neg hjn, List.getElem?_eq_none (by simp [hil]; omega)]
  · have hnc : n ≤ cap := by
      rcases hown.2 with ⟨h, h0⟩ | ⟨g, c2, cur, h, _, _, h3, _⟩
      · omega
      · injection h with _ _ e; omega
    have hcall := Any2.slices_Insert_string_end_grow Try.laysIns a n cap vb 0 1 1 (Bi.ints l) [.string x] w (by omega) hnc (by omega) (by omega) hil rfl
      (fun ha => by
        rcases hown.2 with ⟨h, h0⟩ | ⟨g, c2, cur, h, _⟩
        · exact h0
        · injection h with e1; rw [ha] at e1; cases e1)
      (fun b hb j v hj => by
        rcases hown.2 with ⟨h, h0⟩ | ⟨g, c2, cur, h, _, hg, _, _, _, htk⟩
        · injection h with e1; rw [hb] at e1; cases e1
        · injection h with e1 e2 e3
          rw [hb] at e1
          injection e1 with e1
          subst e1
          have hjn : j < n := by have := (List.getElem?_eq_some_iff.1 hj).1; omega
          have hadd : (Addr.add ⟨g, 0, none⟩ j) = ⟨g, 0 + j, none⟩ := by unfold Addr.add; split <;> simp_all
          rw [Nat.mul_one] at htk
          rw [hadd, Nat.zero_add, Lib.cell_of_heap hg]
          rw [← hj, ← htk, List.getElem?_take, if_pos hjn, Array.getElem?_toList])
      hvs h1v
    refine hcall.mono ?_
    rintro e w' ⟨rfl, rfl⟩
    obtain ⟨gc, hgc⟩ : ∃ gc, grownCap w (n + 1) cap 9 = gc := ⟨_, rfl⟩
    have hge : n + 1 ≤ gc := by rw [← hgc]; exact grownCap_ge _ _ _ _
    have hle : gc ≤ maxLen := by rw [← hgc]; exact grownCap_le_maxLen _ _ _ _ (by unfold maxLen; omega)
    change Bi.InsertPost B _ _ w (.returned (.slice (some ⟨w.heap.size, 0, none⟩) (n + 1) (grownCap w (n + 1) cap 9))) (w.drew.alloc (.cells ((Bi.ints l ++ [Value.string x]).toArray ++ Builtin.zeroCells (Value.string ⟨#[]⟩).cells (grownCap w (n + 1) cap 9 - (n + 1))) 9))
    rw [hgc]
    have hz1 : (Value.string ⟨#[]⟩).cells.size = 1 := rfl
    have e1 : Bi.ints (l ++ [x]) = Bi.ints l ++ [.string x] := by simp [Bi.ints]
    refine ⟨some ⟨w.heap.size, 0, none⟩, gc, by rw [hlen], ?_, ?_⟩
    · rw [hlen, e1]
      refine ⟨by simp [hil], .inr ⟨w.heap.size, gc, _, rfl, hB, (MapKept.heap_alloc w.drew _).1, hge, hle, ?_, ?_⟩⟩
      · rw [Array.size_append, size_zeroCells, hz1]; simp [hil]; omega
      · rw [Nat.mul_one, Array.toList_append, List.take_append_of_le_length (by simp [hil])]
        rw [List.take_of_length_le (by simp [hil])]
    · exact ⟨rfl, rfl, rfl, by show _ ≤ (w.drew.alloc _).heap.size; rw [World.size_alloc]; exact Nat.le_succ _, fun k hk _ => (((Below.refl _ w).drew.alloc (Nat.le_refl _) _).block k hk)⟩
theorem Bi.insert_grow (B : Nat) (l : List ByteArray) (n i : Nat) (hn : l.length = n) (hi : i < n) (x : ByteArray) (a : Option Addr) (cap vb : Nat) (w : World) (hl : n ≤ 1000000) (hB : B ≤ w.heap.size) (hroom : cap < n + 1) (hown : w.ownsRow B 9 1 (.slice a n cap) n (Bi.ints l)) (hv : w.heap[vb]? = some (.cells #[.string x] 9 (0, 0))) :
    Calls Try.prog 56 #[.slice a n cap, .int .i64 (i : Int), .slice (some ⟨vb, 0, none⟩) 1 1] w (Bi.InsertPost B (l.take i ++ [x] ++ l.drop i) (Value.slice a n cap).ownBlock w) := by
  obtain ⟨hx, hr⟩ := hown
  rcases hr with ⟨h, h0⟩ | ⟨g, c2, cur, h, hBg, hg, hnc, hmx, hsz, htk⟩
  · omega
  · injection h with e1 e2 e3
    subst e1 e3
    rw [Nat.mul_one] at hsz htk
    have hcur : ∀ j, j < n → cur[j]? = (Bi.ints l)[j]? := fun j hj => by
      rw [← htk, List.getElem?_take, if_pos hj, Array.getElem?_toList]
    have hlen : (l.take i ++ [x] ++ l.drop i).length = n + 1 := by simp; omega
    have hil : (Bi.ints l).length = n := by simp [Bi.ints, hn]
    have hcall := Any2.slices_Insert_string_grow Try.laysIns g 0 n cap i vb 0 1 1 (Bi.ints l) [.string x] w hi (by omega) hnc hroom (by omega) hil rfl
      (fun j v hj => by
        have hjn : j < n := by
          have := (List.getElem?_eq_some_iff.1 hj).1
          omega
        rw [Nat.zero_add, Lib.cell_of_heap hg, hcur j hjn]; exact hj)
      (fun j v hj => by
        have hj0 : j = 0 := by have := (List.getElem?_eq_some_iff.1 hj).1; simpa using this
        subst hj0
        rw [Lib.cell_of_heap hv]; simpa using hj)
      Bi.ints_one (fun v hv => by simp at hv; rw [hv]; rfl)
    refine hcall.mono ?_
    rintro e w' ⟨rfl, rfl⟩
    obtain ⟨gc, hgc⟩ : ∃ gc, grownCap w (n + 1) cap 9 = gc := ⟨_, rfl⟩
    have hge : n + 1 ≤ gc := by rw [← hgc]; exact grownCap_ge _ _ _ _
    have hle : gc ≤ maxLen := by rw [← hgc]; exact grownCap_le_maxLen _ _ _ _ (by unfold maxLen; omega)
    change Bi.InsertPost B _ _ w (.returned (.slice (some ⟨w.heap.size, 0, none⟩) (n + 1) (grownCap w (n + 1) cap 9))) ((((w.alloc (.cells (((Bi.ints l).take i).toArray ++ Builtin.zeroCells (Value.string ⟨#[]⟩).cells (n + 1 - i) ++ Builtin.zeroCells (Value.string ⟨#[]⟩).cells (grownCap w (n + 1) cap 9 - (n + 1))) 9)).drew.setCells w.heap.size i [.string x]).drew).setCells w.heap.size (i + 1) ((Bi.ints l).drop i))
    rw [hgc]
    obtain ⟨c0, hc0⟩ : ∃ c0, ((Bi.ints l).take i).toArray ++ Builtin.zeroCells (Value.string ⟨#[]⟩).cells (n + 1 - i) ++ Builtin.zeroCells (Value.string ⟨#[]⟩).cells (gc - (n + 1)) = c0 := ⟨_, rfl⟩
    have hz1 : (Value.string ⟨#[]⟩).cells.size = 1 := rfl
    have hs0 : c0.size = gc := by
      rw [← hc0, Array.size_append, Array.size_append, size_zeroCells, size_zeroCells, hz1]
      simp [hil]; omega
    have hpre : ∀ j, j < i → c0[j]? = (Bi.ints l)[j]? := fun j hj => by
      rw [← hc0, Array.append_assoc, Array.getElem?_append_left (by simp [hil]; omega)]
      simp [hj]
    rw [hc0]
    have hW : (w.alloc (.cells c0 9)).drew.heap[w.heap.size]? = some (.cells c0 9 (0, 0)) := Bi.new_at w _
    obtain ⟨c1, k1, k2, k3⟩ := Bi.cells_set w.heap.size [.string x] i (w.alloc (.cells c0 9)).drew c0 9 (0, 0) hW
    obtain ⟨c2, m1, m2, m3⟩ := Bi.cells_set w.heap.size ((Bi.ints l).drop i) (i + 1) (((w.alloc (.cells c0 9)).drew.setCells w.heap.size i [.string x]).drew) c1 9 (0, 0) k1
    refine ⟨some ⟨w.heap.size, 0, none⟩, gc, by rw [hlen], ?_, ?_⟩
    · rw [hlen]
      refine ⟨by simp [Bi.ints]; omega, .inr ⟨w.heap.size, gc, c2, rfl, hB, m1, hge, hle, by rw [m2, k2, hs0, Nat.mul_one], ?_⟩⟩
      rw [Nat.mul_one]
      apply List.ext_getElem?
      intro j
      rw [List.getElem?_take, Bi.ints_get, Bi.ins_list l x i (by omega), Array.getElem?_toList, m3 j, k3 j]
      simp only [List.length_singleton, List.length_drop, k2, hs0]
      by_cases hjn : j < n + 1
      · rw [if_pos hjn]
        by_cases h1 : j < i
        · rw [if_neg (by omega), if_neg (by omega), if_pos h1, hpre j h1, Bi.ints_get]
        · by_cases h2 : j = i
          · subst h2
            rw [if_neg (by omega), if_pos (by omega), if_neg h1, if_pos rfl, Nat.sub_self]; rfl
          · rw [if_pos (by rw [hil]; omega), if_neg h1, if_neg h2, List.getElem?_drop, Bi.ints_get]
            congr 2; omega
      · rw [if_neg hjn, if_neg (by omega), if_neg (by omega), List.getElem?_eq_none (by omega)]; rfl
    · have h1 := Bi.grown_set w.heap.size [.string x] i (w.alloc (.cells c0 9)).drew
      have h2 := Bi.grown_set w.heap.size ((Bi.ints l).drop i) (i + 1) (((w.alloc (.cells c0 9)).drew.setCells w.heap.size i [.string x]).drew)
      have hs : w.heap.size ≤ (w.alloc (.cells c0 9)).drew.heap.size := by show _ ≤ (w.alloc (.cells c0 9)).heap.size; rw [World.size_alloc]; omega
      exact ⟨h2.os.trans h1.os, h2.tape.trans h1.tape, h2.output.trans h1.output, Nat.le_trans hs (Nat.le_trans h1.size h2.size), fun k hk _ => by
        have hkne : some k ≠ some w.heap.size := fun e => by injection e with e; omega
        exact ((h2.block k (Nat.lt_of_lt_of_le (Nat.lt_of_lt_of_le hk hs) h1.size) hkne).trans (h1.block k (Nat.lt_of_lt_of_le hk hs) hkne)).trans ((Bi.b1 w _).block k hk)⟩
theorem Bi.insert_any (B : Nat) (l : List ByteArray) (n i : Nat) (hn : l.length = n) (hi : i ≤ n) (x : ByteArray) (a : Option Addr) (cap vb : Nat) (w : World) (hl : n ≤ 1000000) (hB : B ≤ w.heap.size) (hown : w.ownsRow B 9 1 (.slice a n cap) n (Bi.ints l)) (hv : w.heap[vb]? = some (.cells #[.string x] 9 (0, 0))) (hne : (Value.slice a n cap).ownBlock ≠ some vb) :
    Calls Try.prog 56 #[.slice a n cap, .int .i64 (i : Int), .slice (some ⟨vb, 0, none⟩) 1 1] w (Bi.InsertPost B (l.take i ++ [x] ++ l.drop i) (Value.slice a n cap).ownBlock w) := by
  by_cases hin : i = n
  · subst hin
    have e : l.take i ++ [x] ++ l.drop i = l ++ [x] := by rw [← hn, List.take_length, List.drop_length]; simp
    rw [e]
    exact Bi.insert_end B l i hn x a cap vb w hl hB hown hv
  · by_cases hroom : n + 1 ≤ cap
    · exact Bi.insert_shift B l n i hn (by omega) x a cap vb w hl hroom hown hv hne
    · exact Bi.insert_grow B l n i hn (by omega) x a cap vb w hl hB (by omega) hown hv
end Go.Proofs.Ytdapajkckocmbaa
