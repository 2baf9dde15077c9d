import Derived.Test.YtdmfbhfiaodehaaGreatDoorKWcB
import Derived.Lib.FrozenHead2
import Derived.Lib.Builder
import Derived.Shelf.Strings.BuilderK
namespace Go.Proofs.YtdmfbhfiaodehaaGreatDoor
open Go.RowKit

theorem Wc.sizeBuilder : (Tryz.prog.info? 42).map (·.size) = some 2 := by kernel_rfl
theorem Wc.liesB : liesAt Tryz.prog Tryz.prog.depth 42 (2 / Tryz.prog.cellsOf 42) 0 42 1 = true := by kernel_rfl
theorem Wc.lies : liesAt Tryz.prog Tryz.prog.depth 44 (2 / Tryz.prog.cellsOf 44) 0 42 1 = true := by kernel_rfl
set_option maxHeartbeats 1000000 in
set_option maxRecDepth 100000 in
theorem Wc.copyCheck_used (b : Nat) (w : World) (h0 : w.cell? ⟨b, 0, none⟩ = some (.pointer (some ⟨b, 0, none⟩))) :
    Calls Tryz.prog 28 #[.pointer (some ⟨b, 0, none⟩)] w fun e w' => e = .returned (.tuple #[]) ∧ w' = w := by
  obtain ⟨j, hj, _⟩ := Option.map_eq_some_iff.1 Wc.sizeBuilder
  go_enter Tryz.func28, Tryz.ntmps28
  go_wp2
  rw [Lib.run_neq_ptr_same w _ Tryz.underlying40 hj]
  go_wp2
  go_end0
  exact ⟨rfl, rfl⟩
set_option maxHeartbeats 1000000 in
set_option maxRecDepth 100000 in
theorem Wc.copyCheck_fresh (T : TypeId) (hlies : liesAt Tryz.prog Tryz.prog.depth T (2 / Tryz.prog.cellsOf T) 0 42 1 = true) (b : Nat) (w : World) (h0 : w.cell? ⟨b, 0, none⟩ = some (.pointer none)) (hsh : w.shape? b = some (T, 2)) (hfz : w.frozen? ⟨b, 0, none⟩ = false) :
    Calls Tryz.prog 28 #[.pointer (some ⟨b, 0, none⟩)] w fun e w' => e = .returned (.tuple #[]) ∧ w' = w.setCell ⟨b, 0, none⟩ (.pointer (some ⟨b, 0, none⟩)) := by
  obtain ⟨j, hj, hjs⟩ := Option.map_eq_some_iff.1 Wc.sizeBuilder
  go_enter Tryz.func28, Tryz.ntmps28
  go_wp2
  rw [Lib.run_to_unsafe w ⟨b, 0, none⟩ Tryz.underlying40 Tryz.underlying95 hj (by rw [hjs]; decide) hsh (Nat.zero_lt_succ 1)]
  simp only [Result.andThen]
  rw [Oper.upon_value]
  go_wp2
  rw [run_callFunc_extern Tryz.func48 (by kernel_rfl) (by kernel_rfl) (by kernel_rfl) (e := Extern.AbiNoEscape.same) (by kernel_rfl)]
  rw [Lib.run_noEscape]
  simp only [Result.andThen]
  rw [Oper.upon_value]
  go_wp2
  rw [Lib.run_from_unsafe w ⟨b, 0, none⟩ Tryz.underlying95 Tryz.underlying40 hj hsh hlies]
  simp only [Result.andThen]
  rw [Oper.upon_value]
  go_wp2
  go_end0
  exact ⟨rfl, rfl⟩
theorem Wc.copyCheckT (T : TypeId) (hlies : liesAt Tryz.prog Tryz.prog.depth T (2 / Tryz.prog.cellsOf T) 0 42 1 = true) (B b : Nat) (bs : List Value) (w : World) (h : Lib.IsBuilderF T 5 B b bs w) :
    Calls Tryz.prog 28 #[.pointer (some ⟨b, 0, none⟩)] w fun e w' => e = .returned (.tuple #[]) ∧ (Lib.BuilderAtF T 5 B b (.pointer (some ⟨b, 0, none⟩)) bs w' ∧ Below B w w' ∧ Lib.OthersKept 5 (some b) w w') := by
  rcases h with h | h
  · refine (Wc.copyCheck_fresh T hlies b w h.cell0 h.shape h.frozen0).mono ?_
    rintro e w' ⟨rfl, rfl⟩
    exact ⟨rfl, h.used _, (Below.refl B w).setCell (p := ⟨b, 0, none⟩) h.1 _, (Lib.OthersKept.refl _ _ w).setCell ⟨b, 0, none⟩ rfl _⟩
  · refine (Wc.copyCheck_used b w h.cell0).mono ?_
    rintro e w' ⟨rfl, rfl⟩
    exact ⟨rfl, h, Below.refl B _, Lib.OthersKept.refl _ _ _⟩
theorem Wc.neB5 : 44 ≠ 5 := by decide
set_option maxHeartbeats 2000000 in
set_option maxRecDepth 100000 in
theorem Wc.writeStringT (T : TypeId) (hlies : liesAt Tryz.prog Tryz.prog.depth T (2 / Tryz.prog.cellsOf T) 0 42 1 = true) (hne5 : T ≠ 5) (B b : Nat) (bs : List Value) (s : ByteArray) (w : World) (h : Lib.IsBuilderF T 5 B b bs w) (hlen : bs.length + s.size ≤ 140737488355328) (hBw : B ≤ w.heap.size) :
    Calls Tryz.prog 14 #[.pointer (some ⟨b, 0, none⟩), .string s] w fun e w' => e = .returned (.tuple #[.int .i64 s.size, .nilIface]) ∧ (Lib.BuilderAtF T 5 B b (.pointer (some ⟨b, 0, none⟩)) (bs ++ Lib.strCells s) w' ∧ Below B w w' ∧ Lib.OthersKept 5 (some b) w w') := by
  obtain ⟨i0, hi, hz0, hz1, hz2⟩ := info_parts Tryz.infoByte
  go_enter Tryz.func14, Tryz.ntmps14
  go_wp2_with (go_at_call 28; refine (Wc.copyCheckT T hlies B b bs _ h).mono ?_)
  rintro e w1 ⟨rfl, h1, hb1, hk1⟩
  obtain ⟨hB, v, hbk, hown, hne⟩ := h1
  have c0 : w1.cell? ⟨b, 0, none⟩ = some (.pointer (some ⟨b, 0, none⟩)) := by rw [Lib.cell_of_heap hbk]; rfl
  have c1 : w1.cell? ⟨b, 1, none⟩ = some v := by rw [Lib.cell_of_heap hbk]; rfl
  go_wp2_with (at_builtin; refine Lib.wpList_append_own_stringF _ rfl _ _ 35 9 rfl B 5 i0 Tryz.underlying35 Tryz.underlying9 hi hz0 hz1 hz2 _ _ _ rfl hown s rfl ?c3 ?c4 ?c5 ?_)
  case c3 => unfold maxLen; omega
  case c4 => omega
  case c5 => have := hb1.size; omega
  intro v' w2 hown' hgrow _
  have hlt : b < w1.heap.size := (Array.getElem?_eq_some_iff.1 hbk).1
  have hb2 : w2.heap[b]? = some (.cells #[.pointer (some ⟨b, 0, none⟩), v] T (0, 0)) := by
    rw [hgrow.block b hlt (fun e => hne e.symm)]
    exact hbk
  have d0 : w2.cell? ⟨b, 0, none⟩ = some (.pointer (some ⟨b, 0, none⟩)) := by rw [Lib.cell_of_heap hb2]; rfl
  have d1 : w2.cell? ⟨b, 1, none⟩ = some v := by rw [Lib.cell_of_heap hb2]; rfl
  have f1 : w2.frozen? ⟨b, 1, none⟩ = false := Lib.frozen_of_heap hb2 1
  obtain ⟨ao, n', cap, rfl⟩ : ∃ ao n' cap, v' = .slice ao n' cap := by
    rcases hown'.2 with ⟨hv, _⟩ | ⟨g, cap, cur, fz, hv, _⟩
    · exact ⟨_, _, _, hv⟩
    · exact ⟨_, _, _, hv⟩
  go_wp2
  go_ret2
  refine ⟨rfl, ?_, ?_, (hk1.grown hgrow (Lib.ownsRowF_kind hown)).setCell ⟨b, 1, none⟩ rfl _⟩
  · exact Lib.BuilderAtF.put (T := T) (e := 5) hB hb2 (bs' := bs ++ Lib.strCells s) (by simpa [Lib.strCells_length] using hown') hne5
  · exact (hb1.grown hgrow (by have := hb1.size; omega) (fun k hk => (hown.lt k hk).1)).setCell (p := ⟨b, 1, none⟩) hB _
set_option maxHeartbeats 2000000 in
set_option maxRecDepth 100000 in
theorem Wc.lenT (T : TypeId) (B b : Nat) (bs : List Value) (w : World) (h : Lib.IsBuilderF T 5 B b bs w) :
    Calls Tryz.prog 32 #[.pointer (some ⟨b, 0, none⟩)] w fun e w' => e = .returned (.int .i64 (bs.length : Int)) ∧ w = w' := by
  obtain ⟨p, hAt⟩ : ∃ p, Lib.BuilderAtF T 5 B b p bs w := by
    rcases h with h | h
    · exact ⟨_, h⟩
    · exact ⟨_, h⟩
  obtain ⟨hB, v, hbk, hown, hne⟩ := hAt
  have c1 : w.cell? ⟨b, 1, none⟩ = some v := by rw [Lib.cell_of_heap hbk]; rfl
  obtain ⟨ao, cap, rfl⟩ : ∃ ao cap, v = .slice ao bs.length cap := by
    rcases hown.2 with ⟨hv, h0⟩ | ⟨g, cap, cur, fz, hv, _⟩
    · exact ⟨none, 0, by rw [h0]; exact hv⟩
    · exact ⟨_, _, hv⟩
  go_enter Tryz.func32, Tryz.ntmps32
  go_wp2
  go_ret
  exact ⟨rfl, rfl⟩
set_option maxHeartbeats 2000000 in
set_option maxRecDepth 100000 in
theorem Wc.writeByteT (T : TypeId) (hlies : liesAt Tryz.prog Tryz.prog.depth T (2 / Tryz.prog.cellsOf T) 0 42 1 = true) (hne5 : T ≠ 5) (B b : Nat) (bs : List Value) (c : Int) (w : World) (h : Lib.IsBuilderF T 5 B b bs w) (hlen : bs.length + 1 ≤ 140737488355328) (hBw : B ≤ w.heap.size) :
    Calls Tryz.prog 49 #[.pointer (some ⟨b, 0, none⟩), .int .u8 c] w fun e w' => e = .returned .nilIface ∧ (Lib.BuilderAtF T 5 B b (.pointer (some ⟨b, 0, none⟩)) (bs ++ [.int .u8 c]) w' ∧ Below B w w' ∧ Lib.OthersKept 5 (some b) w w') := by
  obtain ⟨i0, hi, hz0, hz1, hz2⟩ := info_parts Tryz.infoByte
  go_enter Tryz.func49, Tryz.ntmps49
  go_wp2_with (go_at_call 28; refine (Wc.copyCheckT T hlies B b bs _ h).mono ?_)
  rintro e w1 ⟨rfl, h1, hb1, hk1⟩
  obtain ⟨hB, v, hbk, hown, hne⟩ := h1
  have c0 : w1.cell? ⟨b, 0, none⟩ = some (.pointer (some ⟨b, 0, none⟩)) := by rw [Lib.cell_of_heap hbk]; rfl
  have c1 : w1.cell? ⟨b, 1, none⟩ = some v := by rw [Lib.cell_of_heap hbk]; rfl
  have hsz := hb1.size
  go_wp2_with (at_builtin; refine wpList_append_ownF _ rfl _ _ 35 rfl B 5 i0 (.int .u8 0) 1 1 Tryz.underlying35 hi hz0 hz1 hz2 rfl (by decide) _ _ _ rfl (hown.alloc _) ⟨w1.heap.size, 0, none⟩ 1 1 [.int .u8 c] rfl rfl (cell_one_new _ _ _) (fun x hx => by simp at hx; subst hx; rfl) ?c3 ?c4 ?c5 ?_)
  case c3 => unfold maxLen; omega
  case c4 => omega
  case c5 => simp; omega
  intro v' w2 hown' hgrow _
  have hlt : b < w1.heap.size := (Array.getElem?_eq_some_iff.1 hbk).1
  have hb1' : Below B w (w1.alloc (.cells #[.int .u8 c] 5)) := hb1.alloc (by omega) _
  have hbk2 : (w1.alloc (.cells #[.int .u8 c] 5)).heap[b]? = some (.cells #[.pointer (some ⟨b, 0, none⟩), v] T (0, 0)) := (((Below.refl w1.heap.size w1).alloc (Nat.le_refl _) _).block b hlt).trans hbk
  have hb2 : w2.heap[b]? = some (.cells #[.pointer (some ⟨b, 0, none⟩), v] T (0, 0)) := by
    rw [hgrow.block b (by simp; omega) (fun e => hne e.symm)]
    exact hbk2
  have d0 : w2.cell? ⟨b, 0, none⟩ = some (.pointer (some ⟨b, 0, none⟩)) := by rw [Lib.cell_of_heap hb2]; rfl
  have d1 : w2.cell? ⟨b, 1, none⟩ = some v := by rw [Lib.cell_of_heap hb2]; rfl
  have f1 : w2.frozen? ⟨b, 1, none⟩ = false := Lib.frozen_of_heap hb2 1
  obtain ⟨ao, n', cap, rfl⟩ : ∃ ao n' cap, v' = .slice ao n' cap := by
    rcases hown'.2 with ⟨hv, _⟩ | ⟨g, cap, cur, fz, hv, _⟩
    · exact ⟨_, _, _, hv⟩
    · exact ⟨_, _, _, hv⟩
  go_wp2
  go_ret
  refine ⟨rfl, ?_, ?_, ((hk1.alloc _).grown hgrow (Lib.ownsRowF_kind (hown.alloc _))).setCell ⟨b, 1, none⟩ rfl _⟩
  · exact Lib.BuilderAtF.put (T := T) (e := 5) hB hb2 (bs' := bs ++ [.int .u8 c]) (by simpa using hown') hne5
  · exact (hb1'.grown hgrow (by have := hb1'.size; omega) (fun k hk => (hown.lt k hk).1)).setCell (p := ⟨b, 1, none⟩) hB _
theorem Wc.cellsByte : Tryz.prog.cellsOf 5 = 1 := by kernel_rfl
set_option maxHeartbeats 2000000 in
set_option maxRecDepth 100000 in
theorem Wc.stringT (T : TypeId) (B b : Nat) (l : List UInt8) (w : World) (h : Lib.IsBuilderF T 5 B b (Lib.byteCells l) w) (h0 : l ≠ []) :
    Calls Tryz.prog 18 #[.pointer (some ⟨b, 0, none⟩)] w fun e w' => e = .returned (.string ⟨l.toArray⟩) ∧ Below B w w' ∧ Lib.OthersKept 5 (some b) w w' := by
  obtain ⟨p, hAt⟩ : ∃ p, Lib.BuilderAtF T 5 B b p (Lib.byteCells l) w := by
    rcases h with h | h
    · exact ⟨_, h⟩
    · exact ⟨_, h⟩
  obtain ⟨hB, v, hbk, hown, hne⟩ := hAt
  have hl0 : l.length ≠ 0 := by simpa using h0
  rw [Lib.byteCells_length] at hown
  obtain ⟨g, cap, cur, fz, rfl, hbg, hg, hfz, hnc, hcm, hcs, htake⟩ : ∃ g cap cur fz, v = .slice (some ⟨g, 0, none⟩) l.length cap ∧ B ≤ g ∧ w.heap[g]? = some (.cells cur 5 fz) ∧ fz.2 ≤ l.length * 1 ∧ l.length ≤ cap ∧ cap ≤ maxLen ∧ cur.size = cap * 1 ∧ cur.toList.take (l.length * 1) = Lib.byteCells l := by
    rcases hown.2 with ⟨_, hz⟩ | ⟨g, cap, cur, fz, hv, r⟩
    · exact absurd hz hl0
    · exact ⟨g, cap, cur, fz, hv, r⟩
  have c1 : w.drew.cell? ⟨b, 1, none⟩ = some (.slice (some ⟨g, 0, none⟩) l.length cap) := by
    have : w.drew.heap[b]? = some (.cells #[p, .slice (some ⟨g, 0, none⟩) l.length cap] T (0, 0)) := hbk
    rw [Lib.cell_of_heap this]; rfl
  have hSD : (Builtin.unsafeSliceData_ #[35] 77 #[.slice (some ⟨g, 0, none⟩) l.length cap]).run Tryz.prog w.drew = .ok (.pointer (some ⟨g, 0, none⟩)) w.drew :=
    Lib.run_unsafeSliceData_row _ _ _ _ _ _ (by omega)
  have hUS : (Builtin.unsafeString_ #[77, 3] 9 #[.pointer (some ⟨g, 0, none⟩), .int .i64 l.length]).run Tryz.prog w.drew = .ok (.string ⟨l.toArray⟩) (w.drew.freeze ⟨g, 0, none⟩ l.length) := by
    refine Lib.run_unsafeString_row w.drew 77 3 9 5 Tryz.underlying77 Wc.cellsByte g cur.size (by have hg' : w.drew.heap[g]? = some (.cells cur 5 fz) := hg; simp [World.shape?, hg']) l h0 (by omega) (by unfold maxLen at hcm; omega) ?_
    intro j x hx
    have := hown.cells (g := g) rfl j (.int .u8 x.toNat) (by simp [Lib.byteCells, hx])
    exact this
  go_enter Tryz.func18, Tryz.ntmps18
  go_wp2
  go_region
  all_goals (go_wp2; go_ret; exact ⟨rfl, Lib.below_freeze (Below.drew (Below.refl B w)) (p := ⟨g, 0, none⟩) hbg _, ((Lib.OthersKept.refl _ _ w).drew).freeze ⟨g, 0, none⟩ _ ⟨cur, fz, hg⟩⟩)
end Go.Proofs.YtdmfbhfiaodehaaGreatDoor
namespace Go.Proofs.YtdmfbhfiaodehaaGreatDoor
open Go.RowKit

def Wc.Has (g : Nat) (l : List UInt8) (w : World) : Prop := Lib.IsBuilderF 44 5 g g (Lib.byteCells l) w
def Wc.Fr (g : Nat) (w w' : World) : Prop := Below g w w' ∧ Lib.OthersKept 5 (some g) w w'
theorem Wc.Fr.refl (g : Nat) (w : World) : Wc.Fr g w w := ⟨Below.refl g w, Lib.OthersKept.refl _ _ w⟩
theorem Wc.Fr.trans {g : Nat} {a b c : World} (h : Wc.Fr g a b) (k : Wc.Fr g b c) : Wc.Fr g a c := ⟨h.1.trans k.1, h.2.trans k.2⟩
theorem Wc.Fr.keep {g k : Nat} {w w' : World} {cur : Array Value} {e : TypeId} {fr : Nat × Nat} (h : Wc.Fr g w w') (hk : w.heap[k]? = some (.cells cur e fr)) (hg : k ≠ g) (he : e ≠ 5) : w'.heap[k]? = some (.cells cur e fr) :=
  h.2 k _ hk (by simpa using hg) (fun c fz hc => by injection hc with _ h2; exact he h2)
theorem Wc.putByte (g : Nat) (l : List UInt8) (n : Nat) (hn : n < 256) (hl : l.length ≤ 100000000000000) (w : World) (h : Wc.Has g l w) (hg : g ≤ w.heap.size) :
    Calls Tryz.prog 49 #[.pointer (some ⟨g, 0, none⟩), .int .u8 (n : Int)] w fun e w' => e = .returned .nilIface ∧ Wc.Has g (l ++ [UInt8.ofNat n]) w' ∧ Wc.Fr g w w' := by
  refine (Wc.writeByteT _ Wc.lies Wc.neB5 g g (Lib.byteCells l) (n : Int) w h (by rw [Lib.byteCells_length]; omega) hg).mono ?_
  rintro e w' ⟨rfl, h1, h2, h3⟩
  refine ⟨rfl, ?_, h2, h3⟩
  unfold Wc.Has
  rw [Wc.byteCells_app]
  rw [Wc.byte n hn] at h1
  exact .inr h1
theorem Wc.putText (g : Nat) (l : List UInt8) (s : ByteArray) (hs : s.size ≤ 1048576) (hl : l.length ≤ 100000000000000) (w : World) (h : Wc.Has g l w) (hg : g ≤ w.heap.size) :
    Calls Tryz.prog 14 #[.pointer (some ⟨g, 0, none⟩), .string s] w fun e w' => e = .returned (.tuple #[.int .i64 s.size, .nilIface]) ∧ Wc.Has g (l ++ s.data.toList) w' ∧ Wc.Fr g w w' := by
  refine (Wc.writeStringT _ Wc.lies Wc.neB5 g g (Lib.byteCells l) s w h (by rw [Lib.byteCells_length]; omega) hg).mono ?_
  rintro e w' ⟨rfl, h1, h2, h3⟩
  refine ⟨rfl, ?_, h2, h3⟩
  unfold Wc.Has
  rw [Wc.byteCells_app, ← Wc.strCells_eq]
  exact .inr h1
theorem Wc.full_any (g : Nat) (l : List UInt8) (hl : l.length ≤ 100000000000000) (w : World) (h : Wc.Has g l w) :
    Calls Tryz.prog 17 #[.pointer (some ⟨g, 0, none⟩)] w fun e w' => e = .returned (.bool (decide (200000 < l.length))) ∧ w = w' := by
  have hb : decide ((200000 : Int) < (l.length : Int)) = decide (200000 < l.length) := by simp; omega
  go_enter Tryz.func17, Tryz.ntmps17
  go_wp2_with (go_at_call 32; refine (Wc.lenT _ g g (Lib.byteCells l) _ h).mono ?_; rintro e w1 ⟨rfl, rfl⟩; rw [Lib.byteCells_length])
  go_ret
  exact ⟨rfl, rfl⟩
theorem Wc.or_all : ∀ r : Fin 256, bits BinOp.or IntKind.u8 ((r.val : Nat) : Int) 128 = ((r.val % 128 + 128 : Nat) : Int) := by decide +kernel
theorem Wc.or_high (m : Nat) : bits BinOp.or IntKind.u8 ((m : Int) % 256) 128 = ((m % 128 + 128 : Nat) : Int) := by
  have h := Wc.or_all ⟨m % 256, Nat.mod_lt _ (by omega)⟩
  have e : (m : Int) % 256 = ((m % 256 : Nat) : Int) := by omega
  rw [e, h]
  simp only
  omega
theorem Wc.putHigh (g : Nat) (l : List UInt8) (m : Nat) (hl : l.length ≤ 100000000000000) (w : World) (h : Wc.Has g l w) (hg : g ≤ w.heap.size) :
    Calls Tryz.prog 49 #[.pointer (some ⟨g, 0, none⟩), .int .u8 (bits BinOp.or IntKind.u8 ((m : Int) % 256) 128)] w fun e w' => e = .returned .nilIface ∧ Wc.Has g (l ++ [UInt8.ofNat (m % 128 + 128)]) w' ∧ Wc.Fr g w w' := by
  rw [Wc.or_high]
  exact Wc.putByte g l _ (by omega) hl w h hg
set_option maxRecDepth 100000 in
set_option maxHeartbeats 2000000 in
theorem Wc.inumber_any (g : Nat) (l : List UInt8) (n : Nat) (hn : n < 18446744073709551616) (hl : l.length ≤ 90000000000000) (w : World) (h : Wc.Has g l w) (hg : g ≤ w.heap.size) :
    Calls Tryz.prog 29 #[.pointer (some ⟨g, 0, none⟩), .int .u64 (n : Int)] w fun e w' => e = .returned (.tuple #[]) ∧ Wc.Has g (l ++ Wc.num n) w' ∧ Wc.Fr g w w' := by
  have HO : Hid (Wc.Has g l w) := h
  clear h
  have hnl := Wc.num_ten hn
  go_enter Tryz.func29, Tryz.ntmps29
  go_wp2_with fail
  go_loopw [1] (fun t wr => ∃ (m : Nat) (l2 : List UInt8), m ≤ n ∧ t = .int .u64 (m : Int) ∧ Wc.Has g l2 wr ∧ l2 ++ Wc.num m = l ++ Wc.num n ∧ Wc.Fr g w wr) (fun t _ => (intOf t).toNat)
  case atStart => exact ⟨n, l, Nat.le_refl _, rfl, HO.out, rfl, Wc.Fr.refl _ _⟩
  case round =>
    obtain ⟨m, l2, hm, rfl, ho, hl2, hk⟩ := hrel
    have HO2 : Hid (Wc.Has g l2 wr) := ho
    have HK : Hid (Wc.Fr g w wr) := hk
    have hgr : g ≤ wr.heap.size := Nat.le_trans hg hk.1.size
    have hll : l2.length ≤ l.length + 11 := by
      have := congrArg List.length hl2
      simp only [List.length_append] at this
      omega
    clear ho hk
    by_cases hbig : m < 128
    · have hbigI : ¬ (128 : Int) ≤ (m : Int) := by omega
      have HL : Hid (l ++ Wc.num n = l2 ++ [UInt8.ofNat m]) := by rw [Hid, ← hl2, Wc.num_small hbig]
      clear hl2
      go_wp2_with (go_at_call 49; refine (Wc.putByte g l2 m (by omega) (by omega) wr HO2.out hgr).mono ?_; rintro e w2 ⟨rfl, h2, hf2⟩)
      go_end0
      exact ⟨rfl, by rw [HL.out]; exact h2, HK.out.trans hf2⟩
    · have hbigI : (128 : Int) ≤ (m : Int) := by omega
      have HL : Hid ((l2 ++ [UInt8.ofNat (m % 128 + 128)]) ++ Wc.num (m / 128) = l ++ Wc.num n) := by rw [Hid, ← hl2, Wc.num_big hbig]; simp
      clear hl2
      go_wp2_with (go_at_call 49; refine (Wc.putHigh g l2 m (by omega) wr HO2.out hgr).mono ?_; rintro e w2 ⟨rfl, h2, hf2⟩)
      have E2 : Hid ((m : Int) / 128 = ((m / 128 : Nat) : Int)) := by show (m : Int) / 128 = ((m / 128 : Nat) : Int); omega
      go_roundw
      case rel => exact ⟨m / 128, _, by omega, by rw [E2.out], h2, HL.out, HK.out.trans hf2⟩
      case measure => simp [intOf]; omega
def Wc.Ints (g : Nat) (w : World) (v : Value) (ns : List Int) : Prop :=
  ∃ a cap, v = .slice a ns.length cap ∧ ∀ i (hi : i < ns.length), ∃ p o, a = some ⟨p, o, none⟩ ∧ w.cell? ⟨p, o + i, none⟩ = some (.int .i64 ns[i]) ∧ (p < g ∨ (p ≠ g ∧ ∃ cur fr, w.heap[p]? = some (.cells cur 3 fr)))
theorem Wc.Ints.fr {g : Nat} {w w' : World} {v : Value} {ns : List Int} (h : Wc.Ints g w v ns) (hf : Wc.Fr g w w') : Wc.Ints g w' v ns := by
  obtain ⟨a, cap, rfl, hc⟩ := h
  refine ⟨a, cap, rfl, fun i hi => ?_⟩
  obtain ⟨p, o, ha, hcell, hp⟩ := hc i hi
  rcases hp with hp | ⟨hp, cur, fr, hb⟩
  · exact ⟨p, o, ha, by rw [hf.1.cell (p := ⟨p, o + i, none⟩) hp]; exact hcell, .inl hp⟩
  · have h2 := hf.keep hb hp (by decide)
    exact ⟨p, o, ha, by rw [World.cell?_of_block (a := ⟨p, o + i, none⟩) (h2.trans hb.symm)]; exact hcell, .inr ⟨hp, cur, fr, h2⟩⟩
set_option maxRecDepth 100000 in
set_option maxHeartbeats 2000000 in
theorem Wc.inumbers_any (g : Nat) (l : List UInt8) (ns : List Int) (v : Value) (hn : ns.length ≤ 1048576) (hl : l.length ≤ 50000000000000) (w : World) (h : Wc.Has g l w) (hg : g ≤ w.heap.size) (hI : Wc.Ints g w v ns) :
    Calls Tryz.prog 15 #[.pointer (some ⟨g, 0, none⟩), v] w fun e w' => e = .returned (.tuple #[]) ∧ Wc.Has g (l ++ Wc.pars ns) w' ∧ Wc.Fr g w w' := by
  obtain ⟨a, cap, rfl, -⟩ := id hI
  have HI : Hid (Wc.Ints g w (.slice a ns.length cap) ns) := hI
  have HO : Hid (Wc.Has g l w) := h
  clear h hI
  have HNW : Hid (∀ (l : List UInt8) (x : Int) (U : World), g ≤ U.heap.size → Wc.Has g l U → l.length ≤ 80000000000000 → Calls Tryz.prog 29 #[.pointer (some ⟨g, 0, none⟩), .int .u64 (IntKind.u64.wrap x)] U fun e w' => e = .returned (.tuple #[]) ∧ Wc.Has g (l ++ Wc.num (Wc.u x)) w' ∧ Wc.Fr g U w') := fun l x U h1 h2 h3 => by
    rw [Wc.wrap_u]; exact Wc.inumber_any g l _ (Wc.u_lt x) (by omega) U h2 h1
  have HPL : Hid (∀ k, (Wc.pars (ns.take k)).length ≤ 1048576 * 11) := fun k => by
    have := Wc.flat_len (fun t => Wc.num (Wc.u t)) 11 (ns.take k) (fun x _ => Wc.num_u x)
    have h2 : (ns.take k).length ≤ 1048576 := by rw [List.length_take]; omega
    unfold Wc.pars; omega
  go_enter Tryz.func15, Tryz.ntmps15
  go_wp2_with fail
  go_loopw [8] (fun t wr => ∃ (i : Nat) (l2 : List UInt8), i ≤ ns.length ∧ t = .int .i64 (i : Int) ∧ l2 = l ++ Wc.pars (ns.take i) ∧ Wc.Has g l2 wr ∧ Wc.Fr g w wr) (fun t _ => ns.length - (intOf t).toNat)
  case atStart => exact ⟨0, l, by omega, rfl, by simp [Wc.pars], HO.out, Wc.Fr.refl _ _⟩
  case round =>
    obtain ⟨i, l2, hi, rfl, hl2, ho, hf⟩ := hrel
    have HL : Hid (l2 = l ++ Wc.pars (ns.take i)) := hl2
    have HO2 : Hid (Wc.Has g l2 wr) := ho
    have HF : Hid (Wc.Fr g w wr) := hf
    have hgr : g ≤ wr.heap.size := Nat.le_trans hg hf.1.size
    have hll : l2.length ≤ 60000000000000 := by
      have := HPL.out i
      rw [hl2, List.length_append]; omega
    clear hl2 ho hf
    by_cases hlt : i < ns.length
    · have hltI : (i : Int) < (ns.length : Int) := by omega
      obtain ⟨p, o, hae, hcell⟩ : ∃ p o, a = some ⟨p, o, none⟩ ∧ wr.cell? ⟨p, o + i, none⟩ = some (.int .i64 ns[i]) := by
        obtain ⟨a', cp, e, h⟩ := HI.out.fr HF.out
        injection e with e1
        subst e1
        obtain ⟨p, o, h1, h2, -⟩ := h i hlt
        exact ⟨p, o, h1, h2⟩
      subst hae
      obtain ⟨x, HX⟩ : ∃ x, Hid (ns[i] = x) := ⟨_, (rfl : ns[i] = _)⟩
      rw [HX.out] at hcell
      go_wp2_with (go_at_call 29; refine (HNW.out l2 x wr hgr HO2.out (by omega)).mono ?_; rintro e w2 ⟨rfl, h2, hf2⟩)
      go_roundw
      case rel => exact ⟨i + 1, _, by omega, by go_num, by rw [HL.out, List.append_assoc, ← HX.out]; unfold Wc.pars; rw [Wc.flat_take _ ns i hlt], h2, HF.out.trans hf2⟩
      case measure => simp [intOf]; omega
    · have hltI : ¬ (i : Int) < (ns.length : Int) := by omega
      have HL2 : Hid (l2 = l ++ Wc.pars ns) := by rw [Hid, HL.out, List.take_of_length_le (by omega)]
      go_wp2_with fail
      go_end0
      exact ⟨rfl, by rw [← HL2.out]; exact HO2.out, HF.out⟩
theorem Wc.Has.lt {g : Nat} {l : List UInt8} {w : World} (h : Wc.Has g l w) : g < w.heap.size := by
  rcases h with h | h
  · obtain ⟨_, v, hb, _⟩ := h; exact (Array.getElem?_eq_some_iff.1 hb).1
  · obtain ⟨_, v, hb, _⟩ := h; exact (Array.getElem?_eq_some_iff.1 hb).1
theorem Wc.Fr.alloc (g : Nat) (w : World) (o : Obj) (hg : g ≤ w.heap.size) : Wc.Fr g w (w.alloc o) := ⟨(Below.refl g w).alloc hg o, (Lib.OthersKept.refl _ _ w).alloc o⟩
theorem Wc.Has.alloc {g : Nat} {l : List UInt8} {w : World} (h : Wc.Has g l w) (o : Obj) : Wc.Has g l (w.alloc o) := by
  unfold Wc.Has
  rcases h with h | h
  · exact .inl (h.alloc o)
  · exact .inr (h.alloc o)
theorem Wc.Ints.new (g : Nat) (w : World) (ns : List Int) (hg : g < w.heap.size) : Wc.Ints g (w.alloc (.cells (Cd.ints ns).toArray 3)) (.slice (some ⟨w.heap.size, 0, none⟩) ns.length ns.length) ns := by
  refine ⟨_, _, rfl, fun i hi => ⟨w.heap.size, 0, rfl, ?_, .inr ⟨by omega, _, _, (MapKept.heap_alloc w _).1⟩⟩⟩
  rw [Lib.cell_of_heap (MapKept.heap_alloc w _).1]
  simp [Cd.ints, List.getElem?_eq_getElem hi]
theorem Wc.pars_one (n : Nat) (h : n < 18446744073709551616) : Wc.pars [(n : Int)] = Wc.num n := by simp [Wc.pars, Wc.u_nat n h]
set_option maxRecDepth 100000 in
set_option maxHeartbeats 2000000 in
theorem Wc.itext_any (g : Nat) (l : List UInt8) (s : ByteArray) (hs : s.size ≤ 1048576) (hl : l.length ≤ 40000000000000) (w : World) (h : Wc.Has g l w) :
    Calls Tryz.prog 30 #[.pointer (some ⟨g, 0, none⟩), .string s] w fun e w' => e = .returned (.tuple #[]) ∧ Wc.Has g (l ++ Wc.txt s) w' ∧ Wc.Fr g w w' := by
  have hg := h.lt
  have hnl : (Wc.num s.size).length ≤ 11 := Wc.num_ten (by omega)
  have HN : Hid (Calls Tryz.prog 15 #[.pointer (some ⟨g, 0, none⟩), .slice (some ⟨w.heap.size, 0, none⟩) 1 1] (w.alloc (.cells #[.int .i64 (s.size : Int)] 3)) fun e w' => e = .returned (.tuple #[]) ∧ Wc.Has g (l ++ Wc.num s.size) w' ∧ Wc.Fr g (w.alloc (.cells #[.int .i64 (s.size : Int)] 3)) w') := by
    have := Wc.inumbers_any g l [(s.size : Int)] (.slice (some ⟨w.heap.size, 0, none⟩) 1 1) (by simp) (by omega) _ (h.alloc (.cells #[.int .i64 (s.size : Int)] 3)) (by simp; omega) (Wc.Ints.new g w [(s.size : Int)] hg)
    rw [Wc.pars_one s.size (by omega)] at this
    exact this
  clear h
  go_enter Tryz.func30, Tryz.ntmps30
  go_wp2_with (first
    | (go_at_call 15; refine HN.out.mono ?_; rintro e w1 ⟨rfl, h1, hf1⟩; have HO1 : Hid (Wc.Has g (l ++ Wc.num s.size) w1) := h1; have HF1 : Hid (Wc.Fr g w w1) := (Wc.Fr.alloc g w _ (by omega)).trans hf1; clear h1 hf1)
    | (go_at_call 14; refine (Wc.putText g (l ++ Wc.num s.size) s hs (by rw [List.length_append]; omega) w1 HO1.out (Nat.le_of_lt HO1.out.lt)).mono ?_; rintro e w2 ⟨rfl, h2, hf2⟩))
  go_end0
  exact ⟨rfl, by unfold Wc.txt; rw [← List.append_assoc]; exact h2, HF1.out.trans hf2⟩
end Go.Proofs.YtdmfbhfiaodehaaGreatDoor
