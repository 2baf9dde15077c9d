import Derived.Test.YtkaoeoeloihigaaGreatDoorWF
import Derived.Lib.FrozenHead2
import Derived.Lib.Builder
import Derived.Shelf.Strings.BuilderK
namespace Go.Proofs.YtkaoeoeloihigaaGreatDoor
open Go.RowKit

theorem Prj.sizeBuilder : (Tryz.prog.info? 52).map (·.size) = some 2 := by kernel_rfl
theorem Prj.liesB : liesAt Tryz.prog Tryz.prog.depth 52 (2 / Tryz.prog.cellsOf 52) 0 52 1 = true := by kernel_rfl
theorem Prj.lies : liesAt Tryz.prog Tryz.prog.depth 54 (2 / Tryz.prog.cellsOf 54) 0 52 1 = true := by kernel_rfl
set_option maxHeartbeats 1000000 in
set_option maxRecDepth 100000 in
theorem Prj.copyCheck_used (b : Nat) (w : World) (h0 : w.cell? ⟨b, 0, none⟩ = some (.pointer (some ⟨b, 0, none⟩))) :
    Calls Tryz.prog 71 #[.pointer (some ⟨b, 0, none⟩)] w fun e w' => e = .returned (.tuple #[]) ∧ w' = w := by
  obtain ⟨j, hj, _⟩ := Option.map_eq_some_iff.1 Prj.sizeBuilder
  go_enter Tryz.func71, Tryz.ntmps71
  go_wp2
  rw [Lib.run_neq_ptr_same w _ Tryz.underlying50 hj]
  go_wp2
  go_end0
  exact ⟨rfl, rfl⟩
set_option maxHeartbeats 1000000 in
set_option maxRecDepth 100000 in
theorem Prj.copyCheck_fresh (T : TypeId) (hlies : liesAt Tryz.prog Tryz.prog.depth T (2 / Tryz.prog.cellsOf T) 0 52 1 = true) (b : Nat) (w : World) (h0 : w.cell? ⟨b, 0, none⟩ = some (.pointer none)) (hsh : w.shape? b = some (T, 2)) (hfz : w.frozen? ⟨b, 0, none⟩ = false) :
    Calls Tryz.prog 71 #[.pointer (some ⟨b, 0, none⟩)] w fun e w' => e = .returned (.tuple #[]) ∧ w' = w.setCell ⟨b, 0, none⟩ (.pointer (some ⟨b, 0, none⟩)) := by
  obtain ⟨j, hj, hjs⟩ := Option.map_eq_some_iff.1 Prj.sizeBuilder
  go_enter Tryz.func71, Tryz.ntmps71
  go_wp2
  rw [Lib.run_to_unsafe w ⟨b, 0, none⟩ Tryz.underlying50 Tryz.underlying171 hj (by rw [hjs]; decide) hsh (Nat.zero_lt_succ 1)]
  simp only [Result.andThen]
  rw [Oper.upon_value]
  go_wp2
  rw [run_callFunc_extern Tryz.func85 (by kernel_rfl) (by kernel_rfl) (by kernel_rfl) (e := Extern.AbiNoEscape.same) (by kernel_rfl)]
  rw [Lib.run_noEscape]
  simp only [Result.andThen]
  rw [Oper.upon_value]
  go_wp2
  rw [Lib.run_from_unsafe w ⟨b, 0, none⟩ Tryz.underlying171 Tryz.underlying50 hj hsh hlies]
  simp only [Result.andThen]
  rw [Oper.upon_value]
  go_wp2
  go_end0
  exact ⟨rfl, rfl⟩
theorem Prj.copyCheckT (T : TypeId) (hlies : liesAt Tryz.prog Tryz.prog.depth T (2 / Tryz.prog.cellsOf T) 0 52 1 = true) (B b : Nat) (bs : List Value) (w : World) (h : Lib.IsBuilderF T 5 B b bs w) :
    Calls Tryz.prog 71 #[.pointer (some ⟨b, 0, none⟩)] w fun e w' => e = .returned (.tuple #[]) ∧ (Lib.BuilderAtF T 5 B b (.pointer (some ⟨b, 0, none⟩)) bs w' ∧ Below B w w' ∧ Lib.OthersKept 5 (some b) w w') := by
  rcases h with h | h
  · refine (Prj.copyCheck_fresh T hlies b w h.cell0 h.shape h.frozen0).mono ?_
    rintro e w' ⟨rfl, rfl⟩
    exact ⟨rfl, h.used _, (Below.refl B w).setCell (p := ⟨b, 0, none⟩) h.1 _, (Lib.OthersKept.refl _ _ w).setCell ⟨b, 0, none⟩ rfl _⟩
  · refine (Prj.copyCheck_used b w h.cell0).mono ?_
    rintro e w' ⟨rfl, rfl⟩
    exact ⟨rfl, h, Below.refl B _, Lib.OthersKept.refl _ _ _⟩
theorem Prj.neB5 : 54 ≠ 5 := by decide
theorem Prj.neBB : 52 ≠ 5 := by decide
set_option maxHeartbeats 2000000 in
set_option maxRecDepth 100000 in
theorem Prj.writeStringT (T : TypeId) (hlies : liesAt Tryz.prog Tryz.prog.depth T (2 / Tryz.prog.cellsOf T) 0 52 1 = true) (hne5 : T ≠ 5) (B b : Nat) (bs : List Value) (s : ByteArray) (w : World) (h : Lib.IsBuilderF T 5 B b bs w) (hlen : bs.length + s.size ≤ 140737488355328) (hBw : B ≤ w.heap.size) :
    Calls Tryz.prog 55 #[.pointer (some ⟨b, 0, none⟩), .string s] w fun e w' => e = .returned (.tuple #[.int .i64 s.size, .nilIface]) ∧ (Lib.BuilderAtF T 5 B b (.pointer (some ⟨b, 0, none⟩)) (bs ++ Lib.strCells s) w' ∧ Below B w w' ∧ Lib.OthersKept 5 (some b) w w') := by
  obtain ⟨i0, hi, hz0, hz1, hz2⟩ := info_parts Tryz.infoByte
  go_enter Tryz.func55, Tryz.ntmps55
  go_wp2_with (go_at_call 71; refine (Prj.copyCheckT T hlies B b bs _ h).mono ?_)
  rintro e w1 ⟨rfl, h1, hb1, hk1⟩
  obtain ⟨hB, v, hbk, hown, hne⟩ := h1
  have c0 : w1.cell? ⟨b, 0, none⟩ = some (.pointer (some ⟨b, 0, none⟩)) := by rw [Lib.cell_of_heap hbk]; rfl
  have c1 : w1.cell? ⟨b, 1, none⟩ = some v := by rw [Lib.cell_of_heap hbk]; rfl
  go_wp2_with (at_builtin; refine Lib.wpList_append_own_stringF _ rfl _ _ 41 9 rfl B 5 i0 Tryz.underlying41 Tryz.underlying9 hi hz0 hz1 hz2 _ _ _ rfl hown s rfl ?c3 ?c4 ?c5 ?_)
  case c3 => unfold maxLen; omega
  case c4 => omega
  case c5 => have := hb1.size; omega
  intro v' w2 hown' hgrow _
  have hlt : b < w1.heap.size := (Array.getElem?_eq_some_iff.1 hbk).1
  have hb2 : w2.heap[b]? = some (.cells #[.pointer (some ⟨b, 0, none⟩), v] T (0, 0)) := by
    rw [hgrow.block b hlt (fun e => hne e.symm)]
    exact hbk
  have d0 : w2.cell? ⟨b, 0, none⟩ = some (.pointer (some ⟨b, 0, none⟩)) := by rw [Lib.cell_of_heap hb2]; rfl
  have d1 : w2.cell? ⟨b, 1, none⟩ = some v := by rw [Lib.cell_of_heap hb2]; rfl
  have f1 : w2.frozen? ⟨b, 1, none⟩ = false := Lib.frozen_of_heap hb2 1
  obtain ⟨ao, n', cap, rfl⟩ : ∃ ao n' cap, v' = .slice ao n' cap := by
    rcases hown'.2 with ⟨hv, _⟩ | ⟨g, cap, cur, fz, hv, _⟩
    · exact ⟨_, _, _, hv⟩
    · exact ⟨_, _, _, hv⟩
  go_wp2
  go_ret2
  refine ⟨rfl, ?_, ?_, (hk1.grown hgrow (Lib.ownsRowF_kind hown)).setCell ⟨b, 1, none⟩ rfl _⟩
  · exact Lib.BuilderAtF.put (T := T) (e := 5) hB hb2 (bs' := bs ++ Lib.strCells s) (by simpa [Lib.strCells_length] using hown') hne5
  · exact (hb1.grown hgrow (by have := hb1.size; omega) (fun k hk => (hown.lt k hk).1)).setCell (p := ⟨b, 1, none⟩) hB _
set_option maxHeartbeats 2000000 in
set_option maxRecDepth 100000 in
theorem Prj.lenT (T : TypeId) (B b : Nat) (bs : List Value) (w : World) (h : Lib.IsBuilderF T 5 B b bs w) :
    Calls Tryz.prog 33 #[.pointer (some ⟨b, 0, none⟩)] w fun e w' => e = .returned (.int .i64 (bs.length : Int)) ∧ w = w' := by
  obtain ⟨p, hAt⟩ : ∃ p, Lib.BuilderAtF T 5 B b p bs w := by
    rcases h with h | h
    · exact ⟨_, h⟩
    · exact ⟨_, h⟩
  obtain ⟨hB, v, hbk, hown, hne⟩ := hAt
  have c1 : w.cell? ⟨b, 1, none⟩ = some v := by rw [Lib.cell_of_heap hbk]; rfl
  obtain ⟨ao, cap, rfl⟩ : ∃ ao cap, v = .slice ao bs.length cap := by
    rcases hown.2 with ⟨hv, h0⟩ | ⟨g, cap, cur, fz, hv, _⟩
    · exact ⟨none, 0, by rw [h0]; exact hv⟩
    · exact ⟨_, _, hv⟩
  go_enter Tryz.func33, Tryz.ntmps33
  go_wp2
  go_ret
  exact ⟨rfl, rfl⟩
theorem Prj.copyCheck (B b : Nat) (bs : List Value) (w : World) (h : Lib.IsBuilderF 54 5 B b bs w) :
    Calls Tryz.prog 71 #[.pointer (some ⟨b, 0, none⟩)] w fun e w' => e = .returned (.tuple #[]) ∧ (Lib.BuilderAtF 54 5 B b (.pointer (some ⟨b, 0, none⟩)) bs w' ∧ Below B w w' ∧ Lib.OthersKept 5 (some b) w w') := Prj.copyCheckT _ Prj.lies B b bs w h
theorem Prj.writeString (B b : Nat) (bs : List Value) (s : ByteArray) (w : World) (h : Lib.IsBuilderF 54 5 B b bs w) (hlen : bs.length + s.size ≤ 140737488355328) (hBw : B ≤ w.heap.size) :
    Calls Tryz.prog 55 #[.pointer (some ⟨b, 0, none⟩), .string s] w fun e w' => e = .returned (.tuple #[.int .i64 s.size, .nilIface]) ∧ (Lib.BuilderAtF 54 5 B b (.pointer (some ⟨b, 0, none⟩)) (bs ++ Lib.strCells s) w' ∧ Below B w w' ∧ Lib.OthersKept 5 (some b) w w') := Prj.writeStringT _ Prj.lies Prj.neB5 B b bs s w h hlen hBw
theorem Prj.len (B b : Nat) (bs : List Value) (w : World) (h : Lib.IsBuilderF 54 5 B b bs w) :
    Calls Tryz.prog 33 #[.pointer (some ⟨b, 0, none⟩)] w fun e w' => e = .returned (.int .i64 (bs.length : Int)) ∧ w = w' := Prj.lenT _ B b bs w h
set_option maxHeartbeats 2000000 in
set_option maxRecDepth 100000 in
theorem Prj.writeByteT (T : TypeId) (hlies : liesAt Tryz.prog Tryz.prog.depth T (2 / Tryz.prog.cellsOf T) 0 52 1 = true) (hne5 : T ≠ 5) (B b : Nat) (bs : List Value) (c : Int) (w : World) (h : Lib.IsBuilderF T 5 B b bs w) (hlen : bs.length + 1 ≤ 140737488355328) (hBw : B ≤ w.heap.size) :
    Calls Tryz.prog 101 #[.pointer (some ⟨b, 0, none⟩), .int .u8 c] w fun e w' => e = .returned .nilIface ∧ (Lib.BuilderAtF T 5 B b (.pointer (some ⟨b, 0, none⟩)) (bs ++ [.int .u8 c]) w' ∧ Below B w w' ∧ Lib.OthersKept 5 (some b) w w') := by
  obtain ⟨i0, hi, hz0, hz1, hz2⟩ := info_parts Tryz.infoByte
  go_enter Tryz.func101, Tryz.ntmps101
  go_wp2_with (go_at_call 71; refine (Prj.copyCheckT T hlies B b bs _ h).mono ?_)
  rintro e w1 ⟨rfl, h1, hb1, hk1⟩
  obtain ⟨hB, v, hbk, hown, hne⟩ := h1
  have c0 : w1.cell? ⟨b, 0, none⟩ = some (.pointer (some ⟨b, 0, none⟩)) := by rw [Lib.cell_of_heap hbk]; rfl
  have c1 : w1.cell? ⟨b, 1, none⟩ = some v := by rw [Lib.cell_of_heap hbk]; rfl
  have hsz := hb1.size
  go_wp2_with (at_builtin; refine wpList_append_ownF _ rfl _ _ 41 rfl B 5 i0 (.int .u8 0) 1 1 Tryz.underlying41 hi hz0 hz1 hz2 rfl (by decide) _ _ _ rfl (hown.alloc _) ⟨w1.heap.size, 0, none⟩ 1 1 [.int .u8 c] rfl rfl (cell_one_new _ _ _) (fun x hx => by simp at hx; subst hx; rfl) ?c3 ?c4 ?c5 ?_)
  case c3 => unfold maxLen; omega
  case c4 => omega
  case c5 => simp; omega
  intro v' w2 hown' hgrow _
  have hlt : b < w1.heap.size := (Array.getElem?_eq_some_iff.1 hbk).1
  have hb1' : Below B w (w1.alloc (.cells #[.int .u8 c] 5)) := hb1.alloc (by omega) _
  have hbk2 : (w1.alloc (.cells #[.int .u8 c] 5)).heap[b]? = some (.cells #[.pointer (some ⟨b, 0, none⟩), v] T (0, 0)) := (((Below.refl w1.heap.size w1).alloc (Nat.le_refl _) _).block b hlt).trans hbk
  have hb2 : w2.heap[b]? = some (.cells #[.pointer (some ⟨b, 0, none⟩), v] T (0, 0)) := by
    rw [hgrow.block b (by simp; omega) (fun e => hne e.symm)]
    exact hbk2
  have d0 : w2.cell? ⟨b, 0, none⟩ = some (.pointer (some ⟨b, 0, none⟩)) := by rw [Lib.cell_of_heap hb2]; rfl
  have d1 : w2.cell? ⟨b, 1, none⟩ = some v := by rw [Lib.cell_of_heap hb2]; rfl
  have f1 : w2.frozen? ⟨b, 1, none⟩ = false := Lib.frozen_of_heap hb2 1
  obtain ⟨ao, n', cap, rfl⟩ : ∃ ao n' cap, v' = .slice ao n' cap := by
    rcases hown'.2 with ⟨hv, _⟩ | ⟨g, cap, cur, fz, hv, _⟩
    · exact ⟨_, _, _, hv⟩
    · exact ⟨_, _, _, hv⟩
  go_wp2
  go_ret
  refine ⟨rfl, ?_, ?_, ((hk1.alloc _).grown hgrow (Lib.ownsRowF_kind (hown.alloc _))).setCell ⟨b, 1, none⟩ rfl _⟩
  · exact Lib.BuilderAtF.put (T := T) (e := 5) hB hb2 (bs' := bs ++ [.int .u8 c]) (by simpa using hown') hne5
  · exact (hb1'.grown hgrow (by have := hb1'.size; omega) (fun k hk => (hown.lt k hk).1)).setCell (p := ⟨b, 1, none⟩) hB _
theorem Prj.cellsByte : Tryz.prog.cellsOf 5 = 1 := by kernel_rfl
set_option maxHeartbeats 2000000 in
set_option maxRecDepth 100000 in
theorem Prj.stringT (T : TypeId) (B b : Nat) (l : List UInt8) (w : World) (h : Lib.IsBuilderF T 5 B b (Lib.byteCells l) w) (h0 : l ≠ []) :
    Calls Tryz.prog 17 #[.pointer (some ⟨b, 0, none⟩)] w fun e w' => e = .returned (.string ⟨l.toArray⟩) ∧ Below B w w' ∧ Lib.OthersKept 5 (some b) w w' := by
  obtain ⟨p, hAt⟩ : ∃ p, Lib.BuilderAtF T 5 B b p (Lib.byteCells l) w := by
    rcases h with h | h
    · exact ⟨_, h⟩
    · exact ⟨_, h⟩
  obtain ⟨hB, v, hbk, hown, hne⟩ := hAt
  have hl0 : l.length ≠ 0 := by simpa using h0
  rw [Lib.byteCells_length] at hown
  obtain ⟨g, cap, cur, fz, rfl, hbg, hg, hfz, hnc, hcm, hcs, htake⟩ : ∃ g cap cur fz, v = .slice (some ⟨g, 0, none⟩) l.length cap ∧ B ≤ g ∧ w.heap[g]? = some (.cells cur 5 fz) ∧ fz.2 ≤ l.length * 1 ∧ l.length ≤ cap ∧ cap ≤ maxLen ∧ cur.size = cap * 1 ∧ cur.toList.take (l.length * 1) = Lib.byteCells l := by
    rcases hown.2 with ⟨_, hz⟩ | ⟨g, cap, cur, fz, hv, r⟩
    · exact absurd hz hl0
    · exact ⟨g, cap, cur, fz, hv, r⟩
  have c1 : w.drew.cell? ⟨b, 1, none⟩ = some (.slice (some ⟨g, 0, none⟩) l.length cap) := by
    have : w.drew.heap[b]? = some (.cells #[p, .slice (some ⟨g, 0, none⟩) l.length cap] T (0, 0)) := hbk
    rw [Lib.cell_of_heap this]; rfl
  have hSD : (Builtin.unsafeSliceData_ #[41] 89 #[.slice (some ⟨g, 0, none⟩) l.length cap]).run Tryz.prog w.drew = .ok (.pointer (some ⟨g, 0, none⟩)) w.drew :=
    Lib.run_unsafeSliceData_row _ _ _ _ _ _ (by omega)
  have hUS : (Builtin.unsafeString_ #[89, 3] 9 #[.pointer (some ⟨g, 0, none⟩), .int .i64 l.length]).run Tryz.prog w.drew = .ok (.string ⟨l.toArray⟩) (w.drew.freeze ⟨g, 0, none⟩ l.length) := by
    refine Lib.run_unsafeString_row w.drew 89 3 9 5 Tryz.underlying89 Prj.cellsByte g cur.size (by have hg' : w.drew.heap[g]? = some (.cells cur 5 fz) := hg; simp [World.shape?, hg']) l h0 (by omega) (by unfold maxLen at hcm; omega) ?_
    intro j x hx
    have := hown.cells (g := g) rfl j (.int .u8 x.toNat) (by simp [Lib.byteCells, hx])
    exact this
  go_enter Tryz.func17, Tryz.ntmps17
  go_wp2
  go_region
  all_goals (go_wp2; go_ret; exact ⟨rfl, Lib.below_freeze (Below.drew (Below.refl B w)) (p := ⟨g, 0, none⟩) hbg _, ((Lib.OthersKept.refl _ _ w).drew).freeze ⟨g, 0, none⟩ _ ⟨cur, fz, hg⟩⟩)
end Go.Proofs.YtkaoeoeloihigaaGreatDoor

namespace Go.Proofs.YtkaoeoeloihigaaGreatDoor
open Go.RowKit

def Prj.At (g : Nat) (l : List UInt8) (w : World) : Prop := Lib.IsBuilderF 54 5 g g (Lib.byteCells l) w
def Prj.Fr (g : Nat) (w w' : World) : Prop := Below g w w' ∧ Lib.OthersKept 5 (some g) w w'
theorem Prj.Fr.refl (g : Nat) (w : World) : Prj.Fr g w w := ⟨Below.refl g w, Lib.OthersKept.refl _ _ w⟩
theorem Prj.Fr.trans {g : Nat} {a b c : World} (h : Prj.Fr g a b) (k : Prj.Fr g b c) : Prj.Fr g a c := ⟨h.1.trans k.1, h.2.trans k.2⟩
theorem Prj.full_any (g : Nat) (l : List UInt8) (hl : l.length ≤ 100000000) (w : World) (h : Prj.At g l w) :
    Calls Tryz.prog 16 #[.pointer (some ⟨g, 0, none⟩)] w fun e w' => e = .returned (.bool (decide (12000 < l.length))) ∧ w = w' := by
  have hb : decide ((12000 : Int) < (l.length : Int)) = decide (12000 < l.length) := by simp; omega
  go_enter Tryz.func16, Tryz.ntmps16
  go_wp2_with (go_at_call 33; refine (Prj.len g g (Lib.byteCells l) _ h).mono ?_; rintro e w1 ⟨rfl, rfl⟩; rw [Lib.byteCells_length])
  go_ret
  exact ⟨rfl, rfl⟩
theorem Prj.full_b (b : Bool) (g : Nat) (l : List UInt8) (hl : l.length ≤ 100000000) (hb : decide (12000 < l.length) = b) (w : World) (h : Prj.At g l w) :
    Calls Tryz.prog 16 #[.pointer (some ⟨g, 0, none⟩)] w fun e w' => e = .returned (.bool b) ∧ w = w' := by
  rw [← hb]; exact Prj.full_any g l hl w h
def Prj.put1 (l : List UInt8) (x : ByteArray) : List UInt8 := if 12000 < l.length then l else l ++ x.data.toList
def Prj.putL (l : List UInt8) (xs : List ByteArray) : List UInt8 := xs.foldl Prj.put1 l
theorem Prj.putL_full (l : List UInt8) (h : 12000 < l.length) : ∀ xs : List ByteArray, Prj.putL l xs = l
  | [] => rfl
  | x :: r => by
    show Prj.putL (Prj.put1 l x) r = l
    rw [Prj.put1, if_pos h]; exact Prj.putL_full l h r
theorem Prj.putL_app (l : List UInt8) (a b : List ByteArray) : Prj.putL l (a ++ b) = Prj.putL (Prj.putL l a) b := by simp [Prj.putL, List.foldl_append]
theorem Prj.put1_len (l : List UInt8) (x : ByteArray) (hl : l.length ≤ 20000000) (hx : x.size ≤ 15000000) : (Prj.put1 l x).length ≤ 20000000 := by
  unfold Prj.put1
  split
  · exact hl
  · have e : x.data.toList.length = x.size := by simp
    rw [List.length_append, e]; omega
theorem Prj.putL_len : ∀ (xs : List ByteArray) (l : List UInt8), l.length ≤ 20000000 → (∀ x ∈ xs, x.size ≤ 15000000) → (Prj.putL l xs).length ≤ 20000000
  | [], l, hl, _ => hl
  | x :: r, l, hl, h => Prj.putL_len r (Prj.put1 l x) (Prj.put1_len l x hl (h x (by simp))) (fun y hy => h y (by simp [hy]))
def Prj.Txts (g : Nat) (w : World) (v : Value) (xs : List ByteArray) : Prop := ∃ gu uc cs, v = .slice (some ⟨gu, 0, none⟩) xs.length uc ∧ gu ≠ g ∧ w.heap[gu]? = some (.cells cs 9 (0, 0)) ∧ ∀ j (h : j < xs.length), cs[j]? = some (.string xs[j])
theorem Prj.str_ne : 9 ≠ 5 := by decide
theorem Prj.Txts.fr {g : Nat} {w w' : World} {v : Value} {xs : List ByteArray} (h : Prj.Txts g w v xs) (hf : Prj.Fr g w w') : Prj.Txts g w' v xs := by
  obtain ⟨gu, uc, cs, he, hne, hh, hc⟩ := h
  exact ⟨gu, uc, cs, he, hne, hf.2 gu _ hh (by simpa using hne) (fun c fz hcc => by injection hcc with _ h2; exact Prj.str_ne h2), hc⟩
set_option maxRecDepth 100000 in
set_option maxHeartbeats 2000000 in
theorem Prj.put_any (g : Nat) (l : List UInt8) (hl : l.length ≤ 20000000) (xs : List ByteArray) (hn : xs.length ≤ 1000) (hx : ∀ x ∈ xs, x.size ≤ 15000000) (v : Value) (w : World) (HT : Hid (Prj.Txts g w v xs)) (HA : Hid (Prj.At g l w)) (hg : g ≤ w.heap.size) :
    Calls Tryz.prog 31 #[.pointer (some ⟨g, 0, none⟩), v] w fun e w' => e = .returned (.tuple #[]) ∧ Prj.At g (Prj.putL l xs) w' ∧ Prj.Fr g w w' := by
  obtain ⟨gu, uc, cs, rfl, hne, hh, hc⟩ := HT.out
  obtain ⟨n, HN⟩ : ∃ n, Hid (xs.length = n) := ⟨_, rfl⟩
  rw [HN.out] at hn
  have HC : Hid (∀ j (h : j < xs.length), cs[j]? = some (.string xs[j])) := hc
  have HX : Hid (∀ x ∈ xs, x.size ≤ 15000000) := hx
  clear hc hx
  simp only [HN.out]
  go_enter Tryz.func31, Tryz.ntmps31
  go_wp2
  go_loopw [8] (fun i wr => ∃ (j : Nat) (l' : List UInt8), i = .int .i64 (j : Int) ∧ j ≤ n ∧ l' = Prj.putL l (xs.take j) ∧ Prj.At g l' wr ∧ Prj.Fr g w wr) (fun i _ => n - (intOf i).toNat)
  case atStart => exact ⟨0, l, rfl, by omega, by simp [Prj.putL], HA.out, Prj.Fr.refl g w⟩
  case round =>
    obtain ⟨j, l', rfl, hj, hl', hA, hF⟩ := hrel
    have hlen : l'.length ≤ 20000000 := by rw [hl']; exact Prj.putL_len _ l hl (fun x hx => HX.out x (List.mem_of_mem_take hx))
    have hgr : g ≤ wr.heap.size := Nat.le_trans hg hF.1.size
    by_cases hjn : j < n
    · have hjk : j < xs.length := by rw [HN.out]; exact hjn
      have hc1 := HC.out j hjk
      have hx1 := HX.out xs[j] (List.getElem_mem hjk)
      have hh2 : wr.heap[gu]? = some (.cells cs 9 (0, 0)) := hF.2 gu _ hh (by simpa using hne) (fun c fz hcc => by injection hcc with _ h2; exact Prj.str_ne h2)
      have e2 : xs.take j ++ [xs[j]] = xs.take (j + 1) := by rw [List.take_add_one, List.getElem?_eq_getElem hjk]; rfl
      have e3 : xs.take (j + 1) ++ xs.drop (j + 1) = xs := List.take_append_drop _ _
      have HU : Hid (Prj.put1 l' xs[j] = Prj.putL l (xs.take (j + 1))) := by rw [Hid, ← e2, Prj.putL_app, ← hl']; rfl
      have HE : Hid (12000 < l'.length → l' = Prj.putL l xs) := fun h12 => by
        have h5 : Prj.putL l (xs.take j ++ xs.drop j) = Prj.putL (Prj.putL l (xs.take j)) (xs.drop j) := Prj.putL_app l _ _
        rw [List.take_append_drop, ← hl', Prj.putL_full l' h12] at h5
        exact h5.symm
      generalize xs[j] = x at *
      have c1 : wr.cell? ⟨gu, j, none⟩ = some (.string x) := by rw [Lib.cell_of_heap hh2]; exact hc1
      clear hl' e2 e3
      by_cases h12 : 12000 < l'.length
      · have hd : decide (12000 < l'.length) = true := decide_eq_true h12
        have HE2 := HE.out h12
        go_wp2_with (go_at_call 16; refine (Prj.full_b true g l' (by omega) hd _ hA).mono ?_; rintro e w1 ⟨rfl, rfl⟩)
        exact bodyPost_ret (v := .tuple #[]) (by simp [results, Tryz.results31, go_sem]) rfl ⟨rfl, by rw [← HE2]; exact hA, hF⟩
      · have hd : decide (12000 < l'.length) = false := decide_eq_false h12
        have HU2 : Hid (l' ++ x.data.toList = Prj.putL l (xs.take (j + 1))) := by
          have := HU.out
          rw [Prj.put1, if_neg h12] at this
          exact this
        go_wp2_with (first
          | (go_at_call 16; refine (Prj.full_b false g l' (by omega) hd _ hA).mono ?_; rintro e w1 ⟨rfl, rfl⟩)
          | (go_at_call 55; refine (Prj.writeString g g (Lib.byteCells l') x _ hA (by rw [Lib.byteCells_length]; omega) hgr).mono ?_; rintro e w1 ⟨rfl, k1, k2, k3⟩))
        have hA2 : Prj.At g (l' ++ x.data.toList) w1 := by
          rw [Prj.At, Pr.byteCells_app, ← Pr.strCells_eq]; exact .inr k1
        go_roundw
        case rel => exact ⟨j + 1, _, by go_num, by omega, HU2.out, hA2, hF.trans ⟨k2, k3⟩⟩
        case measure => simp [intOf]; omega
    · have HE : Hid (l' = Prj.putL l xs) := by rw [Hid, hl', List.take_of_length_le (by rw [HN.out]; omega)]
      go_wp2
      go_end0
      exact ⟨rfl, by rw [← HE.out]; exact hA, hF⟩
end Go.Proofs.YtkaoeoeloihigaaGreatDoor

namespace Go.Proofs.YtkaoeoeloihigaaGreatDoor
open Go.RowKit

theorem Prj.and15 (n : Nat) (h : n < 256) : Go.bits BinOp.and IntKind.u8 (n : Int) 15 = (n : Int) % 16 := by
  show IntKind.u8.wrap ((BitVec.ofInt 8 (n : Int) &&& BitVec.ofInt 8 15).toNat : Int) = _
  have h1 : (BitVec.ofInt 8 (n : Int)).toNat = n := by
    rw [BitVec.ofInt_natCast, BitVec.toNat_ofNat]; exact Nat.mod_eq_of_lt (by omega)
  have h2 : (BitVec.ofInt 8 15).toNat = 15 := by decide
  rw [BitVec.toNat_and, h1, h2, Nat.and_two_pow_sub_one_eq_mod n 4, IntKind.wrap_u8]
  omega
theorem Prj.bare_cases (c : Int) (h : Mill.bare c = false) : c < 32 ∨ (32 ≤ c ∧ 126 < c) ∨ c = 34 ∨ c = 92 := by
  simp [Mill.bare] at h
  omega
theorem Prj.bare_not (c : Int) (h : Mill.bare c = true) : ¬ c < 32 ∧ ¬ 126 < c ∧ c ≠ 34 ∧ c ≠ 92 := by
  simp [Mill.bare] at h
  omega
theorem Prj.at_snoc {T : TypeId} {g : Nat} {l : List UInt8} {b : UInt8} {w : World} {c : Int} (hc : c = (b.toNat : Int)) (h : Lib.BuilderAtF T 5 g g (.pointer (some ⟨g, 0, none⟩)) (Lib.byteCells l ++ [.int .u8 c]) w) : Lib.IsBuilderF T 5 g g (Lib.byteCells (l ++ [b])) w := by
  rw [Mill.byteCells_snoc, ← hc]; exact .inr h
set_option maxRecDepth 100000 in
set_option maxHeartbeats 4000000 in
theorem Prj.quoted_any (s : ByteArray) (hs : s.size ≤ 1048576) (w : World) :
    Calls Tryz.prog 90 #[.string s] w fun e w' => e = .returned (.string (Pr.quote s)) ∧ Below w.heap.size w w' := by
  have hB0 : Lib.IsBuilderF 52 5 w.heap.size w.heap.size (Lib.byteCells []) (w.alloc (.cells #[.pointer none, .slice none 0 0] 52)) := Lib.IsBuilderF.of (Lib.fresh_isBuilder 52 5 w)
  have hal : Below w.heap.size w (w.alloc (.cells #[.pointer none, .slice none 0 0] 52)) := (Below.refl _ w).alloc (Nat.le_refl _) _
  go_enter Tryz.func90, Tryz.ntmps90
  go_wp2_with (go_at_call 101; refine (Prj.writeByteT 52 Prj.liesB Prj.neBB w.heap.size w.heap.size (Lib.byteCells []) 34 _ hB0 (by simp [Lib.byteCells]) (by simp)).mono ?_; rintro e w1 ⟨rfl, k1, k2, k3⟩)
  go_loopw [9] (fun i wr => ∃ (j : Nat) (acc : List UInt8), i = .int .i64 (j : Int) ∧ j ≤ s.size ∧ acc = 34 :: Pr.qs (s.data.toList.take j) ∧ Lib.IsBuilderF 52 5 w.heap.size w.heap.size (Lib.byteCells acc) wr ∧ Below w.heap.size w wr) (fun i _ => s.size - (intOf i).toNat)
  case atStart => exact ⟨0, [34], rfl, by omega, by simp [Pr.qs], Prj.at_snoc (l := []) (b := 34) rfl k1, hal.trans k2⟩
  case round =>
    obtain ⟨j, acc, rfl, hj, hacc, hI, hbw⟩ := hrel
    have hsz := hbw.size
    have hlen : acc.length ≤ 3145729 := by
      have := Pr.qs_len (s.data.toList.take j)
      rw [hacc]; simp at this ⊢; omega
    by_cases hjs : j < s.size
    · have hc0 : s[j].toNat < 256 := UInt8.toNat_lt _
      cases hb : Mill.bare (s[j].toNat : Int) with
      | true =>
        have HU : Hid (acc ++ [s[j]] = 34 :: Pr.qs (s.data.toList.take (j + 1))) := by rw [Hid, Pr.qs_snoc s j hjs, hacc, Pr.q1, if_pos hb]; rfl
        obtain ⟨x1, x2, x3, x4⟩ := Prj.bare_not _ hb
        have y1 : decide ((s[j].toNat : Int) < 32) = false := decide_eq_false x1
        have y2 : decide (126 < (s[j].toNat : Int)) = false := decide_eq_false x2
        have y3 : ((s[j].toNat : Int) == 34) = false := by simpa using x3
        have y4 : ((s[j].toNat : Int) == 92) = false := by simpa using x4
        clear hacc
        go_wp2_with (go_at_call 101; refine (Prj.writeByteT 52 Prj.liesB Prj.neBB w.heap.size w.heap.size (Lib.byteCells acc) (s[j].toNat : Int) _ hI (by rw [Lib.byteCells_length]; omega) hsz).mono ?_; rintro e w2 ⟨rfl, m1, m2, m3⟩)
        go_roundw
        case rel => exact ⟨j + 1, _, by go_num, by omega, HU.out, Prj.at_snoc rfl m1, hbw.trans m2⟩
        case measure => simp [intOf]; omega
      | false =>
        have HU : Hid (acc ++ [92] ++ [Pr.hexD (s[j].toNat / 16)] ++ [Pr.hexD (s[j].toNat % 16)] = 34 :: Pr.qs (s.data.toList.take (j + 1))) := by rw [Hid, Pr.qs_snoc s j hjs, hacc, Pr.q1, if_neg (by rw [hb]; decide)]; simp
        have hq1 : (0 : Int) ≤ (s[j].toNat : Int) / 16 := by omega
        have hq2 : (s[j].toNat : Int) / 16 < 16 := by omega
        have hq3 : (0 : Int) ≤ (s[j].toNat : Int) % 16 := by omega
        have hq4 : (s[j].toNat : Int) % 16 < 16 := by omega
        have hq5 : ((s[j].toNat : Int) / 16).toNat = s[j].toNat / 16 := by omega
        have hq6 : ((s[j].toNat : Int) % 16).toNat = s[j].toNat % 16 := by omega
        have hand := Prj.and15 s[j].toNat hc0
        have hx1 : ∀ (h : s[j].toNat / 16 < (⟨#[48, 49, 50, 51, 52, 53, 54, 55, 56, 57, 97, 98, 99, 100, 101, 102]⟩ : ByteArray).size), (⟨#[48, 49, 50, 51, 52, 53, 54, 55, 56, 57, 97, 98, 99, 100, 101, 102]⟩ : ByteArray)[s[j].toNat / 16]'h = Pr.hexD (s[j].toNat / 16) := fun h => Pr.dig _ (by omega) h
        have hx2 : ∀ (h : s[j].toNat % 16 < (⟨#[48, 49, 50, 51, 52, 53, 54, 55, 56, 57, 97, 98, 99, 100, 101, 102]⟩ : ByteArray).size), (⟨#[48, 49, 50, 51, 52, 53, 54, 55, 56, 57, 97, 98, 99, 100, 101, 102]⟩ : ByteArray)[s[j].toNat % 16]'h = Pr.hexD (s[j].toNat % 16) := fun h => Pr.dig _ (by omega) h
        clear hacc
        rcases Prj.bare_cases _ hb with x | ⟨x, x'⟩ | x | x
        · have y1 : decide ((s[j].toNat : Int) < 32) = true := decide_eq_true x
          go_upto_region 9 with (first
            | (go_at_call 101; refine (Prj.writeByteT 52 Prj.liesB Prj.neBB w.heap.size w.heap.size (Lib.byteCells acc) 92 _ hI (by rw [Lib.byteCells_length]; omega) hsz).mono ?_; rintro e w2 ⟨rfl, m1, m2, m3⟩))
          have hI2 := Prj.at_snoc (b := 92) rfl m1
          have hb2 := hbw.trans m2
          have hz2 := hb2.size
          go_upto_region 10 with (first
            | (go_at_call 101; refine (Prj.writeByteT 52 Prj.liesB Prj.neBB w.heap.size w.heap.size (Lib.byteCells (acc ++ [92])) ((Pr.hexD (s[j].toNat / 16)).toNat : Int) _ hI2 (by rw [Lib.byteCells_length]; simp; omega) hz2).mono ?_; rintro e w3 ⟨rfl, p1, p2, p3⟩))
          have hI3 := Prj.at_snoc (b := Pr.hexD (s[j].toNat / 16)) rfl p1
          have hb3 := hb2.trans p2
          have hz3 := hb3.size
          go_upto_region 11 with fail
          go_wp2_with (first
            | (go_at_call 101; refine (Prj.writeByteT 52 Prj.liesB Prj.neBB w.heap.size w.heap.size (Lib.byteCells (acc ++ [92] ++ [Pr.hexD (s[j].toNat / 16)])) ((Pr.hexD (s[j].toNat % 16)).toNat : Int) _ hI3 (by rw [Lib.byteCells_length]; simp; omega) hz3).mono ?_; rintro e w4 ⟨rfl, q1, q2, q3⟩))
          go_roundw
          case rel => exact ⟨j + 1, _, by go_num, by omega, HU.out, Prj.at_snoc rfl q1, hb3.trans q2⟩
          case measure => simp [intOf]; omega
        · have y1 : decide ((s[j].toNat : Int) < 32) = false := decide_eq_false (by omega)
          have y2 : decide (126 < (s[j].toNat : Int)) = true := decide_eq_true x'
          go_upto_region 9 with (first
            | (go_at_call 101; refine (Prj.writeByteT 52 Prj.liesB Prj.neBB w.heap.size w.heap.size (Lib.byteCells acc) 92 _ hI (by rw [Lib.byteCells_length]; omega) hsz).mono ?_; rintro e w2 ⟨rfl, m1, m2, m3⟩))
          have hI2 := Prj.at_snoc (b := 92) rfl m1
          have hb2 := hbw.trans m2
          have hz2 := hb2.size
          go_upto_region 10 with (first
            | (go_at_call 101; refine (Prj.writeByteT 52 Prj.liesB Prj.neBB w.heap.size w.heap.size (Lib.byteCells (acc ++ [92])) ((Pr.hexD (s[j].toNat / 16)).toNat : Int) _ hI2 (by rw [Lib.byteCells_length]; simp; omega) hz2).mono ?_; rintro e w3 ⟨rfl, p1, p2, p3⟩))
          have hI3 := Prj.at_snoc (b := Pr.hexD (s[j].toNat / 16)) rfl p1
          have hb3 := hb2.trans p2
          have hz3 := hb3.size
          go_upto_region 11 with fail
          go_wp2_with (first
            | (go_at_call 101; refine (Prj.writeByteT 52 Prj.liesB Prj.neBB w.heap.size w.heap.size (Lib.byteCells (acc ++ [92] ++ [Pr.hexD (s[j].toNat / 16)])) ((Pr.hexD (s[j].toNat % 16)).toNat : Int) _ hI3 (by rw [Lib.byteCells_length]; simp; omega) hz3).mono ?_; rintro e w4 ⟨rfl, q1, q2, q3⟩))
          go_roundw
          case rel => exact ⟨j + 1, _, by go_num, by omega, HU.out, Prj.at_snoc rfl q1, hb3.trans q2⟩
          case measure => simp [intOf]; omega
        · have y1 : decide ((s[j].toNat : Int) < 32) = false := decide_eq_false (by omega)
          have y2 : decide (126 < (s[j].toNat : Int)) = false := decide_eq_false (by omega)
          have y3 : ((s[j].toNat : Int) == 34) = true := by simpa using x
          clear x
          go_upto_region 9 with (first
            | (go_at_call 101; refine (Prj.writeByteT 52 Prj.liesB Prj.neBB w.heap.size w.heap.size (Lib.byteCells acc) 92 _ hI (by rw [Lib.byteCells_length]; omega) hsz).mono ?_; rintro e w2 ⟨rfl, m1, m2, m3⟩))
          have hI2 := Prj.at_snoc (b := 92) rfl m1
          have hb2 := hbw.trans m2
          have hz2 := hb2.size
          go_upto_region 10 with (first
            | (go_at_call 101; refine (Prj.writeByteT 52 Prj.liesB Prj.neBB w.heap.size w.heap.size (Lib.byteCells (acc ++ [92])) ((Pr.hexD (s[j].toNat / 16)).toNat : Int) _ hI2 (by rw [Lib.byteCells_length]; simp; omega) hz2).mono ?_; rintro e w3 ⟨rfl, p1, p2, p3⟩))
          have hI3 := Prj.at_snoc (b := Pr.hexD (s[j].toNat / 16)) rfl p1
          have hb3 := hb2.trans p2
          have hz3 := hb3.size
          go_upto_region 11 with fail
          go_wp2_with (first
            | (go_at_call 101; refine (Prj.writeByteT 52 Prj.liesB Prj.neBB w.heap.size w.heap.size (Lib.byteCells (acc ++ [92] ++ [Pr.hexD (s[j].toNat / 16)])) ((Pr.hexD (s[j].toNat % 16)).toNat : Int) _ hI3 (by rw [Lib.byteCells_length]; simp; omega) hz3).mono ?_; rintro e w4 ⟨rfl, q1, q2, q3⟩))
          go_roundw
          case rel => exact ⟨j + 1, _, by go_num, by omega, HU.out, Prj.at_snoc rfl q1, hb3.trans q2⟩
          case measure => simp [intOf]; omega
        · have y1 : decide ((s[j].toNat : Int) < 32) = false := decide_eq_false (by omega)
          have y2 : decide (126 < (s[j].toNat : Int)) = false := decide_eq_false (by omega)
          have y3 : ((s[j].toNat : Int) == 34) = false := by simp; omega
          have y4 : ((s[j].toNat : Int) == 92) = true := by simpa using x
          clear x
          go_upto_region 9 with (first
            | (go_at_call 101; refine (Prj.writeByteT 52 Prj.liesB Prj.neBB w.heap.size w.heap.size (Lib.byteCells acc) 92 _ hI (by rw [Lib.byteCells_length]; omega) hsz).mono ?_; rintro e w2 ⟨rfl, m1, m2, m3⟩))
          have hI2 := Prj.at_snoc (b := 92) rfl m1
          have hb2 := hbw.trans m2
          have hz2 := hb2.size
          go_upto_region 10 with (first
            | (go_at_call 101; refine (Prj.writeByteT 52 Prj.liesB Prj.neBB w.heap.size w.heap.size (Lib.byteCells (acc ++ [92])) ((Pr.hexD (s[j].toNat / 16)).toNat : Int) _ hI2 (by rw [Lib.byteCells_length]; simp; omega) hz2).mono ?_; rintro e w3 ⟨rfl, p1, p2, p3⟩))
          have hI3 := Prj.at_snoc (b := Pr.hexD (s[j].toNat / 16)) rfl p1
          have hb3 := hb2.trans p2
          have hz3 := hb3.size
          go_upto_region 11 with fail
          go_wp2_with (first
            | (go_at_call 101; refine (Prj.writeByteT 52 Prj.liesB Prj.neBB w.heap.size w.heap.size (Lib.byteCells (acc ++ [92] ++ [Pr.hexD (s[j].toNat / 16)])) ((Pr.hexD (s[j].toNat % 16)).toNat : Int) _ hI3 (by rw [Lib.byteCells_length]; simp; omega) hz3).mono ?_; rintro e w4 ⟨rfl, q1, q2, q3⟩))
          go_roundw
          case rel => exact ⟨j + 1, _, by go_num, by omega, HU.out, Prj.at_snoc rfl q1, hb3.trans q2⟩
          case measure => simp [intOf]; omega
    · have HU : Hid (acc ++ [34] = 34 :: Pr.qs s.data.toList ++ [34]) := by
        rw [Hid, hacc, List.take_of_length_le (by simp; omega)]
      clear hacc
      go_wp2_with (first
        | (go_at_call 101; refine (Prj.writeByteT 52 Prj.liesB Prj.neBB w.heap.size w.heap.size (Lib.byteCells acc) 34 _ hI (by rw [Lib.byteCells_length]; omega) hsz).mono ?_; rintro e w2 ⟨rfl, m1, m2, m3⟩
           have hI2 := Prj.at_snoc (b := 34) rfl m1)
        | (go_at_call 17; refine (Prj.stringT 52 w.heap.size w.heap.size (acc ++ [34]) _ hI2 (by simp)).mono ?_; rintro e w3 ⟨rfl, p1, p2⟩))
      go_ret
      exact ⟨by rw [Pr.quote, ← HU.out]; rfl, (hbw.trans m2).trans p1⟩
end Go.Proofs.YtkaoeoeloihigaaGreatDoor

namespace Go.Proofs.YtkaoeoeloihigaaGreatDoor
open Go.RowKit

/-- l' is what a printer that held l holds when a text T has been put. -/
def Prj.Adds (l T l' : List UInt8) : Prop := (12000 < l.length → l' = l) ∧ (l.length + T.length ≤ 12000 → l' = l ++ T) ∧ (12000 < l.length + T.length → 12000 < l'.length) ∧ l'.length ≤ 20000000
theorem Prj.Adds.trans {l T a U b : List UInt8} (h : Prj.Adds l T a) (k : Prj.Adds a U b) : Prj.Adds l (T ++ U) b := by
  obtain ⟨h1, h2, h3, h4⟩ := h
  obtain ⟨k1, k2, k3, k4⟩ := k
  refine ⟨fun hl => ?_, fun hl => ?_, fun hl => ?_, k4⟩
  · have := h1 hl
    rw [k1 (by rw [this]; exact hl), this]
  · rw [List.length_append] at hl
    have e := h2 (by omega)
    rw [k2 (by rw [e, List.length_append]; omega), e, List.append_assoc]
  · rw [List.length_append] at hl
    by_cases h5 : 12000 < l.length + T.length
    · have h6 := h3 h5
      rw [k1 h6]; exact h6
    · have e := h2 (by omega)
      exact k3 (by rw [e, List.length_append]; omega)
theorem Prj.Adds.nil {l : List UInt8} (h : l.length ≤ 20000000) : Prj.Adds l [] l := ⟨fun _ => rfl, fun _ => by simp, fun h => by simpa using h, h⟩
theorem Prj.Adds.full {l T : List UInt8} (h : l.length ≤ 20000000) (hf : 12000 < l.length) : Prj.Adds l T l := ⟨fun _ => rfl, fun h => by omega, fun _ => hf, h⟩
theorem Prj.adds1 (l : List UInt8) (x : ByteArray) (hl : l.length ≤ 20000000) (hx : x.size ≤ 15000000) : Prj.Adds l x.data.toList (Prj.put1 l x) := by
  have e : x.data.toList.length = x.size := by simp
  have hlen := Prj.put1_len l x hl hx
  by_cases h : 12000 < l.length
  · have hp : Prj.put1 l x = l := by rw [Prj.put1, if_pos h]
    rw [hp]; exact Prj.Adds.full hl h
  · have hp : Prj.put1 l x = l ++ x.data.toList := by rw [Prj.put1, if_neg h]
    rw [hp] at hlen ⊢
    exact ⟨fun h2 => absurd h2 h, fun _ => rfl, fun h2 => by rw [List.length_append]; exact h2, hlen⟩
theorem Prj.addsL : ∀ (xs : List ByteArray) (l : List UInt8), l.length ≤ 20000000 → (∀ x ∈ xs, x.size ≤ 15000000) → Prj.Adds l (xs.flatMap (fun x => x.data.toList)) (Prj.putL l xs)
  | [], l, hl, _ => by simpa [Prj.putL] using Prj.Adds.nil hl
  | x :: r, l, hl, h => by
    rw [List.flatMap_cons]
    exact (Prj.adds1 l x hl (h x (by simp))).trans (Prj.addsL r (Prj.put1 l x) (Prj.put1_len l x hl (h x (by simp))) (fun y hy => h y (by simp [hy])))
theorem Prj.Adds.eq {l T U l' : List UInt8} (h : Prj.Adds l T l') (e : T = U) : Prj.Adds l U l' := e ▸ h
/-- put, with what it adds. -/
theorem Prj.put_adds (g : Nat) (l : List UInt8) (hl : l.length ≤ 20000000) (xs : List ByteArray) (hn : xs.length ≤ 1000) (hx : ∀ x ∈ xs, x.size ≤ 15000000) (v : Value) (w : World) (HT : Hid (Prj.Txts g w v xs)) (HA : Hid (Prj.At g l w)) (hg : g ≤ w.heap.size) :
    Calls Tryz.prog 31 #[.pointer (some ⟨g, 0, none⟩), v] w fun e w' => ∃ l', e = .returned (.tuple #[]) ∧ Prj.At g l' w' ∧ Prj.Adds l (xs.flatMap (fun x => x.data.toList)) l' ∧ Prj.Fr g w w' := by
  refine (Prj.put_any g l hl xs hn hx v w HT HA hg).mono ?_
  rintro e w' ⟨rfl, h1, h2⟩
  exact ⟨_, rfl, h1, Prj.addsL xs l hl hx, h2⟩
/-- The block of a variadic call's texts. -/
theorem Prj.txts_new (g : Nat) (w : World) (xs : List ByteArray) (cs : Array Value) (hg : g < w.heap.size) (hc : ∀ j (h : j < xs.length), cs[j]? = some (.string xs[j])) : Prj.Txts g (w.alloc (.cells cs 9)) (.slice (some ⟨w.heap.size, 0, none⟩) xs.length xs.length) xs :=
  ⟨w.heap.size, xs.length, cs, rfl, by omega, Val.new_at w _, hc⟩
theorem Prj.pr_ne : 54 ≠ 9 := by decide
theorem Prj.At.alloc {g : Nat} {l : List UInt8} {w : World} (h : Prj.At g l w) (o : Obj) : Prj.At g l (w.alloc o) := by
  have key : ∀ p, Lib.BuilderAtF 54 5 g g p (Lib.byteCells l) w → Lib.BuilderAtF 54 5 g g p (Lib.byteCells l) (w.alloc o) := by
    rintro p ⟨hB, v, hbk, hown, hne⟩
    exact ⟨hB, v, (((Below.refl w.heap.size w).alloc (Nat.le_refl _) o).block g (Array.getElem?_eq_some_iff.1 hbk).1).trans hbk, hown.alloc o, hne⟩
  rcases h with h | h
  · exact .inl (key _ h)
  · exact .inr (key _ h)
theorem Prj.At.lt {g : Nat} {l : List UInt8} {w : World} (h : Prj.At g l w) : g < w.heap.size := by
  rcases h with ⟨_, v, hbk, _⟩ | ⟨_, v, hbk, _⟩ <;> exact (Array.getElem?_eq_some_iff.1 hbk).1
theorem Prj.Fr.alloc {g : Nat} {w w' : World} (h : Prj.Fr g w w') (hg : g ≤ w.heap.size) (o : Obj) : Prj.Fr g w (w'.alloc o) := ⟨h.1.alloc (Nat.le_trans hg h.1.size) o, h.2.alloc o⟩
end Go.Proofs.YtkaoeoeloihigaaGreatDoor
