import Derived.Test.YtihiimgbdmkjmaaGreatDoorKCgD
import Derived.Test.YtihiimgbdmkjmaaGreatDoorKCeA
import Derived.Test.YtihiimgbdmkjmaaGreatDoorKCgG
import Derived.Test.YtihiimgbdmkjmaaGreatDoorKCfF
namespace Go.Proofs.YtihiimgbdmkjmaaGreatDoor
open Go.RowKit

theorem Cd.bs_at (l : List Int) (hs : Cd.small l) (i : Nat) (hi : i < l.length) (hb : i < (Cd.bs l).size) : (((Cd.bs l)[i]'hb).toNat : Int) = l[i] := by
  have h := hs _ (List.getElem_mem hi)
  have e : (Cd.bs l)[i]'hb = UInt8.ofNat l[i].toNat := by
    rw [ByteArray.getElem_eq_getElem_data]
    simp [Cd.bs]
  rw [e, UInt8.toNat_ofNat']
  omega
set_option maxRecDepth 100000 in
set_option maxHeartbeats 1000000 in
theorem Cd.typesIn_any (l : List Int) (hs : Cd.small l) (hl : l.length ≤ 1048576) (w : World) :
    Calls Tryz.prog 20 #[.string (Cd.bs l)] w fun e w' => e = .returned (.slice (some ⟨w.heap.size, 0, none⟩) l.length l.length) ∧ w'.ownsRow w.heap.size 3 1 (.slice (some ⟨w.heap.size, 0, none⟩) l.length l.length) l.length (Cd.ints l) ∧ Below w.heap.size w w' := by
  have hmk := Cd.make_is (P := Tryz.prog) Tryz.infoIntC Tryz.underlying41 l.length (by omega) (by omega)
  obtain ⟨mc, hmc⟩ : ∃ m, madeCells (Value.int .i64 0).cells (l.length * 1) = m := ⟨_, rfl⟩
  have HMS : Hid (mc.size = l.length) := by rw [Hid, ← hmc, size_madeCells, Nat.mul_one]
  rw [hmc] at hmk
  clear hmc
  have HAT : Hid (∀ i (hi : i < l.length) (hb : i < (Cd.bs l).size), (((Cd.bs l)[i]'hb).toNat : Int) = l[i]) := fun i hi hb => Cd.bs_at l hs i hi hb
  have hsz := Cd.bs_size l
  obtain ⟨b, hb⟩ : ∃ b, Cd.bs l = b := ⟨_, rfl⟩
  rw [hb] at hsz HAT ⊢
  clear hb
  go_enter Tryz.func20, Tryz.ntmps20
  go_wp2_with fail
  obtain ⟨V0, hV0⟩ : ∃ V, w.alloc (.cells mc 3) = V := ⟨_, rfl⟩
  rw [hV0]
  have HV0 : Hid (Cd.Rw w.heap.size 3 l.length V0 mc ∧ Below w.heap.size w V0) := ⟨⟨by rw [← hV0]; exact Cd.new_at w _, HMS.out⟩, by rw [← hV0]; exact Cd.b1 w _⟩
  clear hV0 hmk
  go_loopw [10] (fun t wr => ∃ (i : Nat) (cur : Array Value), i ≤ l.length ∧ t = .int .i64 (i : Int) ∧ Cd.Rw w.heap.size 3 l.length wr cur ∧ Hid (∀ j (hj : j < l.length), j < i → cur[j]? = some (.int .i64 l[j])) ∧ Below w.heap.size w wr) (fun t _ => l.length - (intOf t).toNat)
  case atStart => exact ⟨0, mc, by omega, rfl, HV0.out.1, fun j hj h => by omega, HV0.out.2⟩
  case round =>
    obtain ⟨i, cur, hi, rfl, hrw, HCS, hbw⟩ := hrel
    by_cases hlt : i < l.length
    · have hltI : (i : Int) < (l.length : Int) := by omega
      have hib : i < b.size := by omega
      have hibI : (i : Int) < (b.size : Int) := by omega
      have hat := HAT.out i hlt hib
      obtain ⟨y, hy⟩ : ∃ y, b[i] = y := ⟨_, rfl⟩
      rw [hy] at hat
      have hyl : y.toNat < 256 := y.toNat_lt
      obtain ⟨⟨y0, k0⟩, f0⟩ := hrw.cell i hlt
      have HST : Hid (Cd.Rw w.heap.size 3 l.length (wr.setCell ⟨w.heap.size, i, none⟩ (.int .i64 (y.toNat : Int))) (cur.setIfInBounds i (.int .i64 (y.toNat : Int)))) := hrw.store i _
      have HC2 : Hid (∀ j (hj : j < l.length), j < i + 1 → (cur.setIfInBounds i (.int .i64 (y.toNat : Int)))[j]? = some (.int .i64 l[j])) := fun j hj h => by
        rw [Array.getElem?_setIfInBounds]
        by_cases e : i = j
        · subst e; rw [if_pos rfl, if_pos (by rw [hrw.size]; exact hlt), hat]
        · rw [if_neg e]; exact HCS.out j hj (by omega)
      clear hat hrw
      go_wp2_with fail
      go_roundw
      case rel => exact ⟨i + 1, _, by omega, by go_num, HST.out, HC2, hbw.setCell (p := ⟨w.heap.size, i, none⟩) (Nat.le_refl _) _⟩
      case measure => simp [intOf]; omega
    · have hltI : ¬ (i : Int) < (l.length : Int) := by omega
      have HEND : Hid (wr.ownsRow w.heap.size 3 1 (.slice (some ⟨w.heap.size, 0, none⟩) l.length l.length) l.length (Cd.ints l)) := by
        refine ⟨by simp [Cd.ints], .inr ⟨w.heap.size, l.length, cur, rfl, Nat.le_refl _, hrw.blk, Nat.le_refl _, by unfold maxLen; omega, by rw [hrw.size, Nat.mul_one], ?_⟩⟩
        apply List.ext_getElem?
        intro j
        rw [Nat.mul_one, List.getElem?_take, Array.getElem?_toList]
        by_cases hj : j < l.length
        · rw [if_pos hj, HCS.out j hj (by omega)]; simp [Cd.ints, List.getElem?_eq_getElem hj]
        · rw [if_neg hj, List.getElem?_eq_none (by simp [Cd.ints]; omega)]
      clear hrw
      go_wp2_with fail
      go_ret
      exact ⟨rfl, HEND.out, hbw⟩
end Go.Proofs.YtihiimgbdmkjmaaGreatDoor
namespace Go.Proofs.YtihiimgbdmkjmaaGreatDoor
open Go.RowKit

def Cd.sl : Cd.Sh → List Int
  | .known s _ => s
  | _ => []
def Cd.kl : Cd.Sh → List Int
  | .known _ k => k
  | _ => []
/-- A row of shapes as Shapes answers it: each list in a row of its own. -/
def Cd.OutAt (B : Nat) (w : World) (v : Value) (X : List Cd.Sh) : Prop :=
  ∃ a cap, v = .slice a X.length cap ∧ ∀ u (hu : u < X.length), ∃ g sa sc ka kc, a = some ⟨g, 0, none⟩ ∧ g < B ∧ (w.cell? ⟨g, u * 3, none⟩ = some (.int .i64 (Cd.st X[u])) ∧ w.cell? ⟨g, u * 3 + 1, none⟩ = some (.slice sa (Cd.sl X[u]).length sc) ∧ w.cell? ⟨g, u * 3 + 2, none⟩ = some (.slice ka (Cd.kl X[u]).length kc)) ∧ Cd.IntsAt B w (.slice sa (Cd.sl X[u]).length sc) (Cd.sl X[u]) ∧ Cd.IntsAt B w (.slice ka (Cd.kl X[u]).length kc) (Cd.kl X[u])
theorem Cd.OutAt.below {B : Nat} {w w' : World} {v : Value} {X : List Cd.Sh} (h : Cd.OutAt B w v X) (hb : Below B w w') : Cd.OutAt B w' v X := by
  obtain ⟨a, cap, rfl, hc⟩ := h
  refine ⟨a, cap, rfl, fun u hu => ?_⟩
  obtain ⟨g, sa, sc, ka, kc, ha, hg, ⟨h1, h2, h3⟩, h4, h5⟩ := hc u hu
  exact ⟨g, sa, sc, ka, kc, ha, hg, ⟨by rw [hb.cell (p := ⟨g, u * 3, none⟩) hg]; exact h1, by rw [hb.cell (p := ⟨g, u * 3 + 1, none⟩) hg]; exact h2, by rw [hb.cell (p := ⟨g, u * 3 + 2, none⟩) hg]; exact h3⟩, h4.below hb, h5.below hb⟩
set_option maxRecDepth 100000 in
set_option maxHeartbeats 1000000 in
theorem Cd.eqShape_same (st : Int) (s k : List Int) (B : Nat) (pa pb ia ib : Option Addr) (pc pd ic id' : Nat) (w : World) (hB : B ≤ w.heap.size) (hp : Cd.IntsAt B w (.slice pa s.length pc) s) (hq : Cd.IntsAt B w (.slice pb s.length pd) s) (hi : Cd.IntsAt B w (.slice ia k.length ic) k) (hj : Cd.IntsAt B w (.slice ib k.length id') k) (h1 : s.length ≤ 1048576) (h2 : k.length ≤ 1048576) :
    Calls Tryz.prog 21 #[.agg #[.int .i64 st, .slice pa s.length pc, .slice ia k.length ic], .agg #[.int .i64 st, .slice pb s.length pd, .slice ib k.length id']] w fun e w' => e = .returned (.bool true) ∧ Below w.heap.size w w' := by
  have n1 : (st != st) = false := by simp
  have HI : Hid (∀ U, Below w.heap.size w U → Calls Tryz.prog 41 #[.slice pa s.length pc, .slice pb s.length pd] U fun e w' => e = .returned (.bool true) ∧ Below U.heap.size U w') := fun U hU => Cd.eqIntS_same s B _ _ U (Nat.le_trans hB hU.size) (hp.below (hU.mono hB)) (hq.below (hU.mono hB)) h1
  have HJ : Hid (∀ U, Below w.heap.size w U → Calls Tryz.prog 41 #[.slice ia k.length ic, .slice ib k.length id'] U fun e w' => e = .returned (.bool true) ∧ Below U.heap.size U w') := fun U hU => Cd.eqIntS_same k B _ _ U (Nat.le_trans hB hU.size) (hi.below (hU.mono hB)) (hj.below (hU.mono hB)) h2
  obtain ⟨Y2, hY2⟩ : ∃ Y, (w.alloc (.cells #[.int .i64 st, .slice pa s.length pc, .slice ia k.length ic] 43)).alloc (.cells #[.int .i64 st, .slice pb s.length pd, .slice ib k.length id'] 43) = Y := ⟨_, rfl⟩
  have hb2 : Below w.heap.size w Y2 := by rw [← hY2]; exact Cd.b2 w _ _
  have hs2 : Y2.heap.size = w.heap.size + 2 := by rw [← hY2, World.size_alloc, World.size_alloc]
  have q0 : Y2.heap[w.heap.size]? = some (.cells #[.int .i64 st, .slice pa s.length pc, .slice ia k.length ic] 43) := by rw [← hY2]; exact Cd.keepH _ (Cd.new_at w _)
  have q1 : Y2.heap[w.heap.size + 1]? = some (.cells #[.int .i64 st, .slice pb s.length pd, .slice ib k.length id'] 43) := by
    rw [← hY2]
    have h := Cd.new_at (w.alloc (.cells #[.int .i64 st, .slice pa s.length pc, .slice ia k.length ic] 43)) (.cells #[.int .i64 st, .slice pb s.length pd, .slice ib k.length id'] 43)
    rw [World.size_alloc] at h
    exact h
  have HC : Hid (∀ U, Below Y2.heap.size Y2 U → U.cell? ⟨w.heap.size, 2, none⟩ = some (.slice ia k.length ic) ∧ U.cell? ⟨w.heap.size + 1, 2, none⟩ = some (.slice ib k.length id') ∧ Below w.heap.size w U) := fun U hU => by
    have r0 := (hU.block _ (by omega)).trans q0
    have r1 := (hU.block _ (by omega)).trans q1
    exact ⟨by rw [Lib.cell_of_heap r0]; rfl, by rw [Lib.cell_of_heap r1]; rfl, hb2.trans (hU.mono hb2.size)⟩
  have a0 : Y2.cell? ⟨w.heap.size, 0, none⟩ = some (.int .i64 st) := by rw [Lib.cell_of_heap q0]; rfl
  have a1 : Y2.cell? ⟨w.heap.size, 1, none⟩ = some (.slice pa s.length pc) := by rw [Lib.cell_of_heap q0]; rfl
  have b0 : Y2.cell? ⟨w.heap.size + 1, 0, none⟩ = some (.int .i64 st) := by rw [Lib.cell_of_heap q1]; rfl
  have b1 : Y2.cell? ⟨w.heap.size + 1, 1, none⟩ = some (.slice pb s.length pd) := by rw [Lib.cell_of_heap q1]; rfl
  clear hp hq hi hj q0 q1
  go_enter Tryz.func21, Tryz.ntmps21
  go_wp2_with (first
    | (go_at_call 41; refine (HJ.out _ hw1).mono ?_; rintro e w2 ⟨rfl, hb3⟩)
    | (go_at_call 41; refine (HI.out _ (by first | exact hb2 | exact hb2.drew | exact Cd.belowD _ hb2)).mono ?_; rintro e w1 ⟨rfl, hb1⟩; obtain ⟨x2, y2, hw1⟩ := HC.out w1 (⟨hb1.os, hb1.tape, hb1.output, hb1.size, hb1.block⟩)))
  all_goals go_ret
  all_goals exact ⟨rfl, hw1.trans (hb3.mono hw1.size)⟩
set_option maxRecDepth 100000 in
set_option maxHeartbeats 2000000 in
theorem Cd.eqShapeS_same (X : List Cd.Sh) (B : Nat) (pa pb : Option Addr) (ca cb : Nat) (w : World) (hB : B ≤ w.heap.size) (ha : Cd.OutAt B w (.slice pa X.length ca) X) (hb : Cd.OutAt B w (.slice pb X.length cb) X) (hl : X.length ≤ 1048576) (hx : ∀ u (hu : u < X.length), (Cd.sl X[u]).length ≤ 1048576 ∧ (Cd.kl X[u]).length ≤ 1048576) :
    Calls Tryz.prog 8 #[.slice pa X.length ca, .slice pb X.length cb] w fun e w' => e = .returned (.bool true) ∧ Below w.heap.size w w' := by
  have HA : Hid (Cd.OutAt B w (.slice pa X.length ca) X) := ha
  have HB : Hid (Cd.OutAt B w (.slice pb X.length cb) X) := hb
  clear ha hb
  have hne : ((X.length : Int) != (X.length : Int)) = false := by simp
  go_enter Tryz.func8, Tryz.ntmps8
  go_wp2
  go_loopw [5] (fun t wr => ∃ i : Nat, i ≤ X.length ∧ t = .int .i64 (i : Int) ∧ Below w.heap.size w wr) (fun t _ => X.length - (intOf t).toNat)
  case atStart => exact ⟨0, by omega, rfl, Below.refl _ _⟩
  case round =>
    obtain ⟨i, hi, rfl, hbw⟩ := hrel
    have hz : w.heap.size ≤ wr.heap.size := hbw.size
    by_cases hlt : i < X.length
    · have hltI : (i : Int) < (X.length : Int) := by omega
      have cel : ∀ {p : Option Addr} {q : Nat}, Cd.OutAt B w (.slice p X.length q) X → ∃ g sa sc ka kc, p = some ⟨g, 0, none⟩ ∧ (wr.cell? ⟨g, i * 3, none⟩ = some (.int .i64 (Cd.st X[i])) ∧ wr.cell? ⟨g, i * 3 + 1, none⟩ = some (.slice sa (Cd.sl X[i]).length sc) ∧ wr.cell? ⟨g, i * 3 + 2, none⟩ = some (.slice ka (Cd.kl X[i]).length kc)) ∧ Cd.IntsAt B wr (.slice sa (Cd.sl X[i]).length sc) (Cd.sl X[i]) ∧ Cd.IntsAt B wr (.slice ka (Cd.kl X[i]).length kc) (Cd.kl X[i]) := fun {p q} h => by
        obtain ⟨a', cp, e, h⟩ := h.below (hbw.mono hB)
        injection e with e1
        subst e1
        obtain ⟨g, sa, sc, ka, kc, h1, -, h2, h3, h4⟩ := h i hlt
        exact ⟨g, sa, sc, ka, kc, h1, h2, h3, h4⟩
      obtain ⟨ga, sa, sc, ka, kc, hae, ⟨a0, a1, a2⟩, hSa, hKa⟩ := cel HA.out
      obtain ⟨gb, sb, sd, kb, kd, hbe, ⟨b0, b1, b2⟩, hSb, hKb⟩ := cel HB.out
      clear cel
      subst hae hbe
      have HE : Hid (∀ U, Below wr.heap.size wr U → Calls Tryz.prog 21 #[.agg #[.int .i64 (Cd.st X[i]), .slice sa (Cd.sl X[i]).length sc, .slice ka (Cd.kl X[i]).length kc], .agg #[.int .i64 (Cd.st X[i]), .slice sb (Cd.sl X[i]).length sd, .slice kb (Cd.kl X[i]).length kd]] U fun e w' => e = .returned (.bool true) ∧ Below U.heap.size U w') := fun U hU => by
        have hBU : Below B wr U := hU.mono (by omega)
        exact Cd.eqShape_same (Cd.st X[i]) (Cd.sl X[i]) (Cd.kl X[i]) B sa sb ka kb sc sd kc kd U (by have := hU.size; omega) (hSa.below hBU) (hSb.below hBU) (hKa.below hBU) (hKb.below hBU) (hx i hlt).1 (hx i hlt).2
      clear hSa hSb hKa hKb
      go_wp2_with fail
      go_region_with (go_at_call 21; refine (HE.out _ (by first | exact Below.refl _ _ | exact (Below.refl _ _).drew | exact (Below.refl _ _).drew.drew | exact Cd.belowD _ (Below.refl _ _))).mono ?_; rintro e w1 ⟨rfl, hb1⟩)
      all_goals
        have hbw2 : Below w.heap.size w w1 := hbw.trans (by have := hb1.mono (B' := w.heap.size) (by simpa using hz); exact ⟨this.os, this.tape, this.output, this.size, this.block⟩)
        clear a0 a1 a2 b0 b1 b2
        go_wp2
        go_roundw
        case rel => exact ⟨i + 1, by omega, by go_num, hbw2⟩
        case measure => simp [intOf]; omega
    · have hltI : ¬ (i : Int) < (X.length : Int) := by omega
      go_wp2
      go_ret
      exact ⟨rfl, hbw⟩
end Go.Proofs.YtihiimgbdmkjmaaGreatDoor
