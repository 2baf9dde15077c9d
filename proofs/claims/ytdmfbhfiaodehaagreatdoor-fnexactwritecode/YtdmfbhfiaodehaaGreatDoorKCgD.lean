import Derived.Test.YtdmfbhfiaodehaaGreatDoorKCgB
import Derived.Test.YtdmfbhfiaodehaaGreatDoorKCdN
import Derived.Test.YtdmfbhfiaodehaaGreatDoorKCdT
namespace Go.Proofs.YtdmfbhfiaodehaaGreatDoor
open Go.RowKit

structure Cd.Rw (g : Nat) (e : TypeId) (N : Nat) (w : World) (cur : Array Value) : Prop where
  blk : w.heap[g]? = some (.cells cur e (0, 0))
  size : cur.size = N
theorem Cd.Rw.lt {g : Nat} {e : TypeId} {N : Nat} {w : World} {cur : Array Value} (h : Cd.Rw g e N w cur) : g < w.heap.size := (Array.getElem?_eq_some_iff.1 h.blk).1
theorem Cd.Rw.below {g : Nat} {e : TypeId} {N : Nat} {w w' : World} {cur : Array Value} (h : Cd.Rw g e N w cur) (hb : Below w.heap.size w w') : Cd.Rw g e N w' cur := ⟨(hb.block g h.lt).trans h.blk, h.size⟩
theorem Cd.Rw.cell {g : Nat} {e : TypeId} {N : Nat} {w : World} {cur : Array Value} (h : Cd.Rw g e N w cur) (j : Nat) (hj : j < N) : (∃ y, w.cell? ⟨g, j, none⟩ = some y) ∧ w.frozen? ⟨g, j, none⟩ = false := by
  refine ⟨⟨_, (Lib.cell_of_heap h.blk j).trans (Array.getElem?_eq_getElem (by rw [h.size]; exact hj))⟩, by simp [World.frozen?, h.blk]⟩
theorem Cd.Rw.store {g : Nat} {e : TypeId} {N : Nat} {w : World} {cur : Array Value} (h : Cd.Rw g e N w cur) (j : Nat) (v : Value) : Cd.Rw g e N (w.setCell ⟨g, j, none⟩ v) (cur.setIfInBounds j v) :=
  ⟨by simp [World.setCell, Array.getElem?_modify, h.blk], by rw [Array.size_setIfInBounds]; exact h.size⟩
def Cd.Mine (A : Nat) (w : World) (e : TypeId) (N : Nat) (v : Value) : Prop := ∃ g n cap cur, v = .slice (some ⟨g, 0, none⟩) n cap ∧ A ≤ g ∧ Cd.Rw g e N w cur
theorem Cd.Mine.keep {A : Nat} {w w' : World} {e : TypeId} {N : Nat} {v : Value} (h : Cd.Mine A w e N v) (hk : ∀ k, v.ownBlock = some k → w'.heap[k]? = w.heap[k]?) : Cd.Mine A w' e N v := by
  obtain ⟨g, n, cap, cur, rfl, h1, h2⟩ := h
  exact ⟨g, n, cap, cur, rfl, h1, (hk g rfl).trans h2.blk, h2.size⟩
theorem Cd.Mine.below {A : Nat} {w w' : World} {e : TypeId} {N : Nat} {v : Value} (h : Cd.Mine A w e N v) (hb : Below w.heap.size w w') : Cd.Mine A w' e N v := by
  obtain ⟨g, n, cap, cur, rfl, h1, h2⟩ := h
  exact ⟨g, n, cap, cur, rfl, h1, h2.below hb⟩
theorem Cd.Mine.mono {A A' : Nat} {w : World} {e : TypeId} {N : Nat} {v : Value} (h : Cd.Mine A w e N v) (hA : A' ≤ A) : Cd.Mine A' w e N v := by
  obtain ⟨g, n, cap, cur, rfl, h1, h2⟩ := h
  exact ⟨g, n, cap, cur, rfl, by omega, h2⟩
theorem Tryz.infoIns : (Tryz.prog.info? 66).map (fun i => (i.zero, i.size, i.bytes)) = some (some (.agg #[.int .i64 0, .int .i64 0, .int .i64 0, .string ⟨#[]⟩]), 4, 40) := by kernel_rfl
theorem Cd.make_is {P : Program} {t e : TypeId} {z : Value} {sz bytes : Nat} (hinfo : (P.info? e).map (fun i => (i.zero, i.size, i.bytes)) = some (some z, sz, bytes)) (ht : P.underlying t = some (.slice e)) (n : Nat) (hb : bytes * n ≤ 281474976710656) (h63 : n ≤ 9223372036854775807) (W : World) : (Instr.makeSlice t (.int .i64 (n : Int)) (.int .i64 (n : Int))).run P W = .ok (.slice (some ⟨W.heap.size, 0, none⟩) n n) (W.alloc (.cells (madeCells z.cells (n * sz)) e)) := by
  obtain ⟨i, hi, hzz⟩ := Option.map_eq_some_iff.1 hinfo
  simp only [Prod.mk.injEq] at hzz
  obtain ⟨hz, hs, hby⟩ := hzz
  have hb' : (i.bytes : Int) * (n : Int) ≤ 281474976710656 := by
    rw [hby]
    have h : ((bytes * n : Nat) : Int) ≤ 281474976710656 := by omega
    rwa [Int.natCast_mul] at h
  have h := run_make (P := P) W t e i z ht hi hz .i64 .i64 n n (by omega) (Int.le_refl _) hb' (by omega)
  simp only [Int.toNat_natCast, hs] at h
  exact h
set_option maxRecDepth 100000 in
set_option maxHeartbeats 1000000 in
theorem Cd.toIntS_any (l : List Int) (a : Option Addr) (cap : Nat) (hl : l.length ≤ 1048576) (w : World) (B : Nat) (hB : B ≤ w.heap.size) (hN : Cd.IntsAt B w (.slice a l.length cap) l) :
    Calls Tryz.prog 40 #[.slice a l.length cap] w fun e w' => e = .returned (.slice (some ⟨w.heap.size, 0, none⟩) l.length l.length) ∧ Cd.IntsAt w'.heap.size w' (.slice (some ⟨w.heap.size, 0, none⟩) l.length l.length) l ∧ Cd.Mine w.heap.size w' 3 l.length (.slice (some ⟨w.heap.size, 0, none⟩) l.length l.length) ∧ Below w.heap.size w w' := by
  have HN : Hid (Cd.IntsAt B w (.slice a l.length cap) l) := hN
  clear hN
  have hmk := Cd.make_is (P := Tryz.prog) Tryz.infoIntC Tryz.underlying50 l.length (by omega) (by omega)
  obtain ⟨mc, hmc⟩ : ∃ m, madeCells (Value.int .i64 0).cells (l.length * 1) = m := ⟨_, rfl⟩
  have HMS : Hid (mc.size = l.length) := by rw [Hid, ← hmc, size_madeCells, Nat.mul_one]
  rw [hmc] at hmk
  clear hmc
  go_enter Tryz.func40, Tryz.ntmps40
  go_wp2_with fail
  obtain ⟨V0, hV0⟩ : ∃ V, w.alloc (.cells mc 3) = V := ⟨_, rfl⟩
  rw [hV0]
  have HV0 : Hid (Cd.Rw w.heap.size 3 l.length V0 mc ∧ Below w.heap.size w V0) := ⟨⟨by rw [← hV0]; exact Cd.new_at w _, HMS.out⟩, by rw [← hV0]; exact Cd.b1 w _⟩
  clear hV0 hmk
  go_loopw [4] (fun t wr => ∃ (i : Nat) (cur : Array Value), i ≤ l.length ∧ t = .int .i64 (i : Int) ∧ Cd.Rw w.heap.size 3 l.length wr cur ∧ Hid (∀ j (hj : j < l.length), j < i → cur[j]? = some (.int .i64 l[j])) ∧ Below w.heap.size w wr) (fun t _ => l.length - (intOf t).toNat)
  case atStart => exact ⟨0, mc, by omega, rfl, HV0.out.1, fun j hj h => by omega, HV0.out.2⟩
  case round =>
    obtain ⟨i, cur, hi, rfl, hrw, HCS, hbw⟩ := hrel
    by_cases hlt : i < l.length
    · have hltI : (i : Int) < (l.length : Int) := by omega
      obtain ⟨g, o, hae, hcell⟩ : ∃ g o, a = some ⟨g, o, none⟩ ∧ wr.cell? ⟨g, o + i, none⟩ = some (.int .i64 l[i]) := by
        obtain ⟨a', cp, e, h⟩ := HN.out.below (hbw.mono hB)
        injection e with e1
        subst e1
        obtain ⟨g, o, h1, -, h2⟩ := h i hlt
        exact ⟨g, o, h1, h2⟩
      subst hae
      obtain ⟨z, hz⟩ : ∃ z, l[i] = z := ⟨_, rfl⟩
      rw [hz] at hcell
      obtain ⟨⟨y0, k0⟩, f0⟩ := hrw.cell i hlt
      have HST : Hid (Cd.Rw w.heap.size 3 l.length (wr.setCell ⟨w.heap.size, i, none⟩ (.int .i64 z)) (cur.setIfInBounds i (.int .i64 z))) := hrw.store i _
      have HC2 : Hid (∀ j (hj : j < l.length), j < i + 1 → (cur.setIfInBounds i (.int .i64 z))[j]? = some (.int .i64 l[j])) := fun j hj h => by
        rw [Array.getElem?_setIfInBounds]
        by_cases e : i = j
        · subst e; rw [if_pos rfl, if_pos (by rw [hrw.size]; exact hlt), hz]
        · rw [if_neg e]; exact HCS.out j hj (by omega)
      clear hz hrw
      go_wp2_with fail
      go_roundw
      case rel => exact ⟨i + 1, _, by omega, by go_num, HST.out, HC2, hbw.setCell (p := ⟨w.heap.size, i, none⟩) (Nat.le_refl _) _⟩
      case measure => simp [intOf]; omega
    · have hltI : ¬ (i : Int) < (l.length : Int) := by omega
      have HEND : Hid (Cd.IntsAt wr.heap.size wr (.slice (some ⟨w.heap.size, 0, none⟩) l.length l.length) l) := ⟨_, _, rfl, fun j hj => ⟨w.heap.size, 0, rfl, hrw.lt, by rw [Nat.zero_add, Lib.cell_of_heap hrw.blk]; exact HCS.out j hj (by omega)⟩⟩
      have HMI : Hid (Cd.Mine w.heap.size wr 3 (l.length) (.slice (some ⟨w.heap.size, 0, none⟩) l.length l.length)) := ⟨_, _, _, cur, rfl, Nat.le_refl _, hrw⟩
      clear hrw
      go_wp2_with fail
      go_ret
      exact ⟨rfl, HEND.out, HMI.out, hbw⟩
set_option maxRecDepth 100000 in
set_option maxHeartbeats 1000000 in
theorem Cd.toIns_any (op a n : Int) (t : ByteArray) (w : World) :
    Calls Tryz.prog 59 #[.agg #[.int .i64 op, .int .i64 a, .int .i64 n, .string t]] w fun e w' => e = .returned (.agg #[.int .i64 op, .int .i64 a, .int .i64 n, .string t]) ∧ Below w.heap.size w w' := by
  go_enter Tryz.func59, Tryz.ntmps59
  go_wp2
  exact bodyPost_ret (v := .agg #[.int .i64 op, .int .i64 a, .int .i64 n, .string t]) (by simp [results, Tryz.results59, go_sem]) rfl ⟨rfl, Cd.b3 w _ _ _⟩
set_option maxRecDepth 100000 in
set_option maxHeartbeats 1000000 in
theorem Cd.toInsS_any (l : List Cd.Ins) (a : Option Addr) (cap : Nat) (hl : l.length ≤ 1048576) (w : World) (hN : Cd.InsOff w (.slice a l.length cap) l) :
    Calls Tryz.prog 41 #[.slice a l.length cap] w fun e w' => e = .returned (.slice (some ⟨w.heap.size, 0, none⟩) l.length l.length) ∧ Cd.InsAt w'.heap.size w' (.slice (some ⟨w.heap.size, 0, none⟩) l.length l.length) l ∧ Cd.Mine w.heap.size w' 66 (l.length * 4) (.slice (some ⟨w.heap.size, 0, none⟩) l.length l.length) ∧ Below w.heap.size w w' := by
  have HN : Hid (Cd.InsOff w (.slice a l.length cap) l) := hN
  clear hN
  have hmk := Cd.make_is (P := Tryz.prog) Tryz.infoIns Tryz.underlying51 l.length (by omega) (by omega)
  obtain ⟨mc, hmc⟩ : ∃ m, madeCells (Value.agg #[.int .i64 0, .int .i64 0, .int .i64 0, .string ⟨#[]⟩]).cells (l.length * 4) = m := ⟨_, rfl⟩
  have HMS : Hid (mc.size = l.length * 4) := by rw [Hid, ← hmc, size_madeCells]
  rw [hmc] at hmk
  clear hmc
  go_enter Tryz.func41, Tryz.ntmps41
  go_wp2_with fail
  obtain ⟨V0, hV0⟩ : ∃ V, w.alloc (.cells mc 66) = V := ⟨_, rfl⟩
  rw [hV0]
  have HV0 : Hid (Cd.Rw w.heap.size 66 (l.length * 4) V0 mc ∧ Below w.heap.size w V0) := ⟨⟨by rw [← hV0]; exact Cd.new_at w _, HMS.out⟩, by rw [← hV0]; exact Cd.b1 w _⟩
  clear hV0 hmk
  go_loopw [4] (fun t wr => ∃ (i : Nat) (cur : Array Value), i ≤ l.length ∧ t = .int .i64 (i : Int) ∧ Cd.Rw w.heap.size 66 (l.length * 4) wr cur ∧ Hid (∀ j (hj : j < l.length), j < i → ∀ q, q < 4 → cur[j * 4 + q]? = (Cd.insC l[j])[q]?) ∧ Below w.heap.size w wr) (fun t _ => l.length - (intOf t).toNat)
  case atStart => exact ⟨0, mc, by omega, rfl, HV0.out.1, fun j hj h => by omega, HV0.out.2⟩
  case round =>
    obtain ⟨i, cur, hi, rfl, hrw, HCS, hbw⟩ := hrel
    by_cases hlt : i < l.length
    · have hltI : (i : Int) < (l.length : Int) := by omega
      obtain ⟨g, o, hae, e0, e1, e2, e3⟩ : ∃ g o, a = some ⟨g, o, none⟩ ∧ wr.cell? ⟨g, o + i * 4, none⟩ = some (.int .i64 l[i].op) ∧ wr.cell? ⟨g, o + i * 4 + 1, none⟩ = some (.int .i64 l[i].a) ∧ wr.cell? ⟨g, o + i * 4 + 2, none⟩ = some (.int .i64 l[i].n) ∧ wr.cell? ⟨g, o + i * 4 + 3, none⟩ = some (.string l[i].text) := by
        obtain ⟨a', cp, e, h⟩ := HN.out.below hbw
        injection e with e1
        subst e1
        obtain ⟨g, o, h1, -, h2⟩ := h i hlt
        exact ⟨g, o, h1, h2⟩
      subst hae
      have HRW : Hid (Cd.Rw w.heap.size 66 (l.length * 4) wr cur) := hrw
      obtain ⟨d, HD⟩ : ∃ d, Hid (l[i] = d) := ⟨_, (rfl : l[i] = _)⟩
      rw [HD.out] at e0 e1 e2 e3
      obtain ⟨dop, da, dn, dt⟩ := d
      simp only at e0 e1 e2 e3
      have HSTO : Hid (∀ w1, Below wr.heap.size wr w1 → (∃ cur', Cd.Rw w.heap.size 66 (l.length * 4) ((((w1.setCell ⟨w.heap.size, i * 4, none⟩ (.int .i64 dop)).setCell ⟨w.heap.size, i * 4 + 1, none⟩ (.int .i64 da)).setCell ⟨w.heap.size, i * 4 + 2, none⟩ (.int .i64 dn)).setCell ⟨w.heap.size, i * 4 + 3, none⟩ (.string dt)) cur' ∧ Hid (∀ j (hj : j < l.length), j < i + 1 → ∀ q, q < 4 → cur'[j * 4 + q]? = (Cd.insC l[j])[q]?))) := fun w1 hb => by
        have h := ((((HRW.out.below hb).store (i * 4) (.int .i64 dop)).store (i * 4 + 1) (.int .i64 da)).store (i * 4 + 2) (.int .i64 dn)).store (i * 4 + 3) (.string dt)
        refine ⟨_, h, fun j hj hji q hq => ?_⟩
        simp only [Array.getElem?_setIfInBounds, Array.size_setIfInBounds, HRW.out.size]
        by_cases e : j = i
        · subst e
          have hq4 : q = 0 ∨ q = 1 ∨ q = 2 ∨ q = 3 := by omega
          rw [HD.out]
          rcases hq4 with rfl | rfl | rfl | rfl
          · rw [if_neg (by omega), if_neg (by omega), if_neg (by omega), if_pos (by omega), if_pos (by omega)]; rfl
          · rw [if_neg (by omega), if_neg (by omega), if_pos (by omega), if_pos (by omega)]; rfl
          · rw [if_neg (by omega), if_pos (by omega), if_pos (by omega)]; rfl
          · rw [if_pos (by omega), if_pos (by omega)]; rfl
        · rw [if_neg (by omega), if_neg (by omega), if_neg (by omega), if_neg (by omega)]
          exact HCS.out j hj (by omega) q hq
      have HCE : Hid (∀ w1, Below wr.heap.size wr w1 → ∀ q, q < 4 → (∃ y, w1.cell? ⟨w.heap.size, i * 4 + q, none⟩ = some y) ∧ w1.frozen? ⟨w.heap.size, i * 4 + q, none⟩ = false) := fun w1 hb q hq => (HRW.out.below hb).cell (i * 4 + q) (by omega)
      clear hrw
      go_wp2_with (first | (go_at_call 59; refine (Cd.toIns_any dop da dn dt _).mono ?_; rintro e w1 ⟨rfl, hb1⟩; obtain ⟨⟨y0, c0⟩, f0⟩ := HCE.out w1 hb1 0 (by omega); obtain ⟨⟨y1, c1⟩, f1⟩ := HCE.out w1 hb1 1 (by omega); obtain ⟨⟨y2, c2⟩, f2⟩ := HCE.out w1 hb1 2 (by omega); obtain ⟨⟨y3, c3⟩, f3⟩ := HCE.out w1 hb1 3 (by omega); rw [Nat.add_zero] at c0 f0))
      obtain ⟨cur', hr', HC'⟩ := HSTO.out w1 hb1
      go_roundw
      case rel => exact ⟨i + 1, cur', by omega, by go_num, hr', HC', ((((hbw.trans (hb1.mono hbw.size)).setCell (p := ⟨w.heap.size, i * 4, none⟩) (Nat.le_refl _) _).setCell (p := ⟨w.heap.size, i * 4 + 1, none⟩) (Nat.le_refl _) _).setCell (p := ⟨w.heap.size, i * 4 + 2, none⟩) (Nat.le_refl _) _).setCell (p := ⟨w.heap.size, i * 4 + 3, none⟩) (Nat.le_refl _) _⟩
      case measure => simp [intOf]; omega
    · have hltI : ¬ (i : Int) < (l.length : Int) := by omega
      have HEND : Hid (Cd.InsAt wr.heap.size wr (.slice (some ⟨w.heap.size, 0, none⟩) l.length l.length) l) := ⟨_, _, rfl, fun j hj => ⟨w.heap.size, rfl, hrw.lt, fun q hq => by rw [Lib.cell_of_heap hrw.blk]; exact HCS.out j hj (by omega) q hq⟩⟩
      have HMI : Hid (Cd.Mine w.heap.size wr 66 (l.length * 4) (.slice (some ⟨w.heap.size, 0, none⟩) l.length l.length)) := ⟨_, _, _, cur, rfl, Nat.le_refl _, hrw⟩
      clear hrw
      go_wp2_with fail
      go_ret
      exact ⟨rfl, HEND.out, HMI.out, hbw⟩
end Go.Proofs.YtdmfbhfiaodehaaGreatDoor
namespace Go.Proofs.YtdmfbhfiaodehaaGreatDoor
open Go.RowKit

theorem Cd.set_same {w : World} {g i : Nat} {arr : Array Value} {t : TypeId} {v : Value} (h : w.heap[g]? = some (.cells arr t)) : (w.setCell ⟨g, i, none⟩ v).heap[g]? = some (.cells (arr.setIfInBounds i v) t) := by
  simp [World.setCell, Array.getElem?_modify, h]
theorem Cd.cells5 {w : World} {g : Nat} {a b c d e : Value} {t : TypeId} (h : w.heap[g]? = some (.cells #[a, b, c, d, e] t)) : (w.cell? ⟨g, 0, none⟩ = some a ∧ w.cell? ⟨g, 1, none⟩ = some b ∧ w.cell? ⟨g, 2, none⟩ = some c ∧ w.cell? ⟨g, 3, none⟩ = some d ∧ w.cell? ⟨g, 4, none⟩ = some e) ∧ (w.frozen? ⟨g, 0, none⟩ = false ∧ w.frozen? ⟨g, 1, none⟩ = false ∧ w.frozen? ⟨g, 2, none⟩ = false ∧ w.frozen? ⟨g, 3, none⟩ = false ∧ w.frozen? ⟨g, 4, none⟩ = false) := by
  refine ⟨⟨?_, ?_, ?_, ?_, ?_⟩, ?_, ?_, ?_, ?_, ?_⟩ <;> simp [World.cell?, World.frozen?, h]
theorem Cd.InsAt.keep {B C : Nat} {w w' : World} {v : Value} {l : List Cd.Ins} (h : Cd.InsAt B w v l) (hk : ∀ k, v.ownBlock = some k → w'.heap[k]? = w.heap[k]?) (hC : B ≤ C) : Cd.InsAt C w' v l := by
  obtain ⟨a, cap, rfl, hc⟩ := h
  refine ⟨a, cap, rfl, fun i hi => ?_⟩
  obtain ⟨g, ha, hg, hcell⟩ := hc i hi
  refine ⟨g, ha, by omega, fun j hj => ?_⟩
  rw [World.cell?_of_block (hk g (by rw [ha]; rfl))]; exact hcell j hj
theorem Cd.heap_set5 (V : World) (g o : Nat) (x0 x1 x2 x3 x4 : Value) (k : Nat) (hk : k ≠ g) : (((((V.setCell ⟨g, o, none⟩ x0).setCell ⟨g, o + 1, none⟩ x1).setCell ⟨g, o + 2, none⟩ x2).setCell ⟨g, o + 3, none⟩ x3).setCell ⟨g, o + 4, none⟩ x4).heap[k]? = V.heap[k]? := by
  simp [World.setCell, Array.getElem?_modify, Ne.symm hk]
def Cd.ToFnPost (f : Cd.Fn) (w : World) (e : Ending) (w' : World) : Prop :=
  ∃ pa pc ia ic, e = .returned (.agg #[.string f.name, .slice pa f.params.length pc, .int .i64 f.result, .int .i64 f.slots, .slice ia f.ins.length ic]) ∧ Cd.IntsAt w'.heap.size w' (.slice pa f.params.length pc) f.params ∧ Cd.InsAt w'.heap.size w' (.slice ia f.ins.length ic) f.ins ∧ (∀ k, (Value.slice pa f.params.length pc).ownBlock = some k → w.heap.size ≤ k) ∧ (∀ k, (Value.slice ia f.ins.length ic).ownBlock = some k → w.heap.size ≤ k) ∧ Cd.Mine w.heap.size w' 3 f.params.length (.slice pa f.params.length pc) ∧ Cd.Mine w.heap.size w' 66 (f.ins.length * 4) (.slice ia f.ins.length ic) ∧ Below w.heap.size w w'
set_option maxRecDepth 100000 in
set_option maxHeartbeats 2000000 in
theorem Cd.toFn_any (f : Cd.Fn) (pa : Option Addr) (pc : Nat) (ia : Option Addr) (ic : Nat) (hp : f.params.length ≤ 1048576) (hi : f.ins.length ≤ 1048576) (w : World) (hP : Cd.IntsAt w.heap.size w (.slice pa f.params.length pc) f.params) (hN : Cd.InsOff w (.slice ia f.ins.length ic) f.ins) :
    Calls Tryz.prog 25 #[.agg #[.string f.name, .slice pa f.params.length pc, .int .i64 f.result, .int .i64 f.slots, .slice ia f.ins.length ic]] w (Cd.ToFnPost f w) := by
  have HTI : Hid (∀ U, Below w.heap.size w U → Calls Tryz.prog 40 #[.slice pa f.params.length pc] U fun e w' => e = .returned (.slice (some ⟨U.heap.size, 0, none⟩) f.params.length f.params.length) ∧ Cd.IntsAt w'.heap.size w' (.slice (some ⟨U.heap.size, 0, none⟩) f.params.length f.params.length) f.params ∧ Cd.Mine U.heap.size w' 3 f.params.length (.slice (some ⟨U.heap.size, 0, none⟩) f.params.length f.params.length) ∧ Below U.heap.size U w') := fun U hU => Cd.toIntS_any f.params pa pc hp U w.heap.size hU.size (hP.below hU)
  have HTS : Hid (∀ U, Below w.heap.size w U → Calls Tryz.prog 41 #[.slice ia f.ins.length ic] U fun e w' => e = .returned (.slice (some ⟨U.heap.size, 0, none⟩) f.ins.length f.ins.length) ∧ Cd.InsAt w'.heap.size w' (.slice (some ⟨U.heap.size, 0, none⟩) f.ins.length f.ins.length) f.ins ∧ Cd.Mine U.heap.size w' 66 (f.ins.length * 4) (.slice (some ⟨U.heap.size, 0, none⟩) f.ins.length f.ins.length) ∧ Below U.heap.size U w') := fun U hU => Cd.toInsS_any f.ins ia ic hi U (hN.below hU)
  clear hP hN
  have HKY : Hid (∀ V : World, V.heap[w.heap.size]? = some (.cells #[.string f.name, .slice pa f.params.length pc, .int .i64 f.result, .int .i64 f.slots, .slice ia f.ins.length ic] 61) → V.cell? ⟨w.heap.size, 2, none⟩ = some (.int .i64 f.result) ∧ V.cell? ⟨w.heap.size, 3, none⟩ = some (.int .i64 f.slots) ∧ V.cell? ⟨w.heap.size, 4, none⟩ = some (.slice ia f.ins.length ic)) := fun V h => ⟨(Cd.cells5 h).1.2.2.1, (Cd.cells5 h).1.2.2.2.1, (Cd.cells5 h).1.2.2.2.2⟩
  go_enter Tryz.func25, Tryz.ntmps25
  go_wp2_with (first
    | (go_at_call 40; obtain ⟨Y3, hY3⟩ : ∃ Y, (((w.alloc (.cells #[.string f.name, .slice pa f.params.length pc, .int .i64 f.result, .int .i64 f.slots, .slice ia f.ins.length ic] 61)).alloc (.cells #[.string ⟨#[]⟩, .slice none 0 0, .int .i64 0, .int .i64 0, .slice none 0 0] 53)).alloc (.cells #[.string f.name, .slice none 0 0, .int .i64 0, .int .i64 0, .slice none 0 0] 53)) = Y := ⟨_, rfl⟩; rw [hY3]; have hs3 : Y3.heap.size = w.heap.size + 3 := (by rw [← hY3, World.size_alloc, World.size_alloc, World.size_alloc]); have HB3 : Hid (Below w.heap.size w Y3) := (by rw [Hid, ← hY3]; exact Cd.b3 w _ _ _); have q0 : Y3.heap[w.heap.size]? = some (.cells #[.string f.name, .slice pa f.params.length pc, .int .i64 f.result, .int .i64 f.slots, .slice ia f.ins.length ic] 61) := (by rw [← hY3]; exact Cd.keepH _ (Cd.keepH _ (Cd.new_at w _))); have q1 : Y3.heap[w.heap.size + 1]? = some (.cells #[.string ⟨#[]⟩, .slice none 0 0, .int .i64 0, .int .i64 0, .slice none 0 0] 53) := (by rw [← hY3]; have h := Cd.new_at (w.alloc (.cells #[.string f.name, .slice pa f.params.length pc, .int .i64 f.result, .int .i64 f.slots, .slice ia f.ins.length ic] 61)) (.cells #[.string ⟨#[]⟩, .slice none 0 0, .int .i64 0, .int .i64 0, .slice none 0 0] 53); rw [World.size_alloc] at h; exact Cd.keepH _ h); have q2 : Y3.heap[w.heap.size + 1 + 1]? = some (.cells #[.string f.name, .slice none 0 0, .int .i64 0, .int .i64 0, .slice none 0 0] 53) := (by rw [← hY3]; have h := Cd.new_at ((w.alloc (.cells #[.string f.name, .slice pa f.params.length pc, .int .i64 f.result, .int .i64 f.slots, .slice ia f.ins.length ic] 61)).alloc (.cells #[.string ⟨#[]⟩, .slice none 0 0, .int .i64 0, .int .i64 0, .slice none 0 0] 53)) (.cells #[.string f.name, .slice none 0 0, .int .i64 0, .int .i64 0, .slice none 0 0] 53); rw [World.size_alloc, World.size_alloc] at h; exact h); refine (HTI.out Y3 HB3.out).mono ?_; rintro e w1 ⟨rfl, hI1, hM1, hb1⟩; rw [hs3] at hI1 hM1 ⊢; have HM1 : Hid (Cd.Mine (w.heap.size + 3) w1 3 f.params.length (.slice (some ⟨w.heap.size + 3, 0, none⟩) f.params.length f.params.length)) := hM1; clear hM1; have HI1 : Hid (Cd.IntsAt w1.heap.size w1 (.slice (some ⟨w.heap.size + 3, 0, none⟩) f.params.length f.params.length) f.params) := hI1; clear hI1; replace q0 := (hb1.block _ (by omega)).trans q0; replace q1 := (hb1.block _ (by omega)).trans q1; replace q2 := (hb1.block _ (by omega)).trans q2; obtain ⟨V1, hV1⟩ : ∃ V, w1.setCell ⟨w.heap.size + 1 + 1, 1, none⟩ (.slice (some ⟨w.heap.size + 3, 0, none⟩) f.params.length f.params.length) = V := ⟨_, rfl⟩; have r0 : V1.heap[w.heap.size]? = some (.cells #[.string f.name, .slice pa f.params.length pc, .int .i64 f.result, .int .i64 f.slots, .slice ia f.ins.length ic] 61) := (by rw [← hV1, Below.heap_setCell _ _ _ _ (by show w.heap.size ≠ w.heap.size + 1 + 1; omega)]; exact q0); have r1 : V1.heap[w.heap.size + 1]? = some (.cells #[.string ⟨#[]⟩, .slice none 0 0, .int .i64 0, .int .i64 0, .slice none 0 0] 53) := (by rw [← hV1, Below.heap_setCell _ _ _ _ (by show w.heap.size + 1 ≠ w.heap.size + 1 + 1; omega)]; exact q1); have r2 : V1.heap[w.heap.size + 1 + 1]? = some (.cells #[.string f.name, .slice (some ⟨w.heap.size + 3, 0, none⟩) f.params.length f.params.length, .int .i64 0, .int .i64 0, .slice none 0 0] 53) := (by rw [← hV1]; exact (Cd.set_same q2).trans rfl); obtain ⟨V2, hV2⟩ : ∃ V, V1.setCell ⟨w.heap.size + 1 + 1, 2, none⟩ (.int .i64 f.result) = V := ⟨_, rfl⟩; have t0 : V2.heap[w.heap.size]? = some (.cells #[.string f.name, .slice pa f.params.length pc, .int .i64 f.result, .int .i64 f.slots, .slice ia f.ins.length ic] 61) := (by rw [← hV2, Below.heap_setCell _ _ _ _ (by show w.heap.size ≠ w.heap.size + 1 + 1; omega)]; exact r0); have t1 : V2.heap[w.heap.size + 1]? = some (.cells #[.string ⟨#[]⟩, .slice none 0 0, .int .i64 0, .int .i64 0, .slice none 0 0] 53) := (by rw [← hV2, Below.heap_setCell _ _ _ _ (by show w.heap.size + 1 ≠ w.heap.size + 1 + 1; omega)]; exact r1); have t2 : V2.heap[w.heap.size + 1 + 1]? = some (.cells #[.string f.name, .slice (some ⟨w.heap.size + 3, 0, none⟩) f.params.length f.params.length, .int .i64 f.result, .int .i64 0, .slice none 0 0] 53) := (by rw [← hV2]; exact (Cd.set_same r2).trans rfl); obtain ⟨V3, hV3⟩ : ∃ V, V2.setCell ⟨w.heap.size + 1 + 1, 3, none⟩ (.int .i64 f.slots) = V := ⟨_, rfl⟩; have u0 : V3.heap[w.heap.size]? = some (.cells #[.string f.name, .slice pa f.params.length pc, .int .i64 f.result, .int .i64 f.slots, .slice ia f.ins.length ic] 61) := (by rw [← hV3, Below.heap_setCell _ _ _ _ (by show w.heap.size ≠ w.heap.size + 1 + 1; omega)]; exact t0); have u1 : V3.heap[w.heap.size + 1]? = some (.cells #[.string ⟨#[]⟩, .slice none 0 0, .int .i64 0, .int .i64 0, .slice none 0 0] 53) := (by rw [← hV3, Below.heap_setCell _ _ _ _ (by show w.heap.size + 1 ≠ w.heap.size + 1 + 1; omega)]; exact t1); have u2 : V3.heap[w.heap.size + 1 + 1]? = some (.cells #[.string f.name, .slice (some ⟨w.heap.size + 3, 0, none⟩) f.params.length f.params.length, .int .i64 f.result, .int .i64 f.slots, .slice none 0 0] 53) := (by rw [← hV3]; exact (Cd.set_same t2).trans rfl); obtain ⟨⟨-, k1, -, -, -⟩, -, f1, -, -, -⟩ := Cd.cells5 q2; obtain ⟨⟨-, -, k2, -, -⟩, -, -, f2, -, -⟩ := Cd.cells5 r2; obtain ⟨⟨-, -, -, k3, -⟩, -, -, -, f3, -⟩ := Cd.cells5 t2; obtain ⟨a2, -, -⟩ := HKY.out V1 r0; obtain ⟨-, a3, -⟩ := HKY.out V2 t0; obtain ⟨-, -, a4⟩ := HKY.out V3 u0; have HBV : Hid (Below w.heap.size w V3) := (by rw [Hid, ← hV3, ← hV2, ← hV1]; exact (((HB3.out.trans (hb1.mono HB3.out.size)).setCell (p := ⟨w.heap.size + 1 + 1, 1, none⟩) (by show w.heap.size ≤ w.heap.size + 1 + 1; omega) _).setCell (p := ⟨w.heap.size + 1 + 1, 2, none⟩) (by show w.heap.size ≤ w.heap.size + 1 + 1; omega) _).setCell (p := ⟨w.heap.size + 1 + 1, 3, none⟩) (by show w.heap.size ≤ w.heap.size + 1 + 1; omega) _); have HIV : Hid (Cd.IntsAt V3.heap.size V3 (.slice (some ⟨w.heap.size + 3, 0, none⟩) f.params.length f.params.length) f.params) := (by refine HI1.out.keep (fun k hk => ?_) (by rw [← hV3, ← hV2, ← hV1]; simp); have hk2 : w.heap.size + 3 = k := (by simpa [Value.ownBlock] using hk); rw [← hV3, ← hV2, ← hV1, Below.heap_setCell _ _ _ _ (by show k ≠ w.heap.size + 1 + 1; omega), Below.heap_setCell _ _ _ _ (by show k ≠ w.heap.size + 1 + 1; omega), Below.heap_setCell _ _ _ _ (by show k ≠ w.heap.size + 1 + 1; omega)]); have HMV : Hid (Cd.Mine (w.heap.size + 3) V3 3 f.params.length (.slice (some ⟨w.heap.size + 3, 0, none⟩) f.params.length f.params.length)) := (by refine HM1.out.keep (fun k hk => ?_); have hk2 : w.heap.size + 3 = k := (by simpa [Value.ownBlock] using hk); rw [← hV3, ← hV2, ← hV1, Below.heap_setCell _ _ _ _ (by show k ≠ w.heap.size + 1 + 1; omega), Below.heap_setCell _ _ _ _ (by show k ≠ w.heap.size + 1 + 1; omega), Below.heap_setCell _ _ _ _ (by show k ≠ w.heap.size + 1 + 1; omega)]); clear q0 q1 q2 r0 r1 r2 t0 t1 t2 hY3)
    | (go_at_call 41; refine (HTS.out V3 HBV.out).mono ?_; rintro e w2 ⟨rfl, hI2, hM2, hb2⟩; have HM2 : Hid (Cd.Mine V3.heap.size w2 66 (f.ins.length * 4) (.slice (some ⟨V3.heap.size, 0, none⟩) f.ins.length f.ins.length)) := hM2; clear hM2; have HI2 : Hid (Cd.InsAt w2.heap.size w2 (.slice (some ⟨V3.heap.size, 0, none⟩) f.ins.length f.ins.length) f.ins) := hI2; clear hI2; have hlt1 : w.heap.size + 1 < V3.heap.size := (Array.getElem?_eq_some_iff.1 u1).1; have hlt2 : w.heap.size + 1 + 1 < V3.heap.size := (Array.getElem?_eq_some_iff.1 u2).1; have x1 := (hb2.block _ hlt1).trans u1; have x2 := (hb2.block _ hlt2).trans u2; obtain ⟨V4, hV4⟩ : ∃ V, w2.setCell ⟨w.heap.size + 1 + 1, 4, none⟩ (.slice (some ⟨V3.heap.size, 0, none⟩) f.ins.length f.ins.length) = V := ⟨_, rfl⟩; have y1 : V4.heap[w.heap.size + 1]? = some (.cells #[.string ⟨#[]⟩, .slice none 0 0, .int .i64 0, .int .i64 0, .slice none 0 0] 53) := (by rw [← hV4, Below.heap_setCell _ _ _ _ (by show w.heap.size + 1 ≠ w.heap.size + 1 + 1; omega)]; exact x1); have y2 : V4.heap[w.heap.size + 1 + 1]? = some (.cells #[.string f.name, .slice (some ⟨w.heap.size + 3, 0, none⟩) f.params.length f.params.length, .int .i64 f.result, .int .i64 f.slots, .slice (some ⟨V3.heap.size, 0, none⟩) f.ins.length f.ins.length] 53) := (by rw [← hV4]; exact (Cd.set_same x2).trans rfl); obtain ⟨⟨-, -, -, -, k4⟩, -, -, -, -, f4⟩ := Cd.cells5 x2; obtain ⟨⟨z0, z1, z2, z3, z4⟩, -⟩ := Cd.cells5 y2; obtain ⟨⟨v0, v1, v2, v3, v4⟩, g0, g1, g2, g3, g4⟩ := Cd.cells5 y1))
  obtain ⟨V5, hV5⟩ : ∃ V, (((((V4.setCell ⟨w.heap.size + 1, 0, none⟩ (.string f.name)).setCell ⟨w.heap.size + 1, 1, none⟩ (.slice (some ⟨w.heap.size + 3, 0, none⟩) f.params.length f.params.length)).setCell ⟨w.heap.size + 1, 2, none⟩ (.int .i64 f.result)).setCell ⟨w.heap.size + 1, 3, none⟩ (.int .i64 f.slots)).setCell ⟨w.heap.size + 1, 4, none⟩ (.slice (some ⟨V3.heap.size, 0, none⟩) f.ins.length f.ins.length)) = V := ⟨_, rfl⟩
  rw [hV5]
  have j1 : V5.heap[w.heap.size + 1]? = some (.cells #[.string f.name, .slice (some ⟨w.heap.size + 3, 0, none⟩) f.params.length f.params.length, .int .i64 f.result, .int .i64 f.slots, .slice (some ⟨V3.heap.size, 0, none⟩) f.ins.length f.ins.length] 53) := by
    rw [← hV5]
    exact (Cd.set_same (Cd.set_same (Cd.set_same (Cd.set_same (Cd.set_same y1))))).trans rfl
  have hk5 : ∀ k, k ≠ w.heap.size + 1 → k ≠ w.heap.size + 1 + 1 → V5.heap[k]? = w2.heap[k]? := fun k h1 h2 => by
    rw [← hV5]
    have h := Cd.heap_set5 V4 (w.heap.size + 1) 0 (.string f.name) (.slice (some ⟨w.heap.size + 3, 0, none⟩) f.params.length f.params.length) (.int .i64 f.result) (.int .i64 f.slots) (.slice (some ⟨V3.heap.size, 0, none⟩) f.ins.length f.ins.length) k h1
    refine h.trans ?_
    rw [← hV4, Below.heap_setCell _ _ _ _ (by exact h2)]
  have hz5 : V5.heap.size = w2.heap.size := by rw [← hV5, ← hV4]; simp
  have hb5 : Below w.heap.size w V5 := by
    have hbw2 := HBV.out.trans (hb2.mono HBV.out.size)
    rw [← hV5, ← hV4]
    exact (((((hbw2.setCell (p := ⟨w.heap.size + 1 + 1, 4, none⟩) (by show w.heap.size ≤ w.heap.size + 1 + 1; omega) _).setCell (p := ⟨w.heap.size + 1, 0, none⟩) (by show w.heap.size ≤ w.heap.size + 1; omega) _).setCell (p := ⟨w.heap.size + 1, 1, none⟩) (by show w.heap.size ≤ w.heap.size + 1; omega) _).setCell (p := ⟨w.heap.size + 1, 2, none⟩) (by show w.heap.size ≤ w.heap.size + 1; omega) _).setCell (p := ⟨w.heap.size + 1, 3, none⟩) (by show w.heap.size ≤ w.heap.size + 1; omega) _).setCell (p := ⟨w.heap.size + 1, 4, none⟩) (by show w.heap.size ≤ w.heap.size + 1; omega) _
  obtain ⟨⟨n0, n1, n2, n3, n4⟩, -⟩ := Cd.cells5 j1
  refine bodyPost_ret (v := .agg #[.string f.name, .slice (some ⟨w.heap.size + 3, 0, none⟩) f.params.length f.params.length, .int .i64 f.result, .int .i64 f.slots, .slice (some ⟨V3.heap.size, 0, none⟩) f.ins.length f.ins.length]) (by simp [results, Tryz.results25, go_sem, n0, n1, n2, n3, n4]) rfl ⟨_, _, _, _, rfl, ?_, ?_, fun k hk => ?_, fun k hk => ?_, ?_, ?_, hb5⟩
  · refine (HIV.out.below hb2).keep (fun k hk => ?_) (by rw [hz5]; exact hb2.size)
    have hk2 : w.heap.size + 3 = k := by simpa [Value.ownBlock] using hk
    exact hk5 k (by omega) (by omega)
  · refine HI2.out.keep (fun k hk => ?_) (by rw [hz5]; exact Nat.le_refl _)
    have hk2 : V3.heap.size = k := by simpa [Value.ownBlock] using hk
    exact hk5 k (by omega) (by omega)
  · have hk2 : w.heap.size + 3 = k := by simpa [Value.ownBlock] using hk
    omega
  · have hk2 : V3.heap.size = k := by simpa [Value.ownBlock] using hk
    omega
  · refine Cd.Mine.mono ((HMV.out.below hb2).keep (fun k hk => ?_)) (by omega)
    have hk2 : w.heap.size + 3 = k := by simpa [Value.ownBlock] using hk
    exact hk5 k (by omega) (by omega)
  · refine Cd.Mine.mono (HM2.out.keep (fun k hk => ?_)) (by omega)
    have hk2 : V3.heap.size = k := by simpa [Value.ownBlock] using hk
    exact hk5 k (by omega) (by omega)
end Go.Proofs.YtdmfbhfiaodehaaGreatDoor
namespace Go.Proofs.YtdmfbhfiaodehaaGreatDoor
open Go.RowKit

structure Cd.FnRow (g : Nat) (w : World) (c : List Cd.Fn) (i : Nat) : Prop where
  row : ∃ cur, Cd.Rw g 53 (c.length * 5) w cur
  each : ∀ k (hk : k < c.length), k < i → ∃ pa pc ia ic, (∀ q, q < 5 → w.cell? ⟨g, k * 5 + q, none⟩ = (Cd.fnC c[k] (.slice pa c[k].params.length pc) (.slice ia c[k].ins.length ic))[q]?) ∧ Cd.IntsAt w.heap.size w (.slice pa c[k].params.length pc) c[k].params ∧ Cd.InsAt w.heap.size w (.slice ia c[k].ins.length ic) c[k].ins ∧ (∀ j, (Value.slice pa c[k].params.length pc).ownBlock = some j → g < j) ∧ (∀ j, (Value.slice ia c[k].ins.length ic).ownBlock = some j → g < j) ∧ Cd.Mine g w 3 c[k].params.length (.slice pa c[k].params.length pc) ∧ Cd.Mine g w 66 (c[k].ins.length * 4) (.slice ia c[k].ins.length ic)
theorem Cd.FnRow.below {g : Nat} {w w' : World} {c : List Cd.Fn} {i : Nat} (h : Cd.FnRow g w c i) (hb : Below w.heap.size w w') : Cd.FnRow g w' c i := by
  obtain ⟨cur, hr⟩ := h.row
  refine ⟨⟨cur, hr.below hb⟩, fun k hk hki => ?_⟩
  obtain ⟨pa, pc, ia, ic, h1, h2, h3, h4, h5, h6, h7⟩ := h.each k hk hki
  exact ⟨pa, pc, ia, ic, fun q hq => by rw [hb.cell (p := ⟨g, k * 5 + q, none⟩) hr.lt]; exact h1 q hq, Cd.IntsAt.mono (h2.below hb) hb.size, Cd.InsAt.mono (h3.below hb) hb.size, h4, h5, h6.below hb, h7.below hb⟩
def Cd.set5 (w : World) (g o : Nat) (x0 x1 x2 x3 x4 : Value) : World := ((((w.setCell ⟨g, o, none⟩ x0).setCell ⟨g, o + 1, none⟩ x1).setCell ⟨g, o + 2, none⟩ x2).setCell ⟨g, o + 3, none⟩ x3).setCell ⟨g, o + 4, none⟩ x4
theorem Cd.FnRow.store {g : Nat} {w : World} {c : List Cd.Fn} {i : Nat} (h : Cd.FnRow g w c i) (hi : i < c.length) {pa : Option Addr} {pc : Nat} {ia : Option Addr} {ic : Nat} (h2 : Cd.IntsAt w.heap.size w (.slice pa c[i].params.length pc) c[i].params) (h3 : Cd.InsAt w.heap.size w (.slice ia c[i].ins.length ic) c[i].ins) (h4 : ∀ j, (Value.slice pa c[i].params.length pc).ownBlock = some j → g < j) (h5 : ∀ j, (Value.slice ia c[i].ins.length ic).ownBlock = some j → g < j) (h6 : Cd.Mine g w 3 c[i].params.length (.slice pa c[i].params.length pc)) (h7 : Cd.Mine g w 66 (c[i].ins.length * 4) (.slice ia c[i].ins.length ic)) :
    Cd.FnRow g (Cd.set5 w g (i * 5) (.string c[i].name) (.slice pa c[i].params.length pc) (.int .i64 c[i].result) (.int .i64 c[i].slots) (.slice ia c[i].ins.length ic)) c (i + 1) := by
  obtain ⟨cur, hr⟩ := h.row
  have hR := ((((hr.store (i * 5) (.string c[i].name)).store (i * 5 + 1) (.slice pa c[i].params.length pc)).store (i * 5 + 2) (.int .i64 c[i].result)).store (i * 5 + 3) (.int .i64 c[i].slots)).store (i * 5 + 4) (.slice ia c[i].ins.length ic)
  have ho : ∀ k, k ≠ g → (Cd.set5 w g (i * 5) (.string c[i].name) (.slice pa c[i].params.length pc) (.int .i64 c[i].result) (.int .i64 c[i].slots) (.slice ia c[i].ins.length ic)).heap[k]? = w.heap[k]? := fun k hk => Cd.heap_set5 w g (i * 5) _ _ _ _ _ k hk
  have hz : (Cd.set5 w g (i * 5) (.string c[i].name) (.slice pa c[i].params.length pc) (.int .i64 c[i].result) (.int .i64 c[i].slots) (.slice ia c[i].ins.length ic)).heap.size = w.heap.size := by simp [Cd.set5]
  refine ⟨⟨_, hR⟩, fun k hk hki => ?_⟩
  by_cases e : k = i
  · subst e
    refine ⟨pa, pc, ia, ic, fun q hq => ?_, h2.keep (fun j hj => ho j (by have := h4 j hj; omega)) (by rw [hz]; exact Nat.le_refl _), h3.keep (fun j hj => ho j (by have := h5 j hj; omega)) (by rw [hz]; exact Nat.le_refl _), h4, h5, h6.keep (fun j hj => ho j (by have := h4 j hj; omega)), h7.keep (fun j hj => ho j (by have := h5 j hj; omega))⟩
    refine (Lib.cell_of_heap hR.blk _).trans ?_
    simp only [Array.getElem?_setIfInBounds, Array.size_setIfInBounds, hr.size]
    have hq5 : q = 0 ∨ q = 1 ∨ q = 2 ∨ q = 3 ∨ q = 4 := by omega
    rcases hq5 with rfl | rfl | rfl | rfl | rfl
    · rw [if_neg (by omega), if_neg (by omega), if_neg (by omega), if_neg (by omega), if_pos (by omega), if_pos (by omega)]; rfl
    · rw [if_neg (by omega), if_neg (by omega), if_neg (by omega), if_pos (by omega), if_pos (by omega)]; rfl
    · rw [if_neg (by omega), if_neg (by omega), if_pos (by omega), if_pos (by omega)]; rfl
    · rw [if_neg (by omega), if_pos (by omega), if_pos (by omega)]; rfl
    · rw [if_pos (by omega), if_pos (by omega)]; rfl
  · obtain ⟨pa', pc', ia', ic', g1, g2, g3, g4, g5, g6, g7⟩ := h.each k hk (by omega)
    refine ⟨pa', pc', ia', ic', fun q hq => ?_, g2.keep (fun j hj => ho j (by have := g4 j hj; omega)) (by rw [hz]; exact Nat.le_refl _), g3.keep (fun j hj => ho j (by have := g5 j hj; omega)) (by rw [hz]; exact Nat.le_refl _), g4, g5, g6.keep (fun j hj => ho j (by have := g4 j hj; omega)), g7.keep (fun j hj => ho j (by have := g5 j hj; omega))⟩
    rw [← g1 q hq, Lib.cell_of_heap hr.blk]
    refine (Lib.cell_of_heap hR.blk _).trans ?_
    simp only [Array.getElem?_setIfInBounds]
    rw [if_neg (by omega), if_neg (by omega), if_neg (by omega), if_neg (by omega), if_neg (by omega)]
def Cd.CodeIn (A B : Nat) (w : World) (v : Value) (c : List Cd.Fn) : Prop :=
  ∃ a cap, v = .slice a c.length cap ∧ ∀ k (hk : k < c.length), ∃ g pv iv, a = some ⟨g, 0, none⟩ ∧ A ≤ g ∧ g < B ∧ (∀ j, j < 5 → w.cell? ⟨g, k * 5 + j, none⟩ = (Cd.fnC c[k] pv iv)[j]?) ∧ Cd.IntsAt B w pv c[k].params ∧ Cd.InsAt B w iv c[k].ins ∧ (∀ j, pv.ownBlock = some j → A ≤ j) ∧ (∀ j, iv.ownBlock = some j → A ≤ j) ∧ (∃ cur, Cd.Rw g 53 (c.length * 5) w cur) ∧ Cd.Mine A w 3 c[k].params.length pv ∧ Cd.Mine A w 66 (c[k].ins.length * 4) iv
theorem Cd.CodeIn.code {A B : Nat} {w : World} {v : Value} {c : List Cd.Fn} (h : Cd.CodeIn A B w v c) : Cd.CodeAt B w v c := by
  obtain ⟨a, cap, rfl, hc⟩ := h
  refine ⟨a, cap, rfl, fun k hk => ?_⟩
  obtain ⟨g, pv, iv, h1, -, h2, h3, h4, h5, -⟩ := hc k hk
  exact ⟨g, pv, iv, h1, h2, h3, h4, h5⟩
theorem Cd.CodeIn.keep {A B C : Nat} {w w' : World} {v : Value} {c : List Cd.Fn} (h : Cd.CodeIn A B w v c) (hs : ∀ k, A ≤ k → w'.heap[k]? = w.heap[k]?) (hC : B ≤ C) : Cd.CodeIn A C w' v c := by
  obtain ⟨a, cap, rfl, hc⟩ := h
  refine ⟨a, cap, rfl, fun k hk => ?_⟩
  obtain ⟨g, pv, iv, h1, h0, h2, h3, h4, h5, h6, h7, ⟨cur, h8⟩, h9, h10⟩ := hc k hk
  exact ⟨g, pv, iv, h1, h0, by omega, fun j hj => by rw [World.cell?_of_block (a := ⟨g, k * 5 + j, none⟩) (hs g h0)]; exact h3 j hj, h4.keep (fun j hj => hs j (h6 j hj)) hC, h5.keep (fun j hj => hs j (h7 j hj)) hC, h6, h7, ⟨cur, (hs g h0).trans h8.blk, h8.size⟩, h9.keep (fun j hj => hs j (h6 j hj)), h10.keep (fun j hj => hs j (h7 j hj))⟩
theorem Cd.FnRow.code {g : Nat} {w : World} {c : List Cd.Fn} {i : Nat} (h : Cd.FnRow g w c i) (hi : c.length ≤ i) : Cd.CodeIn g w.heap.size w (.slice (some ⟨g, 0, none⟩) c.length c.length) c := by
  obtain ⟨cur, hr⟩ := h.row
  refine ⟨_, _, rfl, fun k hk => ?_⟩
  obtain ⟨pa, pc, ia, ic, h1, h2, h3, h4, h5, h6, h7⟩ := h.each k hk (by omega)
  exact ⟨g, _, _, rfl, Nat.le_refl _, hr.lt, h1, h2, h3, fun j hj => Nat.le_of_lt (h4 j hj), fun j hj => Nat.le_of_lt (h5 j hj), ⟨cur, hr⟩, h6, h7⟩
theorem Tryz.infoFn : (Tryz.prog.info? 53).map (fun i => (i.zero, i.size, i.bytes)) = some (some (.agg #[.string ⟨#[]⟩, .slice none 0 0, .int .i64 0, .int .i64 0, .slice none 0 0]), 5, 80) := by kernel_rfl
set_option maxRecDepth 100000 in
set_option maxHeartbeats 2000000 in
theorem Cd.toFnS_any (c : List Cd.Fn) (a : Option Addr) (cap : Nat) (hl : c.length ≤ 1048576) (hx : ∀ k (hk : k < c.length), c[k].params.length ≤ 1048576 ∧ c[k].ins.length ≤ 1048576) (w : World) (hN : Cd.FnsOff w (.slice a c.length cap) c) :
    Calls Tryz.prog 12 #[.slice a c.length cap] w fun e w' => e = .returned (.slice (some ⟨w.heap.size, 0, none⟩) c.length c.length) ∧ Cd.CodeIn w.heap.size w'.heap.size w' (.slice (some ⟨w.heap.size, 0, none⟩) c.length c.length) c ∧ Below w.heap.size w w' := by
  have HN : Hid (Cd.FnsOff w (.slice a c.length cap) c) := hN
  clear hN
  have hmk := Cd.make_is (P := Tryz.prog) Tryz.infoFn Tryz.underlying27 c.length (by omega) (by omega)
  obtain ⟨mc, hmc⟩ : ∃ m, madeCells (Value.agg #[.string ⟨#[]⟩, .slice none 0 0, .int .i64 0, .int .i64 0, .slice none 0 0]).cells (c.length * 5) = m := ⟨_, rfl⟩
  have HMS : Hid (mc.size = c.length * 5) := by rw [Hid, ← hmc, size_madeCells]
  rw [hmc] at hmk
  clear hmc
  go_enter Tryz.func12, Tryz.ntmps12
  go_wp2_with fail
  obtain ⟨V0, hV0⟩ : ∃ V, w.alloc (.cells mc 53) = V := ⟨_, rfl⟩
  rw [hV0]
  have HV0 : Hid (Cd.FnRow w.heap.size V0 c 0 ∧ Below w.heap.size w V0) := ⟨⟨⟨mc, by rw [← hV0]; exact Cd.new_at w _, HMS.out⟩, fun k hk h => by omega⟩, by rw [← hV0]; exact Cd.b1 w _⟩
  clear hV0 hmk
  go_loopw [4] (fun t wr => ∃ i : Nat, i ≤ c.length ∧ t = .int .i64 (i : Int) ∧ Cd.FnRow w.heap.size wr c i ∧ Below w.heap.size w wr) (fun t _ => c.length - (intOf t).toNat)
  case atStart => exact ⟨0, by omega, rfl, HV0.out.1, HV0.out.2⟩
  case round =>
    obtain ⟨i, hi, rfl, hrw, hbw⟩ := hrel
    by_cases hlt : i < c.length
    · have hltI : (i : Int) < (c.length : Int) := by omega
      obtain ⟨g, o, pa, pc, ia, ic, hae, e0, e1, e2, e3, e4, HP, HI⟩ : ∃ g o pa pc ia ic, a = some ⟨g, o, none⟩ ∧ wr.cell? ⟨g, o + i * 5, none⟩ = some (.string c[i].name) ∧ wr.cell? ⟨g, o + i * 5 + 1, none⟩ = some (.slice pa c[i].params.length pc) ∧ wr.cell? ⟨g, o + i * 5 + 2, none⟩ = some (.int .i64 c[i].result) ∧ wr.cell? ⟨g, o + i * 5 + 3, none⟩ = some (.int .i64 c[i].slots) ∧ wr.cell? ⟨g, o + i * 5 + 4, none⟩ = some (.slice ia c[i].ins.length ic) ∧ Hid (Cd.IntsAt wr.heap.size wr (.slice pa c[i].params.length pc) c[i].params) ∧ Hid (Cd.InsOff wr (.slice ia c[i].ins.length ic) c[i].ins) := by
        obtain ⟨a', cp, e, h⟩ := HN.out.below hbw
        injection e with e1
        subst e1
        obtain ⟨g, o, pa, pc, ia, ic, h1, -, ⟨h2, h3, h4, h5, h6⟩, h7, h8⟩ := h i hlt
        exact ⟨g, o, pa, pc, ia, ic, h1, h2, h3, h4, h5, h6, h7, h8⟩
      subst hae
      have HTF : Hid (Calls Tryz.prog 25 #[.agg #[.string c[i].name, .slice pa c[i].params.length pc, .int .i64 c[i].result, .int .i64 c[i].slots, .slice ia c[i].ins.length ic]] wr (Cd.ToFnPost c[i] wr)) := Cd.toFn_any c[i] pa pc ia ic (hx i hlt).1 (hx i hlt).2 wr HP.out HI.out
      have HRW : Hid (Cd.FnRow w.heap.size wr c i) := hrw
      have hgl : w.heap.size < wr.heap.size := by obtain ⟨cur, hr⟩ := hrw.row; exact hr.lt
      have HCE : Hid (∀ w1, Below wr.heap.size wr w1 → ∀ q, q < 5 → (∃ y, w1.cell? ⟨w.heap.size, i * 5 + q, none⟩ = some y) ∧ w1.frozen? ⟨w.heap.size, i * 5 + q, none⟩ = false) := fun w1 hb q hq => by
        obtain ⟨cur, hr⟩ := HRW.out.row
        exact (hr.below hb).cell (i * 5 + q) (by omega)
      clear hrw
      go_wp2_with (first | (go_at_call 25; refine HTF.out.mono ?_; rintro e w1 ⟨pa1, pc1, ia1, ic1, rfl, hP1, hI1, hpn, hin, hm1, hm2, hb1⟩; have HM1 : Hid (Cd.Mine w.heap.size w1 3 c[i].params.length (.slice pa1 c[i].params.length pc1) ∧ Cd.Mine w.heap.size w1 66 (c[i].ins.length * 4) (.slice ia1 c[i].ins.length ic1)) := ⟨hm1.mono (by omega), hm2.mono (by omega)⟩; clear hm1 hm2; have HF1 : Hid (Cd.IntsAt w1.heap.size w1 (.slice pa1 c[i].params.length pc1) c[i].params ∧ Cd.InsAt w1.heap.size w1 (.slice ia1 c[i].ins.length ic1) c[i].ins ∧ (∀ j, (Value.slice pa1 c[i].params.length pc1).ownBlock = some j → w.heap.size < j) ∧ (∀ j, (Value.slice ia1 c[i].ins.length ic1).ownBlock = some j → w.heap.size < j)) := ⟨hP1, hI1, fun j e => Nat.lt_of_lt_of_le hgl (hpn j e), fun j e => Nat.lt_of_lt_of_le hgl (hin j e)⟩; clear hP1 hI1 hpn hin; obtain ⟨⟨y0, c0⟩, f0⟩ := HCE.out w1 hb1 0 (by omega); obtain ⟨⟨y1, c1⟩, f1⟩ := HCE.out w1 hb1 1 (by omega); obtain ⟨⟨y2, c2⟩, f2⟩ := HCE.out w1 hb1 2 (by omega); obtain ⟨⟨y3, c3⟩, f3⟩ := HCE.out w1 hb1 3 (by omega); obtain ⟨⟨y4, c4⟩, f4⟩ := HCE.out w1 hb1 4 (by omega); rw [Nat.add_zero] at c0 f0))
      go_roundw
      case rel =>
        have hS := (HRW.out.below hb1).store hlt HF1.out.1 HF1.out.2.1 HF1.out.2.2.1 HF1.out.2.2.2 HM1.out.1 HM1.out.2
        unfold Cd.set5 at hS
        exact ⟨i + 1, by omega, by go_num, hS, (((((hbw.trans (hb1.mono hbw.size)).setCell (p := ⟨w.heap.size, i * 5, none⟩) (Nat.le_refl _) _).setCell (p := ⟨w.heap.size, i * 5 + 1, none⟩) (Nat.le_refl _) _).setCell (p := ⟨w.heap.size, i * 5 + 2, none⟩) (Nat.le_refl _) _).setCell (p := ⟨w.heap.size, i * 5 + 3, none⟩) (Nat.le_refl _) _).setCell (p := ⟨w.heap.size, i * 5 + 4, none⟩) (Nat.le_refl _) _⟩
      case measure => simp [intOf]; omega
    · have hltI : ¬ (i : Int) < (c.length : Int) := by omega
      have HEND : Hid (Cd.CodeIn w.heap.size wr.heap.size wr (.slice (some ⟨w.heap.size, 0, none⟩) c.length c.length) c) := hrw.code (by omega)
      clear hrw
      go_wp2_with fail
      go_ret
      exact ⟨rfl, HEND.out, hbw⟩
set_option maxRecDepth 100000 in
set_option maxHeartbeats 2000000 in
theorem Cd.toCode_in (c : List Cd.Fn) (a : Option Addr) (cap : Nat) (hl : c.length ≤ 1048576) (hx : ∀ k (hk : k < c.length), c[k].params.length ≤ 1048576 ∧ c[k].ins.length ≤ 1048576) (w : World) (hN : Cd.FnsOff w (.slice a c.length cap) c) :
    Calls Tryz.prog 6 #[.agg #[.slice a c.length cap]] w fun e w' => ∃ p, e = .returned (.agg #[.slice p c.length c.length]) ∧ Cd.CodeIn (w.heap.size + 3) w'.heap.size w' (.slice p c.length c.length) c ∧ Below w.heap.size w w' := by
  have HTF : Hid (∀ U, Below w.heap.size w U → Calls Tryz.prog 12 #[.slice a c.length cap] U fun e w' => e = .returned (.slice (some ⟨U.heap.size, 0, none⟩) c.length c.length) ∧ Cd.CodeIn U.heap.size w'.heap.size w' (.slice (some ⟨U.heap.size, 0, none⟩) c.length c.length) c ∧ Below U.heap.size U w') := fun U hU => Cd.toFnS_any c a cap hl hx U (hN.below hU)
  clear hN
  obtain ⟨Y3, hY3⟩ : ∃ Y, (((w.alloc (.cells #[.slice a c.length cap] 24)).alloc (.cells #[.slice none 0 0] 29)).alloc (.cells #[.slice none 0 0] 29)) = Y := ⟨_, rfl⟩
  have hs3 : Y3.heap.size = w.heap.size + 3 := by rw [← hY3, World.size_alloc, World.size_alloc, World.size_alloc]
  have HB3 : Hid (Below w.heap.size w Y3) := by rw [Hid, ← hY3]; exact Cd.b3 w _ _ _
  have q0 : Y3.heap[w.heap.size]? = some (.cells #[.slice a c.length cap] 24) := by rw [← hY3]; exact Cd.keepH _ (Cd.keepH _ (Cd.new_at w _))
  have q1 : Y3.heap[w.heap.size + 1]? = some (.cells #[.slice none 0 0] 29) := by
    rw [← hY3]
    have h := Cd.new_at (w.alloc (.cells #[.slice a c.length cap] 24)) (.cells #[.slice none 0 0] 29)
    rw [World.size_alloc] at h
    exact Cd.keepH _ h
  have q2 : Y3.heap[w.heap.size + 1 + 1]? = some (.cells #[.slice none 0 0] 29) := by
    rw [← hY3]
    have h := Cd.new_at ((w.alloc (.cells #[.slice a c.length cap] 24)).alloc (.cells #[.slice none 0 0] 29)) (.cells #[.slice none 0 0] 29)
    rw [World.size_alloc, World.size_alloc] at h
    exact h
  have c0 : Y3.cell? ⟨w.heap.size, 0, none⟩ = some (.slice a c.length cap) := by rw [Lib.cell_of_heap q0]; rfl
  go_enter Tryz.func6, Tryz.ntmps6
  go_wp2_with (first
    | (go_at_call 12; refine (HTF.out Y3 HB3.out).mono ?_; rintro e w1 ⟨rfl, hI1, hb1⟩; rw [hs3] at hI1 ⊢; have HI1 : Hid (Cd.CodeIn (w.heap.size + 3) w1.heap.size w1 (.slice (some ⟨w.heap.size + 3, 0, none⟩) c.length c.length) c) := hI1; clear hI1; replace q1 := (hb1.block _ (by omega)).trans q1; replace q2 := (hb1.block _ (by omega)).trans q2; have x1 : w1.cell? ⟨w.heap.size + 1, 0, none⟩ = some (.slice none 0 0) := (by rw [Lib.cell_of_heap q1]; rfl); have x2 : w1.cell? ⟨w.heap.size + 1 + 1, 0, none⟩ = some (.slice none 0 0) := (by rw [Lib.cell_of_heap q2]; rfl); have y1 : w1.frozen? ⟨w.heap.size + 1, 0, none⟩ = false := (by simp [World.frozen?, q1]); have y2 : w1.frozen? ⟨w.heap.size + 1 + 1, 0, none⟩ = false := (by simp [World.frozen?, q2])))
  have hb5 : Below w.heap.size w ((w1.setCell ⟨w.heap.size + 1 + 1, 0, none⟩ (.slice (some ⟨w.heap.size + 3, 0, none⟩) c.length c.length)).setCell ⟨w.heap.size + 1, 0, none⟩ (.slice (some ⟨w.heap.size + 3, 0, none⟩) c.length c.length)) := ((HB3.out.trans (hb1.mono HB3.out.size)).setCell (p := ⟨w.heap.size + 1 + 1, 0, none⟩) (by show w.heap.size ≤ w.heap.size + 1 + 1; omega) _).setCell (p := ⟨w.heap.size + 1, 0, none⟩) (by show w.heap.size ≤ w.heap.size + 1; omega) _
  refine bodyPost_ret (v := .agg #[.slice (some ⟨w.heap.size + 3, 0, none⟩) c.length c.length]) (by simp [results, Tryz.results6, go_sem, x1]) rfl ⟨_, rfl, ?_, hb5⟩
  refine HI1.out.keep (fun k hk => ?_) (by simp)
  rw [Below.heap_setCell _ _ _ _ (by show k ≠ w.heap.size + 1; omega), Below.heap_setCell _ _ _ _ (by show k ≠ w.heap.size + 1 + 1; omega)]
theorem Cd.toCode_any (c : List Cd.Fn) (a : Option Addr) (cap : Nat) (hl : c.length ≤ 1048576) (hx : ∀ k (hk : k < c.length), c[k].params.length ≤ 1048576 ∧ c[k].ins.length ≤ 1048576) (w : World) (hN : Cd.FnsOff w (.slice a c.length cap) c) :
    Calls Tryz.prog 6 #[.agg #[.slice a c.length cap]] w fun e w' => ∃ p, e = .returned (.agg #[.slice p c.length c.length]) ∧ Cd.CodeAt w'.heap.size w' (.slice p c.length c.length) c ∧ Below w.heap.size w w' :=
  (Cd.toCode_in c a cap hl hx w hN).mono fun _ _ ⟨p, h1, h2, h3⟩ => ⟨p, h1, h2.code, h3⟩
end Go.Proofs.YtdmfbhfiaodehaaGreatDoor
