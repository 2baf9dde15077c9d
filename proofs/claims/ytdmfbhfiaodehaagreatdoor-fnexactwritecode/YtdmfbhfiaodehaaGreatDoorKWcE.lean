import Derived.Test.YtdmfbhfiaodehaaGreatDoorKWcA
import Derived.Test.YtdmfbhfiaodehaaGreatDoorKCeJ
namespace Go.Proofs.YtdmfbhfiaodehaaGreatDoor
open Go.RowKit

theorem Wc.rowOf_hasA : ∀ m : Fin 17, 1 ≤ m.val → (Cd.rowOf m.val).1 = Cd.hasA ((m.val : Nat) : Int) := by decide +kernel
theorem Wc.tab {w w' : World} (h : Cd.InsTab w) (op : Int) (h1 : 1 ≤ op) (h2 : op ≤ 16) (B : Nat) (hB : 0 < B) (hb : Below B w w') : w'.cell? ⟨0, op.toNat * 5, none⟩ = some (.bool (Cd.hasA op)) := by
  rw [hb.cell (p := ⟨0, op.toNat * 5, none⟩) hB, h.hasA op.toNat (by omega) (by omega)]
  have e := Wc.rowOf_hasA ⟨op.toNat, by omega⟩ (by show 1 ≤ op.toNat; omega)
  simp only at e
  rw [e]
  have e2 : ((op.toNat : Nat) : Int) = op := by omega
  rw [e2]
theorem Wc.Fr.cells {g k : Nat} {w w' : World} {cur : Array Value} {e : TypeId} (h : Wc.Fr g w w') (hk : w.heap[k]? = some (.cells cur e (0, 0))) (hg : k ≠ g) (he : e ≠ 5) (j : Nat) : w'.cell? ⟨k, j, none⟩ = cur[j]? := by
  rw [Lib.cell_of_heap (h.keep hk hg he)]
def Wc.Up (T l : List UInt8) : Prop := l = T ∨ (200000 < l.length ∧ l.length ≤ T.length)
theorem Wc.Up.app {T l : List UInt8} (h : Wc.Up T l) (p : List UInt8) : Wc.Up (T ++ p) (l ++ p) := by
  rcases h with rfl | ⟨h1, h2⟩
  · exact .inl rfl
  · right; simp only [List.length_append]; omega
theorem Wc.Up.skip {T l : List UInt8} (h : Wc.Up T l) (hf : 200000 < l.length) (p : List UInt8) : Wc.Up (T ++ p) l := by
  rcases h with rfl | ⟨h1, h2⟩
  · right; simp only [List.length_append]; omega
  · right; simp only [List.length_append]; omega
theorem Wc.Up.len {T l : List UInt8} (h : Wc.Up T l) : l.length ≤ T.length := by
  rcases h with rfl | ⟨h1, h2⟩
  · exact Nat.le_refl _
  · exact h2
set_option maxRecDepth 100000 in
set_option maxHeartbeats 2000000 in
theorem Wc.iins_any (g : Nat) (l : List UInt8) (op : Nat) (a n : Int) (text : ByteArray) (h1 : 1 ≤ op) (h2 : op ≤ 16) (ht : op = 1 → a = 2 → text.size ≤ 1048576) (hl : l.length ≤ 30000000000000) (w : World) (h : Wc.Has g l w) (hT : Cd.InsTab w) (hGl : 0 < g) :
    Calls Tryz.prog 31 #[.pointer (some ⟨g, 0, none⟩), .agg #[.int .i64 (op : Int), .int .i64 a, .int .i64 n, .string text]] w fun e w' => e = .returned (.tuple #[]) ∧ Wc.Has g (l ++ Wc.ins ⟨(op : Int), a, n, text⟩) w' ∧ Wc.Fr g w w' := by
  have hg := h.lt
  obtain ⟨V, hV⟩ : ∃ V, w.alloc (.cells #[.int .i64 (op : Int), .int .i64 a, .int .i64 n, .string text] 66) = V := ⟨_, rfl⟩
  have hVb : V.heap[w.heap.size]? = some (.cells #[.int .i64 (op : Int), .int .i64 a, .int .i64 n, .string text] 66) := by rw [← hV]; exact (MapKept.heap_alloc w _).1
  have HFV : Hid (Wc.Fr g w V) := by rw [Hid, ← hV]; exact Wc.Fr.alloc g w _ (by omega)
  have HHV : Hid (Wc.Has g l V) := by rw [Hid, ← hV]; exact h.alloc _
  obtain ⟨bA, HBA⟩ : ∃ b, Hid (Cd.hasA (op : Int) = b) := ⟨_, (rfl : Cd.hasA (op : Int) = _)⟩
  have HXB : Hid (∀ U, Wc.Fr g V U → U.cell? ⟨w.heap.size, 0, none⟩ = some (.int .i64 (op : Int)) ∧ U.cell? ⟨w.heap.size, 1, none⟩ = some (.int .i64 a) ∧ U.cell? ⟨w.heap.size, 2, none⟩ = some (.int .i64 n) ∧ U.cell? ⟨w.heap.size, 3, none⟩ = some (.string text) ∧ U.cell? ⟨0, op * 5, none⟩ = some (.bool bA)) := fun U hU =>
    ⟨hU.cells hVb (by omega) (by decide) 0, hU.cells hVb (by omega) (by decide) 1, hU.cells hVb (by omega) (by decide) 2, hU.cells hVb (by omega) (by decide) 3, by
      have := Wc.tab hT (op : Int) (by omega) (by omega) g hGl (HFV.out.1.trans hU.1)
      rw [HBA.out] at this; simpa using this⟩
  obtain ⟨r0, r1, r2, r3, r4⟩ := HXB.out V (Wc.Fr.refl _ _)
  clear h hT hVb
  have HNS : Hid (∀ (l : List UInt8) (x : Int) (U : World), Wc.Has g l U → l.length ≤ 50000000000000 → Calls Tryz.prog 15 #[.pointer (some ⟨g, 0, none⟩), .slice (some ⟨U.heap.size, 0, none⟩) 1 1] (U.alloc (.cells #[.int .i64 x] 3)) fun e w' => e = .returned (.tuple #[]) ∧ Wc.Has g (l ++ Wc.num (Wc.u x)) w' ∧ Wc.Fr g U w') := fun l x U hU hl => by
    have := Wc.inumbers_any g l [x] (.slice (some ⟨U.heap.size, 0, none⟩) 1 1) (by simp) hl _ (hU.alloc (.cells #[.int .i64 x] 3)) (by have := hU.lt; simp; omega) (Wc.Ints.new g U [x] hU.lt)
    refine this.mono ?_
    rintro e w' ⟨h1, h2, h3⟩
    exact ⟨h1, by simpa [Wc.pars] using h2, (Wc.Fr.alloc g U _ (Nat.le_of_lt hU.lt)).trans h3⟩
  have HNW : Hid (∀ (l : List UInt8) (x : Int) (U : World), Wc.Has g l U → l.length ≤ 80000000000000 → Calls Tryz.prog 29 #[.pointer (some ⟨g, 0, none⟩), .int .u64 (IntKind.u64.wrap x)] U fun e w' => e = .returned (.tuple #[]) ∧ Wc.Has g (l ++ Wc.num (Wc.u x)) w' ∧ Wc.Fr g U w') := fun l x U h2 h3 => by
    rw [Wc.wrap_u]; exact Wc.inumber_any g l _ (Wc.u_lt x) (by omega) U h2 (Nat.le_of_lt h2.lt)
  have hn1 := Wc.num_u (op : Int)
  have hn2 := Wc.num_u a
  have hopI : (op : Int) < 17 := by omega
  have HTX : Hid (op = 1 → a = 2 → text.size ≤ 1048576) := ht
  clear ht
  by_cases e1 : op = 1
  · have hA : bA = true := by rw [← HBA.out, e1]; rfl
    subst hA
    have HOP : Hid (Wc.opt ⟨(op : Int), a, n, text⟩ = Wc.num (Wc.u a)) := by rw [Hid, Wc.opt, if_pos HBA.out]
    have HE1 : Hid (((op : Int) != 1) = false) := by rw [Hid]; simp [e1]
    by_cases e2 : a = 2
    · have HLI : Hid (Wc.lit ⟨(op : Int), a, n, text⟩ = Wc.txt text) := by rw [Hid, Wc.lit, if_pos (by simp [e1]), if_pos e2]
      have hts := HTX.out e1 e2
      have HE2 : Hid ((a == 2) = true) := by rw [Hid]; simp [e2]
      clear e1 e2 HTX HBA
      go_enter Tryz.func31, Tryz.ntmps31
      go_wp2_with (first
        | (go_at_call 30; refine (Wc.itext_any g _ text hts (by simp only [List.length_append]; omega) wb HB.out).mono ?_; rintro e wc ⟨rfl, hc, hfc⟩; have HCC : Hid (Wc.Has g (l ++ Wc.num (Wc.u (op : Int)) ++ Wc.num (Wc.u a) ++ Wc.txt text) wc) := hc; have HFC : Hid (Wc.Fr g V wc) := HFB.out.trans hfc; clear hc hfc)
        | (go_at_call 15; refine (HNS.out (l ++ Wc.num (Wc.u (op : Int))) a wa HA.out (by simp only [List.length_append]; omega)).mono ?_; rintro e wb ⟨rfl, hb, hfb⟩; have HB : Hid (Wc.Has g (l ++ Wc.num (Wc.u (op : Int)) ++ Wc.num (Wc.u a)) wb) := hb; have HFB : Hid (Wc.Fr g V wb) := HFA.out.trans hfb; clear hb hfb; obtain ⟨t0, t1, t2, t3, t4⟩ := HXB.out wb HFB.out; have hE1 := HE1.out; have hE2 := HE2.out)
        | (go_at_call 15; refine (HNS.out l (op : Int) V HHV.out (by omega)).mono ?_; rintro e wa ⟨rfl, ha, hfa⟩; have HA : Hid (Wc.Has g (l ++ Wc.num (Wc.u (op : Int))) wa) := ha; have HFA : Hid (Wc.Fr g V wa) := hfa; clear ha hfa; obtain ⟨s0, s1, s2, s3, s4⟩ := HXB.out wa HFA.out))
      go_end0
      exact ⟨rfl, by unfold Wc.ins; rw [HOP.out, HLI.out]; simpa only [List.append_assoc] using HCC.out, HFV.out.trans HFC.out⟩
    · have HLI : Hid (Wc.lit ⟨(op : Int), a, n, text⟩ = Wc.num (Wc.u n)) := by rw [Hid, Wc.lit, if_pos (by simp [e1]), if_neg e2]
      have HE2 : Hid ((a == 2) = false) := by rw [Hid]; simp [e2]
      clear e1 e2 HTX HBA
      go_enter Tryz.func31, Tryz.ntmps31
      go_wp2_with (first
        | (go_at_call 29; refine (HNW.out _ n wb HB.out (by simp only [List.length_append]; omega)).mono ?_; rintro e wc ⟨rfl, hc, hfc⟩; have HCC : Hid (Wc.Has g (l ++ Wc.num (Wc.u (op : Int)) ++ Wc.num (Wc.u a) ++ Wc.num (Wc.u n)) wc) := hc; have HFC : Hid (Wc.Fr g V wc) := HFB.out.trans hfc; clear hc hfc)
        | (go_at_call 15; refine (HNS.out (l ++ Wc.num (Wc.u (op : Int))) a wa HA.out (by simp only [List.length_append]; omega)).mono ?_; rintro e wb ⟨rfl, hb, hfb⟩; have HB : Hid (Wc.Has g (l ++ Wc.num (Wc.u (op : Int)) ++ Wc.num (Wc.u a)) wb) := hb; have HFB : Hid (Wc.Fr g V wb) := HFA.out.trans hfb; clear hb hfb; obtain ⟨t0, t1, t2, t3, t4⟩ := HXB.out wb HFB.out; have hE1 := HE1.out; have hE2 := HE2.out)
        | (go_at_call 15; refine (HNS.out l (op : Int) V HHV.out (by omega)).mono ?_; rintro e wa ⟨rfl, ha, hfa⟩; have HA : Hid (Wc.Has g (l ++ Wc.num (Wc.u (op : Int))) wa) := ha; have HFA : Hid (Wc.Fr g V wa) := hfa; clear ha hfa; obtain ⟨s0, s1, s2, s3, s4⟩ := HXB.out wa HFA.out))
      go_end0
      exact ⟨rfl, by unfold Wc.ins; rw [HOP.out, HLI.out]; simpa only [List.append_assoc] using HCC.out, HFV.out.trans HFC.out⟩
  · have HLI : Hid (Wc.lit ⟨(op : Int), a, n, text⟩ = []) := by rw [Hid, Wc.lit, if_neg (by simp; omega)]
    have HE1 : Hid (((op : Int) != 1) = true) := by rw [Hid]; simp; omega
    clear e1 HTX
    cases bA with
    | true =>
      have HOP : Hid (Wc.opt ⟨(op : Int), a, n, text⟩ = Wc.num (Wc.u a)) := by rw [Hid, Wc.opt, if_pos HBA.out]
      clear HBA
      go_enter Tryz.func31, Tryz.ntmps31
      go_wp2_with (first
        | (go_at_call 15; refine (HNS.out (l ++ Wc.num (Wc.u (op : Int))) a wa HA.out (by simp only [List.length_append]; omega)).mono ?_; rintro e wb ⟨rfl, hb, hfb⟩; have HB : Hid (Wc.Has g (l ++ Wc.num (Wc.u (op : Int)) ++ Wc.num (Wc.u a)) wb) := hb; have HFB : Hid (Wc.Fr g V wb) := HFA.out.trans hfb; clear hb hfb; obtain ⟨t0, t1, t2, t3, t4⟩ := HXB.out wb HFB.out; have hE1 := HE1.out)
        | (go_at_call 15; refine (HNS.out l (op : Int) V HHV.out (by omega)).mono ?_; rintro e wa ⟨rfl, ha, hfa⟩; have HA : Hid (Wc.Has g (l ++ Wc.num (Wc.u (op : Int))) wa) := ha; have HFA : Hid (Wc.Fr g V wa) := hfa; clear ha hfa; obtain ⟨s0, s1, s2, s3, s4⟩ := HXB.out wa HFA.out))
      go_end0
      exact ⟨rfl, by unfold Wc.ins; rw [HOP.out, HLI.out, List.append_nil]; simpa only [List.append_assoc] using HB.out, HFV.out.trans HFB.out⟩
    | false =>
      have HOP : Hid (Wc.opt ⟨(op : Int), a, n, text⟩ = []) := by rw [Hid, Wc.opt, if_neg (by rw [HBA.out]; simp)]
      clear HBA
      go_enter Tryz.func31, Tryz.ntmps31
      go_wp2_with (first
        | (go_at_call 15; refine (HNS.out l (op : Int) V HHV.out (by omega)).mono ?_; rintro e wa ⟨rfl, ha, hfa⟩; have HA : Hid (Wc.Has g (l ++ Wc.num (Wc.u (op : Int))) wa) := ha; have HFA : Hid (Wc.Fr g V wa) := hfa; clear ha hfa; obtain ⟨s0, s1, s2, s3, s4⟩ := HXB.out wa HFA.out; have hE1 := HE1.out))
      go_end0
      exact ⟨rfl, by unfold Wc.ins; rw [HOP.out, HLI.out, List.append_nil, List.append_nil]; exact HA.out, HFV.out.trans HFA.out⟩
end Go.Proofs.YtdmfbhfiaodehaaGreatDoor
namespace Go.Proofs.YtdmfbhfiaodehaaGreatDoor
open Go.RowKit

theorem Wc.Ints.of {g B : Nat} {w : World} {v : Value} {ns : List Int} (h : Cd.IntsAt B w v ns) (hB : B ≤ g) : Wc.Ints g w v ns := by
  obtain ⟨a, cap, rfl, hc⟩ := h
  refine ⟨a, cap, rfl, fun i hi => ?_⟩
  obtain ⟨p, o, h1, h2, h3⟩ := hc i hi
  exact ⟨p, o, h1, h3, .inl (by omega)⟩
theorem Wc.inss_split (l : List Cd.Ins) (i : Nat) : Wc.inss l = Wc.inss (l.take i) ++ Wc.inss (l.drop i) := by
  unfold Wc.inss
  rw [← List.flatMap_append, List.take_append_drop]
set_option maxRecDepth 100000 in
set_option maxHeartbeats 4000000 in
theorem Wc.ifn_any (g B : Nat) (hB : B ≤ g) (T l : List UInt8) (f : Cd.Fn) (pa ia : Option Addr) (pc ic : Nat) (hf1 : f.name.size ≤ 1048576) (hf2 : f.params.length ≤ 8) (hf3 : f.ins.length ≤ 50000) (hft : ∀ i ∈ f.ins, i.op = 1 → i.a = 2 → i.text.size ≤ 1048576) (hop : ∀ i ∈ f.ins, 1 ≤ i.op ∧ i.op ≤ 16) (hl : T.length ≤ 5000000000000) (hU : Wc.Up T l) (w : World) (h : Wc.Has g l w) (hT : Cd.InsTab w) (hGl : 0 < g) (hP : Cd.IntsAt B w (.slice pa f.params.length pc) f.params) (hI : Cd.InsAt B w (.slice ia f.ins.length ic) f.ins) :
    Calls Tryz.prog 16 #[.pointer (some ⟨g, 0, none⟩), .agg #[.string f.name, .slice pa f.params.length pc, .int .i64 f.result, .int .i64 f.slots, .slice ia f.ins.length ic]] w fun e w' => e = .returned (.tuple #[]) ∧ (∃ l', Wc.Has g l' w' ∧ Wc.Up (T ++ Wc.fn f) l') ∧ Wc.Fr g w w' := by
  have hg := h.lt
  obtain ⟨V, hV⟩ : ∃ V, w.alloc (.cells #[.string f.name, .slice pa f.params.length pc, .int .i64 f.result, .int .i64 f.slots, .slice ia f.ins.length ic] 53) = V := ⟨_, rfl⟩
  have hVb : V.heap[w.heap.size]? = some (.cells #[.string f.name, .slice pa f.params.length pc, .int .i64 f.result, .int .i64 f.slots, .slice ia f.ins.length ic] 53) := by rw [← hV]; exact (MapKept.heap_alloc w _).1
  have HFV : Hid (Wc.Fr g w V) := by rw [Hid, ← hV]; exact Wc.Fr.alloc g w _ (by omega)
  have HHV : Hid (Wc.Has g l V) := by rw [Hid, ← hV]; exact h.alloc _
  have HXB : Hid (∀ U, Wc.Fr g V U → U.cell? ⟨w.heap.size, 0, none⟩ = some (.string f.name) ∧ U.cell? ⟨w.heap.size, 1, none⟩ = some (.slice pa f.params.length pc) ∧ U.cell? ⟨w.heap.size, 2, none⟩ = some (.int .i64 f.result) ∧ U.cell? ⟨w.heap.size, 3, none⟩ = some (.int .i64 f.slots) ∧ U.cell? ⟨w.heap.size, 4, none⟩ = some (.slice ia f.ins.length ic)) := fun U hU =>
    ⟨hU.cells hVb (by omega) (by decide) 0, hU.cells hVb (by omega) (by decide) 1, hU.cells hVb (by omega) (by decide) 2, hU.cells hVb (by omega) (by decide) 3, hU.cells hVb (by omega) (by decide) 4⟩
  have HPV : Hid (∀ U, Wc.Fr g V U → Wc.Ints g U (.slice pa f.params.length pc) f.params) := fun U hU => (Wc.Ints.of hP hB).fr (HFV.out.trans hU)
  have HIV : Hid (∀ U, Wc.Fr g V U → Cd.InsAt B U (.slice ia f.ins.length ic) f.ins) := fun U hU => hI.below ((HFV.out.trans hU).1.mono hB)
  have HTB : Hid (∀ U, Wc.Fr g V U → g ≤ U.heap.size → Cd.InsTab U) := fun U hU hz => by
    have hb := (HFV.out.trans hU).1
    exact ⟨by omega, fun m h1 h2 => (hb.cell (p := ⟨_, _, none⟩) hGl).trans (hT.hasA m h1 h2), fun m h1 h2 => (hb.cell (p := ⟨_, _, none⟩) hGl).trans (hT.take0 m h1 h2), fun m h1 h2 => (hb.cell (p := ⟨_, _, none⟩) hGl).trans (hT.take1 m h1 h2), fun m h1 h2 => (hb.cell (p := ⟨_, _, none⟩) hGl).trans (hT.puts m h1 h2), fun m h1 h2 => (hb.cell (p := ⟨_, _, none⟩) hGl).trans (hT.goes m h1 h2)⟩
  obtain ⟨r0, r1, r2, r3, r4⟩ := HXB.out V (Wc.Fr.refl _ _)
  have HUP : Hid (Wc.Up T l) := hU
  have hll := hU.len
  have HFT : Hid (∀ i ∈ f.ins, i.op = 1 → i.a = 2 → i.text.size ≤ 1048576) := hft
  have HOP : Hid (∀ i ∈ f.ins, 1 ≤ i.op ∧ i.op ≤ 16) := hop
  clear h hT hVb hP hI hU hft hop
  have HNS : Hid (∀ (l : List UInt8) (n : Nat) (U : World), n ≤ 1048576 → Wc.Has g l U → l.length ≤ 50000000000000 → Calls Tryz.prog 15 #[.pointer (some ⟨g, 0, none⟩), .slice (some ⟨U.heap.size, 0, none⟩) 1 1] (U.alloc (.cells #[.int .i64 (n : Int)] 3)) fun e w' => e = .returned (.tuple #[]) ∧ Wc.Has g (l ++ Wc.num n) w' ∧ Wc.Fr g U w') := fun l n U hn hU hl => by
    have := Wc.inumbers_any g l [(n : Int)] (.slice (some ⟨U.heap.size, 0, none⟩) 1 1) (by simp) hl _ (hU.alloc (.cells #[.int .i64 (n : Int)] 3)) (by have := hU.lt; simp; omega) (Wc.Ints.new g U [(n : Int)] hU.lt)
    refine this.mono ?_
    rintro e w' ⟨h1, h2, h3⟩
    exact ⟨h1, by rw [Wc.pars_one n (by omega)] at h2; exact h2, (Wc.Fr.alloc g U _ (Nat.le_of_lt hU.lt)).trans h3⟩
  have HN3 : Hid (∀ (l : List UInt8) (x y : Int) (n : Nat) (U : World), n ≤ 1048576 → Wc.Has g l U → l.length ≤ 50000000000000 → Calls Tryz.prog 15 #[.pointer (some ⟨g, 0, none⟩), .slice (some ⟨U.heap.size, 0, none⟩) 3 3] (U.alloc (.cells #[.int .i64 x, .int .i64 y, .int .i64 (n : Int)] 3)) fun e w' => e = .returned (.tuple #[]) ∧ Wc.Has g (l ++ Wc.num (Wc.u x) ++ Wc.num (Wc.u y) ++ Wc.num n) w' ∧ Wc.Fr g U w') := fun l x y n U hn hU hl => by
    have := Wc.inumbers_any g l [x, y, (n : Int)] (.slice (some ⟨U.heap.size, 0, none⟩) 3 3) (by simp) hl _ (hU.alloc (.cells #[.int .i64 x, .int .i64 y, .int .i64 (n : Int)] 3)) (by have := hU.lt; simp; omega) (Wc.Ints.new g U [x, y, (n : Int)] hU.lt)
    refine this.mono ?_
    rintro e w' ⟨h1, h2, h3⟩
    refine ⟨h1, ?_, (Wc.Fr.alloc g U _ (Nat.le_of_lt hU.lt)).trans h3⟩
    have e : Wc.pars [x, y, (n : Int)] = Wc.num (Wc.u x) ++ Wc.num (Wc.u y) ++ Wc.num n := by simp [Wc.pars, Wc.u_nat n (by omega)]
    rw [e] at h2
    simpa only [List.append_assoc] using h2
  have hq1 := Wc.txt_len f.name hf1
  have hq2 := Wc.num_ten (n := f.params.length) (by omega)
  have hq3 := Wc.pars_len f.params hf2
  have hq4 := Wc.num_u f.result
  have hq5 := Wc.num_u f.slots
  have hq6 := Wc.num_ten (n := f.ins.length) (by omega)
  go_enter Tryz.func16, Tryz.ntmps16
  go_wp2_with (first
    | (go_at_call 30; refine (Wc.itext_any g l f.name hf1 (by omega) V HHV.out).mono ?_; rintro e wa ⟨rfl, ha, hfa⟩; have HA : Hid (Wc.Has g (l ++ Wc.txt f.name) wa) := ha; have HFA : Hid (Wc.Fr g V wa) := hfa; clear ha hfa; obtain ⟨-, s1, -, -, -⟩ := HXB.out wa HFA.out)
    | (go_at_call 15; refine (HN3.out (l ++ Wc.txt f.name ++ Wc.num f.params.length ++ Wc.pars f.params) f.result f.slots f.ins.length wc (by omega) HCC.out (by simp only [List.length_append]; omega)).mono ?_; rintro e wd ⟨rfl, hd, hfd⟩; have HD : Hid (Wc.Has g (l ++ Wc.txt f.name ++ Wc.num f.params.length ++ Wc.pars f.params ++ Wc.num (Wc.u f.result) ++ Wc.num (Wc.u f.slots) ++ Wc.num f.ins.length) wd) := hd; have HFD : Hid (Wc.Fr g V wd) := HFC.out.trans hfd; clear hd hfd; obtain ⟨-, -, -, -, v4⟩ := HXB.out wd HFD.out)
    | (go_at_call 15; refine (Wc.inumbers_any g (l ++ Wc.txt f.name ++ Wc.num f.params.length) f.params _ (by omega) (by simp only [List.length_append]; omega) wb HB.out (Nat.le_of_lt HB.out.lt) (HPV.out wb HFB.out)).mono ?_; rintro e wc ⟨rfl, hc, hfc⟩; have HCC : Hid (Wc.Has g (l ++ Wc.txt f.name ++ Wc.num f.params.length ++ Wc.pars f.params) wc) := hc; have HFC : Hid (Wc.Fr g V wc) := HFB.out.trans hfc; clear hc hfc; obtain ⟨-, -, u2, u3, u4⟩ := HXB.out wc HFC.out)
    | (go_at_call 15; refine (HNS.out (l ++ Wc.txt f.name) f.params.length wa (by omega) HA.out (by simp only [List.length_append]; omega)).mono ?_; rintro e wb ⟨rfl, hb, hfb⟩; have HB : Hid (Wc.Has g (l ++ Wc.txt f.name ++ Wc.num f.params.length) wb) := hb; have HFB : Hid (Wc.Fr g V wb) := HFA.out.trans hfb; clear hb hfb; obtain ⟨-, t1, -, -, -⟩ := HXB.out wb HFB.out))
  have HD1 : Hid (Wc.Has g (l ++ Wc.fnH f) wd) := by
    have h := HD.out
    have e : l ++ Wc.txt f.name ++ Wc.num f.params.length ++ Wc.pars f.params ++ Wc.num (Wc.u f.result) ++ Wc.num (Wc.u f.slots) ++ Wc.num f.ins.length = l ++ Wc.fnH f := by unfold Wc.fnH; simp only [List.append_assoc]
    rw [e] at h; exact h
  have HUP1 : Hid (Wc.Up (T ++ Wc.fnH f) (l ++ Wc.fnH f)) := HUP.out.app _
  have hTl : (T ++ Wc.fnH f).length ≤ 5000002000000 := by
    have := Wc.fnH_len f hf1 hf2 hf3
    rw [List.length_append]; omega
  clear HD HUP HA HB HCC HFA HFB HFC HHV HNS HN3 HPV r0 r1 r2 r3 r4 v4
  obtain ⟨T1, HT1⟩ : ∃ T1, Hid (T ++ Wc.fnH f = T1) := ⟨_, (rfl : T ++ Wc.fnH f = _)⟩
  rw [HT1.out] at HUP1 hTl
  have HFN : Hid (∀ i, T ++ Wc.fn f = T1 ++ Wc.inss (f.ins.take i) ++ Wc.inss (f.ins.drop i)) := fun i => by
    rw [← HT1.out, List.append_assoc, ← Wc.inss_split]; unfold Wc.fn; rw [List.append_assoc]
  go_loopw [33] (fun t wr => ∃ (i : Nat) (l2 : List UInt8), i ≤ f.ins.length ∧ t = .int .i64 (i : Int) ∧ Wc.Has g l2 wr ∧ Wc.Up (T1 ++ Wc.inss (f.ins.take i)) l2 ∧ Wc.Fr g V wr) (fun t _ => f.ins.length - (intOf t).toNat)
  case atStart => exact ⟨0, _, by omega, rfl, HD1.out, by simpa [Wc.inss] using HUP1.out, HFD.out⟩
  case round =>
    obtain ⟨i, l2, hi, rfl, hh, hup, hfr⟩ := hrel
    have HH : Hid (Wc.Has g l2 wr) := hh
    have HU : Hid (Wc.Up (T1 ++ Wc.inss (f.ins.take i)) l2) := hup
    have HF : Hid (Wc.Fr g V wr) := hfr
    have hgl := hh.lt
    have hl2 : l2.length ≤ 6000000000000 := by
      have h1 := hup.len
      have h2 := Wc.inss_len (f.ins.take i) (by rw [List.length_take]; omega) (fun x hx => HFT.out x (List.mem_of_mem_take hx))
      rw [List.length_append] at h1; omega
    clear hh hup hfr HD1 HUP1 HFD
    by_cases hlt : i < f.ins.length
    · have hltI : (i : Int) < (f.ins.length : Int) := by omega
      obtain ⟨gi, hiae, g0, g1, g2, g3⟩ : ∃ p, ia = some ⟨p, 0, none⟩ ∧ wr.cell? ⟨p, i * 4, none⟩ = some (.int .i64 f.ins[i].op) ∧ wr.cell? ⟨p, i * 4 + 1, none⟩ = some (.int .i64 f.ins[i].a) ∧ wr.cell? ⟨p, i * 4 + 2, none⟩ = some (.int .i64 f.ins[i].n) ∧ wr.cell? ⟨p, i * 4 + 3, none⟩ = some (.string f.ins[i].text) := by
        obtain ⟨a', cp, e, h⟩ := HIV.out wr HF.out
        injection e with e1
        subst e1
        obtain ⟨p, h1, -, h2⟩ := h i hlt
        exact ⟨p, h1, h2 0 (by omega), h2 1 (by omega), h2 2 (by omega), h2 3 (by omega)⟩
      subst hiae
      have ht0 := HFT.out f.ins[i] (List.getElem_mem hlt)
      obtain ⟨ho1, ho2⟩ := HOP.out f.ins[i] (List.getElem_mem hlt)
      have HNX : Hid (Wc.inss (f.ins.take (i + 1)) = Wc.inss (f.ins.take i) ++ Wc.ins f.ins[i]) := by rw [Hid]; unfold Wc.inss; rw [Wc.flat_take _ f.ins i hlt]
      obtain ⟨d, HD⟩ : ∃ d, Hid (f.ins[i] = d) := ⟨_, (rfl : f.ins[i] = _)⟩
      rw [HD.out] at g0 g1 g2 g3 ht0 ho1 ho2 HNX
      obtain ⟨op', a, n, text⟩ := d
      simp only at g0 g1 g2 g3 ht0 ho1 ho2
      obtain ⟨op, rfl⟩ : ∃ m : Nat, op' = (m : Int) := ⟨op'.toNat, by omega⟩
      have HTX : Hid (op = 1 → a = 2 → text.size ≤ 1048576) := fun h1 h2 => ht0 (by omega) h2
      clear ht0 HD
      obtain ⟨V2, hV2⟩ : ∃ V2, wr.alloc (.cells #[.int .i64 (op : Int), .int .i64 a, .int .i64 n, .string text] 66) = V2 := ⟨_, rfl⟩
      have hV2b : V2.heap[wr.heap.size]? = some (.cells #[.int .i64 (op : Int), .int .i64 a, .int .i64 n, .string text] 66) := by rw [← hV2]; exact (MapKept.heap_alloc wr _).1
      have HF2 : Hid (Wc.Fr g V V2) := HF.out.trans (by rw [← hV2]; exact Wc.Fr.alloc g wr _ (by omega))
      have HH2 : Hid (Wc.Has g l2 V2) := by rw [Hid, ← hV2]; exact HH.out.alloc _
      have q0 : V2.cell? ⟨wr.heap.size, 0, none⟩ = some (.int .i64 (op : Int)) := by rw [Lib.cell_of_heap hV2b]; rfl
      have q1 : V2.cell? ⟨wr.heap.size, 1, none⟩ = some (.int .i64 a) := by rw [Lib.cell_of_heap hV2b]; rfl
      have q2 : V2.cell? ⟨wr.heap.size, 2, none⟩ = some (.int .i64 n) := by rw [Lib.cell_of_heap hV2b]; rfl
      have q3 : V2.cell? ⟨wr.heap.size, 3, none⟩ = some (.string text) := by rw [Lib.cell_of_heap hV2b]; rfl
      clear hV2b HH
      by_cases hfull : 200000 < l2.length
      · have HFU : Hid (Calls Tryz.prog 17 #[.pointer (some ⟨g, 0, none⟩)] V2 fun e w' => e = .returned (.bool true) ∧ V2 = w') := by
          have h := Wc.full_any g l2 (by omega) V2 HH2.out
          rw [decide_eq_true hfull] at h; exact h
        have HEN : Hid (Wc.Up (T ++ Wc.fn f) l2) := by rw [Hid, HFN.out i]; exact HU.out.skip hfull _
        clear hfull
        go_wp2_with (go_at_call 17; refine HFU.out.mono ?_; rintro e w' ⟨rfl, rfl⟩)
        exact bodyPost_ret (v := .tuple #[]) (by simp [results, Tryz.results16, go_sem]) rfl ⟨rfl, ⟨l2, HH2.out, HEN.out⟩, HFV.out.trans HF2.out⟩
      · have HFU : Hid (Calls Tryz.prog 17 #[.pointer (some ⟨g, 0, none⟩)] V2 fun e w' => e = .returned (.bool false) ∧ V2 = w') := by
          have h := Wc.full_any g l2 (by omega) V2 HH2.out
          rw [decide_eq_false hfull] at h; exact h
        clear hfull
        go_wp2_with (first
          | (go_at_call 17; refine HFU.out.mono ?_; rintro e w' ⟨rfl, rfl⟩)
          | (go_at_call 31; refine (Wc.iins_any g l2 op a n text (by omega) (by omega) HTX.out (by omega) V2 HH2.out (HTB.out V2 HF2.out (Nat.le_of_lt HH2.out.lt)) hGl).mono ?_; rintro e w3 ⟨rfl, h3, hf3⟩))
        go_roundw
        case rel => exact ⟨i + 1, _, by omega, by go_num, h3, by rw [HNX.out, ← List.append_assoc]; exact HU.out.app _, HF2.out.trans hf3⟩
        case measure => simp [intOf]; omega
    · have hltI : ¬ (i : Int) < (f.ins.length : Int) := by omega
      have HEN : Hid (Wc.Up (T ++ Wc.fn f) l2) := by
        rw [Hid, HFN.out i]
        have h := HU.out
        rw [List.drop_eq_nil_of_le (by omega)]
        simpa [Wc.inss] using h
      go_wp2_with fail
      go_end0
      exact ⟨rfl, ⟨l2, HH.out, HEN.out⟩, HFV.out.trans HF.out⟩
end Go.Proofs.YtdmfbhfiaodehaaGreatDoor
