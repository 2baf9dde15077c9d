import Derived.Test.YtihiimgbdmkjmaaGreatDoorKCgD
import Derived.Lib.ConvBytes
import Derived.Deep.RegionWith
namespace Go.Proofs.YtihiimgbdmkjmaaGreatDoor
open Go.RowKit

/-- Only blocks of S may have changed; every row has its size and type still. -/
structure Cd.Tch (S : Nat → Prop) (w w' : World) : Prop where
  os : w'.os = w.os
  tape : w'.tape = w.tape
  output : w'.output = w.output
  size : w.heap.size ≤ w'.heap.size
  keep : ∀ k, k < w.heap.size → ¬ S k → w'.heap[k]? = w.heap[k]?
  same : ∀ (k : Nat) (cur : Array Value) (e : TypeId) (fr : Nat × Nat), w.heap[k]? = some (.cells cur e fr) → ∃ cur', w'.heap[k]? = some (.cells cur' e fr) ∧ cur'.size = cur.size
theorem Cd.Tch.refl (S : Nat → Prop) (w : World) : Cd.Tch S w w := ⟨rfl, rfl, rfl, Nat.le_refl _, fun _ _ _ => rfl, fun _ cur _ _ h => ⟨cur, h, rfl⟩⟩
theorem Cd.Tch.trans {S : Nat → Prop} {a b c : World} (h : Cd.Tch S a b) (k : Cd.Tch S b c) : Cd.Tch S a c :=
  ⟨k.os.trans h.os, k.tape.trans h.tape, k.output.trans h.output, Nat.le_trans h.size k.size, fun i hi hs => (k.keep i (Nat.lt_of_lt_of_le hi h.size) hs).trans (h.keep i hi hs), fun i cur e fr hi => by
    obtain ⟨c1, h1, h2⟩ := h.same i cur e fr hi
    obtain ⟨c2, h3, h4⟩ := k.same i c1 e fr h1
    exact ⟨c2, h3, h4.trans h2⟩⟩
theorem Cd.Tch.mono {S R : Nat → Prop} {a b : World} (h : Cd.Tch S a b) (hs : ∀ k, S k → R k) : Cd.Tch R a b :=
  ⟨h.os, h.tape, h.output, h.size, fun i hi hr => h.keep i hi (fun x => hr (hs i x)), h.same⟩
theorem Cd.Tch.of_below {S : Nat → Prop} {a b : World} (h : Below a.heap.size a b) : Cd.Tch S a b :=
  ⟨h.os, h.tape, h.output, h.size, fun i hi _ => h.block i hi, fun i cur _ _ hi => ⟨cur, (h.block i (Array.getElem?_eq_some_iff.1 hi).1).trans hi, rfl⟩⟩
theorem Cd.Tch.set {S : Nat → Prop} (w : World) (g i : Nat) (v : Value) (hg : S g) : Cd.Tch S w (w.setCell ⟨g, i, none⟩ v) := by
  refine ⟨rfl, rfl, rfl, by simp [World.setCell], fun k _ hk => Below.heap_setCell _ _ _ _ (fun e => hk (by rw [e]; exact hg)), fun k cur e fr h => ?_⟩
  by_cases hkg : k = g
  · subst hkg
    exact ⟨cur.setIfInBounds i v, by simp [World.setCell, Array.getElem?_modify, h], by rw [Array.size_setIfInBounds]⟩
  · exact ⟨cur, (Below.heap_setCell _ _ _ _ (by exact hkg)).trans h, rfl⟩
theorem Cd.Tch.rw {S : Nat → Prop} {w w' : World} (h : Cd.Tch S w w') {g N : Nat} {e : TypeId} (hr : ∃ cur, Cd.Rw g e N w cur) : ∃ cur, Cd.Rw g e N w' cur := by
  obtain ⟨cur, hr⟩ := hr
  obtain ⟨c, h1, h2⟩ := h.same g cur e (0, 0) hr.blk
  exact ⟨c, h1, h2.trans hr.size⟩
theorem Cd.Tch.below {S : Nat → Prop} {B : Nat} {w w' : World} (h : Cd.Tch S w w') (hB : B ≤ w.heap.size) (hs : ∀ k, k < B → ¬ S k) : Below B w w' :=
  ⟨h.os, h.tape, h.output, h.size, fun k hk => h.keep k (by omega) (hs k hk)⟩
theorem Cd.rw_ne {w : World} {g p N M : Nat} {e f : TypeId} (hg : ∃ cur, Cd.Rw g e N w cur) (hp : ∃ cur, Cd.Rw p f M w cur) (hne : e ≠ f) : g ≠ p := by
  obtain ⟨a, ha⟩ := hg
  obtain ⟨b, hb⟩ := hp
  intro h
  subst h
  have := ha.blk.symm.trans hb.blk
  injection this with h; injection h with _ h
  exact hne h

def Cd.digs : Nat → Int → ByteArray → ByteArray
  | 0, _, out => out
  | f + 1, k, out => if 0 < k then Cd.digs f (k / 10) (⟨#[UInt8.ofNat (48 + k % 10).toNat]⟩ ++ out) else out
def Cd.mark (k : Int) : ByteArray := ⟨#[109]⟩ ++ Cd.digs (k.toNat + 1) k ⟨#[]⟩
theorem Cd.digs_pos (f : Nat) (k : Int) (out : ByteArray) (h : 0 < k) : Cd.digs (f + 1) k out = Cd.digs f (k / 10) (⟨#[UInt8.ofNat (48 + k % 10).toNat]⟩ ++ out) := by rw [Cd.digs, if_pos h]
theorem Cd.digs_zero (f : Nat) (k : Int) (out : ByteArray) (h : ¬ 0 < k) : Cd.digs f k out = out := by
  cases f with
  | zero => rfl
  | succ f => rw [Cd.digs, if_neg h]
theorem Cd.size_one (x : UInt8) : (⟨#[x]⟩ : ByteArray).size = 1 := rfl
theorem Cd.byte_back (x : Int) (h0 : 0 ≤ x) (h1 : x ≤ 255) : ((UInt8.ofNat x.toNat).toNat : Int) = x := by
  rw [UInt8.toNat_ofNat']; omega
theorem Cd.conv_one (w : World) (x : Int) (h0 : 0 ≤ x) (h1 : x ≤ 255) :
    Sem.run Tryz.prog (convert 81 9 (.slice (some ⟨w.heap.size, 0, none⟩) 1 1)) (w.alloc (.cells #[.int .u8 x] 5)) = .ok (.string ⟨#[UInt8.ofNat x.toNat]⟩) (w.alloc (.cells #[.int .u8 x] 5)) := by
  refine run_convert_bytes_back (P := Tryz.prog) (w.alloc (.cells #[.int .u8 x] 5)) 81 9 5 ⟨w.heap.size, 0, none⟩ 1 [UInt8.ofNat x.toNat] Tryz.underlying81 Tryz.underlying5 Tryz.underlying9 ?_
  intro j hj
  have hj0 : j = 0 := by simp at hj; omega
  subst hj0
  simp only [List.getElem_cons_zero, Cd.byte_back x h0 h1]
  rw [World.cell?, show ((⟨w.heap.size, 0, none⟩ : Addr).add 0).block = w.heap.size from rfl, (MapKept.heap_alloc w _).1]
  rfl
theorem Cd.ret_val {a b : Value} (h : a = b) : (Ending.returned a : Ending) = .returned b := by rw [h]
set_option maxRecDepth 100000 in
set_option maxHeartbeats 1000000 in
theorem Cd.markText_any (k : Int) (w : World) (h1 : 1 ≤ k) (h2 : k ≤ 100000000000000) :
    Calls Tryz.prog 43 #[.int .i64 k] w fun e w' => e = .returned (.string (Cd.mark k)) ∧ Below w.heap.size w w' := by
  go_enter Tryz.func43, Tryz.ntmps43
  go_wp2
  go_loopw [0, 3] (fun t v wr => ∃ (j : Int) (f : Nat) (out : ByteArray), 0 ≤ j ∧ j ≤ k ∧ j < f ∧ (out.size : Int) ≤ k - j ∧ t = .int .i64 j ∧ v = .string out ∧ Cd.digs f j out = Cd.digs (k.toNat + 1) k ⟨#[]⟩ ∧ Below w.heap.size w wr) (fun t _ _ => (intOf t).toNat)
  case atStart => exact ⟨k, k.toNat + 1, ⟨#[]⟩, by omega, by omega, by omega, by simp [ByteArray.size], rfl, rfl, rfl, Below.refl _ _⟩
  case round =>
    obtain ⟨j, f, out, hj0, hj1, hjf, hos, rfl, rfl, hd, hb⟩ := hrel
    by_cases hp : 0 < j
    · obtain ⟨f, rfl⟩ : ∃ f', f = f' + 1 := ⟨f - 1, by omega⟩
      have HD : Hid (Cd.digs f (j / 10) (⟨#[UInt8.ofNat (48 + j % 10).toNat]⟩ ++ out) = Cd.digs (k.toNat + 1) k ⟨#[]⟩) := by rw [Cd.digs_pos _ _ _ hp] at hd; exact hd
      clear hd
      have hcv := Cd.conv_one wr (48 + j % 10) (by omega) (by omega)
      go_wp2
      go_roundw
      case rel => exact ⟨j / 10, f, _, by omega, by omega, by omega, by rw [ByteArray.size_append, Cd.size_one]; omega, rfl, rfl, HD.out, hb.alloc hb.size _⟩
      case measure => simp [intOf]; omega
    · have HD : Hid (out = Cd.digs (k.toNat + 1) k ⟨#[]⟩) := by rw [Cd.digs_zero _ _ _ hp] at hd; exact hd
      clear hd
      have HM : Hid (Value.string (⟨#[109]⟩ ++ out) = .string (Cd.mark k)) := by rw [Hid, Cd.mark, ← HD.out]
      go_wp2
      go_ret
      exact ⟨Cd.ret_val HM.out, hb⟩
set_option maxRecDepth 100000 in
set_option maxHeartbeats 1000000 in
theorem Cd.markIntS_any (p n cap : Nat) (k : Int) (h1 : 0 ≤ k) (h2 : k ≤ 100000000000000) (hl : n ≤ 1048576) (w : World) (hr : ∃ cur, Cd.Rw p 3 n w cur) :
    Calls Tryz.prog 24 #[.slice (some ⟨p, 0, none⟩) n cap, .int .i64 k] w fun e w' => e = .returned (.int .i64 (k + (n : Int))) ∧ (∀ j, j < n → w'.cell? ⟨p, j, none⟩ = some (.int .i64 (k + (j : Int)))) ∧ Cd.Tch (· = p) w w' := by
  obtain ⟨c0, hr0⟩ := hr
  have HR0 : Hid (Cd.Rw p 3 n w c0) := hr0
  clear hr0
  go_enter Tryz.func24, Tryz.ntmps24
  go_wp2_with fail
  go_loopw [1, 5] (fun q t wr => ∃ (i : Nat) (cur : Array Value), i ≤ n ∧ t = .int .i64 (i : Int) ∧ q = .int .i64 (k + (i : Int)) ∧ Cd.Rw p 3 n wr cur ∧ Hid (∀ j, j < i → cur[j]? = some (.int .i64 (k + (j : Int)))) ∧ Cd.Tch (· = p) w wr) (fun _ t _ => n - (intOf t).toNat)
  case atStart => exact ⟨0, c0, by omega, rfl, by simp, HR0.out, fun j h => by omega, Cd.Tch.refl _ _⟩
  case round =>
    obtain ⟨i, cur, hi, rfl, rfl, hrw, HCS, htw⟩ := hrel
    by_cases hlt : i < n
    · have hltI : (i : Int) < (n : Int) := by omega
      obtain ⟨⟨y0, k0⟩, f0⟩ := hrw.cell i hlt
      obtain ⟨K, HK⟩ : ∃ K, Hid (k + (i : Int) = K) := ⟨_, (rfl : _ = _)⟩
      have hK : 0 ≤ K ∧ K ≤ 200000000000000 := by have := HK.out; omega
      rw [HK.out]
      have HST : Hid (Cd.Rw p 3 n (wr.setCell ⟨p, i, none⟩ (.int .i64 K)) (cur.setIfInBounds i (.int .i64 K))) := hrw.store i _
      have HC2 : Hid (∀ j, j < i + 1 → (cur.setIfInBounds i (.int .i64 K))[j]? = some (.int .i64 (k + (j : Int)))) := fun j h => by
        rw [Array.getElem?_setIfInBounds]
        by_cases e : i = j
        · subst e; rw [if_pos rfl, if_pos (by rw [hrw.size]; exact hlt), HK.out]
        · rw [if_neg e]; exact HCS.out j (by omega)
      have HTW : Hid (Cd.Tch (· = p) w (wr.setCell ⟨p, i, none⟩ (.int .i64 K))) := htw.trans (Cd.Tch.set wr p i _ rfl)
      clear hrw htw
      go_wp2_with fail
      go_roundw
      case rel =>
        refine ⟨i + 1, _, by omega, by go_num, ?_, HST.out, HC2, HTW.out⟩
        rw [show k + ((i + 1 : Nat) : Int) = K + 1 by have := HK.out; omega]
      case measure => simp [intOf]; omega
    · have hltI : ¬ (i : Int) < (n : Int) := by omega
      have hin : i = n := by omega
      subst hin
      have HEND : Hid (∀ j, j < i → wr.cell? ⟨p, j, none⟩ = some (.int .i64 (k + (j : Int)))) := fun j hj => by rw [Lib.cell_of_heap hrw.blk]; exact HCS.out j hj
      clear hrw
      go_wp2_with fail
      go_ret
      exact ⟨rfl, HEND.out, htw⟩
set_option maxRecDepth 100000 in
set_option maxHeartbeats 1000000 in
theorem Cd.markInsS_any (p n cap : Nat) (k : Int) (h1 : 1 ≤ k) (h2 : k ≤ 10000000000000) (hl : n ≤ 1048576) (w : World) (hr : ∃ cur, Cd.Rw p 70 (n * 4) w cur) :
    Calls Tryz.prog 44 #[.slice (some ⟨p, 0, none⟩) n cap, .int .i64 k] w fun e w' => e = .returned (.int .i64 (k + 4 * (n : Int))) ∧ Cd.Tch (· = p) w w' := by
  have HR0 : Hid (∃ cur, Cd.Rw p 70 (n * 4) w cur) := hr
  clear hr
  go_enter Tryz.func44, Tryz.ntmps44
  go_wp2_with fail
  go_loopw [1, 5] (fun q t wr => ∃ (i : Nat), i ≤ n ∧ t = .int .i64 (i : Int) ∧ q = .int .i64 (k + 4 * (i : Int)) ∧ Cd.Tch (· = p) w wr) (fun _ t _ => n - (intOf t).toNat)
  case atStart => exact ⟨0, by omega, rfl, by simp, Cd.Tch.refl _ _⟩
  case round =>
    obtain ⟨i, hi, rfl, rfl, htw⟩ := hrel
    by_cases hlt : i < n
    · have hltI : (i : Int) < (n : Int) := by omega
      obtain ⟨K, HK⟩ : ∃ K, Hid (k + 4 * (i : Int) = K) := ⟨_, (rfl : _ = _)⟩
      have hK : 1 ≤ K ∧ K ≤ 20000000000000 := by have := HK.out; omega
      rw [HK.out]
      obtain ⟨cur, hrw⟩ := htw.rw HR0.out
      have HRW : Hid (Cd.Rw p 70 (n * 4) wr cur) := hrw
      obtain ⟨⟨y0, k0⟩, f0⟩ := hrw.cell (i * 4) (by omega)
      obtain ⟨⟨y1, k1⟩, f1⟩ := hrw.cell (i * 4 + 1) (by omega)
      obtain ⟨⟨y2, k2⟩, f2⟩ := hrw.cell (i * 4 + 2) (by omega)
      have HT3 : Hid (Cd.Tch (· = p) wr (((wr.setCell ⟨p, i * 4, none⟩ (.int .i64 K)).setCell ⟨p, i * 4 + 1, none⟩ (.int .i64 (K + 1))).setCell ⟨p, i * 4 + 2, none⟩ (.int .i64 (K + 1 + 1)))) := ((Cd.Tch.set (S := (· = p)) wr p _ _ rfl).trans (Cd.Tch.set (S := (· = p)) _ p _ _ rfl)).trans (Cd.Tch.set (S := (· = p)) _ p _ _ rfl)
      have HTW : Hid (Cd.Tch (· = p) w wr) := htw
      clear hrw htw
      go_wp2_with (go_at_call 43; refine (Cd.markText_any _ _ (by omega) (by omega)).mono ?_; rintro e w1 ⟨rfl, hb1⟩; have ht1 : Cd.Tch (· = p) wr w1 := HT3.out.trans (Cd.Tch.of_below hb1); have HT1 : Hid (Cd.Tch (· = p) w w1) := HTW.out.trans ht1; obtain ⟨c1, hr1⟩ := ht1.rw ⟨_, HRW.out⟩; obtain ⟨⟨y3, k3⟩, f3⟩ := hr1.cell (i * 4 + 3) (by omega); clear ht1 hr1 hb1)
      go_roundw
      case rel =>
        refine ⟨i + 1, by omega, by go_num, ?_, HT1.out.trans (Cd.Tch.set _ p _ _ rfl)⟩
        rw [show k + 4 * ((i + 1 : Nat) : Int) = K + 1 + 1 + 1 + 1 by have := HK.out; omega]
      case measure => simp [intOf]; omega
    · have hltI : ¬ (i : Int) < (n : Int) := by omega
      have hin : i = n := by omega
      subst hin
      go_wp2_with fail
      go_ret
      exact ⟨rfl, htw⟩
/-- A code that can be marked: its rows are all there, in blocks from A on and below B. -/
structure Cd.Marks (A B g : Nat) (R : Nat → Nat × Nat × Nat × Nat) (c : List Cd.Fn) (w : World) : Prop where
  row : ∃ cur, Cd.Rw g 50 (c.length * 5) w cur
  lo : A ≤ g
  hi : g < B
  each : ∀ k (hk : k < c.length), w.cell? ⟨g, k * 5 + 1, none⟩ = some (.slice (some ⟨(R k).1, 0, none⟩) c[k].params.length (R k).2.1) ∧ w.cell? ⟨g, k * 5 + 4, none⟩ = some (.slice (some ⟨(R k).2.2.1, 0, none⟩) c[k].ins.length (R k).2.2.2) ∧ (A ≤ (R k).1 ∧ (R k).1 < B) ∧ (A ≤ (R k).2.2.1 ∧ (R k).2.2.1 < B) ∧ (∃ cur, Cd.Rw (R k).1 3 c[k].params.length w cur) ∧ (∃ cur, Cd.Rw (R k).2.2.1 70 (c[k].ins.length * 4) w cur)
theorem Cd.Marks.at {A B g : Nat} {R : Nat → Nat × Nat × Nat × Nat} {c : List Cd.Fn} {w : World} (h : Cd.Marks A B g R c w) {k : Nat} (hk : k < c.length) {p cp q cq : Nat} (hR : R k = (p, cp, q, cq)) : w.cell? ⟨g, k * 5 + 1, none⟩ = some (.slice (some ⟨p, 0, none⟩) c[k].params.length cp) ∧ w.cell? ⟨g, k * 5 + 4, none⟩ = some (.slice (some ⟨q, 0, none⟩) c[k].ins.length cq) ∧ (A ≤ p ∧ p < B) ∧ (A ≤ q ∧ q < B) ∧ (∃ cur, Cd.Rw p 3 c[k].params.length w cur) ∧ (∃ cur, Cd.Rw q 70 (c[k].ins.length * 4) w cur) := by
  have := h.each k hk
  rw [hR] at this
  exact this
theorem Cd.Marks.cells {A B g : Nat} {R : Nat → Nat × Nat × Nat × Nat} {c : List Cd.Fn} {w : World} (h : Cd.Marks A B g R c w) (j : Nat) (hj : j < c.length * 5) : (∃ y, w.cell? ⟨g, j, none⟩ = some y) ∧ w.frozen? ⟨g, j, none⟩ = false := by
  obtain ⟨cur, hr⟩ := h.row
  exact hr.cell j hj
theorem Cd.Marks.tch {A B g : Nat} {R : Nat → Nat × Nat × Nat × Nat} {c : List Cd.Fn} {w w' : World} {S : Nat → Prop} (h : Cd.Marks A B g R c w) (ht : Cd.Tch S w w') (hg : ¬ S g) : Cd.Marks A B g R c w' := by
  refine ⟨ht.rw h.row, h.lo, h.hi, fun k hk => ?_⟩
  obtain ⟨h1, h2, h3, h4, h5, h6⟩ := h.each k hk
  obtain ⟨cur, hr⟩ := h.row
  have hb := ht.keep g hr.lt hg
  exact ⟨by rw [World.cell?_of_block (a := ⟨g, k * 5 + 1, none⟩) hb]; exact h1, by rw [World.cell?_of_block (a := ⟨g, k * 5 + 4, none⟩) hb]; exact h2, h3, h4, ht.rw h5, ht.rw h6⟩
theorem Cd.cell_set_ne {w : World} {g i j : Nat} {v : Value} (h : i ≠ j) : (w.setCell ⟨g, i, none⟩ v).cell? ⟨g, j, none⟩ = w.cell? ⟨g, j, none⟩ := by
  cases hb : w.heap[g]? with
  | none => simp [World.cell?, World.setCell, Array.getElem?_modify, hb]
  | some o => cases o <;> simp [World.cell?, World.setCell, Array.getElem?_modify, hb, h]
theorem Cd.Marks.set {A B g : Nat} {R : Nat → Nat × Nat × Nat × Nat} {c : List Cd.Fn} {w : World} (h : Cd.Marks A B g R c w) (j : Nat) (hj : j % 5 ≠ 1 ∧ j % 5 ≠ 4) (v : Value) : Cd.Marks A B g R c (w.setCell ⟨g, j, none⟩ v) := by
  have ht : Cd.Tch (fun _ => True) w (w.setCell ⟨g, j, none⟩ v) := Cd.Tch.set w g j v trivial
  refine ⟨ht.rw h.row, h.lo, h.hi, fun k hk => ?_⟩
  obtain ⟨h1, h2, h3, h4, h5, h6⟩ := h.each k hk
  exact ⟨by rw [Cd.cell_set_ne (by omega)]; exact h1, by rw [Cd.cell_set_ne (by omega)]; exact h2, h3, h4, ht.rw h5, ht.rw h6⟩
theorem Cd.CodeIn.marks {A : Nat} {w : World} {a : Option Addr} {cap : Nat} {c : List Cd.Fn} (h : Cd.CodeIn A w.heap.size w (.slice a c.length cap) c) (h0 : 0 < c.length) : ∃ g R, a = some ⟨g, 0, none⟩ ∧ Cd.Marks A w.heap.size g R c w := by
  obtain ⟨a', cap', e, hc⟩ := h
  injection e with e1 _ e2
  subst e1 e2
  obtain ⟨g, -, -, ha, hA, hB, -, -, -, -, -, hrow, -, -⟩ := hc 0 h0
  have hall : ∀ k, ∃ r : Nat × Nat × Nat × Nat, ∀ hk : k < c.length, w.cell? ⟨g, k * 5 + 1, none⟩ = some (.slice (some ⟨r.1, 0, none⟩) c[k].params.length r.2.1) ∧ w.cell? ⟨g, k * 5 + 4, none⟩ = some (.slice (some ⟨r.2.2.1, 0, none⟩) c[k].ins.length r.2.2.2) ∧ (A ≤ r.1 ∧ r.1 < w.heap.size) ∧ (A ≤ r.2.2.1 ∧ r.2.2.1 < w.heap.size) ∧ (∃ cur, Cd.Rw r.1 3 c[k].params.length w cur) ∧ (∃ cur, Cd.Rw r.2.2.1 70 (c[k].ins.length * 4) w cur) := fun k => by
    by_cases hk : k < c.length
    · obtain ⟨g2, pv, iv, ha2, -, -, hcell, hP, hI, -, -, -, ⟨p, n1, cp, c1, hpv, hp1, hp2⟩, ⟨q, n2, cq, c2, hiv, hq1, hq2⟩⟩ := hc k hk
      rw [ha] at ha2
      injection ha2 with ha2; injection ha2 with ha2
      subst ha2 hpv hiv
      obtain ⟨_, _, eP, -⟩ := hP
      injection eP with _ eP _
      obtain ⟨_, _, eI, -⟩ := hI
      injection eI with _ eI _
      subst eP eI
      exact ⟨(p, cp, q, cq), fun _ => ⟨hcell 1 (by omega), hcell 4 (by omega), ⟨hp1, hp2.lt⟩, ⟨hq1, hq2.lt⟩, ⟨_, hp2⟩, ⟨_, hq2⟩⟩⟩
    · exact ⟨(0, 0, 0, 0), fun h => absurd h hk⟩
  obtain ⟨R, hR⟩ := Classical.axiomOfChoice hall
  exact ⟨g, R, ha, hrow, hA, hB, fun k hk => hR k hk⟩
end Go.Proofs.YtihiimgbdmkjmaaGreatDoor
namespace Go.Proofs.YtihiimgbdmkjmaaGreatDoor
open Go.RowKit

def Cd.within (A B j : Nat) : Prop := A ≤ j ∧ j < B
set_option maxRecDepth 100000 in
set_option maxHeartbeats 2000000 in
theorem Cd.markFnS_any (c : List Cd.Fn) (a : Option Addr) (cap A B : Nat) (hl : c.length ≤ 1048576) (hx : ∀ k (hk : k < c.length), c[k].params.length ≤ 1048576 ∧ c[k].ins.length ≤ 1048576) (w : World) (hm : 0 < c.length → ∃ g R, a = some ⟨g, 0, none⟩ ∧ Cd.Marks A B g R c w) :
    Calls Tryz.prog 23 #[.slice a c.length cap, .int .i64 1] w fun e w' => ∃ k, e = .returned (.int .i64 k) ∧ 1 ≤ k ∧ Cd.Tch (Cd.within A B) w w' := by
  have HM0 : Hid (0 < c.length → ∃ g R, a = some ⟨g, 0, none⟩ ∧ Cd.Marks A B g R c w) := hm
  clear hm
  go_enter Tryz.func23, Tryz.ntmps23
  go_wp2_with fail
  go_loopw [1, 5] (fun q t wr => ∃ (i : Nat) (K : Int), i ≤ c.length ∧ t = .int .i64 (i : Int) ∧ q = .int .i64 K ∧ (1 ≤ K ∧ K ≤ 1 + 6000000 * (i : Int)) ∧ (0 < c.length → ∃ g R, a = some ⟨g, 0, none⟩ ∧ Cd.Marks A B g R c wr) ∧ Cd.Tch (Cd.within A B) w wr) (fun _ t _ => c.length - (intOf t).toNat)
  case atStart => exact ⟨0, 1, by omega, rfl, rfl, by omega, HM0.out, Cd.Tch.refl _ _⟩
  case round =>
    obtain ⟨i, K, hi, rfl, rfl, hK, hMM, htw⟩ := hrel
    by_cases hlt : i < c.length
    · have hltI : (i : Int) < (c.length : Int) := by omega
      obtain ⟨g, R, hae, hM⟩ := hMM (by omega)
      clear hMM
      subst hae
      have HM : Hid (Cd.Marks A B g R c wr) := hM
      have HTW : Hid (Cd.Tch (Cd.within A B) w wr) := htw
      have HG : Hid (Cd.within A B g) := ⟨hM.lo, hM.hi⟩
      obtain ⟨p, cp, q, cq, HR⟩ : ∃ p cp q cq, Hid (R i = (p, cp, q, cq)) := ⟨_, _, _, _, (rfl : R i = _)⟩
      obtain ⟨-, -, hpW, hqW, hpR, hqR⟩ := hM.at hlt HR.out
      have hgp : g ≠ p := Cd.rw_ne hM.row hpR (by decide)
      have hgq : g ≠ q := Cd.rw_ne hM.row hqR (by decide)
      have HPW : Hid (∀ j, j = p → Cd.within A B j) := fun j h => by subst h; exact hpW
      have HQW : Hid (∀ j, j = q → Cd.within A B j) := fun j h => by subst h; exact hqW
      clear hpR hqR hpW hqW hM htw
      obtain ⟨hp1, hp2⟩ := hx i hlt
      obtain ⟨np, HNP⟩ : ∃ n, Hid (c[i].params.length = n) := ⟨_, (rfl : c[i].params.length = _)⟩
      obtain ⟨nq, HNQ⟩ : ∃ n, Hid (c[i].ins.length = n) := ⟨_, (rfl : c[i].ins.length = _)⟩
      have HAT : Hid (∀ U, Cd.Marks A B g R c U → U.cell? ⟨g, i * 5 + 1, none⟩ = some (.slice (some ⟨p, 0, none⟩) np cp) ∧ U.cell? ⟨g, i * 5 + 4, none⟩ = some (.slice (some ⟨q, 0, none⟩) nq cq) ∧ (∃ cur, Cd.Rw p 3 np U cur) ∧ (∃ cur, Cd.Rw q 70 (nq * 4) U cur)) := fun U h => by
        obtain ⟨h1, h2, -, -, h3, h4⟩ := h.at hlt HR.out
        rw [HNP.out] at h1 h3; rw [HNQ.out] at h2 h4
        exact ⟨h1, h2, h3, h4⟩
      rw [HNP.out] at hp1
      rw [HNQ.out] at hp2
      clear HNP HNQ
      go_wp2_with (first
        | (go_at_call 43; refine (Cd.markText_any _ _ (by omega) (by omega)).mono ?_; rintro e w1 ⟨rfl, hb1⟩; have HM1 : Hid (Cd.Marks A B g R c w1) := HM.out.tch (Cd.Tch.of_below (S := fun _ => False) hb1) id; obtain ⟨⟨y0, k0⟩, f0⟩ := HM1.out.cells (i * 5) (by omega); obtain ⟨d1, -, -, -⟩ := HAT.out w1 HM1.out; have HV1 : Hid (Cd.Marks A B g R c (w1.setCell ⟨g, i * 5, none⟩ (.string (Cd.mark K)))) := HM1.out.set _ (by omega) _; have HT1 : Hid (Cd.Tch (Cd.within A B) w (w1.setCell ⟨g, i * 5, none⟩ (.string (Cd.mark K)))) := (HTW.out.trans (Cd.Tch.of_below hb1)).trans (Cd.Tch.set _ _ _ _ HG.out); clear hb1)
        | (go_at_call 24; refine (Cd.markIntS_any p np cp _ (by omega) (by omega) hp1 _ (HAT.out _ HV1.out).2.2.1).mono ?_; rintro e w2 ⟨rfl, -, ht2⟩; have HM2 : Hid (Cd.Marks A B g R c w2) := HV1.out.tch ht2 (fun e => hgp e); obtain ⟨⟨y2, k2⟩, f2⟩ := HM2.out.cells (i * 5 + 2) (by omega); obtain ⟨⟨y3, k3⟩, f3⟩ := HM2.out.cells (i * 5 + 3) (by omega); obtain ⟨-, d4, -, -⟩ := HAT.out w2 HM2.out; have HT2 : Hid (Cd.Tch (Cd.within A B) w w2) := HT1.out.trans (ht2.mono HPW.out); clear ht2)
        | (go_at_call 44; refine (Cd.markInsS_any q nq cq _ (by omega) (by omega) hp2 _ (HAT.out _ ((HM2.out.set (i * 5 + 2) (by omega) _).set (i * 5 + 3) (by omega) _)).2.2.2).mono ?_; rintro e w3 ⟨rfl, ht3⟩; have HM3 : Hid (Cd.Marks A B g R c w3) := ((HM2.out.set (i * 5 + 2) (by omega) _).set (i * 5 + 3) (by omega) _).tch ht3 (fun e => hgq e); have HT3 : Hid (Cd.Tch (Cd.within A B) w w3) := ((HT2.out.trans (Cd.Tch.set _ _ _ _ HG.out)).trans (Cd.Tch.set _ _ _ _ HG.out)).trans (ht3.mono HQW.out); clear ht3))
      go_roundw
      case rel => exact ⟨i + 1, _, by omega, by go_num, rfl, by omega, fun _ => ⟨g, R, rfl, HM3.out⟩, HT3.out⟩
      case measure => simp [intOf]; omega
    · have hltI : ¬ (i : Int) < (c.length : Int) := by omega
      go_wp2_with fail
      go_ret
      exact ⟨K, rfl, hK.1, htw⟩
set_option maxRecDepth 100000 in
set_option maxHeartbeats 1000000 in
theorem Cd.markCode_any (c : List Cd.Fn) (a : Option Addr) (cap A B : Nat) (hl : c.length ≤ 1048576) (hx : ∀ k (hk : k < c.length), c[k].params.length ≤ 1048576 ∧ c[k].ins.length ≤ 1048576) (w : World) (hm : 0 < c.length → ∃ g R, a = some ⟨g, 0, none⟩ ∧ Cd.Marks A B g R c w) :
    Calls Tryz.prog 10 #[.agg #[.slice a c.length cap], .int .i64 1] w fun e w' => ∃ k, e = .returned (.int .i64 k) ∧ 1 ≤ k ∧ Cd.Tch (Cd.within A B) w w' := by
  have HM : Hid (∀ o : Obj, 0 < c.length → ∃ g R, a = some ⟨g, 0, none⟩ ∧ Cd.Marks A B g R c (w.alloc o)) := fun o h => by
    obtain ⟨g, R, h1, h2⟩ := hm h
    exact ⟨g, R, h1, h2.tch (Cd.Tch.of_below (S := fun _ => False) (Cd.b1 w o)) id⟩
  clear hm
  go_enter Tryz.func10, Tryz.ntmps10
  go_wp2_with (go_at_call 23; refine (Cd.markFnS_any c a cap A B hl hx _ (HM.out _)).mono ?_; rintro e w1 ⟨k, rfl, hk, ht1⟩)
  go_ret
  exact ⟨k, rfl, hk, (Cd.Tch.of_below (Cd.b1 w _)).trans ht1⟩
end Go.Proofs.YtihiimgbdmkjmaaGreatDoor
