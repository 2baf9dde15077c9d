import Derived.Test.YtdapajkckocmbaaLayA
import Derived.Test.YtdapajkckocmbaaBoxD
import Derived.Deep.RegionWith
import Derived.Maps.AppendAt
import Derived.Maps.Range
import Derived.Maps.RangeWalk
namespace Go.Proofs.Ytdapajkckocmbaa
open Go.RowKit

def Bx.digs : Nat → Int → ByteArray → ByteArray
  | 0, _, out => out
  | f + 1, k, out => if 0 < k then Bx.digs f (k / 10) (⟨#[UInt8.ofNat (48 + k % 10).toNat]⟩ ++ out) else out
def Bx.mark (k : Int) : ByteArray := ⟨#[109]⟩ ++ Bx.digs (k.toNat + 1) k ⟨#[]⟩
theorem Bx.digs_pos (f : Nat) (k : Int) (out : ByteArray) (h : 0 < k) : Bx.digs (f + 1) k out = Bx.digs f (k / 10) (⟨#[UInt8.ofNat (48 + k % 10).toNat]⟩ ++ out) := by rw [Bx.digs, if_pos h]
theorem Bx.digs_zero (f : Nat) (k : Int) (out : ByteArray) (h : ¬ 0 < k) : Bx.digs f k out = out := by
  cases f with
  | zero => rfl
  | succ f => rw [Bx.digs, if_neg h]
theorem Bx.size_one (x : UInt8) : (⟨#[x]⟩ : ByteArray).size = 1 := rfl
theorem Bx.byte_back (x : Int) (h0 : 0 ≤ x) (h1 : x ≤ 255) : ((UInt8.ofNat x.toNat).toNat : Int) = x := by
  rw [UInt8.toNat_ofNat']; omega
theorem Bx.conv_one (w : World) (x : Int) (h0 : 0 ≤ x) (h1 : x ≤ 255) :
    Sem.run Try.prog (convert 95 9 (.slice (some ⟨w.heap.size, 0, none⟩) 1 1)) (w.alloc (.cells #[.int .u8 x] 5)) = .ok (.string ⟨#[UInt8.ofNat x.toNat]⟩) (w.alloc (.cells #[.int .u8 x] 5)) := by
  refine run_convert_bytes_back (P := Try.prog) (w.alloc (.cells #[.int .u8 x] 5)) 95 9 5 ⟨w.heap.size, 0, none⟩ 1 [UInt8.ofNat x.toNat] Try.underlying95 Try.underlying5 Try.underlying9 ?_
  intro j hj
  have hj0 : j = 0 := by simp at hj; omega
  subst hj0
  simp only [List.getElem_cons_zero, Bx.byte_back x h0 h1]
  rw [World.cell?, show ((⟨w.heap.size, 0, none⟩ : Addr).add 0).block = w.heap.size from rfl, (MapKept.heap_alloc w _).1]
  rfl
theorem Bx.ret_val {a b : Value} (h : a = b) : (Ending.returned a : Ending) = .returned b := by rw [h]

set_option maxRecDepth 100000 in
set_option maxHeartbeats 1000000 in
theorem Bx.markText_any (k : Int) (w : World) (h1 : 1 ≤ k) (h2 : k ≤ 10000000) :
    Calls Try.prog 43 #[.int .i64 k] w fun e w' => e = .returned (.string (Bx.mark k)) ∧ Below w.heap.size w w' := by
  go_enter Try.func43, Try.ntmps43
  go_wp2
  go_loopw [0, 3] (fun t v wr => ∃ (j : Int) (f : Nat) (out : ByteArray), 0 ≤ j ∧ j ≤ k ∧ j < f ∧ (out.size : Int) ≤ k - j ∧ t = .int .i64 j ∧ v = .string out ∧ Bx.digs f j out = Bx.digs (k.toNat + 1) k ⟨#[]⟩ ∧ Below w.heap.size w wr) (fun t _ _ => (intOf t).toNat)
  case atStart => exact ⟨k, k.toNat + 1, ⟨#[]⟩, by omega, by omega, by omega, by simp [ByteArray.size], rfl, rfl, rfl, Below.refl _ _⟩
  case round =>
    obtain ⟨j, f, out, hj0, hj1, hjf, hos, rfl, rfl, hd, hb⟩ := hrel
    by_cases hp : 0 < j
    · obtain ⟨f, rfl⟩ : ∃ f', f = f' + 1 := ⟨f - 1, by omega⟩
      have HD : Hid (Bx.digs f (j / 10) (⟨#[UInt8.ofNat (48 + j % 10).toNat]⟩ ++ out) = Bx.digs (k.toNat + 1) k ⟨#[]⟩) := by rw [Bx.digs_pos _ _ _ hp] at hd; exact hd
      clear hd
      have hcv := Bx.conv_one wr (48 + j % 10) (by omega) (by omega)
      go_wp2
      go_roundw
      case rel => exact ⟨j / 10, f, _, by omega, by omega, by omega, by rw [ByteArray.size_append, Bx.size_one]; omega, rfl, rfl, HD.out, hb.alloc hb.size _⟩
      case measure => simp [intOf]; omega
    · have HD : Hid (out = Bx.digs (k.toNat + 1) k ⟨#[]⟩) := by rw [Bx.digs_zero _ _ _ hp] at hd; exact hd
      clear hd
      have HM : Hid (Value.string (⟨#[109]⟩ ++ out) = .string (Bx.mark k)) := by rw [Hid, Bx.mark, ← HD.out]
      go_wp2
      go_ret
      exact ⟨Bx.ret_val HM.out, hb⟩

theorem Bx.own_form {w : World} {B e size n : Nat} {v : Value} {xs : List Value} (h : w.ownsRow B e size v n xs) (hn : 0 < n) : ∃ g cap, v = .slice (some ⟨g, 0, none⟩) n cap ∧ B ≤ g ∧ g < w.heap.size := by
  rcases h.2 with ⟨rfl, h0⟩ | ⟨g, cap, cur, rfl, hg, hgg, _⟩
  · omega
  · exact ⟨g, cap, rfl, hg, (Array.getElem?_eq_some_iff.1 hgg).1⟩
/-- The files that markFileS leaves. -/
def Bx.marked (k : Int) (n : Nat) : List Bx.Fl := (List.range n).map fun (i : Nat) => ⟨Bx.mark (k + 2 * (i : Int)), Bx.mark (k + 2 * (i : Int) + 1)⟩
theorem Bx.marked_len (k : Int) (n : Nat) : (Bx.marked k n).length = n := by simp [Bx.marked]
theorem Bx.marked_at (k : Int) (n i : Nat) (h : i < n) : (Bx.marked k n)[i]? = some ⟨Bx.mark (k + 2 * (i : Int)), Bx.mark (k + 2 * (i : Int) + 1)⟩ := by
  simp [Bx.marked, h]
theorem Bx.grown_below {w w' : World} (h : Below w.heap.size w w') (row : Option Nat) : w.grownBy w' row := ⟨h.os, h.tape, h.output, h.size, fun k hk _ => h.block k hk⟩
theorem Bx.grown_set (w : World) (g i : Nat) (v : Value) : w.grownBy (w.setCell ⟨g, i, none⟩ v) (some g) :=
  ⟨rfl, rfl, rfl, by simp [World.setCell], fun k _ hk => Below.heap_setCell _ _ _ _ (fun e => hk (by simp [e]))⟩

set_option maxRecDepth 100000 in
set_option maxHeartbeats 1000000 in
theorem Bx.markFileS_any (n : Nat) (xs : List Value) (v : Value) (k : Int) (B : Nat) (w : World) (hown : w.ownsRow B 55 2 v n xs) (hl : n ≤ 1048576) (hk1 : 1 ≤ k) (hk2 : k ≤ 4000000) :
    Calls Try.prog 21 #[v, .int .i64 k] w fun e w' => e = .returned (.int .i64 (k + 2 * (n : Int))) ∧ w'.ownsRow B 55 2 v n (Bx.fCs (Bx.marked k n)) ∧ w.grownBy w' v.ownBlock := by
  by_cases hn : 0 < n
  · obtain ⟨g, cap, rfl, hg, hg2⟩ := Bx.own_form hown hn
    have hxl := hown.1
    go_enter Try.func21, Try.ntmps21
    go_wp2
    go_loopw [1, 5] (fun c t wr => ∃ i : Nat, i ≤ n ∧ t = .int .i64 (i : Int) ∧ c = .int .i64 (k + 2 * (i : Int)) ∧ wr.ownsRow B 55 2 (.slice (some ⟨g, 0, none⟩) n cap) n (Bx.fillTo (Bx.marked k n) i xs) ∧ w.grownBy wr (some g)) (fun _ t _ => n - (intOf t).toNat)
    case atStart => exact ⟨0, by omega, rfl, by simp, hown, World.grownBy.refl _ _⟩
    case round =>
      obtain ⟨i, hi, rfl, rfl, ho, hbw⟩ := hrel
      by_cases hlt : i < n
      · have HF : Hid (Bx.fillTo (Bx.marked k n) (i + 1) xs = ((Bx.fillTo (Bx.marked k n) i xs).set (i * 2) (.string (Bx.mark (k + 2 * (i : Int))))).set (i * 2 + 1) (.string (Bx.mark (k + 2 * (i : Int) + 1)))) := by rw [Hid, Bx.fillTo, Bx.marked_at k n i hlt]; rfl
        generalize Bx.fillTo (Bx.marked k n) i xs = ys at *
        generalize hK : k + 2 * (i : Int) = K at *
        have hK1 : 1 ≤ K := by omega
        have hK2 : K ≤ 7000000 := by omega
        have HK := hK
        clear hK
        have HO : Hid (wr.ownsRow B 55 2 (.slice (some ⟨g, 0, none⟩) n cap) n ys) := ho
        have HG : Hid (w.grownBy wr (some g)) := hbw
        have hgw : g < wr.heap.size := Nat.lt_of_lt_of_le hg2 hbw.size
        clear ho hbw
        go_wp2_with (go_at_call 43; refine (Bx.markText_any _ _ (by omega) (by omega)).mono ?_; first
          | (rintro e w2 ⟨rfl, hb2⟩; have own2 := Bx.own_below own1 hb2; obtain ⟨y1, c1⟩ := Bx.row_some own2 (i * 2 + 1) (by omega); have f1 := own2.frozenAt (i * 2 + 1))
          | (rintro e w1 ⟨rfl, hb1⟩; have own0 := Bx.own_below HO.out hb1; obtain ⟨y0, c0⟩ := Bx.row_some own0 (i * 2) (by omega); have f0 := own0.frozenAt (i * 2); have own1 := (own0.stored (i * 2) (.string (Bx.mark K))).1))
        have own6 := (own2.stored (i * 2 + 1) (.string (Bx.mark (K + 1)))).1
        have hg6 : w.grownBy (w2.setCell ⟨g, i * 2 + 1, none⟩ (.string (Bx.mark (K + 1)))) (some g) := (((HG.out.trans (Bx.grown_below hb1 _)).trans (Bx.grown_set _ g (i * 2) (.string (Bx.mark K)))).trans (Bx.grown_below hb2 _)).trans (Bx.grown_set _ g (i * 2 + 1) _)
        go_roundw
        case rel =>
          refine ⟨i + 1, by omega, by go_num, ?_, by rw [HF.out]; exact own6, hg6⟩
          rw [show k + 2 * ((i + 1 : Nat) : Int) = K + 2 by omega]; go_num
        case measure => simp [intOf]; omega
      · have h0 : i = n := by omega
        subst h0
        have HF : Hid (Bx.fillTo (Bx.marked k i) i xs = Bx.fCs (Bx.marked k i)) := by
          have := Bx.fillTo_all (Bx.marked k i) xs (by rw [Bx.marked_len]; exact hxl)
          rw [Bx.marked_len] at this; exact this
        rw [HF.out] at ho
        clear HF
        go_wp2
        go_ret
        exact ⟨rfl, ho, hbw⟩
  · have h0 : n = 0 := by omega
    subst h0
    obtain ⟨ga, ca, rfl⟩ := Bx.rowLen hown
    have hx0 : xs = Bx.fCs (Bx.marked k 0) := by rw [List.length_eq_zero_iff.1 (show xs.length = 0 by rw [hown.1]), List.length_eq_zero_iff.1 (show (Bx.fCs (Bx.marked k 0)).length = 0 by rw [Bx.fCs_length, Bx.marked_len])]
    go_enter Try.func21, Try.ntmps21
    go_wp2
    refine wp_loop_rounds 1 ?_
    rw [rounds_succ]
    go_wp2
    go_ret
    exact ⟨Bx.ret_int (by simp), by rw [← hx0]; exact hown, World.grownBy.refl _ _⟩
set_option maxRecDepth 100000 in
set_option maxHeartbeats 1000000 in
theorem Bx.heldFileS_any (n : Nat) (v : Value) (k : Int) (w : World) (hN : Bx.Off w v (Bx.marked k n)) (hl : n ≤ 1048576) (hk1 : 1 ≤ k) (hk2 : k ≤ 4000000) :
    Calls Try.prog 44 #[v, .int .i64 k] w fun e w' => e = .returned (.int .i64 (k + 2 * (n : Int))) ∧ Below w.heap.size w w' := by
  obtain ⟨a, cap, rfl, hc⟩ := hN
  rw [Bx.marked_len]
  have HC : Hid (∀ i, i < n → ∃ g o, a = some ⟨g, o, none⟩ ∧ g < w.heap.size ∧ w.cell? ⟨g, o + i * 2, none⟩ = some (.string (Bx.mark (k + 2 * (i : Int)))) ∧ w.cell? ⟨g, o + i * 2 + 1, none⟩ = some (.string (Bx.mark (k + 2 * (i : Int) + 1)))) := fun i hi => by
    have h := hc i (by rw [Bx.marked_len]; exact hi)
    have e := Bx.marked_at k n i hi
    rw [List.getElem?_eq_getElem (by rw [Bx.marked_len]; exact hi)] at e
    rw [Option.some.inj e] at h
    exact h
  clear hc
  go_enter Try.func44, Try.ntmps44
  go_wp2
  go_loopw [1, 5] (fun c t wr => ∃ i : Nat, i ≤ n ∧ t = .int .i64 (i : Int) ∧ c = .int .i64 (k + 2 * (i : Int)) ∧ Below w.heap.size w wr) (fun _ t _ => n - (intOf t).toNat)
  case atStart => exact ⟨0, by omega, rfl, by simp, Below.refl _ _⟩
  case round =>
    obtain ⟨i, hi, rfl, rfl, hbw⟩ := hrel
    by_cases hlt : i < n
    · obtain ⟨g, o, rfl, hg, hcell, hcell2⟩ := HC.out i hlt
      have e0 : wr.cell? ⟨g, o + i * 2, none⟩ = some (.string (Bx.mark (k + 2 * (i : Int)))) := by rw [hbw.cell (p := ⟨g, o + i * 2, none⟩) hg, hcell]
      have HA : Hid (∀ W, Below w.heap.size w W → W.cell? ⟨g, o + i * 2 + 1, none⟩ = some (.string (Bx.mark (k + 2 * (i : Int) + 1)))) := fun W h => by rw [h.cell (p := ⟨g, o + i * 2 + 1, none⟩) hg, hcell2]
      have HA0 : Hid (∀ W, Below w.heap.size w W → W.cell? ⟨g, o + i * 2, none⟩ = some (.string (Bx.mark (k + 2 * (i : Int))))) := fun W h => by rw [h.cell (p := ⟨g, o + i * 2, none⟩) hg, hcell]
      clear hcell hcell2 HC
      generalize hK : k + 2 * (i : Int) = K at *
      have hK1 : 1 ≤ K := by omega
      have hK2 : K ≤ 7000000 := by omega
      have HK := hK
      clear hK
      have hz := hbw.size
      have hq : (i : Int) < (n : Int) := by omega
      go_wp2_with fail
      go_region_with (go_at_call 43; refine (Bx.markText_any _ _ (by omega) (by omega)).mono ?_; rintro e w1 ⟨rfl, hb1⟩; have hb1' : Below w.heap.size w w1 := hbw.trans ⟨hb1.os, hb1.tape, hb1.output, hb1.size, fun j hj => hb1.block j (by have := hbw.size; simp; omega)⟩; have c0 := HA0.out w1 hb1')
      all_goals
        clear hb1 HA0 c0 e0
        have e1 := HA.out w1 hb1'
        have hz1 := hb1'.size
        go_wp2_with fail
        go_region_with (go_at_call 43; refine (Bx.markText_any _ _ (by omega) (by omega)).mono ?_; rintro e w2 ⟨rfl, hb2⟩; have hb2' : Below w.heap.size w w2 := hb1'.trans ⟨hb2.os, hb2.tape, hb2.output, hb2.size, fun j hj => hb2.block j (by have := hb1'.size; simp; omega)⟩; have c1 := HA.out w2 hb2')
        all_goals
          clear hb2 HA c1 e1
          go_wp2
          go_roundw
          case rel =>
            refine ⟨i + 1, by omega, by go_num, ?_, hb2'⟩
            rw [show k + 2 * ((i + 1 : Nat) : Int) = K + 2 by omega]; go_num
          case measure => simp [intOf]; omega
    · have h0 : i = n := by omega
      subst h0
      clear HC
      go_wp2
      go_ret
      exact ⟨rfl, hbw⟩
set_option maxRecDepth 100000 in
set_option maxHeartbeats 1000000 in
theorem Bx.markPlace_any (n : Nat) (xs : List Value) (v : Value) (k : Int) (B : Nat) (w : World) (hown : w.ownsRow B 55 2 v n xs) (hl : n ≤ 1048576) (hk1 : 1 ≤ k) (hk2 : k ≤ 4000000) :
    Calls Try.prog 20 #[.agg #[v], .int .i64 k] w fun e w' => e = .returned (.int .i64 (k + 2 * (n : Int))) ∧ w'.ownsRow B 55 2 v n (Bx.fCs (Bx.marked k n)) ∧ w.grownBy w' v.ownBlock := by
  have HO : Hid (∀ o : Obj, (w.alloc o).ownsRow B 55 2 v n xs) := fun o => hown.alloc o
  obtain ⟨a, c, rfl⟩ := Bx.rowLen hown
  clear hown
  go_enter Try.func20, Try.ntmps20
  go_wp2_with (go_at_call 21; refine (Bx.markFileS_any n xs _ _ B _ (HO.out _) hl (by omega) (by omega)).mono ?_; rintro e w1 ⟨rfl, own1, hg1⟩)
  go_ret
  exact ⟨rfl, own1, (World.grownBy_alloc w _ _).trans hg1⟩
set_option maxRecDepth 100000 in
set_option maxHeartbeats 1000000 in
theorem Bx.heldPlace_any (n : Nat) (v : Value) (k : Int) (w : World) (hN : Bx.Off w v (Bx.marked k n)) (hl : n ≤ 1048576) (hk1 : 1 ≤ k) (hk2 : k ≤ 4000000) :
    Calls Try.prog 22 #[.agg #[v], .int .i64 k] w fun e w' => e = .returned (.int .i64 (k + 2 * (n : Int))) ∧ Below w.heap.size w w' := by
  have HO : Hid (∀ o : Obj, Bx.Off (w.alloc o) v (Bx.marked k n)) := fun o => hN.below ((Below.refl _ w).alloc (Nat.le_refl _) o)
  obtain ⟨a, c, rfl⟩ := hN.slice
  clear hN
  obtain ⟨r, HR⟩ : ∃ r, Hid (k + 2 * (n : Int) = r) := ⟨_, (rfl : _ = _)⟩
  have hr : 0 ≤ r := by have := HR.out; omega
  have HH : Hid (∀ o : Obj, Calls Try.prog 44 #[.slice a (Bx.marked k n).length c, .int .i64 k] (w.alloc o) fun e w' => e = .returned (.int .i64 r) ∧ Below (w.alloc o).heap.size (w.alloc o) w') := fun o => by
    have := Bx.heldFileS_any n _ k _ (HO.out o) hl hk1 hk2
    rw [HR.out] at this; exact this
  rw [HR.out]
  clear HO
  go_enter Try.func22, Try.ntmps22
  go_wp2_with (go_at_call 44; refine (HH.out _).mono ?_; rintro e w1 ⟨rfl, hb1⟩)
  go_ret
  exact ⟨rfl, ((Below.refl _ w).alloc (Nat.le_refl _) _).trans (hb1.mono (by simp))⟩
end Go.Proofs.Ytdapajkckocmbaa
