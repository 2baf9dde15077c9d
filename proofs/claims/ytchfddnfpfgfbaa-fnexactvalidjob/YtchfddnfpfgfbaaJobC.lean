import Derived.Test.YtchfddnfpfgfbaaJobB
import Derived.Deep.QuietTactic
import Derived.BigQuiet
import Derived.Laws.Cover1
namespace Go.Proofs.Ytchfddnfpfgfbaa
open Go.RowKit

def Jb.okI (xs : List ByteArray) (i : Nat) : Bool :=
  match xs[i]? with
  | none => true
  | some x => Jb.name x && (match i with | 0 => true | k + 1 => (match xs[k]? with | none => true | some y => Op.bytesLess y.toList x.toList))
def Jb.okN (xs : List ByteArray) : Nat → Bool
  | 0 => true
  | n + 1 => Jb.okN xs n && Jb.okI xs n
def Jb.ok (a : ByteArray) (xs : List ByteArray) : Bool := decide ((a.size : Int) ≤ 3000) && decide (xs.length ≤ 20) && Jb.okN xs xs.length
theorem Jb.okN_no (xs : List ByteArray) (i n : Nat) (h : i < n) (hi : Jb.okI xs i = false) : Jb.okN xs n = false := by
  induction n with
  | zero => omega
  | succ n ih =>
    rw [Jb.okN]
    by_cases e : i = n
    · subst e; rw [hi, Bool.and_false]
    · rw [ih (by omega), Bool.false_and]
theorem Jb.ok_long (a : ByteArray) (xs : List ByteArray) (h : ¬ ((a.size : Int) ≤ 3000)) : Jb.ok a xs = false := by unfold Jb.ok; simp only [h, decide_false, Bool.false_and]
theorem Jb.ok_many (a : ByteArray) (xs : List ByteArray) (h : ¬ (xs.length ≤ 20)) : Jb.ok a xs = false := by unfold Jb.ok; simp only [h, decide_false, Bool.and_false, Bool.false_and]
theorem Jb.ok_is (a : ByteArray) (xs : List ByteArray) (h0 : (a.size : Int) ≤ 3000) (h : xs.length ≤ 20) : Jb.ok a xs = Jb.okN xs xs.length := by unfold Jb.ok; simp only [h0, h, decide_true, Bool.true_and]
theorem Jb.quiet {P : Program} {f : FuncId} {args : Array Value} {w : World} {n : Nat} {v : Value}
    (h : Calls P f args (w.drewN n) fun e w' => e = .returned v ∧ w.drewN n = w') : Calls P f args (w.drewN n) fun e w'' => e = .returned v ∧ ∃ m, w'' = w.drewN m :=
  h.mono fun _ _ ⟨he, hm⟩ => ⟨he, n, hm.symm⟩
theorem Jb.below_drewN {B : Nat} {a w : World} (n : Nat) (h : Below B a w) : Below B a (w.drewN n) := ⟨h.os, h.tape, h.output, h.size, h.block⟩
theorem Jb.path_is (s : ByteArray) (b : Bool) (h : Hid (Jb.name s = b)) (hs : s.size ≤ 1048576) (w : World) : Calls Try.prog 15 #[.string s] w fun e w' => e = .returned (.bool b) ∧ w = w' := by
  rw [← h.out]; exact Jb.path_any s hs w
theorem Jb.file_is (s : ByteArray) (b : Bool) (h : Hid (Jb.name s = b)) (hs : s.size ≤ 1048576) (w : World) : Calls Try.prog 17 #[.string s] w fun e w' => e = .returned (.bool b) ∧ w = w' := by
  rw [← h.out]; exact Jb.file_any s hs w
theorem Jb.less_le (x y : List UInt8) : (Op.bytesLess x y || x == y) = !Op.bytesLess y x := by
  induction x generalizing y with
  | nil => cases y with
    | nil => rfl
    | cons b s => rfl
  | cons a r ih => cases y with
    | nil => rfl
    | cons b s =>
      have h := ih s
      simp only [Op.bytesLess]
      by_cases h1 : a = b
      · subst h1
        have e1 : decide (a < a) = false := by simp
        simp only [e1, Bool.false_or, BEq.rfl, Bool.true_and, List.cons_beq_cons]
        exact h
      · have e1 : (a == b) = false := by simpa using h1
        have e2 : (b == a) = false := by simpa using fun e => h1 e.symm
        simp only [e1, e2, Bool.false_and, Bool.or_false, List.cons_beq_cons]
        have h1' : a.toNat ≠ b.toNat := fun e => h1 (UInt8.toNat_inj.1 e)
        by_cases h2 : a < b
        · have h3 : ¬ b < a := by rw [UInt8.lt_iff_toNat_lt] at *; omega
          simp [h2, h3]
        · have h3 : b < a := by rw [UInt8.lt_iff_toNat_lt] at *; omega
          simp [h2, h3]
theorem Jb.okI_name {xs : List ByteArray} {i : Nat} (hi : i < xs.length) (h : Jb.name xs[i] = false) : Jb.okI xs i = false := by
  unfold Jb.okI; rw [List.getElem?_eq_getElem hi]; simp only [h, Bool.false_and]
theorem Jb.okI_zero {xs : List ByteArray} (hi : 0 < xs.length) (h : Jb.name xs[0] = true) : Jb.okI xs 0 = true := by
  unfold Jb.okI; rw [List.getElem?_eq_getElem hi]; simp only [h, Bool.true_and]
theorem Jb.okI_succ {xs : List ByteArray} {k : Nat} (hi : k + 1 < xs.length) (h : Jb.name xs[k + 1] = true) : Jb.okI xs (k + 1) = Op.bytesLess (xs[k]'(by omega)).toList xs[k + 1].toList := by
  unfold Jb.okI; rw [List.getElem?_eq_getElem hi]; simp only [h, Bool.true_and]; rw [List.getElem?_eq_getElem (by omega : k < xs.length)]
set_option maxRecDepth 100000 in
set_option maxHeartbeats 1000000 in
theorem Jb.spec_any (a : ByteArray) (xs : List ByteArray) (v : Value) (w : World) (ha : a.size ≤ 1048576) (hn : xs.length ≤ 1048576) (hx : ∀ d ∈ xs, d.size ≤ 1048576) (hN : Jb.Off w v xs) :
    Calls Try.prog 6 #[.agg #[.string a, v]] w fun e w' => e = .returned (.bool (Jb.ok a xs)) ∧ Below w.heap.size w w' := by
  obtain ⟨p, cap, rfl, hc⟩ := hN
  obtain ⟨n, HN⟩ : ∃ n, Hid (xs.length = n) := ⟨_, (rfl : xs.length = _)⟩
  have HC : Hid (∀ i (hi : i < xs.length), ∃ g o, p = some ⟨g, o, none⟩ ∧ g < w.heap.size ∧ w.cell? ⟨g, o + i, none⟩ = some (.string xs[i])) := hc
  clear hc
  rw [HN.out] at hn
  by_cases h0 : (a.size : Int) ≤ 3000
  · by_cases h1 : n ≤ 20
    · have HV : Hid (Jb.ok a xs = Jb.okN xs n) := by have e := Jb.ok_is a xs h0 (by rw [HN.out]; exact h1); rw [HN.out] at e; exact e
      simp only [HN.out]
      go_enter Try.func6, Try.ntmps6
      go_wp2
      go_loopw [3] (fun t wr => ∃ i : Nat, i ≤ n ∧ t = .int .i64 (i : Int) ∧ Jb.okN xs i = true ∧ Below (w.heap.size + 1) (w.alloc (.cells #[.string a, .slice p n cap] 27)) wr) (fun t _ => n - (intOf t).toNat)
      case atStart => exact ⟨0, by omega, rfl, rfl, Below.refl _ _⟩
      case round =>
        obtain ⟨i, hi, rfl, hok, hbw⟩ := hrel
        have hbb : Below w.heap.size w wr := ((Below.refl _ w).alloc (Nat.le_refl _) _).trans (hbw.mono (by omega))
        have hz := hbb.size
        have cv : wr.cell? ⟨w.heap.size, 1, none⟩ = some (.slice p n cap) := (Rp.row2 hbw).2
        by_cases hlt : i < n
        · have hil : i < xs.length := by rw [HN.out]; exact hlt
          obtain ⟨g, o, rfl, hg, hcell⟩ := HC.out i hil
          have hq : wr.cell? ⟨g, o + i, none⟩ = some (.string xs[i]) := by rw [hbb.cell (p := ⟨g, o + i, none⟩) hg, hcell]
          have hxd := hx xs[i] (List.getElem_mem hil)
          cases hnm : Jb.name xs[i] with
          | false =>
            have HF : Hid (Jb.ok a xs = false) := by rw [Hid, HV.out]; exact Jb.okN_no xs i n hlt (Jb.okI_name hil hnm)
            have HM : Hid (Jb.name xs[i] = false) := hnm
            generalize xs[i] = xi at *
            clear hcell HC hnm hok HV
            go_wp2_with fail
            go_quiet (first | (go_at_call 15; refine Jb.quiet (Jb.path_is _ false HM hxd _)))
            go_wp2
            go_ret
            exact ⟨Jb.ret_bool HF.out.symm, Jb.below_drewN _ hbb⟩
          | true =>
            have HM : Hid (Jb.name xs[i] = true) := hnm
            by_cases hi0 : i = 0
            · subst hi0
              have HF : Hid (Jb.okN xs (0 + 1) = true) := by rw [Hid, Jb.okN, hok, Jb.okI_zero hil hnm]; rfl
              generalize xs[0] = xi at *
              clear hcell HC hnm hok HV
              rw [Nat.add_zero] at hq
              go_wp2_with fail
              go_quiet (first | (go_at_call 15; refine Jb.quiet (Jb.path_is _ true HM hxd _)))
              go_wp2
              go_roundw
              case rel => exact ⟨0 + 1, by omega, by go_num, HF.out, Jb.below_drewN _ hbw⟩
              case measure => simp [intOf]; omega
            · obtain ⟨k, hik⟩ : ∃ k, i = k + 1 := ⟨i - 1, by omega⟩
              have hkl : k < xs.length := by omega
              have hkn : k < n := by omega
              have hi1 : IntKind.i64.wrap ((i : Int) - 1) = (k : Int) := by rw [wrap_small _ (by omega) (by omega)]; omega
              have hpos : decide (0 < i) = true := by simpa using (by omega : 0 < i)
              have hpos2 : 0 < i := by omega
              have hwk : IntKind.i64.wrap (k : Int) = (k : Int) := wrap_small _ (by omega) (by omega)
              have HIK : Hid (i = k + 1) := hik
              clear hik
              obtain ⟨g2, o2, e2, _, hcell2⟩ := HC.out k hkl
              cases e2
              have hq2 : wr.cell? ⟨g, o + k, none⟩ = some (.string xs[k]) := by rw [hbb.cell (p := ⟨g, o + k, none⟩) hg, hcell2]
              cases hL : Op.bytesLess xs[k].toList xs[i].toList with
              | true =>
                have HF : Hid (Jb.okN xs (i + 1) = true) := by have hik := HIK.out; subst hik; rw [Hid, Jb.okN, hok, Jb.okI_succ hil hnm, hL]; rfl
                generalize xs[i] = xi at *
                generalize xs[k] = xk at *
                have HL2 : Hid ((Op.bytesLess xi.toList xk.toList || xi.toList == xk.toList) = false) := by rw [Hid, Jb.less_le, hL]; rfl
                clear hcell hcell2 HC hnm hok HV
                go_wp2_with fail
                go_quiet (first | (go_at_call 15; refine Jb.quiet (Jb.path_is _ true HM hxd _)))
                go_wp2
                go_roundw
                case rel => exact ⟨i + 1, by omega, by go_num, HF.out, Jb.below_drewN _ hbw⟩
                case measure => simp [intOf]; omega
              | false =>
                have HF : Hid (Jb.ok a xs = false) := by rw [Hid, HV.out]; have hik := HIK.out; subst hik; exact Jb.okN_no xs (k + 1) n hlt (by rw [Jb.okI_succ hil hnm, hL])
                generalize xs[i] = xi at *
                generalize xs[k] = xk at *
                have HL2 : Hid ((Op.bytesLess xi.toList xk.toList || xi.toList == xk.toList) = true) := by rw [Hid, Jb.less_le, hL]; rfl
                clear hcell hcell2 HC hnm hok HV
                go_wp2_with fail
                go_quiet (first | (go_at_call 15; refine Jb.quiet (Jb.path_is _ true HM hxd _)))
                go_wp2
                go_ret
                exact ⟨Jb.ret_bool HF.out.symm, Jb.below_drewN _ hbb⟩
        · have hie : i = n := by omega
          subst hie
          have HF : Hid (Jb.ok a xs = true) := by rw [Hid, HV.out]; exact hok
          clear HC hok HV
          go_wp2
          go_ret
          exact ⟨Jb.ret_bool HF.out.symm, hbb⟩
    · have HV : Hid (Jb.ok a xs = false) := Jb.ok_many a xs (by rw [HN.out]; exact h1)
      simp only [HN.out]
      go_enter Try.func6, Try.ntmps6
      go_wp2
      go_ret
      exact ⟨Jb.ret_bool HV.out.symm, (Below.refl _ w).alloc (Nat.le_refl _) _⟩
  · have HV : Hid (Jb.ok a xs = false) := Jb.ok_long a xs h0
    simp only [HN.out]
    go_enter Try.func6, Try.ntmps6
    go_wp2
    go_ret
    exact ⟨Jb.ret_bool HV.out.symm, (Below.refl _ w).alloc (Nat.le_refl _) _⟩
set_option maxRecDepth 100000 in
set_option maxHeartbeats 1000000 in
theorem Jb.impl_any (a : ByteArray) (xs : List ByteArray) (v : Value) (w : World) (ha : a.size ≤ 1048576) (hn : xs.length ≤ 1048576) (hx : ∀ d ∈ xs, d.size ≤ 1048576) (hN : Jb.Off w v xs) :
    Calls Try.prog 8 #[.agg #[.string a, v]] w fun e w' => e = .returned (.bool (Jb.ok a xs)) ∧ Below w.heap.size w w' := by
  obtain ⟨p, cap, rfl, hc⟩ := hN
  obtain ⟨n, HN⟩ : ∃ n, Hid (xs.length = n) := ⟨_, (rfl : xs.length = _)⟩
  have HC : Hid (∀ i (hi : i < xs.length), ∃ g o, p = some ⟨g, o, none⟩ ∧ g < w.heap.size ∧ w.cell? ⟨g, o + i, none⟩ = some (.string xs[i])) := hc
  clear hc
  rw [HN.out] at hn
  by_cases h0 : (a.size : Int) ≤ 3000
  · by_cases h1 : n ≤ 20
    · have HV : Hid (Jb.ok a xs = Jb.okN xs n) := by have e := Jb.ok_is a xs h0 (by rw [HN.out]; exact h1); rw [HN.out] at e; exact e
      simp only [HN.out]
      go_enter Try.func8, Try.ntmps8
      go_wp2
      go_loopw [18] (fun t wr => ∃ i : Nat, i ≤ n ∧ t = .int .i64 (i : Int) ∧ Jb.okN xs i = true ∧ Below (w.heap.size + 1) (w.alloc (.cells #[.string a, .slice p n cap] 27)) wr) (fun t _ => n - (intOf t).toNat)
      case atStart => exact ⟨0, by omega, rfl, rfl, Below.refl _ _⟩
      case round =>
        obtain ⟨i, hi, rfl, hok, hbw⟩ := hrel
        have hbb : Below w.heap.size w wr := ((Below.refl _ w).alloc (Nat.le_refl _) _).trans (hbw.mono (by omega))
        have hz := hbb.size
        have cv : wr.cell? ⟨w.heap.size, 1, none⟩ = some (.slice p n cap) := (Rp.row2 hbw).2
        by_cases hlt : i < n
        · have hil : i < xs.length := by rw [HN.out]; exact hlt
          obtain ⟨g, o, rfl, hg, hcell⟩ := HC.out i hil
          have hq : wr.cell? ⟨g, o + i, none⟩ = some (.string xs[i]) := by rw [hbb.cell (p := ⟨g, o + i, none⟩) hg, hcell]
          have hxd := hx xs[i] (List.getElem_mem hil)
          cases hnm : Jb.name xs[i] with
          | false =>
            have HF : Hid (Jb.ok a xs = false) := by rw [Hid, HV.out]; exact Jb.okN_no xs i n hlt (Jb.okI_name hil hnm)
            have HM : Hid (Jb.name xs[i] = false) := hnm
            generalize xs[i] = xi at *
            clear hcell HC hnm hok HV
            go_wp2_with (go_at_call 17; refine (Jb.file_is _ false HM hxd _).mono ?_; rintro e w2 ⟨rfl, rfl⟩)
            go_wp2
            go_ret
            exact ⟨Jb.ret_bool HF.out.symm, hbb⟩
          | true =>
            have HM : Hid (Jb.name xs[i] = true) := hnm
            by_cases hi0 : i = 0
            · subst hi0
              have HF : Hid (Jb.okN xs (0 + 1) = true) := by rw [Hid, Jb.okN, hok, Jb.okI_zero hil hnm]; rfl
              generalize xs[0] = xi at *
              clear hcell HC hnm hok HV
              rw [Nat.add_zero] at hq
              go_wp2_with (go_at_call 17; refine (Jb.file_is _ true HM hxd _).mono ?_; rintro e w2 ⟨rfl, rfl⟩)
              go_wp2
              go_roundw
              case rel => exact ⟨0 + 1, by omega, by go_num, HF.out, hbw⟩
              case measure => simp [intOf]; omega
            · obtain ⟨k, hik⟩ : ∃ k, i = k + 1 := ⟨i - 1, by omega⟩
              have hkl : k < xs.length := by omega
              have hkn : k < n := by omega
              have hi1 : (i : Int) - 1 = (k : Int) := by omega
              have hpos : decide (0 < i) = true := by simpa using (by omega : 0 < i)
              have hpos2 : 0 < i := by omega
              have hwk : IntKind.i64.wrap (k : Int) = (k : Int) := wrap_small _ (by omega) (by omega)
              have HIK : Hid (i = k + 1) := hik
              clear hik
              obtain ⟨g2, o2, e2, _, hcell2⟩ := HC.out k hkl
              cases e2
              have hq2 : wr.cell? ⟨g, o + k, none⟩ = some (.string xs[k]) := by rw [hbb.cell (p := ⟨g, o + k, none⟩) hg, hcell2]
              cases hL : Op.bytesLess xs[k].toList xs[i].toList with
              | true =>
                have HF : Hid (Jb.okN xs (i + 1) = true) := by have hik := HIK.out; subst hik; rw [Hid, Jb.okN, hok, Jb.okI_succ hil hnm, hL]; rfl
                generalize xs[i] = xi at *
                generalize xs[k] = xk at *
                have HL2 : Hid ((Op.bytesLess xi.toList xk.toList || xi.toList == xk.toList) = false) := by rw [Hid, Jb.less_le, hL]; rfl
                clear hcell hcell2 HC hnm hok HV
                obtain ⟨hLa, hLb⟩ := Bool.or_eq_false_iff.1 HL2.out
                go_wp2_with (go_at_call 17; refine (Jb.file_is _ true HM hxd _).mono ?_; rintro e w2 ⟨rfl, rfl⟩)
                go_wp2
                go_roundw
                case rel => exact ⟨i + 1, by omega, by go_num, HF.out, hbw⟩
                case measure => simp [intOf]; omega
              | false =>
                have HF : Hid (Jb.ok a xs = false) := by rw [Hid, HV.out]; have hik := HIK.out; subst hik; exact Jb.okN_no xs (k + 1) n hlt (by rw [Jb.okI_succ hil hnm, hL])
                generalize xs[i] = xi at *
                generalize xs[k] = xk at *
                have HL2 : Hid ((Op.bytesLess xi.toList xk.toList || xi.toList == xk.toList) = true) := by rw [Hid, Jb.less_le, hL]; rfl
                clear hcell hcell2 HC hnm hok HV
                have hLL := HL2.out
                cases hLa : Op.bytesLess xi.toList xk.toList <;> cases hLb : (xi.toList == xk.toList)
                all_goals try (exfalso; rw [hLa, hLb] at hLL; exact absurd hLL (by decide))
                all_goals try clear hLL
                all_goals
                  go_wp2_with (go_at_call 17; refine (Jb.file_is _ true HM hxd _).mono ?_; rintro e w2 ⟨rfl, rfl⟩)
                  go_wp2
                  go_ret
                  exact ⟨Jb.ret_bool HF.out.symm, hbb⟩
        · have hie : i = n := by omega
          subst hie
          have HF : Hid (Jb.ok a xs = true) := by rw [Hid, HV.out]; exact hok
          clear HC hok HV
          go_wp2
          go_ret
          exact ⟨Jb.ret_bool HF.out.symm, hbb⟩
    · have HV : Hid (Jb.ok a xs = false) := Jb.ok_many a xs (by rw [HN.out]; exact h1)
      simp only [HN.out]
      go_enter Try.func8, Try.ntmps8
      go_wp2
      go_ret
      exact ⟨Jb.ret_bool HV.out.symm, (Below.refl _ w).alloc (Nat.le_refl _) _⟩
  · have HV : Hid (Jb.ok a xs = false) := Jb.ok_long a xs h0
    simp only [HN.out]
    go_enter Try.func8, Try.ntmps8
    go_wp2
    go_ret
    exact ⟨Jb.ret_bool HV.out.symm, (Below.refl _ w).alloc (Nat.le_refl _) _⟩
end Go.Proofs.Ytchfddnfpfgfbaa
