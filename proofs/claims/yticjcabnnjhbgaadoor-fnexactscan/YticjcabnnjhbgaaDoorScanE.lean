import Derived.Test.YticjcabnnjhbgaaDoorScanD
namespace Go.Proofs.YticjcabnnjhbgaaDoor
open Go.RowKit

def Mill.isDig (c : UInt8) : Bool := Mill.digit (c.toNat : Int)
def Mill.digLen (l : List UInt8) : Nat := (l.takeWhile Mill.isDig).length
def Mill.numOf (mx : Int) : List UInt8 → Int → Option Int
  | [], n => some n
  | c :: r, n => if (mx - ((c.toNat : Int) - 48)) / 10 < n then none else Mill.numOf mx r (n * 10 + ((c.toNat : Int) - 48))
def Mill.numType (s : ByteArray) (k : Nat) : Int := if k < s.size then Mill.typeOf (s.extract k s.size) else 10
def Mill.intBad (s : ByteArray) (k : Nat) (t : Int) : Bool := !(decide (3 ≤ t) && decide (t ≤ 10)) || decide (20 < k) || (decide (1 < k) && (s.data.toList.head? == some 48))
def Mill.intRead (s : ByteArray) : Option (Int × Int) :=
  if Mill.intBad s (Mill.digLen s.data.toList) (Mill.numType s (Mill.digLen s.data.toList)) = true then none
  else (Mill.numOf (Mill.maxOf (Mill.numType s (Mill.digLen s.data.toList))) (s.data.toList.take (Mill.digLen s.data.toList)) 0).map (fun n => (Mill.numType s (Mill.digLen s.data.toList), n))
def Mill.intVal (o : Option (Int × Int)) : Value := match o with
  | none => .tuple #[.int .i64 0, .int .i64 0, .bool false]
  | some (t, n) => .tuple #[.int .i64 t, .int .i64 (wrap64 n), .bool true]

theorem Mill.digLen_le (s : ByteArray) : Mill.digLen s.data.toList ≤ s.size := by have := Mill.tw_le Mill.isDig s.data.toList; simpa [Mill.digLen] using this
theorem Mill.dig_step (s : ByteArray) (k : Nat) (h : k < s.size) (hk : k ≤ Mill.digLen s.data.toList) (hd : Mill.digit (s[k].toNat : Int) = true) : k + 1 ≤ Mill.digLen s.data.toList :=
  Mill.tw_step Mill.isDig s.data.toList k (by simpa using h) hk hd
theorem Mill.dig_stop (s : ByteArray) (k : Nat) (hk : k ≤ Mill.digLen s.data.toList) (hd : ∀ h : k < s.size, Mill.digit (s[k].toNat : Int) = false) : k = Mill.digLen s.data.toList :=
  Mill.tw_stop Mill.isDig s.data.toList k hk (fun h => hd (by simpa using h))
theorem Mill.dig_at (s : ByteArray) (k : Nat) (h : k < s.size) (hk : k < Mill.digLen s.data.toList) : Mill.digit (s[k].toNat : Int) = true := by
  by_cases hd : Mill.digit (s[k].toNat : Int) = true
  · exact hd
  · have := Mill.dig_stop s k (by omega) (fun _ => by simpa using hd)
    omega

theorem Mill.num_drop (s : ByteArray) (k j : Nat) (hk : k ≤ s.size) (hj : j < k) : (s.data.toList.take k).drop j = s[j] :: (s.data.toList.take k).drop (j + 1) := by
  rw [List.drop_eq_getElem_cons (by simp; omega)]
  simp [List.getElem_take]
  rfl
theorem Mill.num_bad (mx m : Int) (c : UInt8) (r : List UInt8) (h : (mx - ((c.toNat : Int) - 48)) / 10 < m) : Mill.numOf mx (c :: r) m = none := by rw [Mill.numOf, if_pos h]
theorem Mill.num_ok (mx m : Int) (c : UInt8) (r : List UInt8) (h : ¬ (mx - ((c.toNat : Int) - 48)) / 10 < m) : Mill.numOf mx (c :: r) m = Mill.numOf mx r (m * 10 + ((c.toNat : Int) - 48)) := by rw [Mill.numOf, if_neg h]
theorem Mill.ret_none {v : Value} (o : Option (Int × Int)) (h : o = none) (hv : v = .tuple #[.int .i64 0, .int .i64 0, .bool false]) : Ending.returned v = .returned (Mill.intVal o) := by rw [h, hv]; rfl
theorem Mill.digit_bd {b : Int} (h : Mill.digit b = true) : 48 ≤ b ∧ b ≤ 57 := by simpa [Mill.digit] using h
theorem Mill.head_eq (s : ByteArray) (h : 0 < s.size) : s.data.toList.head? = some s[0] := by
  rw [List.head?_eq_getElem?, List.getElem?_eq_getElem (by simpa using h)]; rfl

set_option maxHeartbeats 1000000 in
theorem l1Int_any (s : ByteArray) (w : World) (hs : s.size ≤ maxLen) :
    Calls Tryd.prog 18 #[.string s] w fun e w' => e = .returned (Mill.intVal (Mill.intRead s)) ∧ w = w' := by
  unfold maxLen at hs
  go_enter Tryd.func18, Tryd.ntmps18
  go_wp2
  go_loop [5] (fun t => ∃ k : Nat, k ≤ Mill.digLen s.data.toList ∧ k ≤ s.size ∧ t = .int .i64 (k : Int)) (fun t => s.size - (intOf t).toNat)
  case atStart => exact ⟨0, by omega, by omega, rfl⟩
  case round =>
    obtain ⟨k, hk, hks, rfl⟩ := hrel
    by_cases hgo : ∃ h : k < s.size, Mill.digit (s[k].toNat : Int) = true
    · obtain ⟨hlt, hd⟩ := hgo
      have hk1 := Mill.dig_step s k hlt hk hd
      go_wp2_with (go_at_call 15; refine (l1Digit_any _ _).mono ?_; rintro e w' ⟨rfl, rfl⟩; rw [hd])
      go_round
      case rel => exact ⟨k + 1, hk1, by omega, by go_num⟩
      case measure => simp [intOf]; omega
    · have hdig : k = Mill.digLen s.data.toList := Mill.dig_stop s k hk (fun h => by
        cases hc : Mill.digit (s[k].toNat : Int) with
        | true => exact absurd ⟨h, hc⟩ hgo
        | false => rfl)
      have HR : Hid (Mill.intRead s = if Mill.intBad s k (Mill.numType s k) = true then none
        else (Mill.numOf (Mill.maxOf (Mill.numType s k)) (s.data.toList.take k) 0).map (fun n => (Mill.numType s k, n))) := by rw [Hid, Mill.intRead, ← hdig]
      have HD : Hid (∀ j, j < k → ∀ h : j < s.size, Mill.digit (s[j].toNat : Int) = true) := fun j hj h => Mill.dig_at s j h (by omega)
      have hnd : ∀ h : k < s.size, Mill.digit (s[k].toNat : Int) = false := fun h => by
        cases hc : Mill.digit (s[k].toNat : Int) with
        | true => exact absurd ⟨h, hc⟩ hgo
        | false => rfl
      clear hdig hgo
      by_cases hlt : k < s.size
      · have hd := hnd hlt
        obtain ⟨t, HT⟩ : ∃ t, Hid (Mill.typeOf (s.extract k s.size) = t) := ⟨_, rfl⟩
        have HN : Hid (Mill.numType s k = t) := by simp only [Hid, Mill.numType, if_pos hlt]; exact HT
        clear hnd
        cases hi : (decide (3 ≤ t) && decide (t ≤ 10)) with
        | false =>
          have HB : Hid (Mill.intRead s = none) := by rw [Hid, HR.out, HN.out, if_pos (by simp [Mill.intBad, hi])]
          clear HR HN HD
          go_wp2_with (first | (go_at_call 15; refine (l1Digit_any _ _).mono ?_; rintro e w' ⟨rfl, rfl⟩; rw [hd]) | (go_at_call 30; refine (l1Type_any _ _).mono ?_; rintro e w' ⟨rfl, rfl⟩; rw [HT.out]) | (go_at_call 33; refine (l1Integer_any _ _).mono ?_; rintro e w' ⟨rfl, rfl⟩; try rw [hi]))
          go_ret3
          exact ⟨Mill.ret_none _ HB.out rfl, rfl⟩
        | true =>
          by_cases h20 : 20 < k
          · have HB : Hid (Mill.intRead s = none) := by rw [Hid, HR.out, HN.out, if_pos (by simp [Mill.intBad, h20])]
            clear HR HN HD
            go_wp2_with (first | (go_at_call 15; refine (l1Digit_any _ _).mono ?_; rintro e w' ⟨rfl, rfl⟩; rw [hd]) | (go_at_call 30; refine (l1Type_any _ _).mono ?_; rintro e w' ⟨rfl, rfl⟩; rw [HT.out]) | (go_at_call 33; refine (l1Integer_any _ _).mono ?_; rintro e w' ⟨rfl, rfl⟩; try rw [hi]))
            go_ret3
            exact ⟨Mill.ret_none _ HB.out rfl, rfl⟩
          by_cases h1 : 1 < k
          · have h0 : 0 < s.size := by omega
            have hh := Mill.head_eq s h0
            cases h48 : ((s[0].toNat : Int) == 48) with
            | true =>
              have h48' : s[0] = 48 := by simp at h48; exact UInt8.toNat_inj.1 (by simpa using (show s[0].toNat = 48 by omega))
              have HB : Hid (Mill.intRead s = none) := by rw [Hid, HR.out, HN.out, if_pos (by simp [Mill.intBad, h1, hh, h48'])]
              clear HR HN HD
              go_wp2_with (first | (go_at_call 15; refine (l1Digit_any _ _).mono ?_; rintro e w' ⟨rfl, rfl⟩; rw [hd]) | (go_at_call 30; refine (l1Type_any _ _).mono ?_; rintro e w' ⟨rfl, rfl⟩; rw [HT.out]) | (go_at_call 33; refine (l1Integer_any _ _).mono ?_; rintro e w' ⟨rfl, rfl⟩; try rw [hi]))
              go_ret3
              exact ⟨Mill.ret_none _ HB.out rfl, rfl⟩
            | false =>
              have h48' : ¬ s[0] = 48 := by intro h; rw [h] at h48; simp at h48
              have HG : Hid (Mill.intRead s = (Mill.numOf (Mill.maxOf t) (s.data.toList.take k) 0).map (fun n => (t, n))) := by rw [Hid, HR.out, HN.out, if_neg (by simp [Mill.intBad, hh, h48']; simp at hi; omega)]
              have hx := Mill.maxOf_bd t
              obtain ⟨hx1, hx2⟩ := hx
              clear HR HN
              go_wp2_with (first | (go_at_call 15; refine (l1Digit_any _ _).mono ?_; rintro e w' ⟨rfl, rfl⟩; rw [hd]) | (go_at_call 30; refine (l1Type_any _ _).mono ?_; rintro e w' ⟨rfl, rfl⟩; rw [HT.out]) | (go_at_call 33; refine (l1Integer_any _ _).mono ?_; rintro e w' ⟨rfl, rfl⟩; try rw [hi]))
              go_loop [7, 8, 9] (fun m i _ => ∃ (j : Nat) (x : Int), j ≤ k ∧ i = .int .i64 (j : Int) ∧ m = .int .u64 x ∧ 0 ≤ x ∧ x ≤ Mill.maxOf t ∧ Mill.numOf (Mill.maxOf t) ((s.data.toList.take k).drop j) x = Mill.numOf (Mill.maxOf t) (s.data.toList.take k) 0) (fun _ i _ => k - (intOf i).toNat)
              case atStart => exact ⟨0, 0, by omega, rfl, rfl, by omega, by omega, rfl⟩
              case round =>
                obtain ⟨j, x, hj, rfl, rfl, hx3, hx4, hn⟩ := hrel
                by_cases hjk : j < k
                · have hjs : j < s.size := by omega
                  have hdj := Mill.digit_bd (HD.out j hjk hjs)
                  obtain ⟨hc1, hc2⟩ := hdj
                  rw [Mill.num_drop s k j hks hjk] at hn
                  by_cases hov : (Mill.maxOf t - ((s[j].toNat : Int) - 48)) / 10 < x
                  · have HB : Hid (Mill.intRead s = none) := by rw [Mill.num_bad _ _ _ _ hov] at hn; rw [Hid, HG.out, ← hn]; rfl
                    clear hn HG HD
                    go_wp2_with (go_at_call 34; refine (l1Max_any _ _).mono ?_; rintro e w' ⟨rfl, rfl⟩)
                    go_ret3
                    exact ⟨Mill.ret_none _ HB.out rfl, rfl⟩
                  · have HN2 : Hid (Mill.numOf (Mill.maxOf t) ((s.data.toList.take k).drop (j + 1)) (x * 10 + ((s[j].toNat : Int) - 48)) = Mill.numOf (Mill.maxOf t) (s.data.toList.take k) 0) := by rw [Mill.num_ok _ _ _ _ hov] at hn; exact hn
                    clear hn
                    go_wp2_with (go_at_call 34; refine (l1Max_any _ _).mono ?_; rintro e w' ⟨rfl, rfl⟩)
                    go_round
                    case rel => exact ⟨j + 1, _, by omega, by go_num, rfl, by omega, by omega, HN2.out⟩
                    case measure => simp [intOf]; omega
                · have h0 : j = k := by omega
                  have HB : Hid (Mill.intRead s = some (t, x)) := by
                    rw [h0, List.drop_of_length_le (by simp; omega)] at hn
                    rw [Hid, HG.out, ← hn]; rfl
                  clear hn HG HD
                  go_wp2
                  go_ret3
                  exact ⟨by rw [HB.out]; rfl, rfl⟩
          · have HG : Hid (Mill.intRead s = (Mill.numOf (Mill.maxOf t) (s.data.toList.take k) 0).map (fun n => (t, n))) := by rw [Hid, HR.out, HN.out, if_neg (by simp [Mill.intBad, h1]; simp at hi; omega)]
            have hx := Mill.maxOf_bd t
            obtain ⟨hx1, hx2⟩ := hx
            clear HR HN
            go_wp2_with (first | (go_at_call 15; refine (l1Digit_any _ _).mono ?_; rintro e w' ⟨rfl, rfl⟩; rw [hd]) | (go_at_call 30; refine (l1Type_any _ _).mono ?_; rintro e w' ⟨rfl, rfl⟩; rw [HT.out]) | (go_at_call 33; refine (l1Integer_any _ _).mono ?_; rintro e w' ⟨rfl, rfl⟩; try rw [hi]))
            go_loop [7, 8, 9] (fun m i _ => ∃ (j : Nat) (x : Int), j ≤ k ∧ i = .int .i64 (j : Int) ∧ m = .int .u64 x ∧ 0 ≤ x ∧ x ≤ Mill.maxOf t ∧ Mill.numOf (Mill.maxOf t) ((s.data.toList.take k).drop j) x = Mill.numOf (Mill.maxOf t) (s.data.toList.take k) 0) (fun _ i _ => k - (intOf i).toNat)
            case atStart => exact ⟨0, 0, by omega, rfl, rfl, by omega, by omega, rfl⟩
            case round =>
              obtain ⟨j, x, hj, rfl, rfl, hx3, hx4, hn⟩ := hrel
              by_cases hjk : j < k
              · have hjs : j < s.size := by omega
                have hdj := Mill.digit_bd (HD.out j hjk hjs)
                obtain ⟨hc1, hc2⟩ := hdj
                rw [Mill.num_drop s k j hks hjk] at hn
                by_cases hov : (Mill.maxOf t - ((s[j].toNat : Int) - 48)) / 10 < x
                · have HB : Hid (Mill.intRead s = none) := by rw [Mill.num_bad _ _ _ _ hov] at hn; rw [Hid, HG.out, ← hn]; rfl
                  clear hn HG HD
                  go_wp2_with (go_at_call 34; refine (l1Max_any _ _).mono ?_; rintro e w' ⟨rfl, rfl⟩)
                  go_ret3
                  exact ⟨Mill.ret_none _ HB.out rfl, rfl⟩
                · have HN2 : Hid (Mill.numOf (Mill.maxOf t) ((s.data.toList.take k).drop (j + 1)) (x * 10 + ((s[j].toNat : Int) - 48)) = Mill.numOf (Mill.maxOf t) (s.data.toList.take k) 0) := by rw [Mill.num_ok _ _ _ _ hov] at hn; exact hn
                  clear hn
                  go_wp2_with (go_at_call 34; refine (l1Max_any _ _).mono ?_; rintro e w' ⟨rfl, rfl⟩)
                  go_round
                  case rel => exact ⟨j + 1, _, by omega, by go_num, rfl, by omega, by omega, HN2.out⟩
                  case measure => simp [intOf]; omega
              · have h0 : j = k := by omega
                have HB : Hid (Mill.intRead s = some (t, x)) := by
                  rw [h0, List.drop_of_length_le (by simp; omega)] at hn
                  rw [Hid, HG.out, ← hn]; rfl
                clear hn HG HD
                go_wp2
                go_ret3
                exact ⟨by rw [HB.out]; rfl, rfl⟩
      · have HN : Hid (Mill.numType s k = 10) := by simp only [Hid, Mill.numType, if_neg hlt]
        clear hnd
        have hi : (decide ((3 : Int) ≤ 10) && decide ((10 : Int) ≤ 10)) = true := by decide
        by_cases h20 : 20 < k
        · have HB : Hid (Mill.intRead s = none) := by rw [Hid, HR.out, HN.out, if_pos (by simp [Mill.intBad, h20])]
          clear HR HN HD
          go_wp2_with (first | (go_at_call 15; refine (l1Digit_any _ _).mono ?_; rintro e w' ⟨rfl, rfl⟩; rw [hd]) | (go_at_call 30; refine (l1Type_any _ _).mono ?_; rintro e w' ⟨rfl, rfl⟩; rw [HT.out]) | (go_at_call 33; refine (l1Integer_any _ _).mono ?_; rintro e w' ⟨rfl, rfl⟩; try rw [hi]))
          go_ret3
          exact ⟨Mill.ret_none _ HB.out rfl, rfl⟩
        by_cases h1 : 1 < k
        · have h0 : 0 < s.size := by omega
          have hh := Mill.head_eq s h0
          cases h48 : ((s[0].toNat : Int) == 48) with
          | true =>
            have h48' : s[0] = 48 := by simp at h48; exact UInt8.toNat_inj.1 (by simpa using (show s[0].toNat = 48 by omega))
            have HB : Hid (Mill.intRead s = none) := by rw [Hid, HR.out, HN.out, if_pos (by simp [Mill.intBad, h1, hh, h48'])]
            clear HR HN HD
            go_wp2_with (first | (go_at_call 15; refine (l1Digit_any _ _).mono ?_; rintro e w' ⟨rfl, rfl⟩; rw [hd]) | (go_at_call 30; refine (l1Type_any _ _).mono ?_; rintro e w' ⟨rfl, rfl⟩; rw [HT.out]) | (go_at_call 33; refine (l1Integer_any _ _).mono ?_; rintro e w' ⟨rfl, rfl⟩; try rw [hi]))
            go_ret3
            exact ⟨Mill.ret_none _ HB.out rfl, rfl⟩
          | false =>
            have h48' : ¬ s[0] = 48 := by intro h; rw [h] at h48; simp at h48
            have HG : Hid (Mill.intRead s = (Mill.numOf (Mill.maxOf 10) (s.data.toList.take k) 0).map (fun n => (10, n))) := by rw [Hid, HR.out, HN.out, if_neg (by simp [Mill.intBad, hh, h48']; simp at hi; omega)]
            have hx := Mill.maxOf_bd 10
            obtain ⟨hx1, hx2⟩ := hx
            clear HR HN
            go_wp2_with (first | (go_at_call 15; refine (l1Digit_any _ _).mono ?_; rintro e w' ⟨rfl, rfl⟩; rw [hd]) | (go_at_call 30; refine (l1Type_any _ _).mono ?_; rintro e w' ⟨rfl, rfl⟩; rw [HT.out]) | (go_at_call 33; refine (l1Integer_any _ _).mono ?_; rintro e w' ⟨rfl, rfl⟩; try rw [hi]))
            go_loop [7, 8, 9] (fun m i _ => ∃ (j : Nat) (x : Int), j ≤ k ∧ i = .int .i64 (j : Int) ∧ m = .int .u64 x ∧ 0 ≤ x ∧ x ≤ Mill.maxOf 10 ∧ Mill.numOf (Mill.maxOf 10) ((s.data.toList.take k).drop j) x = Mill.numOf (Mill.maxOf 10) (s.data.toList.take k) 0) (fun _ i _ => k - (intOf i).toNat)
            case atStart => exact ⟨0, 0, by omega, rfl, rfl, by omega, by omega, rfl⟩
            case round =>
              obtain ⟨j, x, hj, rfl, rfl, hx3, hx4, hn⟩ := hrel
              by_cases hjk : j < k
              · have hjs : j < s.size := by omega
                have hdj := Mill.digit_bd (HD.out j hjk hjs)
                obtain ⟨hc1, hc2⟩ := hdj
                rw [Mill.num_drop s k j hks hjk] at hn
                by_cases hov : (Mill.maxOf 10 - ((s[j].toNat : Int) - 48)) / 10 < x
                · have HB : Hid (Mill.intRead s = none) := by rw [Mill.num_bad _ _ _ _ hov] at hn; rw [Hid, HG.out, ← hn]; rfl
                  clear hn HG HD
                  go_wp2_with (go_at_call 34; refine (l1Max_any _ _).mono ?_; rintro e w' ⟨rfl, rfl⟩)
                  go_ret3
                  exact ⟨Mill.ret_none _ HB.out rfl, rfl⟩
                · have HN2 : Hid (Mill.numOf (Mill.maxOf 10) ((s.data.toList.take k).drop (j + 1)) (x * 10 + ((s[j].toNat : Int) - 48)) = Mill.numOf (Mill.maxOf 10) (s.data.toList.take k) 0) := by rw [Mill.num_ok _ _ _ _ hov] at hn; exact hn
                  clear hn
                  go_wp2_with (go_at_call 34; refine (l1Max_any _ _).mono ?_; rintro e w' ⟨rfl, rfl⟩)
                  go_round
                  case rel => exact ⟨j + 1, _, by omega, by go_num, rfl, by omega, by omega, HN2.out⟩
                  case measure => simp [intOf]; omega
              · have h0 : j = k := by omega
                have HB : Hid (Mill.intRead s = some (10, x)) := by
                  rw [h0, List.drop_of_length_le (by simp; omega)] at hn
                  rw [Hid, HG.out, ← hn]; rfl
                clear hn HG HD
                go_wp2
                go_ret3
                exact ⟨by rw [HB.out]; rfl, rfl⟩
        · have HG : Hid (Mill.intRead s = (Mill.numOf (Mill.maxOf 10) (s.data.toList.take k) 0).map (fun n => (10, n))) := by rw [Hid, HR.out, HN.out, if_neg (by simp [Mill.intBad, h1]; simp at hi; omega)]
          have hx := Mill.maxOf_bd 10
          obtain ⟨hx1, hx2⟩ := hx
          clear HR HN
          go_wp2_with (first | (go_at_call 15; refine (l1Digit_any _ _).mono ?_; rintro e w' ⟨rfl, rfl⟩; rw [hd]) | (go_at_call 30; refine (l1Type_any _ _).mono ?_; rintro e w' ⟨rfl, rfl⟩; rw [HT.out]) | (go_at_call 33; refine (l1Integer_any _ _).mono ?_; rintro e w' ⟨rfl, rfl⟩; try rw [hi]))
          go_loop [7, 8, 9] (fun m i _ => ∃ (j : Nat) (x : Int), j ≤ k ∧ i = .int .i64 (j : Int) ∧ m = .int .u64 x ∧ 0 ≤ x ∧ x ≤ Mill.maxOf 10 ∧ Mill.numOf (Mill.maxOf 10) ((s.data.toList.take k).drop j) x = Mill.numOf (Mill.maxOf 10) (s.data.toList.take k) 0) (fun _ i _ => k - (intOf i).toNat)
          case atStart => exact ⟨0, 0, by omega, rfl, rfl, by omega, by omega, rfl⟩
          case round =>
            obtain ⟨j, x, hj, rfl, rfl, hx3, hx4, hn⟩ := hrel
            by_cases hjk : j < k
            · have hjs : j < s.size := by omega
              have hdj := Mill.digit_bd (HD.out j hjk hjs)
              obtain ⟨hc1, hc2⟩ := hdj
              rw [Mill.num_drop s k j hks hjk] at hn
              by_cases hov : (Mill.maxOf 10 - ((s[j].toNat : Int) - 48)) / 10 < x
              · have HB : Hid (Mill.intRead s = none) := by rw [Mill.num_bad _ _ _ _ hov] at hn; rw [Hid, HG.out, ← hn]; rfl
                clear hn HG HD
                go_wp2_with (go_at_call 34; refine (l1Max_any _ _).mono ?_; rintro e w' ⟨rfl, rfl⟩)
                go_ret3
                exact ⟨Mill.ret_none _ HB.out rfl, rfl⟩
              · have HN2 : Hid (Mill.numOf (Mill.maxOf 10) ((s.data.toList.take k).drop (j + 1)) (x * 10 + ((s[j].toNat : Int) - 48)) = Mill.numOf (Mill.maxOf 10) (s.data.toList.take k) 0) := by rw [Mill.num_ok _ _ _ _ hov] at hn; exact hn
                clear hn
                go_wp2_with (go_at_call 34; refine (l1Max_any _ _).mono ?_; rintro e w' ⟨rfl, rfl⟩)
                go_round
                case rel => exact ⟨j + 1, _, by omega, by go_num, rfl, by omega, by omega, HN2.out⟩
                case measure => simp [intOf]; omega
            · have h0 : j = k := by omega
              have HB : Hid (Mill.intRead s = some (10, x)) := by
                rw [h0, List.drop_of_length_le (by simp; omega)] at hn
                rw [Hid, HG.out, ← hn]; rfl
              clear hn HG HD
              go_wp2
              go_ret3
              exact ⟨by rw [HB.out]; rfl, rfl⟩

end Go.Proofs.YticjcabnnjhbgaaDoor
