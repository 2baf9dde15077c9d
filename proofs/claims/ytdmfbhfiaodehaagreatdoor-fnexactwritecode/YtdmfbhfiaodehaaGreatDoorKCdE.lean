import Derived.Test.YtdmfbhfiaodehaaGreatDoorKCdA
namespace Go.Proofs.YtdmfbhfiaodehaaGreatDoor
open Go.RowKit

theorem Cd.insOk_bad (c : List Cd.Fn) (f : Cd.Fn) (i : Cd.Ins) (h1 : i.op ≠ 1) (h : i.n ≠ 0 ∨ i.text.toList.isEmpty = false) : Cd.insOk c f i = false := by
  unfold Cd.insOk
  by_cases hc : Cd.inR i.op 1 16 = false ∨ (Cd.hasA i.op = false ∧ i.a ≠ 0)
  · rw [if_pos hc]
  · rw [if_neg hc, if_neg h1, if_pos h]
theorem Cd.insOk_a (c : List Cd.Fn) (f : Cd.Fn) (i : Cd.Ins) (h1 : Cd.hasA i.op = false) (h : i.a ≠ 0) : Cd.insOk c f i = false := by
  unfold Cd.insOk
  rw [if_pos (.inr ⟨h1, h⟩)]
theorem Cd.insOk_eq2 (c : List Cd.Fn) (f : Cd.Fn) (a : Int) (text : ByteArray) (hx : text.toList.isEmpty = true) : Cd.insOk c f ⟨2, a, 0, text⟩ = Cd.inR a 0 (f.slots - 1) := by
  have HIN : Cd.inR 2 1 16 = true := rfl
  have HA : Cd.hasA 2 = true := rfl
  simp only [Cd.insOk]
  rw [if_neg (by simp [HIN, HA])]
  rw [if_neg (by decide), if_neg (by simp [hx]), if_pos (by decide)]
theorem Cd.insOk_eq3 (c : List Cd.Fn) (f : Cd.Fn) (a : Int) (text : ByteArray) (hx : text.toList.isEmpty = true) : Cd.insOk c f ⟨3, a, 0, text⟩ = Cd.inR a 0 (f.slots - 1) := by
  have HIN : Cd.inR 3 1 16 = true := rfl
  have HA : Cd.hasA 3 = true := rfl
  simp only [Cd.insOk]
  rw [if_neg (by simp [HIN, HA])]
  rw [if_neg (by decide), if_neg (by simp [hx]), if_pos (by decide)]
theorem Cd.insOk_eq4 (c : List Cd.Fn) (f : Cd.Fn) (a : Int) (text : ByteArray) (hx : text.toList.isEmpty = true) (ha : a = 0) : Cd.insOk c f ⟨4, a, 0, text⟩ = true := by
  have HIN : Cd.inR 4 1 16 = true := rfl
  have HA : Cd.hasA 4 = false := rfl
  simp only [Cd.insOk]
  rw [if_neg (by simp [HIN, HA, ha])]
  rw [if_neg (by decide), if_neg (by simp [hx]), if_neg (by decide), if_neg (by decide), if_neg (by decide), if_neg (by decide), if_neg (by decide), if_neg (by decide), if_neg (by decide), if_neg (by decide)]
theorem Cd.insOk_eq5 (c : List Cd.Fn) (f : Cd.Fn) (a : Int) (text : ByteArray) (hx : text.toList.isEmpty = true) : Cd.insOk c f ⟨5, a, 0, text⟩ = Cd.inR a 1 3 := by
  have HIN : Cd.inR 5 1 16 = true := rfl
  have HA : Cd.hasA 5 = true := rfl
  simp only [Cd.insOk]
  rw [if_neg (by simp [HIN, HA])]
  rw [if_neg (by decide), if_neg (by simp [hx]), if_neg (by decide), if_pos (by decide)]
theorem Cd.insOk_eq6 (c : List Cd.Fn) (f : Cd.Fn) (a : Int) (text : ByteArray) (hx : text.toList.isEmpty = true) : Cd.insOk c f ⟨6, a, 0, text⟩ = Cd.inR a 3 18 := by
  have HIN : Cd.inR 6 1 16 = true := rfl
  have HA : Cd.hasA 6 = true := rfl
  simp only [Cd.insOk]
  rw [if_neg (by simp [HIN, HA])]
  rw [if_neg (by decide), if_neg (by simp [hx]), if_neg (by decide), if_neg (by decide), if_pos (by decide)]
theorem Cd.insOk_eq7 (c : List Cd.Fn) (f : Cd.Fn) (a : Int) (text : ByteArray) (hx : text.toList.isEmpty = true) : Cd.insOk c f ⟨7, a, 0, text⟩ = Cd.isInt a := by
  have HIN : Cd.inR 7 1 16 = true := rfl
  have HA : Cd.hasA 7 = true := rfl
  simp only [Cd.insOk]
  rw [if_neg (by simp [HIN, HA])]
  rw [if_neg (by decide), if_neg (by simp [hx]), if_neg (by decide), if_neg (by decide), if_neg (by decide), if_pos (by decide)]
theorem Cd.insOk_eq8 (c : List Cd.Fn) (f : Cd.Fn) (a : Int) (text : ByteArray) (hx : text.toList.isEmpty = true) : Cd.insOk c f ⟨8, a, 0, text⟩ = Cd.inR a 1 12 := by
  have HIN : Cd.inR 8 1 16 = true := rfl
  have HA : Cd.hasA 8 = true := rfl
  simp only [Cd.insOk]
  rw [if_neg (by simp [HIN, HA])]
  rw [if_neg (by decide), if_neg (by simp [hx]), if_neg (by decide), if_neg (by decide), if_neg (by decide), if_neg (by decide), if_pos (by decide)]
theorem Cd.insOk_eq9 (c : List Cd.Fn) (f : Cd.Fn) (a : Int) (text : ByteArray) (hx : text.toList.isEmpty = true) : Cd.insOk c f ⟨9, a, 0, text⟩ = Cd.inR a 0 ((c.length : Int) - 1) := by
  have HIN : Cd.inR 9 1 16 = true := rfl
  have HA : Cd.hasA 9 = true := rfl
  simp only [Cd.insOk]
  rw [if_neg (by simp [HIN, HA])]
  rw [if_neg (by decide), if_neg (by simp [hx]), if_neg (by decide), if_neg (by decide), if_neg (by decide), if_neg (by decide), if_neg (by decide), if_pos (by decide)]
theorem Cd.insOk_eq10 (c : List Cd.Fn) (f : Cd.Fn) (a : Int) (text : ByteArray) (hx : text.toList.isEmpty = true) : Cd.insOk c f ⟨10, a, 0, text⟩ = Cd.inR a 0 (f.ins.length : Int) := by
  have HIN : Cd.inR 10 1 16 = true := rfl
  have HA : Cd.hasA 10 = true := rfl
  simp only [Cd.insOk]
  rw [if_neg (by simp [HIN, HA])]
  rw [if_neg (by decide), if_neg (by simp [hx]), if_neg (by decide), if_neg (by decide), if_neg (by decide), if_neg (by decide), if_neg (by decide), if_neg (by decide), if_pos (by decide)]
theorem Cd.insOk_eq11 (c : List Cd.Fn) (f : Cd.Fn) (a : Int) (text : ByteArray) (hx : text.toList.isEmpty = true) : Cd.insOk c f ⟨11, a, 0, text⟩ = Cd.inR a 0 (f.ins.length : Int) := by
  have HIN : Cd.inR 11 1 16 = true := rfl
  have HA : Cd.hasA 11 = true := rfl
  simp only [Cd.insOk]
  rw [if_neg (by simp [HIN, HA])]
  rw [if_neg (by decide), if_neg (by simp [hx]), if_neg (by decide), if_neg (by decide), if_neg (by decide), if_neg (by decide), if_neg (by decide), if_neg (by decide), if_pos (by decide)]
theorem Cd.insOk_eq12 (c : List Cd.Fn) (f : Cd.Fn) (a : Int) (text : ByteArray) (hx : text.toList.isEmpty = true) : Cd.insOk c f ⟨12, a, 0, text⟩ = ((decide (a = 1) && decide (f.result ≠ 0)) || (decide (a = 0) && decide (f.result = 0))) := by
  have HIN : Cd.inR 12 1 16 = true := rfl
  have HA : Cd.hasA 12 = true := rfl
  simp only [Cd.insOk]
  rw [if_neg (by simp [HIN, HA])]
  rw [if_neg (by decide), if_neg (by simp [hx]), if_neg (by decide), if_neg (by decide), if_neg (by decide), if_neg (by decide), if_neg (by decide), if_neg (by decide), if_neg (by decide), if_pos (by decide)]
theorem Cd.insOk_eq13 (c : List Cd.Fn) (f : Cd.Fn) (a : Int) (text : ByteArray) (hx : text.toList.isEmpty = true) (ha : a = 0) : Cd.insOk c f ⟨13, a, 0, text⟩ = true := by
  have HIN : Cd.inR 13 1 16 = true := rfl
  have HA : Cd.hasA 13 = false := rfl
  simp only [Cd.insOk]
  rw [if_neg (by simp [HIN, HA, ha])]
  rw [if_neg (by decide), if_neg (by simp [hx]), if_neg (by decide), if_neg (by decide), if_neg (by decide), if_neg (by decide), if_neg (by decide), if_neg (by decide), if_neg (by decide), if_neg (by decide)]
theorem Cd.insOk_eq14 (c : List Cd.Fn) (f : Cd.Fn) (a : Int) (text : ByteArray) (hx : text.toList.isEmpty = true) (ha : a = 0) : Cd.insOk c f ⟨14, a, 0, text⟩ = true := by
  have HIN : Cd.inR 14 1 16 = true := rfl
  have HA : Cd.hasA 14 = false := rfl
  simp only [Cd.insOk]
  rw [if_neg (by simp [HIN, HA, ha])]
  rw [if_neg (by decide), if_neg (by simp [hx]), if_neg (by decide), if_neg (by decide), if_neg (by decide), if_neg (by decide), if_neg (by decide), if_neg (by decide), if_neg (by decide), if_neg (by decide)]
theorem Cd.insOk_eq15 (c : List Cd.Fn) (f : Cd.Fn) (a : Int) (text : ByteArray) (hx : text.toList.isEmpty = true) (ha : a = 0) : Cd.insOk c f ⟨15, a, 0, text⟩ = true := by
  have HIN : Cd.inR 15 1 16 = true := rfl
  have HA : Cd.hasA 15 = false := rfl
  simp only [Cd.insOk]
  rw [if_neg (by simp [HIN, HA, ha])]
  rw [if_neg (by decide), if_neg (by simp [hx]), if_neg (by decide), if_neg (by decide), if_neg (by decide), if_neg (by decide), if_neg (by decide), if_neg (by decide), if_neg (by decide), if_neg (by decide)]
theorem Cd.insOk_eq16 (c : List Cd.Fn) (f : Cd.Fn) (a : Int) (text : ByteArray) (hx : text.toList.isEmpty = true) (ha : a = 0) : Cd.insOk c f ⟨16, a, 0, text⟩ = true := by
  have HIN : Cd.inR 16 1 16 = true := rfl
  have HA : Cd.hasA 16 = false := rfl
  simp only [Cd.insOk]
  rw [if_neg (by simp [HIN, HA, ha])]
  rw [if_neg (by decide), if_neg (by simp [hx]), if_neg (by decide), if_neg (by decide), if_neg (by decide), if_neg (by decide), if_neg (by decide), if_neg (by decide), if_neg (by decide), if_neg (by decide)]
set_option maxRecDepth 100000 in
set_option maxHeartbeats 1000000 in
theorem Cd.insOk_2 (c : List Cd.Fn) (f : Cd.Fn) (a n : Int) (text : ByteArray) (ca ia : Option Addr) (ccap icap : Nat) (pv : Value) (hs0 : 0 ≤ f.slots) (hs1 : f.slots ≤ 200) (hcl : 1 ≤ c.length) (hcl2 : c.length ≤ 60) (_hil : f.ins.length ≤ 50000) (w : World) :
    Calls Tryz.prog 54 #[.agg #[.slice ca c.length ccap], Cd.fnV f pv (.slice ia f.ins.length icap), Cd.insV ⟨2, a, n, text⟩] w fun e w' => e = .returned (.bool (Cd.insOk c f ⟨2, a, n, text⟩)) ∧ Below w.heap.size w w' := by
  have HIN : Cd.inR 2 1 16 = true := rfl
  have HA : Cd.hasA 2 = true := rfl
  have hws : wrap64 (f.slots - 1) = f.slots - 1 := IntWalk.wrap64_in _ (by omega)
  have hwc : wrap64 ((c.length : Int) - 1) = (c.length : Int) - 1 := IntWalk.wrap64_in _ (by omega)
  obtain ⟨r, HR⟩ : ∃ r, Hid (Cd.insOk c f ⟨2, a, n, text⟩ = r) := ⟨_, (rfl : Cd.insOk c f ⟨2, a, n, text⟩ = _)⟩
  rw [HR.out]
  unfold Cd.fnV Cd.insV
  by_cases hn : n = 0
  · subst hn
    cases hx : text.toList.isEmpty with
    | true =>
      have HF : Hid (Cd.inR a 0 (f.slots - 1) = r) := (Cd.insOk_eq2 c f a text hx).symm.trans HR.out
      clear HR
      go_enter Tryz.func54, Tryz.ntmps54
      go_wp2_with fail
      go_at_call 39; refine (Cd.in_any _ _ _ _).mono ?_; rintro e w' ⟨rfl, rfl⟩; rw [HIN]
      go_wp2_with fail
      go_at_call 24; refine (Cd.hasA_any _ _).mono ?_; rintro e w' ⟨rfl, rfl⟩; rw [HA]
      go_wp2_with fail
      go_at_call 39; (try rw [hws]); refine (Cd.in_any _ _ _ _).mono ?_; rintro e w' ⟨rfl, rfl⟩
      go_wp2_with fail
      go_ret
      exact ⟨Cd.ret_bool HF.out, Cd.b3 w _ _ _⟩
    | false =>
      have HF : Hid (false = r) := (Cd.insOk_bad c f ⟨2, a, 0, text⟩ (by simp) (.inr hx)).symm.trans HR.out
      clear HR
      go_enter Tryz.func54, Tryz.ntmps54
      go_wp2_with fail
      go_at_call 39; refine (Cd.in_any _ _ _ _).mono ?_; rintro e w' ⟨rfl, rfl⟩; rw [HIN]
      go_wp2_with fail
      go_at_call 24; refine (Cd.hasA_any _ _).mono ?_; rintro e w' ⟨rfl, rfl⟩; rw [HA]
      go_wp2_with fail
      go_ret
      exact ⟨Cd.ret_bool HF.out, Cd.b3 w _ _ _⟩
  · have hnb : (n != 0) = true := by simp [hn]
    have HF : Hid (false = r) := (Cd.insOk_bad c f ⟨2, a, n, text⟩ (by simp) (.inl hn)).symm.trans HR.out
    clear HR
    go_enter Tryz.func54, Tryz.ntmps54
    go_wp2_with fail
    go_at_call 39; refine (Cd.in_any _ _ _ _).mono ?_; rintro e w' ⟨rfl, rfl⟩; rw [HIN]
    go_wp2_with fail
    go_at_call 24; refine (Cd.hasA_any _ _).mono ?_; rintro e w' ⟨rfl, rfl⟩; rw [HA]
    go_wp2_with fail
    go_ret
    exact ⟨Cd.ret_bool HF.out, Cd.b3 w _ _ _⟩
set_option maxRecDepth 100000 in
set_option maxHeartbeats 1000000 in
theorem Cd.insOk_3 (c : List Cd.Fn) (f : Cd.Fn) (a n : Int) (text : ByteArray) (ca ia : Option Addr) (ccap icap : Nat) (pv : Value) (hs0 : 0 ≤ f.slots) (hs1 : f.slots ≤ 200) (hcl : 1 ≤ c.length) (hcl2 : c.length ≤ 60) (_hil : f.ins.length ≤ 50000) (w : World) :
    Calls Tryz.prog 54 #[.agg #[.slice ca c.length ccap], Cd.fnV f pv (.slice ia f.ins.length icap), Cd.insV ⟨3, a, n, text⟩] w fun e w' => e = .returned (.bool (Cd.insOk c f ⟨3, a, n, text⟩)) ∧ Below w.heap.size w w' := by
  have HIN : Cd.inR 3 1 16 = true := rfl
  have HA : Cd.hasA 3 = true := rfl
  have hws : wrap64 (f.slots - 1) = f.slots - 1 := IntWalk.wrap64_in _ (by omega)
  have hwc : wrap64 ((c.length : Int) - 1) = (c.length : Int) - 1 := IntWalk.wrap64_in _ (by omega)
  obtain ⟨r, HR⟩ : ∃ r, Hid (Cd.insOk c f ⟨3, a, n, text⟩ = r) := ⟨_, (rfl : Cd.insOk c f ⟨3, a, n, text⟩ = _)⟩
  rw [HR.out]
  unfold Cd.fnV Cd.insV
  by_cases hn : n = 0
  · subst hn
    cases hx : text.toList.isEmpty with
    | true =>
      have HF : Hid (Cd.inR a 0 (f.slots - 1) = r) := (Cd.insOk_eq3 c f a text hx).symm.trans HR.out
      clear HR
      go_enter Tryz.func54, Tryz.ntmps54
      go_wp2_with fail
      go_at_call 39; refine (Cd.in_any _ _ _ _).mono ?_; rintro e w' ⟨rfl, rfl⟩; rw [HIN]
      go_wp2_with fail
      go_at_call 24; refine (Cd.hasA_any _ _).mono ?_; rintro e w' ⟨rfl, rfl⟩; rw [HA]
      go_wp2_with fail
      go_at_call 39; (try rw [hws]); refine (Cd.in_any _ _ _ _).mono ?_; rintro e w' ⟨rfl, rfl⟩
      go_wp2_with fail
      go_ret
      exact ⟨Cd.ret_bool HF.out, Cd.b3 w _ _ _⟩
    | false =>
      have HF : Hid (false = r) := (Cd.insOk_bad c f ⟨3, a, 0, text⟩ (by simp) (.inr hx)).symm.trans HR.out
      clear HR
      go_enter Tryz.func54, Tryz.ntmps54
      go_wp2_with fail
      go_at_call 39; refine (Cd.in_any _ _ _ _).mono ?_; rintro e w' ⟨rfl, rfl⟩; rw [HIN]
      go_wp2_with fail
      go_at_call 24; refine (Cd.hasA_any _ _).mono ?_; rintro e w' ⟨rfl, rfl⟩; rw [HA]
      go_wp2_with fail
      go_ret
      exact ⟨Cd.ret_bool HF.out, Cd.b3 w _ _ _⟩
  · have hnb : (n != 0) = true := by simp [hn]
    have HF : Hid (false = r) := (Cd.insOk_bad c f ⟨3, a, n, text⟩ (by simp) (.inl hn)).symm.trans HR.out
    clear HR
    go_enter Tryz.func54, Tryz.ntmps54
    go_wp2_with fail
    go_at_call 39; refine (Cd.in_any _ _ _ _).mono ?_; rintro e w' ⟨rfl, rfl⟩; rw [HIN]
    go_wp2_with fail
    go_at_call 24; refine (Cd.hasA_any _ _).mono ?_; rintro e w' ⟨rfl, rfl⟩; rw [HA]
    go_wp2_with fail
    go_ret
    exact ⟨Cd.ret_bool HF.out, Cd.b3 w _ _ _⟩
set_option maxRecDepth 100000 in
set_option maxHeartbeats 1000000 in
theorem Cd.insOk_4 (c : List Cd.Fn) (f : Cd.Fn) (a n : Int) (text : ByteArray) (ca ia : Option Addr) (ccap icap : Nat) (pv : Value) (hs0 : 0 ≤ f.slots) (hs1 : f.slots ≤ 200) (hcl : 1 ≤ c.length) (hcl2 : c.length ≤ 60) (_hil : f.ins.length ≤ 50000) (w : World) :
    Calls Tryz.prog 54 #[.agg #[.slice ca c.length ccap], Cd.fnV f pv (.slice ia f.ins.length icap), Cd.insV ⟨4, a, n, text⟩] w fun e w' => e = .returned (.bool (Cd.insOk c f ⟨4, a, n, text⟩)) ∧ Below w.heap.size w w' := by
  have HIN : Cd.inR 4 1 16 = true := rfl
  have HA : Cd.hasA 4 = false := rfl
  have hws : wrap64 (f.slots - 1) = f.slots - 1 := IntWalk.wrap64_in _ (by omega)
  have hwc : wrap64 ((c.length : Int) - 1) = (c.length : Int) - 1 := IntWalk.wrap64_in _ (by omega)
  obtain ⟨r, HR⟩ : ∃ r, Hid (Cd.insOk c f ⟨4, a, n, text⟩ = r) := ⟨_, (rfl : Cd.insOk c f ⟨4, a, n, text⟩ = _)⟩
  rw [HR.out]
  unfold Cd.fnV Cd.insV
  by_cases ha : a = 0
  · have hab : (a != 0) = false := by simp [ha]
    by_cases hn : n = 0
    · subst hn
      cases hx : text.toList.isEmpty with
      | true =>
        have HF : Hid (true = r) := (Cd.insOk_eq4 c f a text hx ha).symm.trans HR.out
        clear HR
        go_enter Tryz.func54, Tryz.ntmps54
        go_wp2_with fail
        go_at_call 39; refine (Cd.in_any _ _ _ _).mono ?_; rintro e w' ⟨rfl, rfl⟩; rw [HIN]
        go_wp2_with fail
        go_at_call 24; refine (Cd.hasA_any _ _).mono ?_; rintro e w' ⟨rfl, rfl⟩; rw [HA]
        go_wp2_with fail
        go_ret
        exact ⟨Cd.ret_bool HF.out, Cd.b3 w _ _ _⟩
      | false =>
        have HF : Hid (false = r) := (Cd.insOk_bad c f ⟨4, a, 0, text⟩ (by simp) (.inr hx)).symm.trans HR.out
        clear HR
        go_enter Tryz.func54, Tryz.ntmps54
        go_wp2_with fail
        go_at_call 39; refine (Cd.in_any _ _ _ _).mono ?_; rintro e w' ⟨rfl, rfl⟩; rw [HIN]
        go_wp2_with fail
        go_at_call 24; refine (Cd.hasA_any _ _).mono ?_; rintro e w' ⟨rfl, rfl⟩; rw [HA]
        go_wp2_with fail
        go_ret
        exact ⟨Cd.ret_bool HF.out, Cd.b3 w _ _ _⟩
    · have hnb : (n != 0) = true := by simp [hn]
      have HF : Hid (false = r) := (Cd.insOk_bad c f ⟨4, a, n, text⟩ (by simp) (.inl hn)).symm.trans HR.out
      clear HR
      go_enter Tryz.func54, Tryz.ntmps54
      go_wp2_with fail
      go_at_call 39; refine (Cd.in_any _ _ _ _).mono ?_; rintro e w' ⟨rfl, rfl⟩; rw [HIN]
      go_wp2_with fail
      go_at_call 24; refine (Cd.hasA_any _ _).mono ?_; rintro e w' ⟨rfl, rfl⟩; rw [HA]
      go_wp2_with fail
      go_ret
      exact ⟨Cd.ret_bool HF.out, Cd.b3 w _ _ _⟩
  · have hab : (a != 0) = true := by simp [ha]
    have HF : Hid (false = r) := (Cd.insOk_a c f ⟨4, a, n, text⟩ HA ha).symm.trans HR.out
    clear HR
    go_enter Tryz.func54, Tryz.ntmps54
    go_wp2_with fail
    go_at_call 39; refine (Cd.in_any _ _ _ _).mono ?_; rintro e w' ⟨rfl, rfl⟩; rw [HIN]
    go_wp2_with fail
    go_at_call 24; refine (Cd.hasA_any _ _).mono ?_; rintro e w' ⟨rfl, rfl⟩; rw [HA]
    go_wp2_with fail
    go_ret
    exact ⟨Cd.ret_bool HF.out, Cd.b3 w _ _ _⟩
set_option maxRecDepth 100000 in
set_option maxHeartbeats 1000000 in
theorem Cd.insOk_5 (c : List Cd.Fn) (f : Cd.Fn) (a n : Int) (text : ByteArray) (ca ia : Option Addr) (ccap icap : Nat) (pv : Value) (hs0 : 0 ≤ f.slots) (hs1 : f.slots ≤ 200) (hcl : 1 ≤ c.length) (hcl2 : c.length ≤ 60) (_hil : f.ins.length ≤ 50000) (w : World) :
    Calls Tryz.prog 54 #[.agg #[.slice ca c.length ccap], Cd.fnV f pv (.slice ia f.ins.length icap), Cd.insV ⟨5, a, n, text⟩] w fun e w' => e = .returned (.bool (Cd.insOk c f ⟨5, a, n, text⟩)) ∧ Below w.heap.size w w' := by
  have HIN : Cd.inR 5 1 16 = true := rfl
  have HA : Cd.hasA 5 = true := rfl
  have hws : wrap64 (f.slots - 1) = f.slots - 1 := IntWalk.wrap64_in _ (by omega)
  have hwc : wrap64 ((c.length : Int) - 1) = (c.length : Int) - 1 := IntWalk.wrap64_in _ (by omega)
  obtain ⟨r, HR⟩ : ∃ r, Hid (Cd.insOk c f ⟨5, a, n, text⟩ = r) := ⟨_, (rfl : Cd.insOk c f ⟨5, a, n, text⟩ = _)⟩
  rw [HR.out]
  unfold Cd.fnV Cd.insV
  by_cases hn : n = 0
  · subst hn
    cases hx : text.toList.isEmpty with
    | true =>
      have HF : Hid (Cd.inR a 1 3 = r) := (Cd.insOk_eq5 c f a text hx).symm.trans HR.out
      clear HR
      go_enter Tryz.func54, Tryz.ntmps54
      go_wp2_with fail
      go_at_call 39; refine (Cd.in_any _ _ _ _).mono ?_; rintro e w' ⟨rfl, rfl⟩; rw [HIN]
      go_wp2_with fail
      go_at_call 24; refine (Cd.hasA_any _ _).mono ?_; rintro e w' ⟨rfl, rfl⟩; rw [HA]
      go_wp2_with fail
      go_at_call 39; refine (Cd.in_any _ _ _ _).mono ?_; rintro e w' ⟨rfl, rfl⟩
      go_wp2_with fail
      go_ret
      exact ⟨Cd.ret_bool HF.out, Cd.b3 w _ _ _⟩
    | false =>
      have HF : Hid (false = r) := (Cd.insOk_bad c f ⟨5, a, 0, text⟩ (by simp) (.inr hx)).symm.trans HR.out
      clear HR
      go_enter Tryz.func54, Tryz.ntmps54
      go_wp2_with fail
      go_at_call 39; refine (Cd.in_any _ _ _ _).mono ?_; rintro e w' ⟨rfl, rfl⟩; rw [HIN]
      go_wp2_with fail
      go_at_call 24; refine (Cd.hasA_any _ _).mono ?_; rintro e w' ⟨rfl, rfl⟩; rw [HA]
      go_wp2_with fail
      go_ret
      exact ⟨Cd.ret_bool HF.out, Cd.b3 w _ _ _⟩
  · have hnb : (n != 0) = true := by simp [hn]
    have HF : Hid (false = r) := (Cd.insOk_bad c f ⟨5, a, n, text⟩ (by simp) (.inl hn)).symm.trans HR.out
    clear HR
    go_enter Tryz.func54, Tryz.ntmps54
    go_wp2_with fail
    go_at_call 39; refine (Cd.in_any _ _ _ _).mono ?_; rintro e w' ⟨rfl, rfl⟩; rw [HIN]
    go_wp2_with fail
    go_at_call 24; refine (Cd.hasA_any _ _).mono ?_; rintro e w' ⟨rfl, rfl⟩; rw [HA]
    go_wp2_with fail
    go_ret
    exact ⟨Cd.ret_bool HF.out, Cd.b3 w _ _ _⟩
set_option maxRecDepth 100000 in
set_option maxHeartbeats 1000000 in
theorem Cd.insOk_6 (c : List Cd.Fn) (f : Cd.Fn) (a n : Int) (text : ByteArray) (ca ia : Option Addr) (ccap icap : Nat) (pv : Value) (hs0 : 0 ≤ f.slots) (hs1 : f.slots ≤ 200) (hcl : 1 ≤ c.length) (hcl2 : c.length ≤ 60) (_hil : f.ins.length ≤ 50000) (w : World) :
    Calls Tryz.prog 54 #[.agg #[.slice ca c.length ccap], Cd.fnV f pv (.slice ia f.ins.length icap), Cd.insV ⟨6, a, n, text⟩] w fun e w' => e = .returned (.bool (Cd.insOk c f ⟨6, a, n, text⟩)) ∧ Below w.heap.size w w' := by
  have HIN : Cd.inR 6 1 16 = true := rfl
  have HA : Cd.hasA 6 = true := rfl
  have hws : wrap64 (f.slots - 1) = f.slots - 1 := IntWalk.wrap64_in _ (by omega)
  have hwc : wrap64 ((c.length : Int) - 1) = (c.length : Int) - 1 := IntWalk.wrap64_in _ (by omega)
  obtain ⟨r, HR⟩ : ∃ r, Hid (Cd.insOk c f ⟨6, a, n, text⟩ = r) := ⟨_, (rfl : Cd.insOk c f ⟨6, a, n, text⟩ = _)⟩
  rw [HR.out]
  unfold Cd.fnV Cd.insV
  by_cases hn : n = 0
  · subst hn
    cases hx : text.toList.isEmpty with
    | true =>
      have HF : Hid (Cd.inR a 3 18 = r) := (Cd.insOk_eq6 c f a text hx).symm.trans HR.out
      clear HR
      go_enter Tryz.func54, Tryz.ntmps54
      go_wp2_with fail
      go_at_call 39; refine (Cd.in_any _ _ _ _).mono ?_; rintro e w' ⟨rfl, rfl⟩; rw [HIN]
      go_wp2_with fail
      go_at_call 24; refine (Cd.hasA_any _ _).mono ?_; rintro e w' ⟨rfl, rfl⟩; rw [HA]
      go_wp2_with fail
      go_at_call 39; refine (Cd.in_any _ _ _ _).mono ?_; rintro e w' ⟨rfl, rfl⟩
      go_wp2_with fail
      go_ret
      exact ⟨Cd.ret_bool HF.out, Cd.b3 w _ _ _⟩
    | false =>
      have HF : Hid (false = r) := (Cd.insOk_bad c f ⟨6, a, 0, text⟩ (by simp) (.inr hx)).symm.trans HR.out
      clear HR
      go_enter Tryz.func54, Tryz.ntmps54
      go_wp2_with fail
      go_at_call 39; refine (Cd.in_any _ _ _ _).mono ?_; rintro e w' ⟨rfl, rfl⟩; rw [HIN]
      go_wp2_with fail
      go_at_call 24; refine (Cd.hasA_any _ _).mono ?_; rintro e w' ⟨rfl, rfl⟩; rw [HA]
      go_wp2_with fail
      go_ret
      exact ⟨Cd.ret_bool HF.out, Cd.b3 w _ _ _⟩
  · have hnb : (n != 0) = true := by simp [hn]
    have HF : Hid (false = r) := (Cd.insOk_bad c f ⟨6, a, n, text⟩ (by simp) (.inl hn)).symm.trans HR.out
    clear HR
    go_enter Tryz.func54, Tryz.ntmps54
    go_wp2_with fail
    go_at_call 39; refine (Cd.in_any _ _ _ _).mono ?_; rintro e w' ⟨rfl, rfl⟩; rw [HIN]
    go_wp2_with fail
    go_at_call 24; refine (Cd.hasA_any _ _).mono ?_; rintro e w' ⟨rfl, rfl⟩; rw [HA]
    go_wp2_with fail
    go_ret
    exact ⟨Cd.ret_bool HF.out, Cd.b3 w _ _ _⟩
set_option maxRecDepth 100000 in
set_option maxHeartbeats 1000000 in
theorem Cd.insOk_7 (c : List Cd.Fn) (f : Cd.Fn) (a n : Int) (text : ByteArray) (ca ia : Option Addr) (ccap icap : Nat) (pv : Value) (hs0 : 0 ≤ f.slots) (hs1 : f.slots ≤ 200) (hcl : 1 ≤ c.length) (hcl2 : c.length ≤ 60) (_hil : f.ins.length ≤ 50000) (w : World) :
    Calls Tryz.prog 54 #[.agg #[.slice ca c.length ccap], Cd.fnV f pv (.slice ia f.ins.length icap), Cd.insV ⟨7, a, n, text⟩] w fun e w' => e = .returned (.bool (Cd.insOk c f ⟨7, a, n, text⟩)) ∧ Below w.heap.size w w' := by
  have HIN : Cd.inR 7 1 16 = true := rfl
  have HA : Cd.hasA 7 = true := rfl
  have hws : wrap64 (f.slots - 1) = f.slots - 1 := IntWalk.wrap64_in _ (by omega)
  have hwc : wrap64 ((c.length : Int) - 1) = (c.length : Int) - 1 := IntWalk.wrap64_in _ (by omega)
  obtain ⟨r, HR⟩ : ∃ r, Hid (Cd.insOk c f ⟨7, a, n, text⟩ = r) := ⟨_, (rfl : Cd.insOk c f ⟨7, a, n, text⟩ = _)⟩
  rw [HR.out]
  unfold Cd.fnV Cd.insV
  by_cases hn : n = 0
  · subst hn
    cases hx : text.toList.isEmpty with
    | true =>
      have HF : Hid (Cd.isInt a = r) := (Cd.insOk_eq7 c f a text hx).symm.trans HR.out
      clear HR
      go_enter Tryz.func54, Tryz.ntmps54
      go_wp2_with fail
      go_at_call 39; refine (Cd.in_any _ _ _ _).mono ?_; rintro e w' ⟨rfl, rfl⟩; rw [HIN]
      go_wp2_with fail
      go_at_call 24; refine (Cd.hasA_any _ _).mono ?_; rintro e w' ⟨rfl, rfl⟩; rw [HA]
      go_wp2_with fail
      go_at_call 73; refine (Cd.l1Integer_any _ _).mono ?_; rintro e w' ⟨rfl, rfl⟩
      go_wp2_with fail
      go_ret
      exact ⟨Cd.ret_bool HF.out, Cd.b3 w _ _ _⟩
    | false =>
      have HF : Hid (false = r) := (Cd.insOk_bad c f ⟨7, a, 0, text⟩ (by simp) (.inr hx)).symm.trans HR.out
      clear HR
      go_enter Tryz.func54, Tryz.ntmps54
      go_wp2_with fail
      go_at_call 39; refine (Cd.in_any _ _ _ _).mono ?_; rintro e w' ⟨rfl, rfl⟩; rw [HIN]
      go_wp2_with fail
      go_at_call 24; refine (Cd.hasA_any _ _).mono ?_; rintro e w' ⟨rfl, rfl⟩; rw [HA]
      go_wp2_with fail
      go_ret
      exact ⟨Cd.ret_bool HF.out, Cd.b3 w _ _ _⟩
  · have hnb : (n != 0) = true := by simp [hn]
    have HF : Hid (false = r) := (Cd.insOk_bad c f ⟨7, a, n, text⟩ (by simp) (.inl hn)).symm.trans HR.out
    clear HR
    go_enter Tryz.func54, Tryz.ntmps54
    go_wp2_with fail
    go_at_call 39; refine (Cd.in_any _ _ _ _).mono ?_; rintro e w' ⟨rfl, rfl⟩; rw [HIN]
    go_wp2_with fail
    go_at_call 24; refine (Cd.hasA_any _ _).mono ?_; rintro e w' ⟨rfl, rfl⟩; rw [HA]
    go_wp2_with fail
    go_ret
    exact ⟨Cd.ret_bool HF.out, Cd.b3 w _ _ _⟩
set_option maxRecDepth 100000 in
set_option maxHeartbeats 1000000 in
theorem Cd.insOk_8 (c : List Cd.Fn) (f : Cd.Fn) (a n : Int) (text : ByteArray) (ca ia : Option Addr) (ccap icap : Nat) (pv : Value) (hs0 : 0 ≤ f.slots) (hs1 : f.slots ≤ 200) (hcl : 1 ≤ c.length) (hcl2 : c.length ≤ 60) (_hil : f.ins.length ≤ 50000) (w : World) :
    Calls Tryz.prog 54 #[.agg #[.slice ca c.length ccap], Cd.fnV f pv (.slice ia f.ins.length icap), Cd.insV ⟨8, a, n, text⟩] w fun e w' => e = .returned (.bool (Cd.insOk c f ⟨8, a, n, text⟩)) ∧ Below w.heap.size w w' := by
  have HIN : Cd.inR 8 1 16 = true := rfl
  have HA : Cd.hasA 8 = true := rfl
  have hws : wrap64 (f.slots - 1) = f.slots - 1 := IntWalk.wrap64_in _ (by omega)
  have hwc : wrap64 ((c.length : Int) - 1) = (c.length : Int) - 1 := IntWalk.wrap64_in _ (by omega)
  obtain ⟨r, HR⟩ : ∃ r, Hid (Cd.insOk c f ⟨8, a, n, text⟩ = r) := ⟨_, (rfl : Cd.insOk c f ⟨8, a, n, text⟩ = _)⟩
  rw [HR.out]
  unfold Cd.fnV Cd.insV
  by_cases hn : n = 0
  · subst hn
    cases hx : text.toList.isEmpty with
    | true =>
      have HF : Hid (Cd.inR a 1 12 = r) := (Cd.insOk_eq8 c f a text hx).symm.trans HR.out
      clear HR
      go_enter Tryz.func54, Tryz.ntmps54
      go_wp2_with fail
      go_at_call 39; refine (Cd.in_any _ _ _ _).mono ?_; rintro e w' ⟨rfl, rfl⟩; rw [HIN]
      go_wp2_with fail
      go_at_call 24; refine (Cd.hasA_any _ _).mono ?_; rintro e w' ⟨rfl, rfl⟩; rw [HA]
      go_wp2_with fail
      go_at_call 39; refine (Cd.in_any _ _ _ _).mono ?_; rintro e w' ⟨rfl, rfl⟩
      go_wp2_with fail
      go_ret
      exact ⟨Cd.ret_bool HF.out, Cd.b3 w _ _ _⟩
    | false =>
      have HF : Hid (false = r) := (Cd.insOk_bad c f ⟨8, a, 0, text⟩ (by simp) (.inr hx)).symm.trans HR.out
      clear HR
      go_enter Tryz.func54, Tryz.ntmps54
      go_wp2_with fail
      go_at_call 39; refine (Cd.in_any _ _ _ _).mono ?_; rintro e w' ⟨rfl, rfl⟩; rw [HIN]
      go_wp2_with fail
      go_at_call 24; refine (Cd.hasA_any _ _).mono ?_; rintro e w' ⟨rfl, rfl⟩; rw [HA]
      go_wp2_with fail
      go_ret
      exact ⟨Cd.ret_bool HF.out, Cd.b3 w _ _ _⟩
  · have hnb : (n != 0) = true := by simp [hn]
    have HF : Hid (false = r) := (Cd.insOk_bad c f ⟨8, a, n, text⟩ (by simp) (.inl hn)).symm.trans HR.out
    clear HR
    go_enter Tryz.func54, Tryz.ntmps54
    go_wp2_with fail
    go_at_call 39; refine (Cd.in_any _ _ _ _).mono ?_; rintro e w' ⟨rfl, rfl⟩; rw [HIN]
    go_wp2_with fail
    go_at_call 24; refine (Cd.hasA_any _ _).mono ?_; rintro e w' ⟨rfl, rfl⟩; rw [HA]
    go_wp2_with fail
    go_ret
    exact ⟨Cd.ret_bool HF.out, Cd.b3 w _ _ _⟩
set_option maxRecDepth 100000 in
set_option maxHeartbeats 1000000 in
theorem Cd.insOk_9 (c : List Cd.Fn) (f : Cd.Fn) (a n : Int) (text : ByteArray) (ca ia : Option Addr) (ccap icap : Nat) (pv : Value) (hs0 : 0 ≤ f.slots) (hs1 : f.slots ≤ 200) (hcl : 1 ≤ c.length) (hcl2 : c.length ≤ 60) (_hil : f.ins.length ≤ 50000) (w : World) :
    Calls Tryz.prog 54 #[.agg #[.slice ca c.length ccap], Cd.fnV f pv (.slice ia f.ins.length icap), Cd.insV ⟨9, a, n, text⟩] w fun e w' => e = .returned (.bool (Cd.insOk c f ⟨9, a, n, text⟩)) ∧ Below w.heap.size w w' := by
  have HIN : Cd.inR 9 1 16 = true := rfl
  have HA : Cd.hasA 9 = true := rfl
  have hws : wrap64 (f.slots - 1) = f.slots - 1 := IntWalk.wrap64_in _ (by omega)
  have hwc : wrap64 ((c.length : Int) - 1) = (c.length : Int) - 1 := IntWalk.wrap64_in _ (by omega)
  obtain ⟨r, HR⟩ : ∃ r, Hid (Cd.insOk c f ⟨9, a, n, text⟩ = r) := ⟨_, (rfl : Cd.insOk c f ⟨9, a, n, text⟩ = _)⟩
  rw [HR.out]
  unfold Cd.fnV Cd.insV
  by_cases hn : n = 0
  · subst hn
    cases hx : text.toList.isEmpty with
    | true =>
      have HF : Hid (Cd.inR a 0 ((c.length : Int) - 1) = r) := (Cd.insOk_eq9 c f a text hx).symm.trans HR.out
      clear HR
      go_enter Tryz.func54, Tryz.ntmps54
      go_wp2_with fail
      go_at_call 39; refine (Cd.in_any _ _ _ _).mono ?_; rintro e w' ⟨rfl, rfl⟩; rw [HIN]
      go_wp2_with fail
      go_at_call 24; refine (Cd.hasA_any _ _).mono ?_; rintro e w' ⟨rfl, rfl⟩; rw [HA]
      go_wp2_with fail
      go_at_call 39; (try rw [hwc]); refine (Cd.in_any _ _ _ _).mono ?_; rintro e w' ⟨rfl, rfl⟩
      go_wp2_with fail
      go_ret
      exact ⟨Cd.ret_bool HF.out, Cd.b3 w _ _ _⟩
    | false =>
      have HF : Hid (false = r) := (Cd.insOk_bad c f ⟨9, a, 0, text⟩ (by simp) (.inr hx)).symm.trans HR.out
      clear HR
      go_enter Tryz.func54, Tryz.ntmps54
      go_wp2_with fail
      go_at_call 39; refine (Cd.in_any _ _ _ _).mono ?_; rintro e w' ⟨rfl, rfl⟩; rw [HIN]
      go_wp2_with fail
      go_at_call 24; refine (Cd.hasA_any _ _).mono ?_; rintro e w' ⟨rfl, rfl⟩; rw [HA]
      go_wp2_with fail
      go_ret
      exact ⟨Cd.ret_bool HF.out, Cd.b3 w _ _ _⟩
  · have hnb : (n != 0) = true := by simp [hn]
    have HF : Hid (false = r) := (Cd.insOk_bad c f ⟨9, a, n, text⟩ (by simp) (.inl hn)).symm.trans HR.out
    clear HR
    go_enter Tryz.func54, Tryz.ntmps54
    go_wp2_with fail
    go_at_call 39; refine (Cd.in_any _ _ _ _).mono ?_; rintro e w' ⟨rfl, rfl⟩; rw [HIN]
    go_wp2_with fail
    go_at_call 24; refine (Cd.hasA_any _ _).mono ?_; rintro e w' ⟨rfl, rfl⟩; rw [HA]
    go_wp2_with fail
    go_ret
    exact ⟨Cd.ret_bool HF.out, Cd.b3 w _ _ _⟩
set_option maxRecDepth 100000 in
set_option maxHeartbeats 1000000 in
theorem Cd.insOk_10 (c : List Cd.Fn) (f : Cd.Fn) (a n : Int) (text : ByteArray) (ca ia : Option Addr) (ccap icap : Nat) (pv : Value) (hs0 : 0 ≤ f.slots) (hs1 : f.slots ≤ 200) (hcl : 1 ≤ c.length) (hcl2 : c.length ≤ 60) (_hil : f.ins.length ≤ 50000) (w : World) :
    Calls Tryz.prog 54 #[.agg #[.slice ca c.length ccap], Cd.fnV f pv (.slice ia f.ins.length icap), Cd.insV ⟨10, a, n, text⟩] w fun e w' => e = .returned (.bool (Cd.insOk c f ⟨10, a, n, text⟩)) ∧ Below w.heap.size w w' := by
  have HIN : Cd.inR 10 1 16 = true := rfl
  have HA : Cd.hasA 10 = true := rfl
  have hws : wrap64 (f.slots - 1) = f.slots - 1 := IntWalk.wrap64_in _ (by omega)
  have hwc : wrap64 ((c.length : Int) - 1) = (c.length : Int) - 1 := IntWalk.wrap64_in _ (by omega)
  obtain ⟨r, HR⟩ : ∃ r, Hid (Cd.insOk c f ⟨10, a, n, text⟩ = r) := ⟨_, (rfl : Cd.insOk c f ⟨10, a, n, text⟩ = _)⟩
  rw [HR.out]
  unfold Cd.fnV Cd.insV
  by_cases hn : n = 0
  · subst hn
    cases hx : text.toList.isEmpty with
    | true =>
      have HF : Hid (Cd.inR a 0 (f.ins.length : Int) = r) := (Cd.insOk_eq10 c f a text hx).symm.trans HR.out
      clear HR
      go_enter Tryz.func54, Tryz.ntmps54
      go_wp2_with fail
      go_at_call 39; refine (Cd.in_any _ _ _ _).mono ?_; rintro e w' ⟨rfl, rfl⟩; rw [HIN]
      go_wp2_with fail
      go_at_call 24; refine (Cd.hasA_any _ _).mono ?_; rintro e w' ⟨rfl, rfl⟩; rw [HA]
      go_wp2_with fail
      go_at_call 39; refine (Cd.in_any _ _ _ _).mono ?_; rintro e w' ⟨rfl, rfl⟩
      go_wp2_with fail
      go_ret
      exact ⟨Cd.ret_bool HF.out, Cd.b3 w _ _ _⟩
    | false =>
      have HF : Hid (false = r) := (Cd.insOk_bad c f ⟨10, a, 0, text⟩ (by simp) (.inr hx)).symm.trans HR.out
      clear HR
      go_enter Tryz.func54, Tryz.ntmps54
      go_wp2_with fail
      go_at_call 39; refine (Cd.in_any _ _ _ _).mono ?_; rintro e w' ⟨rfl, rfl⟩; rw [HIN]
      go_wp2_with fail
      go_at_call 24; refine (Cd.hasA_any _ _).mono ?_; rintro e w' ⟨rfl, rfl⟩; rw [HA]
      go_wp2_with fail
      go_ret
      exact ⟨Cd.ret_bool HF.out, Cd.b3 w _ _ _⟩
  · have hnb : (n != 0) = true := by simp [hn]
    have HF : Hid (false = r) := (Cd.insOk_bad c f ⟨10, a, n, text⟩ (by simp) (.inl hn)).symm.trans HR.out
    clear HR
    go_enter Tryz.func54, Tryz.ntmps54
    go_wp2_with fail
    go_at_call 39; refine (Cd.in_any _ _ _ _).mono ?_; rintro e w' ⟨rfl, rfl⟩; rw [HIN]
    go_wp2_with fail
    go_at_call 24; refine (Cd.hasA_any _ _).mono ?_; rintro e w' ⟨rfl, rfl⟩; rw [HA]
    go_wp2_with fail
    go_ret
    exact ⟨Cd.ret_bool HF.out, Cd.b3 w _ _ _⟩
set_option maxRecDepth 100000 in
set_option maxHeartbeats 1000000 in
theorem Cd.insOk_11 (c : List Cd.Fn) (f : Cd.Fn) (a n : Int) (text : ByteArray) (ca ia : Option Addr) (ccap icap : Nat) (pv : Value) (hs0 : 0 ≤ f.slots) (hs1 : f.slots ≤ 200) (hcl : 1 ≤ c.length) (hcl2 : c.length ≤ 60) (_hil : f.ins.length ≤ 50000) (w : World) :
    Calls Tryz.prog 54 #[.agg #[.slice ca c.length ccap], Cd.fnV f pv (.slice ia f.ins.length icap), Cd.insV ⟨11, a, n, text⟩] w fun e w' => e = .returned (.bool (Cd.insOk c f ⟨11, a, n, text⟩)) ∧ Below w.heap.size w w' := by
  have HIN : Cd.inR 11 1 16 = true := rfl
  have HA : Cd.hasA 11 = true := rfl
  have hws : wrap64 (f.slots - 1) = f.slots - 1 := IntWalk.wrap64_in _ (by omega)
  have hwc : wrap64 ((c.length : Int) - 1) = (c.length : Int) - 1 := IntWalk.wrap64_in _ (by omega)
  obtain ⟨r, HR⟩ : ∃ r, Hid (Cd.insOk c f ⟨11, a, n, text⟩ = r) := ⟨_, (rfl : Cd.insOk c f ⟨11, a, n, text⟩ = _)⟩
  rw [HR.out]
  unfold Cd.fnV Cd.insV
  by_cases hn : n = 0
  · subst hn
    cases hx : text.toList.isEmpty with
    | true =>
      have HF : Hid (Cd.inR a 0 (f.ins.length : Int) = r) := (Cd.insOk_eq11 c f a text hx).symm.trans HR.out
      clear HR
      go_enter Tryz.func54, Tryz.ntmps54
      go_wp2_with fail
      go_at_call 39; refine (Cd.in_any _ _ _ _).mono ?_; rintro e w' ⟨rfl, rfl⟩; rw [HIN]
      go_wp2_with fail
      go_at_call 24; refine (Cd.hasA_any _ _).mono ?_; rintro e w' ⟨rfl, rfl⟩; rw [HA]
      go_wp2_with fail
      go_at_call 39; refine (Cd.in_any _ _ _ _).mono ?_; rintro e w' ⟨rfl, rfl⟩
      go_wp2_with fail
      go_ret
      exact ⟨Cd.ret_bool HF.out, Cd.b3 w _ _ _⟩
    | false =>
      have HF : Hid (false = r) := (Cd.insOk_bad c f ⟨11, a, 0, text⟩ (by simp) (.inr hx)).symm.trans HR.out
      clear HR
      go_enter Tryz.func54, Tryz.ntmps54
      go_wp2_with fail
      go_at_call 39; refine (Cd.in_any _ _ _ _).mono ?_; rintro e w' ⟨rfl, rfl⟩; rw [HIN]
      go_wp2_with fail
      go_at_call 24; refine (Cd.hasA_any _ _).mono ?_; rintro e w' ⟨rfl, rfl⟩; rw [HA]
      go_wp2_with fail
      go_ret
      exact ⟨Cd.ret_bool HF.out, Cd.b3 w _ _ _⟩
  · have hnb : (n != 0) = true := by simp [hn]
    have HF : Hid (false = r) := (Cd.insOk_bad c f ⟨11, a, n, text⟩ (by simp) (.inl hn)).symm.trans HR.out
    clear HR
    go_enter Tryz.func54, Tryz.ntmps54
    go_wp2_with fail
    go_at_call 39; refine (Cd.in_any _ _ _ _).mono ?_; rintro e w' ⟨rfl, rfl⟩; rw [HIN]
    go_wp2_with fail
    go_at_call 24; refine (Cd.hasA_any _ _).mono ?_; rintro e w' ⟨rfl, rfl⟩; rw [HA]
    go_wp2_with fail
    go_ret
    exact ⟨Cd.ret_bool HF.out, Cd.b3 w _ _ _⟩
set_option maxRecDepth 100000 in
set_option maxHeartbeats 1000000 in
theorem Cd.insOk_12 (c : List Cd.Fn) (f : Cd.Fn) (a n : Int) (text : ByteArray) (ca ia : Option Addr) (ccap icap : Nat) (pv : Value) (hs0 : 0 ≤ f.slots) (hs1 : f.slots ≤ 200) (hcl : 1 ≤ c.length) (hcl2 : c.length ≤ 60) (_hil : f.ins.length ≤ 50000) (w : World) :
    Calls Tryz.prog 54 #[.agg #[.slice ca c.length ccap], Cd.fnV f pv (.slice ia f.ins.length icap), Cd.insV ⟨12, a, n, text⟩] w fun e w' => e = .returned (.bool (Cd.insOk c f ⟨12, a, n, text⟩)) ∧ Below w.heap.size w w' := by
  have HIN : Cd.inR 12 1 16 = true := rfl
  have HA : Cd.hasA 12 = true := rfl
  have hws : wrap64 (f.slots - 1) = f.slots - 1 := IntWalk.wrap64_in _ (by omega)
  have hwc : wrap64 ((c.length : Int) - 1) = (c.length : Int) - 1 := IntWalk.wrap64_in _ (by omega)
  obtain ⟨r, HR⟩ : ∃ r, Hid (Cd.insOk c f ⟨12, a, n, text⟩ = r) := ⟨_, (rfl : Cd.insOk c f ⟨12, a, n, text⟩ = _)⟩
  rw [HR.out]
  unfold Cd.fnV Cd.insV
  by_cases hn : n = 0
  · subst hn
    cases hx : text.toList.isEmpty with
    | true =>
      have HV : Hid (r = ((decide (a = 1) && decide (f.result ≠ 0)) || (decide (a = 0) && decide (f.result = 0)))) := HR.out.symm.trans (Cd.insOk_eq12 c f a text hx)
      clear HR
      by_cases h1 : a = 1
      · subst h1
        by_cases h2 : f.result = 0
        · have h3 : (f.result != 0) = false := by simp [h2]
          have h4 : (f.result == 0) = true := by simp [h2]
          go_enter Tryz.func54, Tryz.ntmps54
          go_wp2_with fail
          go_at_call 39; refine (Cd.in_any _ _ _ _).mono ?_; rintro e w' ⟨rfl, rfl⟩; rw [HIN]
          go_wp2_with fail
          go_at_call 24; refine (Cd.hasA_any _ _).mono ?_; rintro e w' ⟨rfl, rfl⟩; rw [HA]
          go_wp2_with fail
          go_ret
          exact ⟨Cd.ret_bool (by rw [HV.out]; simp [h2]), Cd.b3 w _ _ _⟩
        · have h3 : (f.result != 0) = true := by simp [h2]
          go_enter Tryz.func54, Tryz.ntmps54
          go_wp2_with fail
          go_at_call 39; refine (Cd.in_any _ _ _ _).mono ?_; rintro e w' ⟨rfl, rfl⟩; rw [HIN]
          go_wp2_with fail
          go_at_call 24; refine (Cd.hasA_any _ _).mono ?_; rintro e w' ⟨rfl, rfl⟩; rw [HA]
          go_wp2_with fail
          go_ret
          exact ⟨Cd.ret_bool (by rw [HV.out]; simp [h2]), Cd.b3 w _ _ _⟩
      · have h5 : (a == 1) = false := by simp [h1]
        by_cases h6 : a = 0
        · subst h6
          by_cases h2 : f.result = 0
          · have h4 : (f.result == 0) = true := by simp [h2]
            go_enter Tryz.func54, Tryz.ntmps54
            go_wp2_with fail
            go_at_call 39; refine (Cd.in_any _ _ _ _).mono ?_; rintro e w' ⟨rfl, rfl⟩; rw [HIN]
            go_wp2_with fail
            go_at_call 24; refine (Cd.hasA_any _ _).mono ?_; rintro e w' ⟨rfl, rfl⟩; rw [HA]
            go_wp2_with fail
            go_ret
            exact ⟨Cd.ret_bool (by rw [HV.out]; simp [h2]), Cd.b3 w _ _ _⟩
          · have h4 : (f.result == 0) = false := by simp [h2]
            go_enter Tryz.func54, Tryz.ntmps54
            go_wp2_with fail
            go_at_call 39; refine (Cd.in_any _ _ _ _).mono ?_; rintro e w' ⟨rfl, rfl⟩; rw [HIN]
            go_wp2_with fail
            go_at_call 24; refine (Cd.hasA_any _ _).mono ?_; rintro e w' ⟨rfl, rfl⟩; rw [HA]
            go_wp2_with fail
            go_ret
            exact ⟨Cd.ret_bool (by rw [HV.out]; simp [h2]), Cd.b3 w _ _ _⟩
        · have h7 : (a == 0) = false := by simp [h6]
          go_enter Tryz.func54, Tryz.ntmps54
          go_wp2_with fail
          go_at_call 39; refine (Cd.in_any _ _ _ _).mono ?_; rintro e w' ⟨rfl, rfl⟩; rw [HIN]
          go_wp2_with fail
          go_at_call 24; refine (Cd.hasA_any _ _).mono ?_; rintro e w' ⟨rfl, rfl⟩; rw [HA]
          go_wp2_with fail
          go_ret
          exact ⟨Cd.ret_bool (by rw [HV.out]; simp [h1, h6]), Cd.b3 w _ _ _⟩
    | false =>
      have HF : Hid (false = r) := (Cd.insOk_bad c f ⟨12, a, 0, text⟩ (by simp) (.inr hx)).symm.trans HR.out
      clear HR
      go_enter Tryz.func54, Tryz.ntmps54
      go_wp2_with fail
      go_at_call 39; refine (Cd.in_any _ _ _ _).mono ?_; rintro e w' ⟨rfl, rfl⟩; rw [HIN]
      go_wp2_with fail
      go_at_call 24; refine (Cd.hasA_any _ _).mono ?_; rintro e w' ⟨rfl, rfl⟩; rw [HA]
      go_wp2_with fail
      go_ret
      exact ⟨Cd.ret_bool HF.out, Cd.b3 w _ _ _⟩
  · have hnb : (n != 0) = true := by simp [hn]
    have HF : Hid (false = r) := (Cd.insOk_bad c f ⟨12, a, n, text⟩ (by simp) (.inl hn)).symm.trans HR.out
    clear HR
    go_enter Tryz.func54, Tryz.ntmps54
    go_wp2_with fail
    go_at_call 39; refine (Cd.in_any _ _ _ _).mono ?_; rintro e w' ⟨rfl, rfl⟩; rw [HIN]
    go_wp2_with fail
    go_at_call 24; refine (Cd.hasA_any _ _).mono ?_; rintro e w' ⟨rfl, rfl⟩; rw [HA]
    go_wp2_with fail
    go_ret
    exact ⟨Cd.ret_bool HF.out, Cd.b3 w _ _ _⟩
set_option maxRecDepth 100000 in
set_option maxHeartbeats 1000000 in
theorem Cd.insOk_13 (c : List Cd.Fn) (f : Cd.Fn) (a n : Int) (text : ByteArray) (ca ia : Option Addr) (ccap icap : Nat) (pv : Value) (hs0 : 0 ≤ f.slots) (hs1 : f.slots ≤ 200) (hcl : 1 ≤ c.length) (hcl2 : c.length ≤ 60) (_hil : f.ins.length ≤ 50000) (w : World) :
    Calls Tryz.prog 54 #[.agg #[.slice ca c.length ccap], Cd.fnV f pv (.slice ia f.ins.length icap), Cd.insV ⟨13, a, n, text⟩] w fun e w' => e = .returned (.bool (Cd.insOk c f ⟨13, a, n, text⟩)) ∧ Below w.heap.size w w' := by
  have HIN : Cd.inR 13 1 16 = true := rfl
  have HA : Cd.hasA 13 = false := rfl
  have hws : wrap64 (f.slots - 1) = f.slots - 1 := IntWalk.wrap64_in _ (by omega)
  have hwc : wrap64 ((c.length : Int) - 1) = (c.length : Int) - 1 := IntWalk.wrap64_in _ (by omega)
  obtain ⟨r, HR⟩ : ∃ r, Hid (Cd.insOk c f ⟨13, a, n, text⟩ = r) := ⟨_, (rfl : Cd.insOk c f ⟨13, a, n, text⟩ = _)⟩
  rw [HR.out]
  unfold Cd.fnV Cd.insV
  by_cases ha : a = 0
  · have hab : (a != 0) = false := by simp [ha]
    by_cases hn : n = 0
    · subst hn
      cases hx : text.toList.isEmpty with
      | true =>
        have HF : Hid (true = r) := (Cd.insOk_eq13 c f a text hx ha).symm.trans HR.out
        clear HR
        go_enter Tryz.func54, Tryz.ntmps54
        go_wp2_with fail
        go_at_call 39; refine (Cd.in_any _ _ _ _).mono ?_; rintro e w' ⟨rfl, rfl⟩; rw [HIN]
        go_wp2_with fail
        go_at_call 24; refine (Cd.hasA_any _ _).mono ?_; rintro e w' ⟨rfl, rfl⟩; rw [HA]
        go_wp2_with fail
        go_ret
        exact ⟨Cd.ret_bool HF.out, Cd.b3 w _ _ _⟩
      | false =>
        have HF : Hid (false = r) := (Cd.insOk_bad c f ⟨13, a, 0, text⟩ (by simp) (.inr hx)).symm.trans HR.out
        clear HR
        go_enter Tryz.func54, Tryz.ntmps54
        go_wp2_with fail
        go_at_call 39; refine (Cd.in_any _ _ _ _).mono ?_; rintro e w' ⟨rfl, rfl⟩; rw [HIN]
        go_wp2_with fail
        go_at_call 24; refine (Cd.hasA_any _ _).mono ?_; rintro e w' ⟨rfl, rfl⟩; rw [HA]
        go_wp2_with fail
        go_ret
        exact ⟨Cd.ret_bool HF.out, Cd.b3 w _ _ _⟩
    · have hnb : (n != 0) = true := by simp [hn]
      have HF : Hid (false = r) := (Cd.insOk_bad c f ⟨13, a, n, text⟩ (by simp) (.inl hn)).symm.trans HR.out
      clear HR
      go_enter Tryz.func54, Tryz.ntmps54
      go_wp2_with fail
      go_at_call 39; refine (Cd.in_any _ _ _ _).mono ?_; rintro e w' ⟨rfl, rfl⟩; rw [HIN]
      go_wp2_with fail
      go_at_call 24; refine (Cd.hasA_any _ _).mono ?_; rintro e w' ⟨rfl, rfl⟩; rw [HA]
      go_wp2_with fail
      go_ret
      exact ⟨Cd.ret_bool HF.out, Cd.b3 w _ _ _⟩
  · have hab : (a != 0) = true := by simp [ha]
    have HF : Hid (false = r) := (Cd.insOk_a c f ⟨13, a, n, text⟩ HA ha).symm.trans HR.out
    clear HR
    go_enter Tryz.func54, Tryz.ntmps54
    go_wp2_with fail
    go_at_call 39; refine (Cd.in_any _ _ _ _).mono ?_; rintro e w' ⟨rfl, rfl⟩; rw [HIN]
    go_wp2_with fail
    go_at_call 24; refine (Cd.hasA_any _ _).mono ?_; rintro e w' ⟨rfl, rfl⟩; rw [HA]
    go_wp2_with fail
    go_ret
    exact ⟨Cd.ret_bool HF.out, Cd.b3 w _ _ _⟩
set_option maxRecDepth 100000 in
set_option maxHeartbeats 1000000 in
theorem Cd.insOk_14 (c : List Cd.Fn) (f : Cd.Fn) (a n : Int) (text : ByteArray) (ca ia : Option Addr) (ccap icap : Nat) (pv : Value) (hs0 : 0 ≤ f.slots) (hs1 : f.slots ≤ 200) (hcl : 1 ≤ c.length) (hcl2 : c.length ≤ 60) (_hil : f.ins.length ≤ 50000) (w : World) :
    Calls Tryz.prog 54 #[.agg #[.slice ca c.length ccap], Cd.fnV f pv (.slice ia f.ins.length icap), Cd.insV ⟨14, a, n, text⟩] w fun e w' => e = .returned (.bool (Cd.insOk c f ⟨14, a, n, text⟩)) ∧ Below w.heap.size w w' := by
  have HIN : Cd.inR 14 1 16 = true := rfl
  have HA : Cd.hasA 14 = false := rfl
  have hws : wrap64 (f.slots - 1) = f.slots - 1 := IntWalk.wrap64_in _ (by omega)
  have hwc : wrap64 ((c.length : Int) - 1) = (c.length : Int) - 1 := IntWalk.wrap64_in _ (by omega)
  obtain ⟨r, HR⟩ : ∃ r, Hid (Cd.insOk c f ⟨14, a, n, text⟩ = r) := ⟨_, (rfl : Cd.insOk c f ⟨14, a, n, text⟩ = _)⟩
  rw [HR.out]
  unfold Cd.fnV Cd.insV
  by_cases ha : a = 0
  · have hab : (a != 0) = false := by simp [ha]
    by_cases hn : n = 0
    · subst hn
      cases hx : text.toList.isEmpty with
      | true =>
        have HF : Hid (true = r) := (Cd.insOk_eq14 c f a text hx ha).symm.trans HR.out
        clear HR
        go_enter Tryz.func54, Tryz.ntmps54
        go_wp2_with fail
        go_at_call 39; refine (Cd.in_any _ _ _ _).mono ?_; rintro e w' ⟨rfl, rfl⟩; rw [HIN]
        go_wp2_with fail
        go_at_call 24; refine (Cd.hasA_any _ _).mono ?_; rintro e w' ⟨rfl, rfl⟩; rw [HA]
        go_wp2_with fail
        go_ret
        exact ⟨Cd.ret_bool HF.out, Cd.b3 w _ _ _⟩
      | false =>
        have HF : Hid (false = r) := (Cd.insOk_bad c f ⟨14, a, 0, text⟩ (by simp) (.inr hx)).symm.trans HR.out
        clear HR
        go_enter Tryz.func54, Tryz.ntmps54
        go_wp2_with fail
        go_at_call 39; refine (Cd.in_any _ _ _ _).mono ?_; rintro e w' ⟨rfl, rfl⟩; rw [HIN]
        go_wp2_with fail
        go_at_call 24; refine (Cd.hasA_any _ _).mono ?_; rintro e w' ⟨rfl, rfl⟩; rw [HA]
        go_wp2_with fail
        go_ret
        exact ⟨Cd.ret_bool HF.out, Cd.b3 w _ _ _⟩
    · have hnb : (n != 0) = true := by simp [hn]
      have HF : Hid (false = r) := (Cd.insOk_bad c f ⟨14, a, n, text⟩ (by simp) (.inl hn)).symm.trans HR.out
      clear HR
      go_enter Tryz.func54, Tryz.ntmps54
      go_wp2_with fail
      go_at_call 39; refine (Cd.in_any _ _ _ _).mono ?_; rintro e w' ⟨rfl, rfl⟩; rw [HIN]
      go_wp2_with fail
      go_at_call 24; refine (Cd.hasA_any _ _).mono ?_; rintro e w' ⟨rfl, rfl⟩; rw [HA]
      go_wp2_with fail
      go_ret
      exact ⟨Cd.ret_bool HF.out, Cd.b3 w _ _ _⟩
  · have hab : (a != 0) = true := by simp [ha]
    have HF : Hid (false = r) := (Cd.insOk_a c f ⟨14, a, n, text⟩ HA ha).symm.trans HR.out
    clear HR
    go_enter Tryz.func54, Tryz.ntmps54
    go_wp2_with fail
    go_at_call 39; refine (Cd.in_any _ _ _ _).mono ?_; rintro e w' ⟨rfl, rfl⟩; rw [HIN]
    go_wp2_with fail
    go_at_call 24; refine (Cd.hasA_any _ _).mono ?_; rintro e w' ⟨rfl, rfl⟩; rw [HA]
    go_wp2_with fail
    go_ret
    exact ⟨Cd.ret_bool HF.out, Cd.b3 w _ _ _⟩
set_option maxRecDepth 100000 in
set_option maxHeartbeats 1000000 in
theorem Cd.insOk_15 (c : List Cd.Fn) (f : Cd.Fn) (a n : Int) (text : ByteArray) (ca ia : Option Addr) (ccap icap : Nat) (pv : Value) (hs0 : 0 ≤ f.slots) (hs1 : f.slots ≤ 200) (hcl : 1 ≤ c.length) (hcl2 : c.length ≤ 60) (_hil : f.ins.length ≤ 50000) (w : World) :
    Calls Tryz.prog 54 #[.agg #[.slice ca c.length ccap], Cd.fnV f pv (.slice ia f.ins.length icap), Cd.insV ⟨15, a, n, text⟩] w fun e w' => e = .returned (.bool (Cd.insOk c f ⟨15, a, n, text⟩)) ∧ Below w.heap.size w w' := by
  have HIN : Cd.inR 15 1 16 = true := rfl
  have HA : Cd.hasA 15 = false := rfl
  have hws : wrap64 (f.slots - 1) = f.slots - 1 := IntWalk.wrap64_in _ (by omega)
  have hwc : wrap64 ((c.length : Int) - 1) = (c.length : Int) - 1 := IntWalk.wrap64_in _ (by omega)
  obtain ⟨r, HR⟩ : ∃ r, Hid (Cd.insOk c f ⟨15, a, n, text⟩ = r) := ⟨_, (rfl : Cd.insOk c f ⟨15, a, n, text⟩ = _)⟩
  rw [HR.out]
  unfold Cd.fnV Cd.insV
  by_cases ha : a = 0
  · have hab : (a != 0) = false := by simp [ha]
    by_cases hn : n = 0
    · subst hn
      cases hx : text.toList.isEmpty with
      | true =>
        have HF : Hid (true = r) := (Cd.insOk_eq15 c f a text hx ha).symm.trans HR.out
        clear HR
        go_enter Tryz.func54, Tryz.ntmps54
        go_wp2_with fail
        go_at_call 39; refine (Cd.in_any _ _ _ _).mono ?_; rintro e w' ⟨rfl, rfl⟩; rw [HIN]
        go_wp2_with fail
        go_at_call 24; refine (Cd.hasA_any _ _).mono ?_; rintro e w' ⟨rfl, rfl⟩; rw [HA]
        go_wp2_with fail
        go_ret
        exact ⟨Cd.ret_bool HF.out, Cd.b3 w _ _ _⟩
      | false =>
        have HF : Hid (false = r) := (Cd.insOk_bad c f ⟨15, a, 0, text⟩ (by simp) (.inr hx)).symm.trans HR.out
        clear HR
        go_enter Tryz.func54, Tryz.ntmps54
        go_wp2_with fail
        go_at_call 39; refine (Cd.in_any _ _ _ _).mono ?_; rintro e w' ⟨rfl, rfl⟩; rw [HIN]
        go_wp2_with fail
        go_at_call 24; refine (Cd.hasA_any _ _).mono ?_; rintro e w' ⟨rfl, rfl⟩; rw [HA]
        go_wp2_with fail
        go_ret
        exact ⟨Cd.ret_bool HF.out, Cd.b3 w _ _ _⟩
    · have hnb : (n != 0) = true := by simp [hn]
      have HF : Hid (false = r) := (Cd.insOk_bad c f ⟨15, a, n, text⟩ (by simp) (.inl hn)).symm.trans HR.out
      clear HR
      go_enter Tryz.func54, Tryz.ntmps54
      go_wp2_with fail
      go_at_call 39; refine (Cd.in_any _ _ _ _).mono ?_; rintro e w' ⟨rfl, rfl⟩; rw [HIN]
      go_wp2_with fail
      go_at_call 24; refine (Cd.hasA_any _ _).mono ?_; rintro e w' ⟨rfl, rfl⟩; rw [HA]
      go_wp2_with fail
      go_ret
      exact ⟨Cd.ret_bool HF.out, Cd.b3 w _ _ _⟩
  · have hab : (a != 0) = true := by simp [ha]
    have HF : Hid (false = r) := (Cd.insOk_a c f ⟨15, a, n, text⟩ HA ha).symm.trans HR.out
    clear HR
    go_enter Tryz.func54, Tryz.ntmps54
    go_wp2_with fail
    go_at_call 39; refine (Cd.in_any _ _ _ _).mono ?_; rintro e w' ⟨rfl, rfl⟩; rw [HIN]
    go_wp2_with fail
    go_at_call 24; refine (Cd.hasA_any _ _).mono ?_; rintro e w' ⟨rfl, rfl⟩; rw [HA]
    go_wp2_with fail
    go_ret
    exact ⟨Cd.ret_bool HF.out, Cd.b3 w _ _ _⟩
set_option maxRecDepth 100000 in
set_option maxHeartbeats 1000000 in
theorem Cd.insOk_16 (c : List Cd.Fn) (f : Cd.Fn) (a n : Int) (text : ByteArray) (ca ia : Option Addr) (ccap icap : Nat) (pv : Value) (hs0 : 0 ≤ f.slots) (hs1 : f.slots ≤ 200) (hcl : 1 ≤ c.length) (hcl2 : c.length ≤ 60) (_hil : f.ins.length ≤ 50000) (w : World) :
    Calls Tryz.prog 54 #[.agg #[.slice ca c.length ccap], Cd.fnV f pv (.slice ia f.ins.length icap), Cd.insV ⟨16, a, n, text⟩] w fun e w' => e = .returned (.bool (Cd.insOk c f ⟨16, a, n, text⟩)) ∧ Below w.heap.size w w' := by
  have HIN : Cd.inR 16 1 16 = true := rfl
  have HA : Cd.hasA 16 = false := rfl
  have hws : wrap64 (f.slots - 1) = f.slots - 1 := IntWalk.wrap64_in _ (by omega)
  have hwc : wrap64 ((c.length : Int) - 1) = (c.length : Int) - 1 := IntWalk.wrap64_in _ (by omega)
  obtain ⟨r, HR⟩ : ∃ r, Hid (Cd.insOk c f ⟨16, a, n, text⟩ = r) := ⟨_, (rfl : Cd.insOk c f ⟨16, a, n, text⟩ = _)⟩
  rw [HR.out]
  unfold Cd.fnV Cd.insV
  by_cases ha : a = 0
  · have hab : (a != 0) = false := by simp [ha]
    by_cases hn : n = 0
    · subst hn
      cases hx : text.toList.isEmpty with
      | true =>
        have HF : Hid (true = r) := (Cd.insOk_eq16 c f a text hx ha).symm.trans HR.out
        clear HR
        go_enter Tryz.func54, Tryz.ntmps54
        go_wp2_with fail
        go_at_call 39; refine (Cd.in_any _ _ _ _).mono ?_; rintro e w' ⟨rfl, rfl⟩; rw [HIN]
        go_wp2_with fail
        go_at_call 24; refine (Cd.hasA_any _ _).mono ?_; rintro e w' ⟨rfl, rfl⟩; rw [HA]
        go_wp2_with fail
        go_ret
        exact ⟨Cd.ret_bool HF.out, Cd.b3 w _ _ _⟩
      | false =>
        have HF : Hid (false = r) := (Cd.insOk_bad c f ⟨16, a, 0, text⟩ (by simp) (.inr hx)).symm.trans HR.out
        clear HR
        go_enter Tryz.func54, Tryz.ntmps54
        go_wp2_with fail
        go_at_call 39; refine (Cd.in_any _ _ _ _).mono ?_; rintro e w' ⟨rfl, rfl⟩; rw [HIN]
        go_wp2_with fail
        go_at_call 24; refine (Cd.hasA_any _ _).mono ?_; rintro e w' ⟨rfl, rfl⟩; rw [HA]
        go_wp2_with fail
        go_ret
        exact ⟨Cd.ret_bool HF.out, Cd.b3 w _ _ _⟩
    · have hnb : (n != 0) = true := by simp [hn]
      have HF : Hid (false = r) := (Cd.insOk_bad c f ⟨16, a, n, text⟩ (by simp) (.inl hn)).symm.trans HR.out
      clear HR
      go_enter Tryz.func54, Tryz.ntmps54
      go_wp2_with fail
      go_at_call 39; refine (Cd.in_any _ _ _ _).mono ?_; rintro e w' ⟨rfl, rfl⟩; rw [HIN]
      go_wp2_with fail
      go_at_call 24; refine (Cd.hasA_any _ _).mono ?_; rintro e w' ⟨rfl, rfl⟩; rw [HA]
      go_wp2_with fail
      go_ret
      exact ⟨Cd.ret_bool HF.out, Cd.b3 w _ _ _⟩
  · have hab : (a != 0) = true := by simp [ha]
    have HF : Hid (false = r) := (Cd.insOk_a c f ⟨16, a, n, text⟩ HA ha).symm.trans HR.out
    clear HR
    go_enter Tryz.func54, Tryz.ntmps54
    go_wp2_with fail
    go_at_call 39; refine (Cd.in_any _ _ _ _).mono ?_; rintro e w' ⟨rfl, rfl⟩; rw [HIN]
    go_wp2_with fail
    go_at_call 24; refine (Cd.hasA_any _ _).mono ?_; rintro e w' ⟨rfl, rfl⟩; rw [HA]
    go_wp2_with fail
    go_ret
    exact ⟨Cd.ret_bool HF.out, Cd.b3 w _ _ _⟩
set_option maxRecDepth 100000 in
set_option maxHeartbeats 1000000 in
theorem Cd.insOk_out (c : List Cd.Fn) (f : Cd.Fn) (i : Cd.Ins) (cv pv iv : Value) (h : Cd.inR i.op 1 16 = false) (w : World) :
    Calls Tryz.prog 54 #[.agg #[cv], Cd.fnV f pv iv, Cd.insV i] w fun e w' => e = .returned (.bool (Cd.insOk c f i)) ∧ Below w.heap.size w w' := by
  have HIN : Hid (Cd.inR i.op 1 16 = false) := h
  have HF : Hid (false = Cd.insOk c f i) := by rw [Hid, Cd.insOk, if_pos (.inl h)]
  clear h
  unfold Cd.fnV Cd.insV
  go_enter Tryz.func54, Tryz.ntmps54
  go_wp2_with (first | (go_at_call 39; refine (Cd.in_is false _ _ _ HIN _).mono ?_; rintro e w' ⟨rfl, rfl⟩))
  go_ret
  exact ⟨Cd.ret_bool HF.out, Cd.b3 w _ _ _⟩
theorem Cd.insOk_any (c : List Cd.Fn) (f : Cd.Fn) (i : Cd.Ins) (ca ia : Option Addr) (ccap icap : Nat) (pv : Value) (hs0 : 0 ≤ f.slots) (hs1 : f.slots ≤ 200) (hcl : 1 ≤ c.length) (hcl2 : c.length ≤ 60) (hil : f.ins.length ≤ 50000) (w : World) :
    Calls Tryz.prog 54 #[.agg #[.slice ca c.length ccap], Cd.fnV f pv (.slice ia f.ins.length icap), Cd.insV i] w fun e w' => e = .returned (.bool (Cd.insOk c f i)) ∧ Below w.heap.size w w' := by
  obtain ⟨op, a, n, text⟩ := i
  by_cases h : Cd.inR op 1 16 = true
  · have h2 : op = 1 ∨ op = 2 ∨ op = 3 ∨ op = 4 ∨ op = 5 ∨ op = 6 ∨ op = 7 ∨ op = 8 ∨ op = 9 ∨ op = 10 ∨ op = 11 ∨ op = 12 ∨ op = 13 ∨ op = 14 ∨ op = 15 ∨ op = 16 := by
      unfold Cd.inR at h
      simp at h
      omega
    rcases h2 with rfl | rfl | rfl | rfl | rfl | rfl | rfl | rfl | rfl | rfl | rfl | rfl | rfl | rfl | rfl | rfl
    · exact Cd.insOk_1 c f a n text _ pv _ w
    · exact Cd.insOk_2 c f a n text ca ia ccap icap pv hs0 hs1 hcl hcl2 hil w
    · exact Cd.insOk_3 c f a n text ca ia ccap icap pv hs0 hs1 hcl hcl2 hil w
    · exact Cd.insOk_4 c f a n text ca ia ccap icap pv hs0 hs1 hcl hcl2 hil w
    · exact Cd.insOk_5 c f a n text ca ia ccap icap pv hs0 hs1 hcl hcl2 hil w
    · exact Cd.insOk_6 c f a n text ca ia ccap icap pv hs0 hs1 hcl hcl2 hil w
    · exact Cd.insOk_7 c f a n text ca ia ccap icap pv hs0 hs1 hcl hcl2 hil w
    · exact Cd.insOk_8 c f a n text ca ia ccap icap pv hs0 hs1 hcl hcl2 hil w
    · exact Cd.insOk_9 c f a n text ca ia ccap icap pv hs0 hs1 hcl hcl2 hil w
    · exact Cd.insOk_10 c f a n text ca ia ccap icap pv hs0 hs1 hcl hcl2 hil w
    · exact Cd.insOk_11 c f a n text ca ia ccap icap pv hs0 hs1 hcl hcl2 hil w
    · exact Cd.insOk_12 c f a n text ca ia ccap icap pv hs0 hs1 hcl hcl2 hil w
    · exact Cd.insOk_13 c f a n text ca ia ccap icap pv hs0 hs1 hcl hcl2 hil w
    · exact Cd.insOk_14 c f a n text ca ia ccap icap pv hs0 hs1 hcl hcl2 hil w
    · exact Cd.insOk_15 c f a n text ca ia ccap icap pv hs0 hs1 hcl hcl2 hil w
    · exact Cd.insOk_16 c f a n text ca ia ccap icap pv hs0 hs1 hcl hcl2 hil w
  · exact Cd.insOk_out c f ⟨op, a, n, text⟩ _ pv _ (by simpa using h) w
end Go.Proofs.YtdmfbhfiaodehaaGreatDoor
