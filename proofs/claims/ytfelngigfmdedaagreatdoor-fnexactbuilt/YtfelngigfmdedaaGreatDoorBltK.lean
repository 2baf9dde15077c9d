import Derived.Test.YtfelngigfmdedaaGreatDoorBltJ
namespace Go.Proofs.YtfelngigfmdedaaGreatDoor
open Go.RowKit

def Val.fitI (k h : Int) : Bool := if k = 11 then Val.isInt h else decide (h = k)
def Val.fitLI : List Int → List Int → Bool
  | [], [] => true
  | k :: ks, h :: hs => Val.fitI k h && Val.fitLI ks hs
  | _, _ => false
theorem Val.fitLI_drop (ks hs : List Int) (i : Nat) (h1 : i < ks.length) (h2 : i < hs.length) : Val.fitLI (ks.drop i) (hs.drop i) = (Val.fitI ks[i] hs[i] && Val.fitLI (ks.drop (i + 1)) (hs.drop (i + 1))) := by
  rw [List.drop_eq_getElem_cons h1, List.drop_eq_getElem_cons h2, Val.fitLI]
theorem Val.row4 {w w1 : World} {a0 a1 a2 a3 : Value} {t : TypeId} (hb : Below (w.heap.size + 1) (w.alloc (.cells #[a0, a1, a2, a3] t)) w1) (j : Nat) : w1.cell? ⟨w.heap.size, j, none⟩ = (#[a0, a1, a2, a3] : Array Value)[j]? := by
  have h1 := hb.block w.heap.size (by omega)
  rw [Val.new_at] at h1
  simp [World.cell?, h1]
theorem Val.isIntType_is (b : Bool) (t : Int) (h : Hid (Val.isInt t = b)) (w : World) :
    Calls Tryz.prog 38 #[.int .i64 t] w fun e w' => e = .returned (.bool b) ∧ w = w' := by rw [← h.out]; exact Val.isIntType_any t w
set_option maxRecDepth 100000 in
set_option maxHeartbeats 1000000 in
theorem Val.fits_any (k h : Int) (hk : k ≠ 12) (w : World) :
    Calls Tryz.prog 40 #[.int .i64 k, .int .i64 h] w fun e w' => e = .returned (.bool (Val.fitI k h)) ∧ w = w' := by
  by_cases h11 : k = 11
  · subst h11
    have HF : Hid (Val.isInt h = Val.fitI 11 h) := by rw [Hid, Val.fitI, if_pos rfl]
    go_enter Tryz.func40, Tryz.ntmps40
    go_wp2_with (first | (go_at_call 38; refine (Val.isIntType_is _ _ HF _).mono ?_; rintro e w' ⟨rfl, rfl⟩))
    go_ret
    exact ⟨rfl, rfl⟩
  · have h1 : (k == 11) = false := by simp [h11]
    have h2 : (k == 12) = false := by simp [hk]
    have HF : Hid ((h == k) = Val.fitI k h) := by rw [Hid, Val.fitI, if_neg h11]; rfl
    clear h11 hk
    go_enter Tryz.func40, Tryz.ntmps40
    go_wp2
    go_ret
    exact ⟨by rw [← HF.out]; rfl, rfl⟩
theorem Val.fits_is (b : Bool) (k h : Int) (hk : k ≠ 12) (hb : Hid (Val.fitI k h = b)) (w : World) :
    Calls Tryz.prog 40 #[.int .i64 k, .int .i64 h] w fun e w' => e = .returned (.bool b) ∧ w = w' := by rw [← hb.out]; exact Val.fits_any k h hk w
set_option maxRecDepth 100000 in
set_option maxHeartbeats 1000000 in
theorem Val.typeOfBuilt_len (op : Nat) (h1 : 1 ≤ op) (h12 : op ≤ 12) (kn : Int) (a : Option Addr) (n cap : Nat) (_hn : n ≤ 1048576) (w : World)
    (hw : w.cell? ⟨1, op * 2 + 1, none⟩ = some (.int .i64 kn)) (hkn : ¬ (n : Int) = kn) :
    Calls Tryz.prog 28 #[.int .i64 (op : Int), .slice a n cap] w fun e w' => e = .returned (.int .i64 0) ∧ Below w.heap.size w w' := by
  have hne : ((n : Int) != kn) = true := by simp [hkn]
  go_enter Tryz.func28, Tryz.ntmps28
  go_wp2
  go_ret
  exact ⟨rfl, Below.refl _ _⟩
set_option maxRecDepth 100000 in
set_option maxHeartbeats 1000000 in
theorem Val.typeOfBuilt_out (op : Int) (h12 : 12 < op) (a : Option Addr) (n cap : Nat) (w : World) :
    Calls Tryz.prog 28 #[.int .i64 op, .slice a n cap] w fun e w' => e = .returned (.int .i64 0) ∧ Below w.heap.size w w' := by
  go_enter Tryz.func28, Tryz.ntmps28
  go_wp2
  all_goals go_ret
  all_goals exact ⟨rfl, Below.refl _ _⟩
set_option maxRecDepth 100000 in
set_option maxHeartbeats 4000000 in
theorem Val.typeOfBuilt_row (op : Nat) (h1 : 1 ≤ op) (h12 : op ≤ 12) (k0 k1 k2 gv : Int) (a : Option Addr) (cap : Nat) (ts : List Int) (n : Nat) (HN : Hid (ts.length = n)) (hn : n ≤ 3) (hk12 : k0 ≠ 12 ∧ k1 ≠ 12 ∧ k2 ≠ 12) (w : World)
    (hw : w.cell? ⟨1, op * 2 + 1, none⟩ = some (.int .i64 (n : Int)))
    (t0 : w.cell? ⟨2, op * 4, none⟩ = some (.int .i64 k0)) (t1 : w.cell? ⟨2, op * 4 + 1, none⟩ = some (.int .i64 k1)) (t2 : w.cell? ⟨2, op * 4 + 2, none⟩ = some (.int .i64 k2)) (t3 : w.cell? ⟨2, op * 4 + 3, none⟩ = some (.int .i64 gv))
    (HC : Hid (∀ i (hi : i < ts.length), ∃ g, a = some ⟨g, 0, none⟩ ∧ g < w.heap.size ∧ w.cell? ⟨g, i, none⟩ = some (.int .i64 ts[i]))) :
    Calls Tryz.prog 28 #[.int .i64 (op : Int), .slice a n cap] w fun e w' => e = .returned (.int .i64 (if Val.fitLI ([k0, k1, k2].take n) ts = true then gv else 0)) ∧ Below w.heap.size w w' := by
  obtain ⟨r, HR⟩ : ∃ r, Hid ((if Val.fitLI ([k0, k1, k2].take n) ts = true then gv else 0) = r) := ⟨_, (rfl : _ = _)⟩
  rw [HR.out]
  obtain ⟨ks, HK⟩ : ∃ ks, Hid (([k0, k1, k2].take n) = ks) := ⟨_, (rfl : _ = _)⟩
  have HKN : Hid (ks.length = n) := by rw [Hid, ← HK.out, List.length_take]; simp; omega
  rw [HK.out] at HR
  have hne : ((n : Int) != (n : Int)) = false := by simp
  go_enter Tryz.func28, Tryz.ntmps28
  go_wp2_with fail
  go_loopw [28] (fun t wr => ∃ i : Nat, i ≤ n ∧ t = .int .i64 (i : Int) ∧ Val.fitLI (ks.drop i) (ts.drop i) = Val.fitLI ks ts ∧ Below (w.heap.size + 1) (w.alloc (.cells #[.int .i64 k0, .int .i64 k1, .int .i64 k2, .int .i64 gv] 77)) wr) (fun t _ => n - (intOf t).toNat)
  case atStart => exact ⟨0, by omega, rfl, rfl, Below.refl _ _⟩
  case round =>
    obtain ⟨i, hi, rfl, hu, hbw⟩ := hrel
    have HB : Hid (Below w.heap.size w wr) := Val.alloc1 hbw
    have r3 : wr.cell? ⟨w.heap.size, 3, none⟩ = some (.int .i64 gv) := Val.row4 hbw 3
    by_cases hlt : i < n
    · have hil : i < ts.length := by rw [HN.out]; exact hlt
      have hik : i < ks.length := by rw [HKN.out]; exact hlt
      have hi3 : (i : Int) < 3 := by omega
      obtain ⟨g, rfl, hg, hcell⟩ := HC.out i hil
      rw [Val.fitLI_drop ks ts i hik hil] at hu
      have e1 : wr.cell? ⟨g, i, none⟩ = some (.int .i64 ts[i]) := by rw [HB.out.cell (p := ⟨g, i, none⟩) hg]; exact hcell
      have e2 : wr.cell? ⟨w.heap.size, i, none⟩ = some (.int .i64 ks[i]) := by
        rw [Val.row4 hbw i]
        have h3 : i = 0 ∨ i = 1 ∨ i = 2 := by omega
        have hkk : ks[i]? = ([k0, k1, k2] : List Int)[i]? := by rw [← HK.out, List.getElem?_take_of_lt hlt]
        rw [List.getElem?_eq_getElem hik] at hkk
        rcases h3 with rfl | rfl | rfl
        all_goals (simp at hkk ⊢; exact hkk.symm)
      have hk2 : ks[i] ≠ 12 := by
        have h3 : i = 0 ∨ i = 1 ∨ i = 2 := by omega
        have hkk : ks[i]? = ([k0, k1, k2] : List Int)[i]? := by rw [← HK.out, List.getElem?_take_of_lt hlt]
        rw [List.getElem?_eq_getElem hik] at hkk
        rcases h3 with rfl | rfl | rfl
        all_goals (simp at hkk; rw [hkk]; first | exact hk12.1 | exact hk12.2.1 | exact hk12.2.2)
      generalize ts[i] = h at *
      generalize ks[i] = k at *
      clear hcell HC
      cases hI : Val.fitI k h with
      | true =>
        have HI : Hid (Val.fitI k h = true) := hI
        have HU : Hid (Val.fitLI (ks.drop (i + 1)) (ts.drop (i + 1)) = Val.fitLI ks ts) := by rw [Hid, ← hu, hI]; simp
        clear hu hI
        go_wp2_with (first | (go_at_call 40; refine (Val.fits_is true _ _ hk2 HI _).mono ?_; rintro e w' ⟨rfl, rfl⟩))
        go_roundw
        case rel => exact ⟨i + 1, by omega, by go_num, HU.out, hbw⟩
        case measure => simp [intOf]; omega
      | false =>
        have HI : Hid (Val.fitI k h = false) := hI
        have HU : Hid (0 = r) := by rw [Hid, ← HR.out, ← hu, hI]; simp
        clear hu hI
        go_wp2_with (first | (go_at_call 40; refine (Val.fits_is false _ _ hk2 HI _).mono ?_; rintro e w' ⟨rfl, rfl⟩))
        go_ret
        exact ⟨Val.ret_i HU.out, HB.out⟩
    · have HU : Hid (gv = r) := by rw [Hid, ← HR.out, ← hu, List.drop_of_length_le (by rw [HKN.out]; omega), List.drop_of_length_le (by rw [HN.out]; omega)]; rfl
      clear hu HC
      go_wp2_with fail
      go_ret
      exact ⟨Val.ret_i HU.out, HB.out⟩
theorem Val.fit_same (k h : Int) (hk10 : k ≤ 10) (hh : 1 ≤ h ∧ h ≤ 10) : Val.fitI (if k = 0 then 11 else k) h = Val.fit1 k h := by
  unfold Val.fitI Val.fit1
  by_cases hk : k = 0
  · subst hk
    have h2 : ¬ h = 0 := by omega
    simp [h2]
  · rw [if_neg hk]
    have h11 : ¬ k = 11 := by omega
    simp [hk, h11]
theorem Val.fitL_same : ∀ (ks ts : List Int), (∀ k ∈ ks, k ≤ 10) → (∀ t ∈ ts, 1 ≤ t ∧ t ≤ 10) → Val.fitLI (ks.map (fun k => if k = 0 then 11 else k)) ts = Val.fitL ks ts
  | [], [], _, _ => rfl
  | [], _ :: _, _, _ => rfl
  | _ :: _, [], _, _ => rfl
  | k :: ks, t :: ts, h1, h2 => by
    rw [List.map_cons, Val.fitLI, Val.fitL, Val.fit_same k t (h1 k (by simp)) (h2 t (by simp)), Val.fitL_same ks ts (fun x hx => h1 x (by simp [hx])) (fun x hx => h2 x (by simp [hx]))]
theorem Val.builtT_len (op : Int) (ts : List Int) (h : (Val.want op).length ≠ ts.length) : Val.builtT op ts = 0 := by
  rw [Val.builtT, if_neg]
  intro hf; exact h (Val.fitL_len _ _ hf)
theorem Val.typeOfBuilt_lit (op : Nat) (h1 : 1 ≤ op) (h12 : op ≤ 12) (v : Value) (ts : List Int) (hl : ts.length ≤ 1048576) (ht : ∀ t ∈ ts, 1 ≤ t ∧ t ≤ 10) (w : World) (hG : Val.GB w) (hI : Val.IntsAt w v ts)
    (hk : Val.kidsN op = ((Val.want (op : Int)).length : Int)) (hw10 : ∀ k ∈ Val.want (op : Int), k ≤ 10) (hw3 : (Val.want (op : Int)).length ≤ 3)
    (hty : ([Val.tyN (op * 4), Val.tyN (op * 4 + 1), Val.tyN (op * 4 + 2)].take (Val.want (op : Int)).length) = (Val.want (op : Int)).map (fun k => if k = 0 then 11 else k)) (hgv : Val.tyN (op * 4 + 3) = Val.gives (op : Int)) (hk12 : Val.tyN (op * 4) ≠ 12 ∧ Val.tyN (op * 4 + 1) ≠ 12 ∧ Val.tyN (op * 4 + 2) ≠ 12) :
    Calls Tryz.prog 28 #[.int .i64 (op : Int), v] w fun e w' => e = .returned (.int .i64 (Val.builtT (op : Int) ts)) ∧ Below w.heap.size w w' := by
  obtain ⟨a, cap, rfl, hc⟩ := hI
  have hwd := hG.words op h12
  rw [hk] at hwd
  by_cases hle : (Val.want (op : Int)).length = ts.length
  · rw [hle] at hwd hty hw3
    have := Val.typeOfBuilt_row op h1 h12 _ _ _ _ a cap ts ts.length rfl hw3 hk12 w hwd (hG.types _ (by omega)) (hG.types _ (by omega)) (hG.types _ (by omega)) (hG.types _ (by omega)) hc
    rw [hty, Val.fitL_same _ ts hw10 ht, hgv] at this
    exact this
  · rw [Val.builtT_len _ _ hle]
    exact Val.typeOfBuilt_len op h1 h12 _ a ts.length cap hl w hwd (by omega)
theorem Val.typeOfBuilt_any (op : Int) (h6 : 6 ≤ op) (v : Value) (ts : List Int) (hl : ts.length ≤ 1048576) (ht : ∀ t ∈ ts, 1 ≤ t ∧ t ≤ 10) (w : World) (hG : Val.GB w) (hI : Val.IntsAt w v ts) :
    Calls Tryz.prog 28 #[.int .i64 op, v] w fun e w' => e = .returned (.int .i64 (if op ≤ 12 then Val.builtT op ts else 0)) ∧ Below w.heap.size w w' := by
  by_cases h12 : op ≤ 12
  · rw [if_pos h12]
    have h : op = 6 ∨ op = 7 ∨ op = 8 ∨ op = 9 ∨ op = 10 ∨ op = 11 ∨ op = 12 := by omega
    rcases h with rfl | rfl | rfl | rfl | rfl | rfl | rfl
    · exact Val.typeOfBuilt_lit 6 (by decide) (by decide) v ts hl ht w hG hI (by decide) (by decide) (by decide) (by decide) (by decide) (by decide)
    · exact Val.typeOfBuilt_lit 7 (by decide) (by decide) v ts hl ht w hG hI (by decide) (by decide) (by decide) (by decide) (by decide) (by decide)
    · exact Val.typeOfBuilt_lit 8 (by decide) (by decide) v ts hl ht w hG hI (by decide) (by decide) (by decide) (by decide) (by decide) (by decide)
    · exact Val.typeOfBuilt_lit 9 (by decide) (by decide) v ts hl ht w hG hI (by decide) (by decide) (by decide) (by decide) (by decide) (by decide)
    · exact Val.typeOfBuilt_lit 10 (by decide) (by decide) v ts hl ht w hG hI (by decide) (by decide) (by decide) (by decide) (by decide) (by decide)
    · exact Val.typeOfBuilt_lit 11 (by decide) (by decide) v ts hl ht w hG hI (by decide) (by decide) (by decide) (by decide) (by decide) (by decide)
    · exact Val.typeOfBuilt_lit 12 (by decide) (by decide) v ts hl ht w hG hI (by decide) (by decide) (by decide) (by decide) (by decide) (by decide)
  · rw [if_neg h12]
    obtain ⟨a, cap, rfl, _⟩ := hI
    exact Val.typeOfBuilt_out op (by omega) a _ cap w
end Go.Proofs.YtfelngigfmdedaaGreatDoor
