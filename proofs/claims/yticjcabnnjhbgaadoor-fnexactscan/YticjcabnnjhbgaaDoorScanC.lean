import Derived.Test.YticjcabnnjhbgaaDoorScanB
namespace Go.Proofs.YticjcabnnjhbgaaDoor
open Go.RowKit

theorem Mill.plain_cell (w : World) (k : Nat) (p : List UInt8) (h : Mill.plainWords[k]? = some p) : (w.alloc (.cells Mill.plainCells 9)).cell? ⟨w.heap.size, k, none⟩ = some (Mill.strOf p) := by
  rw [cell_of_row _ _ _ Mill.plainCells 9 (0, 0) (heap_alloc_new w _)]
  simp [Mill.plainCells, h]

set_option maxHeartbeats 1000000 in
theorem l1Taken_any (s : ByteArray) (w : World) :
    Calls Tryd.prog 17 #[.string s] w fun e w' => e = .returned (.bool (Mill.taken s)) ∧ Below w.heap.size w w' := by
  by_cases h0 : (Mill.typeOf s != 0) = true
  · go_enter Tryd.func17, Tryd.ntmps17
    go_wp2_with (go_at_call 30; refine (l1Type_any _ _).mono ?_; rintro e w' ⟨rfl, rfl⟩)
    go_ret
    exact ⟨by simp [Mill.taken, h0], Below.refl _ _⟩
  have h1 : (Mill.typeOf s != 0) = false := by simpa using h0
  have HT : Hid (Mill.taken s = (Mill.builtIn s 12 1 || Mill.plainWords.any (fun p => p == s.toList))) := by simp [Hid, Mill.taken, h1]
  clear h0
  go_enter Tryd.func17, Tryd.ntmps17
  go_wp2_with (go_at_call 30; refine (l1Type_any _ _).mono ?_; rintro e w' ⟨rfl, rfl⟩)
  go_loop [3, 4, 5] (fun t _ _ => ∃ k : Nat, k ≤ 12 ∧ t = .int .i64 ((k : Int) + 1) ∧ Mill.builtIn s (12 - k) ((k : Int) + 1) = Mill.builtIn s 12 1) (fun t _ _ => 13 - (intOf t).toNat)
  case atStart => exact ⟨0, by omega, rfl, rfl⟩
  case round =>
    obtain ⟨k, hk, rfl, hf⟩ := hrel
    by_cases hlt : k < 12
    · obtain ⟨j, hj⟩ : ∃ j, 12 - k = j + 1 := ⟨11 - k, by omega⟩
      by_cases hc : ((Mill.builtWord ((k : Int) + 1)).toList == s.toList) = true
      · have HF : Hid (Mill.taken s = true) := by rw [hj, Mill.builtIn, hc] at hf; rw [Hid, HT.out, ← hf]; rfl
        clear hf hj
        go_wp2_with (go_at_call 31; refine (l1BuiltWord_any _ _).mono ?_; rintro e w' ⟨rfl, rfl⟩)
        go_ret
        exact ⟨Mill.ret_bool HF.out.symm, Below.refl _ _⟩
      · have hc' : ((Mill.builtWord ((k : Int) + 1)).toList == s.toList) = false := by simpa using hc
        have HF : Hid (Mill.builtIn s (12 - (k + 1)) ((k : Int) + 1 + 1) = Mill.builtIn s 12 1) := by
          rw [hj, Mill.builtIn, hc'] at hf
          rw [show 12 - (k + 1) = j by omega]; exact hf
        clear hf hj hc
        go_wp2_with (go_at_call 31; refine (l1BuiltWord_any _ _).mono ?_; rintro e w' ⟨rfl, rfl⟩)
        go_round
        case rel => exact ⟨k + 1, by omega, by go_num, by rw [show ((k + 1 : Nat) : Int) + 1 = (k : Int) + 1 + 1 by omega]; exact HF.out⟩
        case measure => simp [intOf]; omega
    · have h0 : k = 12 := by omega
      subst h0
      have HF : Hid (Mill.taken s = Mill.plainWords.any (fun p => p == s.toList)) := by
        rw [Hid, HT.out, ← hf]; rfl
      clear hf HT
      have hcell := fun k p => Mill.plain_cell w k p
      go_wp2_with (go_at_call 32; refine (l1Plain_any _).mono ?_; rintro e w' ⟨rfl, rfl⟩)
      go_loop [7] (fun t => ∃ k : Nat, k ≤ 13 ∧ t = .int .i64 (k : Int) ∧ (Mill.plainWords.drop k).any (fun p => p == s.toList) = Mill.plainWords.any (fun p => p == s.toList)) (fun t => 13 - (intOf t).toNat)
      case atStart => exact ⟨0, by omega, rfl, rfl⟩
      case round =>
        obtain ⟨k, hk, rfl, hf⟩ := hrel
        by_cases hlt : k < 13
        · have hlt2 : k < Mill.plainWords.length := hlt
          have hp : Mill.plainWords[k]? = some Mill.plainWords[k] := List.getElem?_eq_getElem hlt2
          have hd : Mill.plainWords.drop k = Mill.plainWords[k] :: Mill.plainWords.drop (k + 1) := List.drop_eq_getElem_cons hlt2
          generalize Mill.plainWords[k] = p at *
          have hcl := hcell k p hp
          clear hcell hp
          rw [hd, List.any_cons] at hf
          have hsl : (⟨p.toArray⟩ : ByteArray).toList = p := by rw [ByteArray.toList_eq]
          by_cases hc : (p == s.toList) = true
          · have HF2 : Hid (Mill.taken s = true) := by rw [hc] at hf; rw [Hid, HF.out, ← hf]; rfl
            clear hf hd
            simp only [Mill.strOf] at hcl
            go_wp2
            go_ret
            exact ⟨Mill.ret_bool HF2.out.symm, (Below.refl _ _).alloc (Nat.le_refl _) _⟩
          · have hc' : (p == s.toList) = false := by simpa using hc
            have HF2 : Hid ((Mill.plainWords.drop (k + 1)).any (fun p => p == s.toList) = Mill.plainWords.any (fun p => p == s.toList)) := by rw [hc'] at hf; exact hf
            clear hf hd hc
            simp only [Mill.strOf] at hcl
            go_wp2
            go_round
            case rel => exact ⟨k + 1, by omega, by go_num, HF2.out⟩
            case measure => simp [intOf]; omega
        · have h0 : k = 13 := by omega
          subst h0
          have HF2 : Hid (Mill.taken s = false) := by rw [Hid, HF.out, ← hf]; rfl
          clear hf hcell
          go_wp2
          go_ret
          exact ⟨Mill.ret_bool HF2.out.symm, (Below.refl _ _).alloc (Nat.le_refl _) _⟩

end Go.Proofs.YticjcabnnjhbgaaDoor
