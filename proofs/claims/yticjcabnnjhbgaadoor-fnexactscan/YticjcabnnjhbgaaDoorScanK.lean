import Derived.Test.YticjcabnnjhbgaaDoorScanJ
namespace Go.Proofs.YticjcabnnjhbgaaDoor
open Go.RowKit

theorem Mill.scanL_gap (f i : Nat) (b : UInt8) (r : List UInt8) (acc : List (Mill.Piece × Nat)) (h : b = 32 ∨ b = 10) : Mill.scanL (f + 1) (b :: r) i acc = Mill.scanL f r (i + 1) acc := by rw [Mill.scanL, if_pos h]
theorem Mill.scanL_rem (f i : Nat) (b : UInt8) (r : List UInt8) (acc : List (Mill.Piece × Nat)) (h : ¬ (b = 32 ∨ b = 10)) (h2 : b = 35) : Mill.scanL (f + 1) (b :: r) i acc = Mill.scanL f ((b :: r).drop (Mill.rem (b :: r))) (i + Mill.rem (b :: r)) acc := by rw [Mill.scanL, if_neg h, if_pos h2]
theorem Mill.scanL_bad (f i : Nat) (b : UInt8) (r : List UInt8) (acc : List (Mill.Piece × Nat)) (h : ¬ (b = 32 ∨ b = 10)) (h2 : b ≠ 35) (h3 : (Mill.one (b :: r)).code ≠ 0) : Mill.scanL (f + 1) (b :: r) i acc = ([], (Mill.one (b :: r)).code, i) := by rw [Mill.scanL, if_neg h, if_neg h2, if_pos h3]
theorem Mill.scanL_tok (f i : Nat) (b : UInt8) (r : List UInt8) (acc : List (Mill.Piece × Nat)) (h : ¬ (b = 32 ∨ b = 10)) (h2 : b ≠ 35) (h3 : (Mill.one (b :: r)).code = 0) : Mill.scanL (f + 1) (b :: r) i acc = Mill.scanL f ((b :: r).drop (Mill.one (b :: r)).size) (i + (Mill.one (b :: r)).size) (acc ++ [(Mill.one (b :: r), i)]) := by rw [Mill.scanL, if_neg h, if_neg h2, if_neg (by simpa using h3)]
theorem Mill.scanL_nil (f i : Nat) (acc : List (Mill.Piece × Nat)) : Mill.scanL f [] i acc = (acc, 0, 0) := by cases f <;> rfl

def Mill.remN (s : ByteArray) (a : Nat) : Nat := Mill.rem (s.data.toList.drop a)
theorem Mill.remN_le (s : ByteArray) (a : Nat) : Mill.remN s a ≤ s.size - a := by
  have := Mill.tw_le Mill.notNl (s.data.toList.drop a); simpa [Mill.remN, Mill.rem] using this
theorem Mill.rem_step (s : ByteArray) (a k : Nat) (h : k < s.size) (ha : a ≤ k) (hk : k - a ≤ Mill.remN s a) (ht : ((s[k].toNat : Int) != 10) = true) : k + 1 - a ≤ Mill.remN s a := by
  have := Mill.tw_step Mill.notNl (s.data.toList.drop a) (k - a) (by simp; omega) hk (by
    rw [List.getElem_drop]
    have e : a + (k - a) = k := by omega
    simp only [e]
    have hne := Mill.byte_ne s[k] 10 (by simpa [bne] using ht)
    simp [Mill.notNl]; exact hne)
  have e : k + 1 - a = k - a + 1 := by omega
  rw [e]; exact this
theorem Mill.rem_stop (s : ByteArray) (a k : Nat) (ha : a ≤ k) (hk : k - a ≤ Mill.remN s a) (ht : ∀ h : k < s.size, ((s[k].toNat : Int) != 10) = false) : k - a = Mill.remN s a :=
  Mill.tw_stop Mill.notNl (s.data.toList.drop a) (k - a) hk (fun h => by
    rw [List.getElem_drop]
    have e : a + (k - a) = k := by omega
    have hk : k < s.size := by simp at h; omega
    simp only [e]
    have heq := Mill.byte_eq s[k] 10 (by simpa [bne] using ht hk)
    simp [Mill.notNl]; exact heq)

def Mill.ScanPost (w : World) (r : List (Mill.Piece × Nat) × Int × Nat) (e : Ending) (w' : World) : Prop :=
  ∃ v, e = .returned (.tuple #[v, Mill.faultV r.2.1 r.2.2]) ∧ w'.ownsRow w.heap.size 32 5 v r.1.length (Mill.tokCs r.1) ∧ Below w.heap.size w w'

set_option maxRecDepth 100000 in
set_option maxHeartbeats 1000000 in
theorem specScan_long (s : ByteArray) (w : World) (hl : 12000 < s.size) :
    Calls Tryd.prog 4 #[.string s] w fun e w' => Mill.ScanPost w (Mill.scan s) e w' := by
  have HS : Hid (Mill.scan s = ([], 1, 0)) := by rw [Hid, Mill.scan, if_pos hl]
  have hl' : (12000 : Int) < (s.size : Int) := by omega
  go_enter Tryd.func4, Tryd.ntmps4
  go_wp2
  refine bodyPost_ret (v := .tuple #[.slice (some ⟨w.heap.size + 1, 0, none⟩) 0 0, .agg #[.int .i64 1, .int .i64 0]]) (by simp [results, Tryd.results4, go_sem]) rfl ?_
  rw [HS.out]
  exact ⟨_, rfl, by
    have h := World.ownsRow_made (base := w.heap.size) (e := 32) (size := 5) (w.alloc (.cells #[.int .i64 1, .int .i64 0] 24)) #[] 0 (by simp) (by decide) rfl
    simpa [Mill.tokCs] using h, ((Below.refl _ w).alloc (Nat.le_refl _) _).alloc (by simp) _⟩

theorem Mill.fault_cells {w wr : World} (hb : Below (w.heap.size + 1) (w.alloc (.cells #[.int .i64 0, .int .i64 0] 24)) wr) :
    wr.cell? ⟨w.heap.size, 0, none⟩ = some (.int .i64 0) ∧ wr.cell? ⟨w.heap.size, 1, none⟩ = some (.int .i64 0) ∧ wr.frozen? ⟨w.heap.size, 0, none⟩ = false ∧ wr.frozen? ⟨w.heap.size, 1, none⟩ = false ∧ w.heap.size < wr.heap.size := by
  refine ⟨?_, ?_, ?_, ?_, ?_⟩
  · rw [hb.cell (p := ⟨w.heap.size, 0, none⟩) (by simp)]; simp [go_sem]
  · rw [hb.cell (p := ⟨w.heap.size, 1, none⟩) (by simp)]; simp [go_sem]
  · rw [hb.frozen (p := ⟨w.heap.size, 0, none⟩) (by simp)]; simp [go_sem]
  · rw [hb.frozen (p := ⟨w.heap.size, 1, none⟩) (by simp)]; simp [go_sem]
  · have := hb.size; simp at this; omega

theorem Mill.cell5_new (w : World) (o : Obj) (a b c d e : Value) (t : TypeId) (j : Nat) (u : Value) (h : [a, b, c, d, e][j]? = some u) : ((w.alloc o).alloc (.cells #[a, b, c, d, e] t)).cell? ((⟨w.heap.size + 1, 0, none⟩ : Addr).add j) = some u := by
  have := Mill.cell_new (w.alloc o) #[a, b, c, d, e] t j u h
  simpa using this
theorem Mill.own_mono {w : World} {B B' e size n : Nat} {v : Value} {xs : List Value} (h : w.ownsRow B e size v n xs) (hB : B' ≤ B) : w.ownsRow B' e size v n xs := by
  refine ⟨h.1, ?_⟩
  rcases h.2 with hn | ⟨g, cap, cur, hv, hg, rest⟩
  · exact .inl hn
  · exact .inr ⟨g, cap, cur, hv, by omega, rest⟩
theorem Mill.own_set2 {B : Nat} {wr : World} {e size n : Nat} {v : Value} {xs : List Value} (h : wr.ownsRow (B + 1) e size v n xs) (c0 c1 : Value) :
    ((wr.setCell ⟨B, 0, none⟩ c0).setCell ⟨B, 1, none⟩ c1).ownsRow B e size v n xs :=
  Mill.own_mono (ownsRow_setCell_below (ownsRow_setCell_below h (a := ⟨B, 0, none⟩) (by simp) _) (a := ⟨B, 1, none⟩) (by simp) _) (by omega)
theorem Mill.below_set2 {w wr : World} {o : Obj} (hb : Below (w.heap.size + 1) (w.alloc o) wr) (c0 c1 : Value) :
    Below w.heap.size w ((wr.setCell ⟨w.heap.size, 0, none⟩ c0).setCell ⟨w.heap.size, 1, none⟩ c1) :=
  ((((Below.refl _ w).alloc (Nat.le_refl _) _).trans (hb.mono (by omega))).setCell (p := ⟨w.heap.size, 0, none⟩) (Nat.le_refl _) _).setCell (p := ⟨w.heap.size, 1, none⟩) (Nat.le_refl _) _

set_option maxRecDepth 100000 in
set_option maxHeartbeats 2000000 in
theorem specScan_short (s : ByteArray) (w : World) (hl : s.size ≤ 12000) :
    Calls Tryd.prog 4 #[.string s] w fun e w' => Mill.ScanPost w (Mill.scan s) e w' := by
  obtain ⟨i0, hi, hz0, hz1, hz2⟩ := info_parts Tryd.infoTok
  have HS : Hid (Mill.scan s = Mill.scanL (s.size + 1) s.data.toList 0 []) := by rw [Hid, Mill.scan, if_neg (by omega)]
  go_enter Tryd.func4, Tryd.ntmps4
  go_wp2
  go_loopw [4, 5, 6, 7, 8] (fun v t _ _ _ wr => ∃ (i f : Nat) (acc : List (Mill.Piece × Nat)), i ≤ s.size ∧ acc.length ≤ i ∧ s.size - i < f ∧ t = .int .i64 (i : Int) ∧ wr.ownsRow (w.heap.size + 1) 32 5 v acc.length (Mill.tokCs acc) ∧ Below (w.heap.size + 1) (w.alloc (.cells #[.int .i64 0, .int .i64 0] 24)) wr ∧ Mill.scanL f (s.data.toList.drop i) i acc = Mill.scan s) (fun _ t _ _ _ _ => s.size - (intOf t).toNat)
  case atStart =>
    refine ⟨0, s.size + 1, [], by omega, by simp, by omega, rfl, ?_, (Below.refl _ _).alloc (by simp) _, by rw [HS.out]; rfl⟩
    have h := World.ownsRow_made (base := w.heap.size + 1) (e := 32) (size := 5) (w.alloc (.cells #[.int .i64 0, .int .i64 0] 24)) #[] 0 (by simp) (by decide) rfl
    simpa [Mill.tokCs] using h
  case round =>
    obtain ⟨i, f, acc, hi1, hi2, hf, rfl, hown, hbw, hu⟩ := hrel
    obtain ⟨hc0, hc1, hf0, hf1, hsz⟩ := Mill.fault_cells hbw
    clear HS
    obtain ⟨f, rfl⟩ : ∃ f', f = f' + 1 := ⟨f - 1, by omega⟩
    by_cases hlt : i < s.size
    · have hdc := Mill.drop_cons s i hlt
      rw [hdc] at hu
      cases h32 : ((s[i].toNat : Int) == 32) with
      | true =>
        have HU : Hid (Mill.scanL f (s.data.toList.drop (i + 1)) (i + 1) acc = Mill.scan s) := by
          rw [Mill.scanL_gap _ _ _ _ _ (.inl (Mill.byte_eq _ 32 h32))] at hu; exact hu
        clear hu hdc
        go_wp2
        go_roundw
        case rel => exact ⟨i + 1, f, acc, by omega, by omega, by omega, by go_num, hown, hbw, HU.out⟩
        case measure => simp [intOf]; omega
      | false =>
        cases h10 : ((s[i].toNat : Int) == 10) with
        | true =>
          have HU : Hid (Mill.scanL f (s.data.toList.drop (i + 1)) (i + 1) acc = Mill.scan s) := by
            rw [Mill.scanL_gap _ _ _ _ _ (.inr (Mill.byte_eq _ 10 h10))] at hu; exact hu
          clear hu hdc
          go_wp2
          go_roundw
          case rel => exact ⟨i + 1, f, acc, by omega, by omega, by omega, by go_num, hown, hbw, HU.out⟩
          case measure => simp [intOf]; omega
        | false =>
          have hng : ¬ (s[i] = 32 ∨ s[i] = 10) := by
            rintro (h | h)
            · exact Mill.byte_ne _ 32 h32 h
            · exact Mill.byte_ne _ 10 h10 h
          cases h35 : ((s[i].toNat : Int) == 35) with
          | true =>
            have hrm := Mill.remN_le s i
            have hr1 : 1 ≤ Mill.remN s i := by
              have := Mill.rem_step s i i hlt (Nat.le_refl _) (by omega) (by simp at h35 ⊢; omega)
              omega
            have HU : Hid (Mill.scanL f (s.data.toList.drop (i + Mill.remN s i)) (i + Mill.remN s i) acc = Mill.scan s) := by
              rw [Mill.scanL_rem _ _ _ _ _ hng (Mill.byte_eq _ 35 h35), ← hdc, List.drop_drop] at hu; exact hu
            clear hu hdc hng
            go_wp2
            go_loop [5] (fun t => ∃ k : Nat, i ≤ k ∧ k ≤ s.size ∧ k - i ≤ Mill.remN s i ∧ t = .int .i64 (k : Int)) (fun t => s.size - (intOf t).toNat)
            case atStart => exact ⟨i, by omega, by omega, by omega, rfl⟩
            case round =>
              obtain ⟨k, hk0, hks, hkw, rfl⟩ := hrel
              by_cases hgo : ∃ h : k < s.size, ((s[k].toNat : Int) != 10) = true
              · obtain ⟨hlk, ht⟩ := hgo
                have hk1 := Mill.rem_step s i k hlk hk0 hkw ht
                go_wp2
                go_round
                case rel => exact ⟨k + 1, by omega, by omega, hk1, by go_num⟩
                case measure => simp [intOf]; omega
              · have hnt : ∀ h : k < s.size, ((s[k].toNat : Int) != 10) = false := fun h => by
                  cases hc : ((s[k].toNat : Int) != 10) with
                  | true => exact absurd ⟨h, hc⟩ hgo
                  | false => rfl
                have hkl := Mill.rem_stop s i k hk0 hkw hnt
                have hke : i + Mill.remN s i = k := by omega
                rw [hke] at HU
                have hki : i < k := by omega
                clear hkl hgo hkw hke
                by_cases hlk : k < s.size
                · have ht := hnt hlk
                  clear hnt
                  go_wp2
                  go_roundw
                  case rel => exact ⟨k, f, acc, by omega, by omega, by omega, rfl, hown, hbw, HU.out⟩
                  case measure => simp [intOf]; omega
                · clear hnt
                  go_wp2
                  go_roundw
                  case rel => exact ⟨k, f, acc, by omega, by omega, by omega, rfl, hown, hbw, HU.out⟩
                  case measure => simp [intOf]; omega
          | false =>
            have hn35 := Mill.byte_ne _ 35 h35
            by_cases hcd : (Mill.one (s.data.toList.drop i)).code = 0
            · have hp1 := Mill.one_size s[i] (s.data.toList.drop (i + 1)) (by rw [← hdc]; exact hcd)
              rw [← hdc] at hp1
              have hp2 : (s.data.toList.drop i).length = s.size - i := by simp
              have HU : Hid (Mill.scanL f (s.data.toList.drop (i + (Mill.one (s.data.toList.drop i)).size)) (i + (Mill.one (s.data.toList.drop i)).size) (acc ++ [(Mill.one (s.data.toList.drop i), i)]) = Mill.scan s) := by
                rw [hdc] at hcd
                rw [Mill.scanL_tok _ _ _ _ _ hng hn35 hcd, ← hdc, List.drop_drop] at hu; exact hu
              have HO : Hid (Mill.oneVal (Mill.one (s.data.toList.drop i)) i = .tuple #[.agg #[.int .i64 (Mill.one (s.data.toList.drop i)).kind, .string (Mill.ba (Mill.one (s.data.toList.drop i)).text), .int .i64 (Mill.one (s.data.toList.drop i)).type, .int .i64 (Mill.one (s.data.toList.drop i)).n, .int .i64 (i : Int)], .int .i64 ((i : Int) + ((Mill.one (s.data.toList.drop i)).size : Int)), .int .i64 0]) := by
                rw [Hid, Mill.oneVal, if_pos hcd]; rfl
              clear hu hng hn35 hdc hcd
              obtain ⟨p, HP⟩ : ∃ p, Hid (Mill.one (s.data.toList.drop i) = p) := ⟨_, rfl⟩
              rw [HP.out] at HU HO hp1
              obtain ⟨hp3, hp4⟩ := hp1
              rw [hp2] at hp4
              clear hp2
              have HT : Hid (Mill.tokC (p, i) = [.int .i64 p.kind, .string (Mill.ba p.text), .int .i64 p.type, .int .i64 p.n, .int .i64 (i : Int)]) := rfl
              generalize hK : p.kind = K at HO HT
              generalize hT : Mill.ba p.text = X at HO HT
              generalize hY : p.type = Y at HO HT
              generalize hN : p.n = N at HO HT
              clear hK hT hY hN
              go_wp2_with (first
                | (go_at_call 10; refine (l1One_any s i _ hlt (by omega)).mono ?_; rintro e w1 ⟨rfl, hb⟩; rw [HP.out, HO.out]; have hz := hb.size; have hown1 := Mill.own_below hown hb; have hbw1 := hbw.trans (hb.mono (B' := w.heap.size + 1) (by omega)))
                | (at_builtin; refine wpList_append_own _ rfl _ _ 22 rfl (w.heap.size + 1) 32 i0 (.agg #[.int .i64 0, .string ByteArray.empty, .int .i64 0, .int .i64 0, .int .i64 0]) 5 48 Tryd.underlying22 hi hz0 hz1 hz2 rfl (by decide) _ _ _ rfl ((hown1.alloc _).alloc _) ⟨w1.heap.size + 1, 0, none⟩ 1 1 [.int .i64 K, .string X, .int .i64 Y, .int .i64 N, .int .i64 (i : Int)] rfl rfl (Mill.cell5_new _ _ _ _ _ _ _ _) (fun x hx => by simp at hx; rcases hx with rfl | rfl | rfl | rfl | rfl <;> rfl) (by unfold maxLen; omega) (by omega) (by simp; omega) ?_; intro v' w3 hown' hgrow3 hnil3))
              have hb3 : Below (w.heap.size + 1) (w.alloc (.cells #[.int .i64 0, .int .i64 0] 24)) w3 := Below.grown ((hbw1.alloc (by omega) _).alloc (by simp; omega) _) hgrow3 (by simp; omega) (fun j hj => (hown.lt _ hj).1)
              go_roundw
              case rel => exact ⟨i + p.size, f, acc ++ [(p, i)], by omega, by simp; omega, by omega, by go_num, by rw [Mill.tokCs_snoc, HT.out]; simpa using hown', hb3, HU.out⟩
              case measure => simp [intOf]; omega
            · have HU : Hid (Mill.scan s = ([], (Mill.one (s.data.toList.drop i)).code, i)) := by
                rw [← hdc] at hu
                rw [hdc] at hu hcd
                rw [Mill.scanL_bad _ _ _ _ _ hng hn35 hcd, ← hdc] at hu; exact hu.symm
              have HO : Hid (Mill.oneVal (Mill.one (s.data.toList.drop i)) i = .tuple #[.agg #[.int .i64 0, .string ⟨#[]⟩, .int .i64 0, .int .i64 0, .int .i64 0], .int .i64 (i : Int), .int .i64 (Mill.one (s.data.toList.drop i)).code]) := by
                rw [Hid, Mill.oneVal, if_neg hcd]; rfl
              clear hu hng hn35 hdc
              obtain ⟨c, hc⟩ : ∃ c, c = (Mill.one (s.data.toList.drop i)).code := ⟨_, rfl⟩
              rw [← hc] at HU HO hcd
              have hcd' : (c != 0) = true := by simpa using hcd
              clear hc hcd
              go_wp2_with (go_at_call 10; refine (l1One_any s i _ hlt (by omega)).mono ?_; rintro e w1 ⟨rfl, hb⟩; rw [HO.out]; obtain ⟨hd0, hd1, hg0, hg1, hz⟩ := Mill.fault_cells (hbw.trans (hb.mono (by omega))))
              refine bodyPost_ret (v := .tuple #[.slice (some ⟨w1.heap.size + 1, 0, none⟩) 0 0, .agg #[.int .i64 c, .int .i64 (i : Int)]]) (by simp [results, Tryd.results4, go_sem, hd0, hd1, hz]) rfl ?_
              rw [HU.out]
              have hbw1 := hbw.trans (hb.mono (B' := w.heap.size + 1) (by omega))
              refine ⟨_, rfl, ?_, ((Mill.below_set2 hbw1 _ _).alloc (by simp; omega) _).alloc (by simp; omega) _⟩
              have h := World.ownsRow_made (base := w.heap.size) (e := 32) (size := 5) (((w1.setCell ⟨w.heap.size, 0, none⟩ (.int .i64 c)).setCell ⟨w.heap.size, 1, none⟩ (.int .i64 (i : Int))).alloc (.cells #[.int .i64 0, .string ⟨#[]⟩, .int .i64 0, .int .i64 0, .int .i64 0] 32)) #[] 0 (by simp; omega) (by decide) rfl
              simpa [Mill.tokCs] using h
    · have HU : Hid (Mill.scan s = (acc, 0, 0)) := by
        rw [List.drop_of_length_le (by simp; omega), Mill.scanL_nil] at hu; exact hu.symm
      clear hu
      go_wp2
      refine bodyPost_ret (v := .tuple #[u4, .agg #[.int .i64 0, .int .i64 0]]) (by simp [results, Tryd.results4, go_sem, hc0, hc1]) rfl ?_
      rw [HU.out]
      exact ⟨u4, rfl, Mill.own_set2 hown _ _, Mill.below_set2 hbw _ _⟩

theorem specScan_any (s : ByteArray) (w : World) :
    Calls Tryd.prog 4 #[.string s] w fun e w' => Mill.ScanPost w (Mill.scan s) e w' := by
  by_cases h : 12000 < s.size
  · exact specScan_long s w h
  · exact specScan_short s w (by omega)

end Go.Proofs.YticjcabnnjhbgaaDoor
