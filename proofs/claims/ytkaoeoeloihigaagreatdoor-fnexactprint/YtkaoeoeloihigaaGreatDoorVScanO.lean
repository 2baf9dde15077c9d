import Derived.Test.YtkaoeoeloihigaaGreatDoorVScanL
import Derived.Maps.OwnSet
import Derived.Lib.OthersKept
import Derived.Laws.RangeAny
namespace Go.Proofs.YtkaoeoeloihigaaGreatDoor
open Go.RowKit Go.Maps Go.WideMaps

def Mill.wordList : List (List UInt8 × Int) := [([98, 111, 111, 108], 1), ([116, 101, 120, 116], 2), ([117, 56], 3), ([117, 49, 54], 4), ([117, 51, 50], 5), ([117, 54, 52], 6), ([105, 56], 7), ([105, 49, 54], 8), ([105, 51, 50], 9), ([105, 54, 52], 10), ([102, 110], 0), ([108, 101, 116], 0), ([105, 102], 0), ([101, 108, 115, 101], 0), ([119, 104, 105, 108, 101], 0), ([98, 114, 101, 97, 107], 0), ([99, 111, 110, 116, 105, 110, 117, 101], 0), ([114, 101, 116, 117, 114, 110], 0), ([102, 97, 105, 108], 0), ([119, 114, 105, 116, 101], 0), ([115, 97, 121], 0), ([116, 114, 117, 101], 0), ([102, 97, 108, 115, 101], 0), ([114, 101, 97, 100], 0), ([104, 97, 115], 0), ([108, 105, 115, 116], 0), ([116, 111, 111, 108], 0), ([97, 114, 103], 0), ([108, 101, 110], 0), ([97, 116], 0), ([99, 117, 116], 0), ([102, 105, 110, 100], 0), ([99, 104, 114], 0), ([100, 101, 99], 0), ([110, 117, 109], 0)]
def Mill.wordsD : DataW Unit := Mill.wordList.foldl (fun D p => D.put (.string p.1) (.lit (.int .i64 p.2))) (.map [])

theorem Mill.wpList_insert_own {H : Type} {P : Program} (w : World) {ops : Array Oper} {rest : List Oper} {o : Oper} {a : Act} {Q : Exit → Act → World → Prop}
    (hg : o.guard = none) (m x v : Operand) (t : TypeId) (hop : o.op = Op.insert t m x v)
    (k e : TypeId) (K : Keyed P k) (ht : P.underlying t = some (.map k e)) (R : Value → Option (DataW H × List MemPlace)) (b n : Nat) (D : DataW H)
    (hm : a.eval m = .map (some b)) (hown : w.ownsMap P k R b n D) (hn : n < maxLen) (key val : Value) (kl : Lit) (hx : a.eval x = key) (hv : a.eval v = val) (hkey : keyOf P k key = some kl)
    (d : DataW H) (ps : List MemPlace) (hval : R val = some (d, ps))
    (hK : ∀ w', w'.ownsMap P k R b (n + 1) (D.put kl d) → w.grownBy w' (some b) → wpList P ops Q rest (a.put o.dst undef) w') :
    wpList P ops Q (o :: rest) a w := by
  refine wpList_plain hg fun K' hK' => ?_
  obtain ⟨w', hrun, r1, r2⟩ := hown.update K ht hn hkey hval
  unfold Oper.wp
  simp [execOp, hop, hm, hx, hv, hrun, Result.andThen]
  exact hK' _ _ (hK w' r1 r2)

theorem Tryz.lawStr : Keyed Tryz.prog 9 := string_keyed Tryz.underlying9
theorem Tryz.zeroInt (w : World) : (zeroValue 3).run Tryz.prog w = .ok (.int .i64 0) w := by kernel_rfl

theorem Mill.grow {B : Nat} {w W W' : World} (h : Below B w W) (hs : B < W.heap.size) (g : W.grownBy W' (some B)) : Below B w W' ∧ B < W'.heap.size :=
  ⟨h.grown g (by omega) (fun j hj => by cases hj; exact Nat.le_refl _), by have := g.size; omega⟩

set_option maxRecDepth 100000 in
set_option maxHeartbeats 2000000 in
theorem takenWords_any (w : World) :
    Calls Tryz.prog 25 #[] w fun e w' => e = .returned (.map (some w.heap.size)) ∧ w'.ownsMap Tryz.prog 9 (plainElem Tryz.prog 3) w.heap.size 35 Mill.wordsD ∧ Below w.heap.size w w' := by
  have hmm := @run_makeMap Tryz.prog
  have hM : (w.alloc (.map #[] 0)).ownsMap Tryz.prog 9 (plainElem (H := Unit) Tryz.prog 3) w.heap.size 0 (.map []) := World.ownsMap_made w _ _ _
  have hB : Below w.heap.size w (w.alloc (.map #[] 0)) ∧ w.heap.size < (w.alloc (.map #[] 0)).heap.size := ⟨(Below.refl _ _).alloc (Nat.le_refl _) _, by simp⟩
  go_enter Tryz.func25, Tryz.ntmps25
  go_wp2_with (refine Mill.wpList_insert_own _ rfl _ _ _ 73 rfl 9 3 Tryz.lawStr Tryz.underlying73 _ w.heap.size _ _ rfl hM (by decide) _ _ _ rfl rfl (keyOf_string_mk Tryz.underlying9 (by decide)) _ [] (plainElem_int Tryz.underlying3 (by decide)) ?_; intro w1 hM1 hG1; replace hM := hM1; replace hB := Mill.grow hB.1 hB.2 hG1; clear hM1 hG1)
  go_ret
  exact ⟨rfl, hM, hB.1⟩
end Go.Proofs.YtkaoeoeloihigaaGreatDoor

namespace Go.Proofs.YtkaoeoeloihigaaGreatDoor
open Go.RowKit Go.Maps Go.WideMaps

theorem Mill.isMap_put (D : DataW Unit) (h : IsMap D) (k : Lit) (d : DataW Unit) : IsMap (D.put k d) := by
  obtain ⟨es, rfl⟩ := h; exact ⟨_, rfl⟩
theorem Mill.fold_at (k : List UInt8) : ∀ (l : List (List UInt8 × Int)) (D : DataW Unit) (r : Int), IsMap D → D.atKey (.string k) (.lit (.int .i64 0)) = .lit (.int .i64 r) →
    (l.foldl (fun D p => D.put (.string p.1) (.lit (.int .i64 p.2))) D).atKey (.string k) (.lit (.int .i64 0)) = .lit (.int .i64 (l.foldl (fun r p => if p.1 = k then p.2 else r) r))
  | [], _, _, _, h => h
  | p :: l, D, r, hD, h => by
    rw [List.foldl_cons, List.foldl_cons]
    refine Mill.fold_at k l _ _ (Mill.isMap_put D hD _ _) ?_
    by_cases hp : p.1 = k
    · rw [if_pos hp, hp, atKey_put_same hD (by trivial)]
    · rw [if_neg hp, atKey_put_other (by intro e; exact hp (by injection e with e1; exact e1.symm)), h]
theorem Mill.fold_has (k : List UInt8) : ∀ (l : List (List UInt8 × Int)) (D : DataW Unit) (r : Bool), IsMap D → Maps.has D (.string k) = r →
    Maps.has (l.foldl (fun D p => D.put (.string p.1) (.lit (.int .i64 p.2))) D) (.string k) = l.foldl (fun r p => if p.1 = k then true else r) r
  | [], _, _, _, h => h
  | p :: l, D, r, hD, h => by
    rw [List.foldl_cons, List.foldl_cons]
    refine Mill.fold_has k l _ _ (Mill.isMap_put D hD _ _) ?_
    by_cases hp : p.1 = k
    · rw [if_pos hp, hp, has_put_same hD (by trivial)]
    · rw [if_neg hp, has_put_other (by intro e; exact hp (by injection e with e1; exact e1.symm)), h]

theorem Mill.typeOf_ba (k : List UInt8) : Mill.typeOf (Mill.ba k) = if k = [98, 111, 111, 108] then 1 else if k = [116, 101, 120, 116] then 2 else if k = [117, 56] then 3 else if k = [117, 49, 54] then 4 else if k = [117, 51, 50] then 5 else if k = [117, 54, 52] then 6 else if k = [105, 56] then 7 else if k = [105, 49, 54] then 8 else if k = [105, 51, 50] then 9 else if k = [105, 54, 52] then 10 else 0 := by
  have hk : (Mill.ba k).toList = k := by rw [ByteArray.toList_eq]; rfl
  have he : ∀ m : List UInt8, ((⟨m.toArray⟩ : ByteArray).toList == (Mill.ba k).toList) = true ↔ k = m := fun m => by rw [hk, ByteArray.toList_eq]; show (m == k) = true ↔ k = m; rw [beq_iff_eq]; exact eq_comm
  unfold Mill.typeOf
  simp only [Mill.typeFrom]
  rw [show Mill.typeWord 1 = ⟨[98, 111, 111, 108].toArray⟩ from rfl]
  rw [show Mill.typeWord (1 + 1) = ⟨[116, 101, 120, 116].toArray⟩ from rfl]
  rw [show Mill.typeWord (1 + 1 + 1) = ⟨[117, 56].toArray⟩ from rfl]
  rw [show Mill.typeWord (1 + 1 + 1 + 1) = ⟨[117, 49, 54].toArray⟩ from rfl]
  rw [show Mill.typeWord (1 + 1 + 1 + 1 + 1) = ⟨[117, 51, 50].toArray⟩ from rfl]
  rw [show Mill.typeWord (1 + 1 + 1 + 1 + 1 + 1) = ⟨[117, 54, 52].toArray⟩ from rfl]
  rw [show Mill.typeWord (1 + 1 + 1 + 1 + 1 + 1 + 1) = ⟨[105, 56].toArray⟩ from rfl]
  rw [show Mill.typeWord (1 + 1 + 1 + 1 + 1 + 1 + 1 + 1) = ⟨[105, 49, 54].toArray⟩ from rfl]
  rw [show Mill.typeWord (1 + 1 + 1 + 1 + 1 + 1 + 1 + 1 + 1) = ⟨[105, 51, 50].toArray⟩ from rfl]
  rw [show Mill.typeWord (1 + 1 + 1 + 1 + 1 + 1 + 1 + 1 + 1 + 1) = ⟨[105, 54, 52].toArray⟩ from rfl]
  simp only [he]
  rfl
theorem Mill.typeOf_mem (k : List UInt8) : Mill.typeOf (Mill.ba k) ≠ 0 ↔ k ∈ Mill.typeWords := by
  rw [Mill.typeOf_ba]
  simp only [Mill.typeWords, List.mem_cons, List.not_mem_nil, or_false]
  by_cases h0 : k = [98, 111, 111, 108]
  · simp [h0]
  by_cases h1 : k = [116, 101, 120, 116]
  · simp [h1]
  by_cases h2 : k = [117, 56]
  · simp [h2]
  by_cases h3 : k = [117, 49, 54]
  · simp [h3]
  by_cases h4 : k = [117, 51, 50]
  · simp [h4]
  by_cases h5 : k = [117, 54, 52]
  · simp [h5]
  by_cases h6 : k = [105, 56]
  · simp [h6]
  by_cases h7 : k = [105, 49, 54]
  · simp [h7]
  by_cases h8 : k = [105, 51, 50]
  · simp [h8]
  by_cases h9 : k = [105, 54, 52]
  · simp [h9]
  simp [h0, h1, h2, h3, h4, h5, h6, h7, h8, h9]
theorem Mill.builtIn_mem (k : List UInt8) : Mill.builtIn (Mill.ba k) 12 1 = true ↔ k ∈ Mill.builtWords := by
  have hk : (Mill.ba k).toList = k := by rw [ByteArray.toList_eq]; rfl
  have he : ∀ m : List UInt8, ((⟨m.toArray⟩ : ByteArray).toList == (Mill.ba k).toList) = decide (k = m) := fun m => by
    rw [hk, ByteArray.toList_eq]; show (m == k) = decide (k = m)
    rw [Bool.eq_iff_iff]; simp only [beq_iff_eq, decide_eq_true_eq]; exact eq_comm
  simp only [Mill.builtIn]
  rw [show Mill.builtWord 1 = ⟨[114, 101, 97, 100].toArray⟩ from rfl]
  rw [show Mill.builtWord (1 + 1) = ⟨[104, 97, 115].toArray⟩ from rfl]
  rw [show Mill.builtWord (1 + 1 + 1) = ⟨[108, 105, 115, 116].toArray⟩ from rfl]
  rw [show Mill.builtWord (1 + 1 + 1 + 1) = ⟨[116, 111, 111, 108].toArray⟩ from rfl]
  rw [show Mill.builtWord (1 + 1 + 1 + 1 + 1) = ⟨[97, 114, 103].toArray⟩ from rfl]
  rw [show Mill.builtWord (1 + 1 + 1 + 1 + 1 + 1) = ⟨[108, 101, 110].toArray⟩ from rfl]
  rw [show Mill.builtWord (1 + 1 + 1 + 1 + 1 + 1 + 1) = ⟨[97, 116].toArray⟩ from rfl]
  rw [show Mill.builtWord (1 + 1 + 1 + 1 + 1 + 1 + 1 + 1) = ⟨[99, 117, 116].toArray⟩ from rfl]
  rw [show Mill.builtWord (1 + 1 + 1 + 1 + 1 + 1 + 1 + 1 + 1) = ⟨[102, 105, 110, 100].toArray⟩ from rfl]
  rw [show Mill.builtWord (1 + 1 + 1 + 1 + 1 + 1 + 1 + 1 + 1 + 1) = ⟨[99, 104, 114].toArray⟩ from rfl]
  rw [show Mill.builtWord (1 + 1 + 1 + 1 + 1 + 1 + 1 + 1 + 1 + 1 + 1) = ⟨[100, 101, 99].toArray⟩ from rfl]
  rw [show Mill.builtWord (1 + 1 + 1 + 1 + 1 + 1 + 1 + 1 + 1 + 1 + 1 + 1) = ⟨[110, 117, 109].toArray⟩ from rfl]
  simp only [he, Mill.builtWords, Bool.or_eq_true, decide_eq_true_eq, List.mem_cons, List.not_mem_nil, Bool.false_eq_true]
theorem Mill.taken_mem (k : List UInt8) : Mill.taken (Mill.ba k) = true ↔ k ∈ Mill.wordList.map Prod.fst := by
  have hk : (Mill.ba k).toList = k := by rw [ByteArray.toList_eq]; rfl
  have hw : Mill.wordList.map Prod.fst = Mill.typeWords ++ (Mill.plainWords ++ Mill.builtWords) := rfl
  have ha : Mill.plainWords.any (fun p => p == (Mill.ba k).toList) = true ↔ k ∈ Mill.plainWords := by
    rw [hk, List.any_eq_true]
    constructor
    · rintro ⟨x, hx, h⟩; rw [← beq_iff_eq.1 h]; exact hx
    · intro h; exact ⟨k, h, by simp⟩
  have ht : (Mill.typeOf (Mill.ba k) != 0) = true ↔ k ∈ Mill.typeWords := by rw [bne_iff_ne]; exact Mill.typeOf_mem k
  rw [hw, List.mem_append, List.mem_append, Mill.taken, Bool.or_eq_true, Bool.or_eq_true, ht, ha, Mill.builtIn_mem]
  constructor
  · rintro ((h | h) | h)
    · exact .inl h
    · exact .inr (.inr h)
    · exact .inr (.inl h)
  · rintro (h | h | h)
    · exact .inl (.inl h)
    · exact .inr h
    · exact .inl (.inr h)
theorem Mill.fold_any (k : List UInt8) : ∀ (l : List (List UInt8 × Int)) (r : Bool), l.foldl (fun r p => if p.1 = k then true else r) r = true ↔ r = true ∨ k ∈ l.map Prod.fst
  | [], r => by simp
  | p :: l, r => by
    rw [List.foldl_cons, Mill.fold_any k l]
    by_cases hp : p.1 = k
    · simp [hp]
    · rw [if_neg hp]; simp only [List.map_cons, List.mem_cons]
      constructor
      · rintro (h | h)
        · exact .inl h
        · exact .inr (.inr h)
      · rintro (h | h | h)
        · exact .inl h
        · exact absurd h.symm hp
        · exact .inr h
theorem Mill.words_has (k : List UInt8) : Maps.has Mill.wordsD (.string k) = Mill.taken (Mill.ba k) := by
  rw [Mill.wordsD, Mill.fold_has k Mill.wordList (.map []) false ⟨[], rfl⟩ rfl, Bool.eq_iff_iff, Mill.fold_any, Mill.taken_mem]
  simp
theorem Mill.words_at (k : List UInt8) : (Mill.wordsD).atKey (.string k) (.lit (.int .i64 0)) = .lit (.int .i64 (Mill.typeOf (Mill.ba k))) := by
  rw [Mill.wordsD, Mill.fold_at k Mill.wordList (.map []) 0 ⟨[], rfl⟩ rfl, Mill.typeOf_ba]
  congr 2
  simp only [Mill.wordList, List.foldl_cons, List.foldl_nil]
  by_cases h0 : k = [98, 111, 111, 108]
  · subst h0; decide
  by_cases h1 : k = [116, 101, 120, 116]
  · subst h1; decide
  by_cases h2 : k = [117, 56]
  · subst h2; decide
  by_cases h3 : k = [117, 49, 54]
  · subst h3; decide
  by_cases h4 : k = [117, 51, 50]
  · subst h4; decide
  by_cases h5 : k = [117, 54, 52]
  · subst h5; decide
  by_cases h6 : k = [105, 56]
  · subst h6; decide
  by_cases h7 : k = [105, 49, 54]
  · subst h7; decide
  by_cases h8 : k = [105, 51, 50]
  · subst h8; decide
  by_cases h9 : k = [105, 54, 52]
  · subst h9; decide
  have g0 : ¬ [98, 111, 111, 108] = k := fun e => h0 e.symm
  have g1 : ¬ [116, 101, 120, 116] = k := fun e => h1 e.symm
  have g2 : ¬ [117, 56] = k := fun e => h2 e.symm
  have g3 : ¬ [117, 49, 54] = k := fun e => h3 e.symm
  have g4 : ¬ [117, 51, 50] = k := fun e => h4 e.symm
  have g5 : ¬ [117, 54, 52] = k := fun e => h5 e.symm
  have g6 : ¬ [105, 56] = k := fun e => h6 e.symm
  have g7 : ¬ [105, 49, 54] = k := fun e => h7 e.symm
  have g8 : ¬ [105, 51, 50] = k := fun e => h8 e.symm
  have g9 : ¬ [105, 54, 52] = k := fun e => h9 e.symm
  simp only [if_neg h0, if_neg h1, if_neg h2, if_neg h3, if_neg h4, if_neg h5, if_neg h6, if_neg h7, if_neg h8, if_neg h9, if_neg g0, if_neg g1, if_neg g2, if_neg g3, if_neg g4, if_neg g5, if_neg g6, if_neg g7, if_neg g8, if_neg g9, ite_self]

end Go.Proofs.YtkaoeoeloihigaaGreatDoor

namespace Go.Proofs.YtkaoeoeloihigaaGreatDoor
open Go.RowKit

theorem Mill.high_no (r : Int) (h : 128 ≤ r) : Mill.letter r = false ∧ Mill.digit r = false ∧ (r != 95) = true := by
  refine ⟨?_, ?_, ?_⟩
  · simp [Mill.letter]; omega
  · simp [Mill.digit]; omega
  · simp; omega
theorem Mill.tail_no (r : Int) (h : Mill.tail r = false) : Mill.letter r = false ∧ Mill.digit r = false ∧ (r != 95) = true := by
  simp [Mill.tail] at h; simp [h]

set_option maxRecDepth 100000 in
set_option maxHeartbeats 1000000 in
theorem wordSize_any (s : ByteArray) (w : World) (hs : s.size ≤ 1048576) :
    Calls Tryz.prog 66 #[.string s] w fun e w' => e = .returned (.int .i64 (Mill.wlen s 0 : Int)) ∧ Below w.heap.size w w' := by
  have hwl := Mill.wlen_le s 0
  go_enter Tryz.func66, Tryz.ntmps66
  go_wp2
  go_loopw [3, 4] (fun _ _ wr => ∃ pos : Nat, pos ≤ s.size ∧ pos - 0 ≤ Mill.wlen s 0 ∧ wr.heap[w.heap.size]? = some (.stringIter s pos) ∧ Below w.heap.size w wr) (fun _ _ wr => s.size - wr.iterPos w.heap.size)
  case atStart => exact ⟨0, by omega, by omega, World.iter_heap w s 0, (Below.refl _ _).alloc (Nat.le_refl _) _⟩
  case round =>
    obtain ⟨pos, hp0, hp1, hit, hbw⟩ := hrel
    have hpos0 := iterPos_of hit
    by_cases hp : pos < s.size
    · by_cases ha : s[pos].toNat < 128
      · have hnx : ∀ ty, (Instr.next (.pointer (some ⟨w.heap.size, 0, none⟩)) true ty).run Tryz.prog wr = _ := fun ty => Lib.run_next_ascii_at wr w.heap.size s pos ty hit hp ha
        have hit2 := Lib.iterAt_heap wr w.heap.size s pos (pos + 1) hit
        have hbw2 := Lib.below_iterAt hbw (k := w.heap.size) (Nat.le_refl _) s (pos + 1)
        cases ht : Mill.tail (s[pos].toNat : Int) with
        | true =>
          have hp2 := Mill.tail_step s 0 pos hp (by omega) hp1 ht
          obtain ⟨W1, hW1⟩ : ∃ W1, W1 = wr.iterAt w.heap.size s (pos + 1) := ⟨_, rfl⟩
          rw [← hW1] at hnx hit2 hbw2
          clear hW1 hit hbw
          have ht2 := ht
          simp only [Mill.tail] at ht2
          cases h1 : Mill.letter (s[pos].toNat : Int) <;> cases h2 : Mill.digit (s[pos].toNat : Int) <;> cases h3 : ((s[pos].toNat : Int) != 95)
          all_goals try (exfalso; rw [h1, h2] at ht2; simp at ht2 h3; omega)
          all_goals
            clear ht2
            go_wp2_with (first
              | (go_at_call 65; refine (isLetter_any _ _).mono ?_; rintro e w' ⟨rfl, rfl⟩; rw [h1])
              | (go_at_call 84; refine (isDigit_any _ _).mono ?_; rintro e w' ⟨rfl, rfl⟩; rw [h2]))
            go_roundw
            case rel => exact ⟨pos + 1, by omega, hp2, hit2, hbw2⟩
            case measure => rw [iterPos_of hit2, hpos0]; omega
        | false =>
          have hst := Mill.tail_stop s 0 pos (by omega) hp1 (fun _ => ht)
          obtain ⟨h1, h2, h3⟩ := Mill.tail_no _ ht
          have HW : Hid ((pos : Int) = (Mill.wlen s 0 : Int)) := by rw [Hid]; omega
          clear hst hp1 hwl
          obtain ⟨W1, hW1⟩ : ∃ W1, W1 = wr.iterAt w.heap.size s (pos + 1) := ⟨_, rfl⟩
          rw [← hW1] at hnx hit2 hbw2
          clear hW1 hit hbw
          go_wp2_with (first
            | (go_at_call 65; refine (isLetter_any _ _).mono ?_; rintro e w' ⟨rfl, rfl⟩; rw [h1])
            | (go_at_call 84; refine (isDigit_any _ _).mono ?_; rintro e w' ⟨rfl, rfl⟩; rw [h2]))
          go_ret
          exact ⟨Mill.ret_int HW.out, hbw2⟩
      · have hnx : ∀ ty, (Instr.next (.pointer (some ⟨w.heap.size, 0, none⟩)) true ty).run Tryz.prog wr = _ := fun ty => Lib.run_next_any_at wr w.heap.size s pos ty hit hp
        have hdh := decode_high s pos hp (by omega)
        have hit2 := Lib.iterAt_heap wr w.heap.size s pos (pos + (Utf8.decode s pos).2) hit
        have hbw2 := Lib.below_iterAt hbw (k := w.heap.size) (Nat.le_refl _) s (pos + (Utf8.decode s pos).2)
        have htf : Mill.tail (s[pos].toNat : Int) = false := by simp [Mill.tail, Mill.letter, Mill.digit]; omega
        have hst := Mill.tail_stop s 0 pos (by omega) hp1 (fun _ => htf)
        obtain ⟨h1, h2, h3⟩ := Mill.high_no ((Utf8.decode s pos).1 : Int) (by omega)
        have HW : Hid ((pos : Int) = (Mill.wlen s 0 : Int)) := by rw [Hid]; omega
        clear hst hp1 hwl htf hdh
        obtain ⟨W1, hW1⟩ : ∃ W1, W1 = wr.iterAt w.heap.size s (pos + (Utf8.decode s pos).2) := ⟨_, rfl⟩
        rw [← hW1] at hnx hit2 hbw2
        clear hW1 hit hbw
        generalize ((Utf8.decode s pos).1 : Int) = r at *
        go_wp2_with (first
          | (go_at_call 65; refine (isLetter_any _ _).mono ?_; rintro e w' ⟨rfl, rfl⟩; rw [h1])
          | (go_at_call 84; refine (isDigit_any _ _).mono ?_; rintro e w' ⟨rfl, rfl⟩; rw [h2]))
        go_ret
        exact ⟨Mill.ret_int HW.out, hbw2⟩
    · have hnx : ∀ ty, (Instr.next (.pointer (some ⟨w.heap.size, 0, none⟩)) true ty).run Tryz.prog wr = _ := fun ty => Lib.run_next_end_at wr w.heap.size s pos ty hit hp
      have hst := Mill.tail_stop s 0 pos (by omega) hp1 (fun h => absurd h hp)
      have HW : Hid ((s.size : Int) = (Mill.wlen s 0 : Int)) := by rw [Hid]; omega
      clear hst hp1 hwl
      go_wp2
      go_ret
      exact ⟨Mill.ret_int HW.out, hbw⟩

end Go.Proofs.YtkaoeoeloihigaaGreatDoor
