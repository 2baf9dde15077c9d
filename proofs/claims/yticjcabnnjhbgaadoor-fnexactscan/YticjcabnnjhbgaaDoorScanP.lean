import Derived.Test.YticjcabnnjhbgaaDoorScanO
namespace Go.Proofs.YticjcabnnjhbgaaDoor
open Go.RowKit Go.Maps Go.WideMaps

theorem Mill.isMap_put (D : DataW Unit) (h : IsMap D) (k : Lit) (d : DataW Unit) : IsMap (D.put k d) := by
  obtain ⟨es, rfl⟩ := h; exact ⟨_, rfl⟩
theorem Mill.fold_at (k : List UInt8) : ∀ (l : List (List UInt8 × Int)) (D : DataW Unit) (r : Int), IsMap D → D.atKey (.string k) (.lit (.int .i64 0)) = .lit (.int .i64 r) →
    (l.foldl (fun D p => D.put (.string p.1) (.lit (.int .i64 p.2))) D).atKey (.string k) (.lit (.int .i64 0)) = .lit (.int .i64 (l.foldl (fun r p => if p.1 = k then p.2 else r) r))
  | [], _, _, _, h => h
  | p :: l, D, r, hD, h => by
    rw [List.foldl_cons, List.foldl_cons]
    refine Mill.fold_at k l _ _ (Mill.isMap_put D hD _ _) ?_
    by_cases hp : p.1 = k
    · rw [if_pos hp, hp, atKey_put_same hD (by trivial)]
    · rw [if_neg hp, atKey_put_other (by intro e; exact hp (by injection e with e1; exact e1.symm)), h]
theorem Mill.fold_has (k : List UInt8) : ∀ (l : List (List UInt8 × Int)) (D : DataW Unit) (r : Bool), IsMap D → Maps.has D (.string k) = r →
    Maps.has (l.foldl (fun D p => D.put (.string p.1) (.lit (.int .i64 p.2))) D) (.string k) = l.foldl (fun r p => if p.1 = k then true else r) r
  | [], _, _, _, h => h
  | p :: l, D, r, hD, h => by
    rw [List.foldl_cons, List.foldl_cons]
    refine Mill.fold_has k l _ _ (Mill.isMap_put D hD _ _) ?_
    by_cases hp : p.1 = k
    · rw [if_pos hp, hp, has_put_same hD (by trivial)]
    · rw [if_neg hp, has_put_other (by intro e; exact hp (by injection e with e1; exact e1.symm)), h]

theorem Mill.typeOf_ba (k : List UInt8) : Mill.typeOf (Mill.ba k) = if k = [98, 111, 111, 108] then 1 else if k = [116, 101, 120, 116] then 2 else if k = [117, 56] then 3 else if k = [117, 49, 54] then 4 else if k = [117, 51, 50] then 5 else if k = [117, 54, 52] then 6 else if k = [105, 56] then 7 else if k = [105, 49, 54] then 8 else if k = [105, 51, 50] then 9 else if k = [105, 54, 52] then 10 else 0 := by
  have hk : (Mill.ba k).toList = k := by rw [ByteArray.toList_eq]; rfl
  have he : ∀ m : List UInt8, ((⟨m.toArray⟩ : ByteArray).toList == (Mill.ba k).toList) = true ↔ k = m := fun m => by rw [hk, ByteArray.toList_eq]; show (m == k) = true ↔ k = m; rw [beq_iff_eq]; exact eq_comm
  unfold Mill.typeOf
  simp only [Mill.typeFrom]
  rw [show Mill.typeWord 1 = ⟨[98, 111, 111, 108].toArray⟩ from rfl]
  rw [show Mill.typeWord (1 + 1) = ⟨[116, 101, 120, 116].toArray⟩ from rfl]
  rw [show Mill.typeWord (1 + 1 + 1) = ⟨[117, 56].toArray⟩ from rfl]
  rw [show Mill.typeWord (1 + 1 + 1 + 1) = ⟨[117, 49, 54].toArray⟩ from rfl]
  rw [show Mill.typeWord (1 + 1 + 1 + 1 + 1) = ⟨[117, 51, 50].toArray⟩ from rfl]
  rw [show Mill.typeWord (1 + 1 + 1 + 1 + 1 + 1) = ⟨[117, 54, 52].toArray⟩ from rfl]
  rw [show Mill.typeWord (1 + 1 + 1 + 1 + 1 + 1 + 1) = ⟨[105, 56].toArray⟩ from rfl]
  rw [show Mill.typeWord (1 + 1 + 1 + 1 + 1 + 1 + 1 + 1) = ⟨[105, 49, 54].toArray⟩ from rfl]
  rw [show Mill.typeWord (1 + 1 + 1 + 1 + 1 + 1 + 1 + 1 + 1) = ⟨[105, 51, 50].toArray⟩ from rfl]
  rw [show Mill.typeWord (1 + 1 + 1 + 1 + 1 + 1 + 1 + 1 + 1 + 1) = ⟨[105, 54, 52].toArray⟩ from rfl]
  simp only [he]
  rfl
theorem Mill.typeOf_mem (k : List UInt8) : Mill.typeOf (Mill.ba k) ≠ 0 ↔ k ∈ Mill.typeWords := by
  rw [Mill.typeOf_ba]
  simp only [Mill.typeWords, List.mem_cons, List.not_mem_nil, or_false]
  by_cases h0 : k = [98, 111, 111, 108]
  · simp [h0]
  by_cases h1 : k = [116, 101, 120, 116]
  · simp [h1]
  by_cases h2 : k = [117, 56]
  · simp [h2]
  by_cases h3 : k = [117, 49, 54]
  · simp [h3]
  by_cases h4 : k = [117, 51, 50]
  · simp [h4]
  by_cases h5 : k = [117, 54, 52]
  · simp [h5]
  by_cases h6 : k = [105, 56]
  · simp [h6]
  by_cases h7 : k = [105, 49, 54]
  · simp [h7]
  by_cases h8 : k = [105, 51, 50]
  · simp [h8]
  by_cases h9 : k = [105, 54, 52]
  · simp [h9]
  simp [h0, h1, h2, h3, h4, h5, h6, h7, h8, h9]
theorem Mill.builtIn_mem (k : List UInt8) : Mill.builtIn (Mill.ba k) 12 1 = true ↔ k ∈ Mill.builtWords := by
  have hk : (Mill.ba k).toList = k := by rw [ByteArray.toList_eq]; rfl
  have he : ∀ m : List UInt8, ((⟨m.toArray⟩ : ByteArray).toList == (Mill.ba k).toList) = decide (k = m) := fun m => by
    rw [hk, ByteArray.toList_eq]; show (m == k) = decide (k = m)
    rw [Bool.eq_iff_iff]; simp only [beq_iff_eq, decide_eq_true_eq]; exact eq_comm
  simp only [Mill.builtIn]
  rw [show Mill.builtWord 1 = ⟨[114, 101, 97, 100].toArray⟩ from rfl]
  rw [show Mill.builtWord (1 + 1) = ⟨[104, 97, 115].toArray⟩ from rfl]
  rw [show Mill.builtWord (1 + 1 + 1) = ⟨[108, 105, 115, 116].toArray⟩ from rfl]
  rw [show Mill.builtWord (1 + 1 + 1 + 1) = ⟨[116, 111, 111, 108].toArray⟩ from rfl]
  rw [show Mill.builtWord (1 + 1 + 1 + 1 + 1) = ⟨[97, 114, 103].toArray⟩ from rfl]
  rw [show Mill.builtWord (1 + 1 + 1 + 1 + 1 + 1) = ⟨[108, 101, 110].toArray⟩ from rfl]
  rw [show Mill.builtWord (1 + 1 + 1 + 1 + 1 + 1 + 1) = ⟨[97, 116].toArray⟩ from rfl]
  rw [show Mill.builtWord (1 + 1 + 1 + 1 + 1 + 1 + 1 + 1) = ⟨[99, 117, 116].toArray⟩ from rfl]
  rw [show Mill.builtWord (1 + 1 + 1 + 1 + 1 + 1 + 1 + 1 + 1) = ⟨[102, 105, 110, 100].toArray⟩ from rfl]
  rw [show Mill.builtWord (1 + 1 + 1 + 1 + 1 + 1 + 1 + 1 + 1 + 1) = ⟨[99, 104, 114].toArray⟩ from rfl]
  rw [show Mill.builtWord (1 + 1 + 1 + 1 + 1 + 1 + 1 + 1 + 1 + 1 + 1) = ⟨[100, 101, 99].toArray⟩ from rfl]
  rw [show Mill.builtWord (1 + 1 + 1 + 1 + 1 + 1 + 1 + 1 + 1 + 1 + 1 + 1) = ⟨[110, 117, 109].toArray⟩ from rfl]
  simp only [he, Mill.builtWords, Bool.or_eq_true, decide_eq_true_eq, List.mem_cons, List.not_mem_nil, Bool.false_eq_true]
theorem Mill.taken_mem (k : List UInt8) : Mill.taken (Mill.ba k) = true ↔ k ∈ Mill.wordList.map Prod.fst := by
  have hk : (Mill.ba k).toList = k := by rw [ByteArray.toList_eq]; rfl
  have hw : Mill.wordList.map Prod.fst = Mill.typeWords ++ (Mill.plainWords ++ Mill.builtWords) := rfl
  have ha : Mill.plainWords.any (fun p => p == (Mill.ba k).toList) = true ↔ k ∈ Mill.plainWords := by
    rw [hk, List.any_eq_true]
    constructor
    · rintro ⟨x, hx, h⟩; rw [← beq_iff_eq.1 h]; exact hx
    · intro h; exact ⟨k, h, by simp⟩
  have ht : (Mill.typeOf (Mill.ba k) != 0) = true ↔ k ∈ Mill.typeWords := by rw [bne_iff_ne]; exact Mill.typeOf_mem k
  rw [hw, List.mem_append, List.mem_append, Mill.taken, Bool.or_eq_true, Bool.or_eq_true, ht, ha, Mill.builtIn_mem]
  constructor
  · rintro ((h | h) | h)
    · exact .inl h
    · exact .inr (.inr h)
    · exact .inr (.inl h)
  · rintro (h | h | h)
    · exact .inl (.inl h)
    · exact .inr h
    · exact .inl (.inr h)
theorem Mill.fold_any (k : List UInt8) : ∀ (l : List (List UInt8 × Int)) (r : Bool), l.foldl (fun r p => if p.1 = k then true else r) r = true ↔ r = true ∨ k ∈ l.map Prod.fst
  | [], r => by simp
  | p :: l, r => by
    rw [List.foldl_cons, Mill.fold_any k l]
    by_cases hp : p.1 = k
    · simp [hp]
    · rw [if_neg hp]; simp only [List.map_cons, List.mem_cons]
      constructor
      · rintro (h | h)
        · exact .inl h
        · exact .inr (.inr h)
      · rintro (h | h | h)
        · exact .inl h
        · exact absurd h.symm hp
        · exact .inr h
theorem Mill.words_has (k : List UInt8) : Maps.has Mill.wordsD (.string k) = Mill.taken (Mill.ba k) := by
  rw [Mill.wordsD, Mill.fold_has k Mill.wordList (.map []) false ⟨[], rfl⟩ rfl, Bool.eq_iff_iff, Mill.fold_any, Mill.taken_mem]
  simp
theorem Mill.words_at (k : List UInt8) : (Mill.wordsD).atKey (.string k) (.lit (.int .i64 0)) = .lit (.int .i64 (Mill.typeOf (Mill.ba k))) := by
  rw [Mill.wordsD, Mill.fold_at k Mill.wordList (.map []) 0 ⟨[], rfl⟩ rfl, Mill.typeOf_ba]
  congr 2
  simp only [Mill.wordList, List.foldl_cons, List.foldl_nil]
  by_cases h0 : k = [98, 111, 111, 108]
  · subst h0; decide
  by_cases h1 : k = [116, 101, 120, 116]
  · subst h1; decide
  by_cases h2 : k = [117, 56]
  · subst h2; decide
  by_cases h3 : k = [117, 49, 54]
  · subst h3; decide
  by_cases h4 : k = [117, 51, 50]
  · subst h4; decide
  by_cases h5 : k = [117, 54, 52]
  · subst h5; decide
  by_cases h6 : k = [105, 56]
  · subst h6; decide
  by_cases h7 : k = [105, 49, 54]
  · subst h7; decide
  by_cases h8 : k = [105, 51, 50]
  · subst h8; decide
  by_cases h9 : k = [105, 54, 52]
  · subst h9; decide
  have g0 : ¬ [98, 111, 111, 108] = k := fun e => h0 e.symm
  have g1 : ¬ [116, 101, 120, 116] = k := fun e => h1 e.symm
  have g2 : ¬ [117, 56] = k := fun e => h2 e.symm
  have g3 : ¬ [117, 49, 54] = k := fun e => h3 e.symm
  have g4 : ¬ [117, 51, 50] = k := fun e => h4 e.symm
  have g5 : ¬ [117, 54, 52] = k := fun e => h5 e.symm
  have g6 : ¬ [105, 56] = k := fun e => h6 e.symm
  have g7 : ¬ [105, 49, 54] = k := fun e => h7 e.symm
  have g8 : ¬ [105, 51, 50] = k := fun e => h8 e.symm
  have g9 : ¬ [105, 54, 52] = k := fun e => h9 e.symm
  simp only [if_neg h0, if_neg h1, if_neg h2, if_neg h3, if_neg h4, if_neg h5, if_neg h6, if_neg h7, if_neg h8, if_neg h9, if_neg g0, if_neg g1, if_neg g2, if_neg g3, if_neg g4, if_neg g5, if_neg g6, if_neg g7, if_neg g8, if_neg g9, ite_self]

end Go.Proofs.YticjcabnnjhbgaaDoor
