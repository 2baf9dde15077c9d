import Derived.Test.YtkaoeoeloihigaaGreatDoorVTreeZF
namespace Go.Proofs.YtkaoeoeloihigaaGreatDoor
open Go.RowKit

theorem Mill.fits24 (kd ko : Int) (ks : List Int) (h : Mill.fits kd ko ks = true) : 1 ≤ kd ∧ kd ≤ 24 := by
  by_cases h1 : 1 ≤ kd ∧ kd ≤ 24
  · exact h1
  · have hn : ∀ m : Int, 1 ≤ m → m ≤ 24 → kd ≠ m := fun m h3 h4 => by omega
    have : Mill.fits kd ko ks = false := by simp [Mill.fits, hn]
    rw [this] at h; cases h
def Mill.noTr : Mill.Tr := .node ⟨0, 0, 0, 0, ⟨#[]⟩, 0⟩ []
def Mill.trAt (ts : List Mill.Tr) (k : Nat) : Mill.Tr := ts.getD k Mill.noTr
theorem Mill.trAt_app (ts us : List Mill.Tr) (k : Nat) (h : k < ts.length) : Mill.trAt (ts ++ us) k = Mill.trAt ts k := by
  simp [Mill.trAt, List.getElem?_append_left h]
theorem Mill.trAt_map (ts us : List Mill.Tr) (ks : List Nat) (h : ∀ x ∈ ks, x < ts.length) : ks.map (Mill.trAt (ts ++ us)) = ks.map (Mill.trAt ts) :=
  List.map_congr_left (fun x hx => Mill.trAt_app ts us x (h x hx))
theorem Mill.highs_mem (a : List Mill.Tr) (t : Mill.Tr) (h : t ∈ a) : t.high + 1 ≤ Mill.Tr.highs a := by
  induction a with
  | nil => cases h
  | cons u r ih =>
    simp only [Mill.Tr.highs]
    rcases List.mem_cons.1 h with rfl | h
    · omega
    · have := ih h; omega
theorem Mill.highOf_cons (hs ks : List Nat) (k : Nat) : Mill.highOf hs (k :: ks) = max (hs.getD k 0 + 1) (Mill.highOf hs ks) := by
  have : ∀ (ks : List Nat) (a : Nat), ks.foldl (fun h k => max h (hs.getD k 0 + 1)) a = max a (ks.foldl (fun h k => max h (hs.getD k 0 + 1)) 0) := by
    intro ks
    induction ks with
    | nil => intro a; simp
    | cons x r ih => intro a; simp only [List.foldl_cons]; rw [ih (max a _), ih (max 0 _)]; omega
  unfold Mill.highOf
  simp only [List.foldl_cons]
  rw [this]; omega
theorem Mill.highOf_trs (ts : List Mill.Tr) (ks : List Nat) (h : ∀ x ∈ ks, x < ts.length) : Mill.highOf (ts.map Mill.Tr.high) ks = Mill.Tr.highs (ks.map (Mill.trAt ts)) := by
  induction ks with
  | nil => rfl
  | cons k r ih =>
    have hk := h k (by simp)
    rw [Mill.highOf_cons, ih (fun x hx => h x (by simp [hx]))]
    simp only [List.map_cons, Mill.Tr.highs]
    congr 2
    simp [Mill.trAt, hk]
theorem Mill.kidsOf_pre : ∀ (cs : List Int) (i : Nat) (opn : List Nat) (out K : List (List Nat)) (o : List Nat), Mill.kidsOf cs i opn out = some (K, o) → ∃ q, K = out ++ q
  | [], i, opn, out, K, o, h => by
    simp only [Mill.kidsOf, Option.some.injEq, Prod.mk.injEq] at h
    exact ⟨[], by simp [h.1]⟩
  | c :: r, i, opn, out, K, o, h => by
    rw [Mill.kidsOf] at h
    split at h
    · obtain ⟨q, hq⟩ := Mill.kidsOf_pre r _ _ _ K o h
      exact ⟨_ :: q, by rw [hq, List.append_assoc]; rfl⟩
    · cases h
theorem Mill.step_node (d : Mill.Nd) (opn : List Nat) (ns : List Mill.Nd) (ts : List Mill.Tr) (i h : Nat) (hd : ns[i]? = some d) (h0 : 0 ≤ d.kids ∧ d.kids ≤ opn.length) (hk : ∀ x ∈ opn, Mill.kindAt ns x = (Mill.trAt ts x).nd.kind) :
    Mill.nodeOk ns i h (opn.drop (opn.length - d.kids.toNat)) = (decide (h ≤ 60) && Mill.stepOk d (opn.map (Mill.trAt ts))) := by
  have hkk : Mill.kindsOf ns (opn.drop (opn.length - d.kids.toNat)) = ((opn.map (Mill.trAt ts)).drop ((opn.map (Mill.trAt ts)).length - d.kids.toNat)).map (fun t => t.nd.kind) := by
    rw [List.length_map, ← List.map_drop, List.map_map]
    exact List.map_congr_left (fun x hx => hk x (List.mem_of_mem_drop hx))
  unfold Mill.nodeOk Mill.stepOk
  rw [hd]
  simp only
  rw [hkk, List.length_map]
  simp only [h0.1, h0.2, decide_true, Bool.true_and]
  cases hf : Mill.fits d.kind d.op ((List.drop (opn.length - d.kids.toNat) (List.map (Mill.trAt ts) opn)).map (fun t => t.nd.kind)) with
  | false => simp
  | true =>
    obtain ⟨h1, h2⟩ := Mill.fits24 _ _ _ hf
    rw [Mill.fields_eq d d.kids.toNat h1 h2 (by omega)]
    simp only [Bool.and_true]

def Mill.Under (ts : List Mill.Tr) (opn : List Nat) : Prop := ∀ t ∈ ts, ∃ s ∈ opn.map (Mill.trAt ts), t.high ≤ s.high
theorem Mill.under_next (ts : List Mill.Tr) (opn : List Nat) (d : Mill.Nd) (p : Nat) (hx : ∀ x ∈ opn, x < ts.length) (h : Mill.Under ts opn) :
    Mill.Under (ts ++ [.node d ((opn.drop p).map (Mill.trAt ts))]) (opn.take p ++ [ts.length]) := by
  intro t ht
  rw [List.map_append, Mill.trAt_map _ _ _ (fun x hx' => hx x (List.mem_of_mem_take hx'))]
  have hlast : [ts.length].map (Mill.trAt (ts ++ [.node d ((opn.drop p).map (Mill.trAt ts))])) = [.node d ((opn.drop p).map (Mill.trAt ts))] := by simp [Mill.trAt]
  rw [hlast]
  rcases List.mem_append.1 ht with ht | ht
  · obtain ⟨s, hs, hh⟩ := h t ht
    rw [← List.take_append_drop p opn, List.map_append] at hs
    rcases List.mem_append.1 hs with hs | hs
    · exact ⟨s, List.mem_append.2 (.inl hs), hh⟩
    · refine ⟨_, List.mem_append.2 (.inr (List.mem_singleton.2 rfl)), ?_⟩
      have := Mill.highs_mem _ _ hs
      rw [Mill.Tr.high]; omega
  · rw [List.mem_singleton] at ht
    exact ⟨t, List.mem_append.2 (.inr (by rw [ht]; exact List.mem_singleton.2 rfl)), Nat.le_refl _⟩

theorem Mill.grow_kids (ns : List Mill.Nd) : ∀ (r : List Mill.Nd) (i : Nat) (opn : List Nat) (out : List (List Nat)) (ts : List Mill.Tr), ns.drop i = r → ts.length = i → (∀ x ∈ opn, x < i) → (∀ x, x < i → Mill.kindAt ns x = (Mill.trAt ts x).nd.kind) → Mill.Under ts opn →
    (∃ out' opn' ts', Mill.growT r (opn.map (Mill.trAt ts)) = some (opn'.map (Mill.trAt (ts ++ ts'))) ∧ Mill.kidsOf (r.map (·.kids)) i opn out = some (out ++ out', opn') ∧ ts'.length = r.length ∧ Mill.validL ns out' i (ts.map Mill.Tr.high) = ts'.all (fun t => decide (t.high ≤ 60)) ∧ Mill.Under (ts ++ ts') opn' ∧ (∀ x, x < i + r.length → Mill.kindAt ns x = (Mill.trAt (ts ++ ts') x).nd.kind) ∧ (r = [] → opn' = opn) ∧ (r ≠ [] → ∃ q, opn' = q ++ [i + r.length - 1]))
    ∨ (Mill.growT r (opn.map (Mill.trAt ts)) = none ∧ ∀ K o, Mill.kidsOf (r.map (·.kids)) i opn out = some (K, o) → ∃ out', K = out ++ out' ∧ Mill.validL ns out' i (ts.map Mill.Tr.high) = false)
  | [], i, opn, out, ts, _, h1, h2, h3, h4 => by
    refine .inl ⟨[], opn, [], by simp [Mill.growT], by simp [Mill.kidsOf], rfl, rfl, by simpa using h4, by simpa using h3, fun _ => rfl, fun h => absurd rfl h⟩
  | d :: r, i, opn, out, ts, h0, h1, h2, h3, h4 => by
    have hd : ns[i]? = some d := by
      have := congrArg (fun l => l[0]?) h0
      simpa using this
    have hr : ns.drop (i + 1) = r := by
      rw [← List.drop_drop, h0]; rfl
    rw [List.map_cons, Mill.kidsOf, Mill.growT]
    by_cases hk : 0 ≤ d.kids ∧ d.kids ≤ opn.length
    · rw [if_pos hk]
      have hnode := fun h => Mill.step_node d opn ns ts i h hd hk (fun x hx => h3 x (h2 x hx))
      have hst : (opn.map (Mill.trAt ts)).take ((opn.map (Mill.trAt ts)).length - d.kids.toNat) ++ [.node d ((opn.map (Mill.trAt ts)).drop ((opn.map (Mill.trAt ts)).length - d.kids.toNat))] = (opn.take (opn.length - d.kids.toNat) ++ [i]).map (Mill.trAt (ts ++ [.node d ((opn.drop (opn.length - d.kids.toNat)).map (Mill.trAt ts))])) := by
        rw [List.map_append, Mill.trAt_map _ _ _ (fun x hx => by rw [h1]; exact h2 x (List.mem_of_mem_take hx)), List.length_map, List.map_take, List.map_drop]
        congr 1
        simp [Mill.trAt, ← h1]
      rw [hst]
      generalize hp : opn.length - d.kids.toNat = p at *
      have hH : Mill.highOf (ts.map Mill.Tr.high) (opn.drop p) = Mill.Tr.high (.node d ((opn.drop p).map (Mill.trAt ts))) := by
        rw [Mill.highOf_trs ts _ (fun x hx => by rw [h1]; exact h2 x (List.mem_of_mem_drop hx)), Mill.Tr.high]
      have hT : (Mill.Tr.node d ((opn.drop p).map (Mill.trAt ts))).nd = d := rfl
      have hU := Mill.under_next ts opn d p (fun x hx => by rw [h1]; exact h2 x hx) h4
      generalize hTT : Mill.Tr.node d ((opn.drop p).map (Mill.trAt ts)) = T at *
      have hval : ∀ q, Mill.validL ns (opn.drop p :: q) i (ts.map Mill.Tr.high) = ((decide (T.high ≤ 60) && Mill.stepOk d (opn.map (Mill.trAt ts))) && Mill.validL ns q (i + 1) ((ts ++ [T]).map Mill.Tr.high)) := by
        intro q
        rw [Mill.validL, hnode, hH, List.map_append]; rfl
      have hk3 : ∀ x, x < i + 1 → Mill.kindAt ns x = (Mill.trAt (ts ++ [T]) x).nd.kind := by
        intro x hx
        by_cases hxi : x < i
        · rw [Mill.trAt_app _ _ _ (by omega)]; exact h3 x hxi
        · have : x = i := by omega
          subst this
          have : Mill.trAt (ts ++ [T]) x = T := by simp [Mill.trAt, ← h1]
          rw [this, hT, Mill.kindAt, hd]; rfl
      cases hs : Mill.stepOk d (opn.map (Mill.trAt ts)) with
      | false =>
        refine .inr ⟨by simp, fun K o hK => ?_⟩
        obtain ⟨q, rfl⟩ := Mill.kidsOf_pre _ _ _ _ _ _ hK
        refine ⟨opn.drop p :: q, by simp, ?_⟩
        rw [hval, hs]; simp
      | true =>
        rw [if_pos rfl]
        have ih := Mill.grow_kids ns r (i + 1) (opn.take p ++ [i]) (out ++ [opn.drop p]) (ts ++ [T]) hr (by simp [h1]) (by
          intro x hx
          rcases List.mem_append.1 hx with hx | hx
          · have := h2 x (List.mem_of_mem_take hx); omega
          · rw [List.mem_singleton] at hx; omega) hk3 (by rw [← h1]; exact hU)
        rcases ih with ⟨out', opn', ts', e1, e2, e3, e4, e5, e6, e7, e8⟩ | ⟨e1, e2⟩
        · refine .inl ⟨opn.drop p :: out', opn', T :: ts', by rw [e1]; simp, by rw [e2]; simp, by simp [e3], ?_, by simpa using e5, ?_, fun h => by simp at h, fun _ => ?_⟩
          · rw [hval, hs, e4]; simp
          · intro x hx
            have := e6 x (by simp only [List.length_cons] at hx; omega)
            simpa using this
          · by_cases hr0 : r = []
            · subst hr0
              rw [e7 rfl]
              exact ⟨opn.take p, by simp⟩
            · obtain ⟨q, hq⟩ := e8 hr0
              exact ⟨q, by rw [hq]; simp only [List.length_cons]; congr 2; omega⟩
        · refine .inr ⟨e1, fun K o hK => ?_⟩
          obtain ⟨q, hq, hv⟩ := e2 K o hK
          refine ⟨opn.drop p :: q, by rw [hq]; simp, ?_⟩
          rw [hval, hv]; simp
    · rw [if_neg hk]
      refine .inr ⟨?_, fun K o hK => by cases hK⟩
      have : Mill.stepOk d (opn.map (Mill.trAt ts)) = false := by
        unfold Mill.stepOk
        rw [List.length_map]
        by_cases ha : 0 ≤ d.kids
        · have : ¬ d.kids ≤ opn.length := fun hb => hk ⟨ha, hb⟩
          simp [this]
        · simp [ha]
      rw [this]; simp

theorem Mill.valid_root (ns : List Mill.Nd) : Mill.valid ns = Mill.rootOk ns := by
  unfold Mill.valid Mill.rootOk Mill.kidsR
  by_cases hl : 1 ≤ ns.length ∧ ns.length ≤ 12001
  · rw [if_pos hl]
    have h := Mill.grow_kids ns ns 0 [] [] [] rfl rfl (by simp) (by simp) (by intro t ht; cases ht)
    simp only [List.map_nil, List.nil_append, Nat.zero_add] at h
    rcases h with ⟨out', opn', ts', e1, e2, e3, e4, e5, e6, _, e8⟩ | ⟨e1, e2⟩
    · rw [e1, e2]
      simp only [hl.2, decide_true, Bool.true_and]
      obtain ⟨q, hq⟩ := e8 (by intro h; rw [h] at hl; simp at hl)
      rw [e4]
      by_cases hq0 : q = []
      · subst hq0
        simp only [List.nil_append] at hq
        subst hq
        have hkind := e6 (ns.length - 1) (by omega)
        simp only [List.length_singleton, decide_true, Bool.true_and, List.map_cons, List.map_nil]
        rw [hkind, Bool.and_comm]
        congr 1
        have hmem : Mill.trAt ts' (ns.length - 1) ∈ ts' := by
          have : ns.length - 1 < ts'.length := by omega
          simp [Mill.trAt, this]
        rw [Bool.eq_iff_iff]
        simp only [List.all_eq_true, decide_eq_true_eq]
        constructor
        · intro h; exact h _ hmem
        · intro h t ht
          obtain ⟨s, hs, hts⟩ := e5 t ht
          simp only [List.map_cons, List.map_nil, List.mem_singleton] at hs
          subst hs; omega
      · have hlen : opn'.length ≠ 1 := by
          rw [hq]
          cases q with
          | nil => exact absurd rfl hq0
          | cons a b => simp
        have hd : decide (opn'.length = 1) = false := by simp [hlen]
        simp only [hd, Bool.false_and]
        cases hm : opn'.map (Mill.trAt ts') with
        | nil => rfl
        | cons a b =>
          cases b with
          | nil =>
            have := congrArg List.length hm
            simp at this; omega
          | cons c e => rfl
    · rw [e1]
      cases hK : Mill.kidsOf (ns.map (·.kids)) 0 [] [] with
      | none => simp
      | some r =>
        obtain ⟨K, o⟩ := r
        obtain ⟨q, rfl, hv⟩ := e2 K o hK
        simp [hv]
  · rw [if_neg hl]
    by_cases h0 : ns.length = 0
    · have : ns = [] := List.length_eq_zero_iff.1 h0
      subst this
      simp [Mill.growT]
    · have : ¬ ns.length ≤ 12001 := fun h => hl ⟨by omega, h⟩
      simp [this]

end Go.Proofs.YtkaoeoeloihigaaGreatDoor
