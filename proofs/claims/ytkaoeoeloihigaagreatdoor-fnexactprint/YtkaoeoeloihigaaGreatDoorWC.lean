import Derived.Test.YtkaoeoeloihigaaGreatDoorVTreeZM
import Derived.Test.YtkaoeoeloihigaaGreatDoorWB
namespace Go.Proofs.YtkaoeoeloihigaaGreatDoor

/-- The trees of all nodes: each node's tree is the node over the trees of its row. -/
def Mill.Linked (ns : List Mill.Nd) (K : List (List Nat)) (ts : List Mill.Tr) : Prop :=
  ts.length = ns.length ∧ K.length = ns.length ∧ ∀ i (h : i < ns.length), (∀ x ∈ K.getD i [], x < i) ∧ Mill.trAt ts i = .node ns[i] ((K.getD i []).map (Mill.trAt ts)) ∧ Mill.fits ns[i].kind ns[i].op ((K.getD i []).map (fun x => (Mill.trAt ts x).nd.kind)) = true ∧ Mill.useR ns[i] = true

theorem Mill.link_grow (ns : List Mill.Nd) : ∀ (r : List Mill.Nd) (i : Nat) (opn : List Nat) (out : List (List Nat)) (ts : List Mill.Tr) (K : List (List Nat)) (o : List Nat) (st : List Mill.Tr),
    ns.drop i = r → ts.length = i → out.length = i → i + r.length = ns.length → (∀ x ∈ opn, x < i) →
    (∀ j (_hj : j < i) (h : j < ns.length), (∀ x ∈ out.getD j [], x < j) ∧ Mill.trAt ts j = .node ns[j] ((out.getD j []).map (Mill.trAt ts)) ∧ Mill.fits ns[j].kind ns[j].op ((out.getD j []).map (fun x => (Mill.trAt ts x).nd.kind)) = true ∧ Mill.useR ns[j] = true) →
    Mill.kidsOf (r.map (·.kids)) i opn out = some (K, o) → Mill.growT r (opn.map (Mill.trAt ts)) = some st →
    ∃ ts', Mill.Linked ns K ts' ∧ st = o.map (Mill.trAt ts')
  | [], i, opn, out, ts, K, o, st, _, h1, h2, h3, h4, h5, hk, hg => by
    simp only [List.map_nil, Mill.kidsOf, Option.some.injEq, Prod.mk.injEq] at hk
    obtain ⟨rfl, rfl⟩ := hk
    rw [Mill.growT] at hg
    simp only [List.length_nil, Nat.add_zero] at h3
    refine ⟨ts, ⟨by omega, by omega, fun j hj => h5 j (by omega) hj⟩, ?_⟩
    simpa using hg.symm
  | d :: r, i, opn, out, ts, K, o, st, h0, h1, h2, h3, h4, h5, hk, hg => by
    have hd : ns[i]? = some d := by
      have := congrArg (fun l => l[0]?) h0
      simpa using this
    have hr : ns.drop (i + 1) = r := by
      rw [← List.drop_drop, h0]; rfl
    simp only [List.length_cons] at h3
    have hil : i < ns.length := by omega
    have hnd : ns[i] = d := by rw [List.getElem?_eq_getElem hil] at hd; exact Option.some.inj hd
    rw [List.map_cons, Mill.kidsOf] at hk
    rw [Mill.growT] at hg
    by_cases hkk : 0 ≤ d.kids ∧ d.kids ≤ opn.length
    · rw [if_pos hkk] at hk
      split at hg
      · rename_i hok
        have hlen : (opn.map (Mill.trAt ts)).length = opn.length := List.length_map ..
        rw [hlen] at hg
        simp only [Mill.stepOk, hlen, Bool.and_eq_true] at hok
        generalize hp : opn.length - d.kids.toNat = p at *
        let nt : Mill.Tr := .node d ((opn.drop p).map (Mill.trAt ts))
        have hlt : ∀ l : List Nat, (∀ x ∈ l, x < i) → l.map (Mill.trAt (ts ++ [nt])) = l.map (Mill.trAt ts) := fun l hl => Mill.trAt_map ts [nt] l (fun x hx => by have := hl x hx; omega)
        have hlk : ∀ l : List Nat, (∀ x ∈ l, x < i) → l.map (fun x => (Mill.trAt (ts ++ [nt]) x).nd.kind) = l.map (fun x => (Mill.trAt ts x).nd.kind) := fun l hl => List.map_congr_left (fun x hx => by rw [Mill.trAt_app ts [nt] x (by have := hl x hx; omega)])
        have hnew : Mill.trAt (ts ++ [nt]) i = nt := by simp [Mill.trAt, ← h1]
        refine Mill.link_grow ns r (i + 1) (opn.take p ++ [i]) (out ++ [opn.drop p]) (ts ++ [nt]) K o st hr (by simp [h1]) (by simp [h2]) (by omega) ?_ ?_ hk ?_
        · intro x hx
          rcases List.mem_append.1 hx with hx | hx
          · have := h4 x (List.mem_of_mem_take hx); omega
          · rw [List.mem_singleton] at hx; omega
        · intro j hj hjl
          by_cases hji : j = i
          · subst hji
            have hg1 : (out ++ [opn.drop p]).getD j [] = opn.drop p := by simp [List.getD, ← h2]
            rw [hg1, hnew]
            refine ⟨fun x hx => h4 x (List.mem_of_mem_drop hx), ?_, ?_, ?_⟩
            · rw [hlt _ (fun x hx => h4 x (List.mem_of_mem_drop hx)), hnd]
            · rw [hlk _ (fun x hx => h4 x (List.mem_of_mem_drop hx)), hnd]
              have := hok.1.2
              rw [← List.map_drop, List.map_map] at this
              exact this
            · rw [hnd]; exact hok.1.1.2
          · have hg1 : (out ++ [opn.drop p]).getD j [] = out.getD j [] := by simp [List.getD, List.getElem?_append_left (show j < out.length by omega)]
            obtain ⟨q1, q2, q3, q4⟩ := h5 j (by omega) hjl
            rw [hg1, Mill.trAt_app ts [nt] j (by omega), hlt _ (fun x hx => by have := q1 x hx; omega), hlk _ (fun x hx => by have := q1 x hx; omega)]
            exact ⟨q1, q2, q3, q4⟩
        · rw [List.map_append, hlt _ (fun x hx => h4 x (List.mem_of_mem_take hx)), List.map_take]
          rw [← List.map_drop] at hg
          simp only [List.map_cons, List.map_nil, hnew]
          exact hg
      · cases hg
    · rw [if_neg hkk] at hk; cases hk
/-- The rows and the trees of a valid list of nodes. -/
theorem Mill.linked_of (ns : List Mill.Nd) (K : List (List Nat)) (o : List Nat) (t : Mill.Tr) (hk : Mill.kidsOf (ns.map (·.kids)) 0 [] [] = some (K, o)) (hg : Mill.growT ns [] = some [t]) :
    ∃ ts, Mill.Linked ns K ts ∧ o.map (Mill.trAt ts) = [t] := by
  obtain ⟨ts, h1, h2⟩ := Mill.link_grow ns ns 0 [] [] [] K o [t] (by simp) rfl rfl (by simp) (by simp) (fun j hj => by omega) hk (by simpa using hg)
  exact ⟨ts, h1, h2.symm⟩
end Go.Proofs.YtkaoeoeloihigaaGreatDoor

namespace Go.Proofs.YtkaoeoeloihigaaGreatDoor
open Go.RowKit

mutual
def Pr.e : Mill.Tr → ByteArray
  | .node d ks => Pr.mkE d (ks.map (fun t => t.nd.kind)) (Pr.es ks)
def Pr.es : List Mill.Tr → List ByteArray
  | [] => []
  | t :: r => Pr.e t :: Pr.es r
end
mutual
def Pr.w : Mill.Tr → Nat
  | .node d ks => 3 * d.text.size + 2000 + Pr.ws ks
def Pr.ws : List Mill.Tr → Nat
  | [] => 0
  | t :: r => Pr.w t + Pr.ws r
end
theorem Pr.es_map : ∀ l : List Mill.Tr, Pr.es l = l.map Pr.e
  | [] => by rw [Pr.es]; rfl
  | t :: r => by rw [Pr.es, Pr.es_map r]; rfl
theorem Pr.getD_total (xs : List ByteArray) : (xs.getD 0 ⟨#[]⟩).size + (xs.getD 1 ⟨#[]⟩).size ≤ Pr.total xs := by
  have e : (⟨#[]⟩ : ByteArray).size = 0 := rfl
  match xs with
  | [] => simp [e]
  | [a] => simp [Pr.total, e]
  | a :: b :: r => simp [Pr.total]; omega
theorem Pr.quote_size (s : ByteArray) : (Pr.quote s).size ≤ 3 * s.size + 2 := by
  have := Pr.qs_len s.data.toList
  have e : s.data.toList.length = s.size := by simp
  simp only [Pr.quote, ByteArray.size, List.size_toArray, List.length_append, List.length_cons, List.length_nil] at this ⊢
  simp only [ByteArray.size] at e
  omega
theorem Pr.called_size (x : ByteArray) (xs : List ByteArray) : (Pr.called x xs).size ≤ x.size + 2 + Pr.total xs := by
  have := Pr.listT_size xs
  unfold Pr.called
  rw [ByteArray.size_append, ByteArray.size_append, ByteArray.size_append]
  have e1 : (⟨#[40]⟩ : ByteArray).size = 1 := rfl
  have e2 : (⟨#[41]⟩ : ByteArray).size = 1 := rfl
  omega
theorem Pr.mkE_size (d : Mill.Nd) (kd : List Int) (xs : List ByteArray) : (Pr.mkE d kd xs).size ≤ 3 * d.text.size + 30 + Pr.total xs := by
  have h1 := Pr.decT_size d.n
  have h2 := Pr.typeWord_size d.type
  have h3 := Pr.builtWord_size d.op
  have h4 := Pr.unMark_size d.op
  have h5 := Pr.binMark_size d.op
  have h6 := Pr.getD_total xs
  have h7 := Pr.held_size (kd.getD 0 0) (xs.getD 0 ⟨#[]⟩)
  have h8 := Pr.held_size (kd.getD 1 0) (xs.getD 1 ⟨#[]⟩)
  have h9 := Pr.quote_size d.text
  have c1 := Pr.called_size d.text xs
  have c2 := Pr.called_size (Mill.builtWord d.op) xs
  have c3 := Pr.called_size (Mill.typeWord d.type) xs
  have e1 : (⟨#[32]⟩ : ByteArray).size = 1 := rfl
  have e2 : (⟨#[116, 114, 117, 101]⟩ : ByteArray).size = 4 := rfl
  have e3 : (⟨#[102, 97, 108, 115, 101]⟩ : ByteArray).size = 5 := rfl
  unfold Pr.mkE
  by_cases k1 : d.kind = 1
  · rw [if_pos k1]
    split
    · omega
    · rw [ByteArray.size_append]; omega
  · rw [if_neg k1]
    by_cases k2 : d.kind = 2
    · rw [if_pos k2]; omega
    · rw [if_neg k2]
      by_cases k3 : d.kind = 3
      · rw [if_pos k3]; split <;> omega
      · rw [if_neg k3]
        by_cases k4 : d.kind = 4
        · rw [if_pos k4]; omega
        · rw [if_neg k4]
          by_cases k5 : d.kind = 5
          · rw [if_pos k5, ByteArray.size_append]; omega
          · rw [if_neg k5]
            by_cases k6 : d.kind = 6
            · rw [if_pos k6, ByteArray.size_append, ByteArray.size_append, ByteArray.size_append, ByteArray.size_append]; omega
            · rw [if_neg k6]
              by_cases k7 : d.kind = 7
              · rw [if_pos k7]; omega
              · rw [if_neg k7]
                by_cases k8 : d.kind = 8
                · rw [if_pos k8]; omega
                · rw [if_neg k8]; omega
mutual
theorem Pr.e_size : ∀ t : Mill.Tr, (Pr.e t).size + 2 ≤ Pr.w t
  | .node d ks => by
    have h1 := Pr.mkE_size d (ks.map (fun t => t.nd.kind)) (Pr.es ks)
    have h2 := Pr.es_total ks
    rw [Pr.e, Pr.w]
    omega
theorem Pr.es_total : ∀ l : List Mill.Tr, Pr.total (Pr.es l) ≤ Pr.ws l
  | [] => by rw [Pr.es, Pr.ws]; simp [Pr.total]
  | t :: r => by
    have h1 := Pr.e_size t
    have h2 := Pr.es_total r
    rw [Pr.es, Pr.ws]
    simp only [Pr.total, List.map_cons, List.sum_cons] at h2 ⊢
    omega
end
theorem Pr.ws_mem {t : Mill.Tr} : ∀ {l : List Mill.Tr}, t ∈ l → Pr.w t ≤ Pr.ws l
  | [], h => by cases h
  | u :: r, h => by
    rw [Pr.ws]
    rcases List.mem_cons.1 h with rfl | h
    · omega
    · have := Pr.ws_mem h; omega
/-- What an E's kids are. -/
theorem Pr.fitsE {kind op : Int} {ks : List Int} (h : Mill.fits kind op ks = true) (he : Mill.isE kind = true) : ks.all Mill.isE = true ∧ ks.length ≤ 8 ∧ (kind = 5 ∨ kind = 9 → ks.length = 1) ∧ (kind = 6 → ks.length = 2) := by
  have h9 : kind = 1 ∨ kind = 2 ∨ kind = 3 ∨ kind = 4 ∨ kind = 5 ∨ kind = 6 ∨ kind = 7 ∨ kind = 8 ∨ kind = 9 := by simp [Mill.isE] at he; omega
  have one : ∀ l : List Int, Mill.oneE l = true → l.all Mill.isE = true ∧ l.length = 1 := by
    intro l hl
    match l, hl with
    | [a], hl => exact ⟨by simpa [Mill.oneE] using hl, rfl⟩
  have bk : Mill.builtKids op ≤ 3 := by
    unfold Mill.builtKids
    repeat (first | omega | (split; · omega))
  rcases h9 with rfl | rfl | rfl | rfl | rfl | rfl | rfl | rfl | rfl
  · simp [Mill.fits] at h; subst h; simp
  · simp [Mill.fits] at h; subst h; simp
  · simp [Mill.fits] at h; subst h; simp
  · simp [Mill.fits] at h; subst h; simp
  · simp only [Mill.fits] at h
    obtain ⟨h1, h2⟩ := one ks (by simpa using h)
    exact ⟨h1, by omega, fun _ => h2, by omega⟩
  · simp only [Mill.fits] at h
    have h' : decide (ks.length = 2) && ks.all Mill.isE := by simpa using h
    simp only [Bool.and_eq_true, decide_eq_true_eq] at h'
    exact ⟨h'.2, by omega, by omega, fun _ => h'.1⟩
  · simp only [Mill.fits] at h
    have h' : decide (ks.length ≤ 8) && ks.all Mill.isE := by simpa using h
    simp only [Bool.and_eq_true, decide_eq_true_eq] at h'
    exact ⟨h'.2, by omega, by omega, by omega⟩
  · simp only [Mill.fits] at h
    have h' : decide ((ks.length : Int) = Mill.builtKids op) && ks.all Mill.isE := by simpa using h
    simp only [Bool.and_eq_true, decide_eq_true_eq] at h'
    exact ⟨h'.2, by omega, by omega, by omega⟩
  · simp only [Mill.fits] at h
    obtain ⟨h1, h2⟩ := one ks (by simpa using h)
    exact ⟨h1, by omega, fun _ => h2, by omega⟩
end Go.Proofs.YtkaoeoeloihigaaGreatDoor

namespace Go.Proofs.YtkaoeoeloihigaaGreatDoor
open Go.RowKit

theorem Pr.kind_at {ns : List Mill.Nd} {K : List (List Nat)} {ts : List Mill.Tr} (hL : Mill.Linked ns K ts) (c : Nat) (hc : c < ns.length) : (Mill.trAt ts c).nd.kind = ns[c].kind := by
  rw [(hL.2.2 c hc).2.1]; rfl
theorem Pr.len1 {l : List Nat} (h : l.length = 1) : ∃ a, l = [a] := by
  match l, h with
  | [a], _ => exact ⟨a, rfl⟩
theorem Pr.len2 {l : List Nat} (h : l.length = 2) : ∃ a b, l = [a, b] := by
  match l, h with
  | [a, b], _ => exact ⟨a, b, rfl⟩
theorem Pr.expr_any (g : Nat) (ns : List Mill.Nd) (K : List (List Nat)) (ts : List Mill.Tr) (hL : Mill.Linked ns K ts) (hlen : ns.length ≤ 12001) (htext : ∀ d ∈ ns, d.text.size ≤ 1048576) :
    ∀ k (hk : k < ns.length), Mill.isE ns[k].kind = true → Pr.w (Mill.trAt ts k) ≤ 50000000 → Pr.ExprIs g ns K k (Pr.e (Mill.trAt ts k)) := by
  intro k
  induction k using Nat.strongRecOn with
  | _ k ih =>
    intro hk hE hw
    obtain ⟨q1, q2, q3, q4⟩ := hL.2.2 k hk
    have hkind : ∀ c ∈ K.getD k [], c < ns.length := fun c hc => Nat.lt_trans (q1 c hc) hk
    have hfE := Pr.fitsE q3 hE
    simp only [List.length_map] at hfE
    obtain ⟨f1, f2, f3, f4⟩ := hfE
    rw [q2, Pr.w] at hw
    have hkid : ∀ c (hc : c ∈ K.getD k []), Pr.ExprIs g ns K c (Pr.e (Mill.trAt ts c)) ∧ (Pr.e (Mill.trAt ts c)).size ≤ 100000000 := fun c hc => by
      have hwc : Pr.w (Mill.trAt ts c) ≤ Pr.ws ((K.getD k []).map (Mill.trAt ts)) := Pr.ws_mem (List.mem_map.2 ⟨c, hc, rfl⟩)
      have hs := Pr.e_size (Mill.trAt ts c)
      refine ⟨ih c (q1 c hc) (hkind c hc) ?_ (by omega), by omega⟩
      rw [← Pr.kind_at hL c (hkind c hc)]
      exact List.all_eq_true.1 f1 _ (List.mem_map.2 ⟨c, hc, rfl⟩)
    have hxs : Pr.es ((K.getD k []).map (Mill.trAt ts)) = (K.getD k []).map (fun c => Pr.e (Mill.trAt ts c)) := by rw [Pr.es_map, List.map_map]; rfl
    have hG : Pr.Given g ns K k ((K.getD k []).map (fun c => Pr.e (Mill.trAt ts c))) :=
      { lt := hk, len := hlen, rows := hL.2.1, text := htext _ (List.getElem_mem hk), kidN := by simp, kidL := by omega, kids := hkind
        size := by have := Pr.es_total ((K.getD k []).map (Mill.trAt ts)); rw [hxs] at this; omega
        each := fun j h h' => by simp only [List.getElem_map]; exact (hkid _ (List.getElem_mem h)).1 }
    intro w hP
    rw [q2, Pr.e, hxs]
    have h9 : ns[k].kind = 1 ∨ ns[k].kind = 2 ∨ ns[k].kind = 3 ∨ ns[k].kind = 4 ∨ ns[k].kind = 5 ∨ ns[k].kind = 6 ∨ ns[k].kind = 7 ∨ ns[k].kind = 8 ∨ ns[k].kind = 9 := by simp [Mill.isE] at hE; omega
    rcases h9 with h | h | h | h | h | h | h | h | h
    · rw [Pr.mkE, if_pos h]
      by_cases h10 : ns[k].type = 10
      · rw [if_pos h10]; exact Pr.expr_int10 g ns K k _ hG _ rfl h h10 w hP
      · rw [if_neg h10]; exact Pr.expr_int g ns K k _ hG _ rfl h h10 w hP
    · rw [Pr.mkE, if_neg (by omega), if_pos h]; exact Pr.expr_text g ns K k _ hG _ rfl h w hP
    · rw [Pr.mkE, if_neg (by omega), if_neg (by omega), if_pos h]
      by_cases h1 : ns[k].n = 1
      · rw [if_pos h1]; exact Pr.expr_bool1 g ns K k _ hG _ rfl h h1 w hP
      · rw [if_neg h1]; exact Pr.expr_bool0 g ns K k _ hG _ rfl h h1 w hP
    · rw [Pr.mkE, if_neg (by omega), if_neg (by omega), if_neg (by omega), if_pos h]; exact Pr.expr_name g ns K k _ hG _ rfl h w hP
    · rw [Pr.mkE, if_neg (by omega), if_neg (by omega), if_neg (by omega), if_neg (by omega), if_pos h]
      obtain ⟨c, hc⟩ := Pr.len1 (f3 (.inl h))
      have hcm : c ∈ K.getD k [] := by rw [hc]; simp
      have he : ((K.getD k []).map (fun c => Pr.e (Mill.trAt ts c))).getD 0 ⟨#[]⟩ = Pr.e (Mill.trAt ts c) := by rw [hc]; rfl
      have hkd : (((K.getD k []).map (Mill.trAt ts)).map (fun t => t.nd.kind)).getD 0 0 = (ns[c]'(hkind c hcm)).kind := by rw [hc]; exact Pr.kind_at hL c (hkind c hcm)
      rw [he, hkd]
      exact Pr.expr_un g ns K k _ hG _ rfl h c _ (hkind c hcm) (hkid c hcm).2 (hkid c hcm).1 hc w hP
    · rw [Pr.mkE, if_neg (by omega), if_neg (by omega), if_neg (by omega), if_neg (by omega), if_neg (by omega), if_pos h]
      obtain ⟨c, b, hc⟩ := Pr.len2 (f4 h)
      have hcm : c ∈ K.getD k [] := by rw [hc]; simp
      have hbm : b ∈ K.getD k [] := by rw [hc]; simp
      have he : ((K.getD k []).map (fun c => Pr.e (Mill.trAt ts c))).getD 0 ⟨#[]⟩ = Pr.e (Mill.trAt ts c) := by rw [hc]; rfl
      have he1 : ((K.getD k []).map (fun c => Pr.e (Mill.trAt ts c))).getD 1 ⟨#[]⟩ = Pr.e (Mill.trAt ts b) := by rw [hc]; rfl
      have hkd : (((K.getD k []).map (Mill.trAt ts)).map (fun t => t.nd.kind)).getD 0 0 = (ns[c]'(hkind c hcm)).kind := by rw [hc]; exact Pr.kind_at hL c (hkind c hcm)
      have hkd1 : (((K.getD k []).map (Mill.trAt ts)).map (fun t => t.nd.kind)).getD 1 0 = (ns[b]'(hkind b hbm)).kind := by rw [hc]; exact Pr.kind_at hL b (hkind b hbm)
      have hop : 1 ≤ ns[k].op ∧ ns[k].op ≤ 18 := by
        rw [Mill.useR, if_neg (by omega), if_neg (by omega), if_neg (by omega), if_neg (by omega), if_pos h] at q4
        simpa using q4
      rw [he, hkd, he1, hkd1]
      exact Pr.expr_bin g ns K k _ hG _ rfl h c _ (hkind c hcm) (hkid c hcm).2 (hkid c hcm).1 b _ (hkind b hbm) (hkid b hbm).2 (hkid b hbm).1 hc hop w hP
    · rw [Pr.mkE, if_neg (by omega), if_neg (by omega), if_neg (by omega), if_neg (by omega), if_neg (by omega), if_neg (by omega), if_pos h]; exact Pr.expr_call g ns K k _ hG _ rfl h w hP
    · rw [Pr.mkE, if_neg (by omega), if_neg (by omega), if_neg (by omega), if_neg (by omega), if_neg (by omega), if_neg (by omega), if_neg (by omega), if_pos h]; exact Pr.expr_built g ns K k _ hG _ rfl h w hP
    · rw [Pr.mkE, if_neg (by omega), if_neg (by omega), if_neg (by omega), if_neg (by omega), if_neg (by omega), if_neg (by omega), if_neg (by omega), if_neg (by omega)]; exact Pr.expr_conv g ns K k _ hG _ rfl h w hP
end Go.Proofs.YtkaoeoeloihigaaGreatDoor
