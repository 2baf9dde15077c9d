import Derived.Test.YtkaoeoeloihigaaGreatDoorVTreeF
import Derived.Maps.AppendAt
import Derived.Deep.Onto
namespace Go.Proofs.YtkaoeoeloihigaaGreatDoor
open Go.RowKit

theorem Mill.ndCs_length (ts : List Mill.Nd) : (Mill.ndCs ts).length = ts.length * 6 := by
  induction ts with
  | nil => rfl
  | cons t r ih => simp [Mill.ndCs, Mill.ndC] at ih ⊢; omega
theorem Mill.ndCs_at (ts : List Mill.Nd) (i : Nat) (h : i < ts.length) (j : Nat) (hj : j < 6) : (Mill.ndCs ts)[i * 6 + j]? = (Mill.ndC ts[i])[j]? := by
  induction ts generalizing i with
  | nil => simp at h
  | cons t r ih =>
    cases i with
    | zero =>
      simp only [Mill.ndCs, List.flatMap_cons, Nat.zero_mul, Nat.zero_add]
      rw [List.getElem?_append_left (by simp [Mill.ndC]; omega)]; rfl
    | succ i =>
      simp only [Mill.ndCs, List.flatMap_cons]
      rw [List.getElem?_append_right (by simp [Mill.ndC]; omega)]
      have e : (i + 1) * 6 + j - (Mill.ndC t).length = i * 6 + j := by simp [Mill.ndC]; omega
      rw [e]
      exact ih i (by simpa using h)
def Mill.NodesAt (w : World) (v : Value) (ns : List Mill.Nd) : Prop :=
  ∃ a cap, v = .slice a ns.length cap ∧ ∀ i (hi : i < ns.length), ∃ g, a = some ⟨g, 0, none⟩ ∧ g < w.heap.size ∧ ∀ j, j < 6 → w.cell? ⟨g, i * 6 + j, none⟩ = (Mill.ndC ns[i])[j]?
theorem Mill.nodesAt_own {w : World} {B : Nat} {v : Value} {ns : List Mill.Nd} {e : TypeId} (h : w.ownsRow B e 6 v ns.length (Mill.ndCs ns)) : Mill.NodesAt w v ns := by
  rcases h.2 with ⟨rfl, h0⟩ | ⟨g, cap, cur, rfl, hg, hgg, _⟩
  · exact ⟨none, 0, by rw [h0], fun i hi => by omega⟩
  · refine ⟨_, _, rfl, fun i hi => ⟨g, rfl, (Array.getElem?_eq_some_iff.1 hgg).1, fun j hj => ?_⟩⟩
    rw [h.cellAt (i * 6 + j) (by omega), Mill.ndCs_at ns i hi j hj]
theorem Mill.nodesAt_below {w w' : World} {v : Value} {ns : List Mill.Nd} (h : Mill.NodesAt w v ns) (hb : Below w.heap.size w w') : Mill.NodesAt w' v ns := by
  obtain ⟨a, cap, rfl, hc⟩ := h
  refine ⟨a, cap, rfl, fun i hi => ?_⟩
  obtain ⟨g, ha, hg, hcell⟩ := hc i hi
  refine ⟨g, ha, Nat.lt_of_lt_of_le hg hb.size, fun j hj => ?_⟩
  rw [hb.cell (p := ⟨g, i * 6 + j, none⟩) hg]; exact hcell j hj

def Mill.kidsOf : List Int → Nat → List Nat → List (List Nat) → Option (List (List Nat) × List Nat)
  | [], _, opn, out => some (out, opn)
  | k :: r, i, opn, out => if 0 ≤ k ∧ k ≤ opn.length then Mill.kidsOf r (i + 1) (opn.take (opn.length - k.toNat) ++ [i]) (out ++ [opn.drop (opn.length - k.toNat)]) else none
def Mill.nats (ks : List Nat) : List Value := ks.map (fun x : Nat => Value.int .i64 (x : Int))
def Mill.apart (a b : Value) : Prop := ∀ g, a.ownBlock = some g → b.ownBlock ≠ some g
def Mill.TabIs (w : World) (B : Nat) (v : Value) (tab : List (List Nat)) (vs : List Value) : Prop :=
  w.ownsRow B 42 1 v tab.length vs ∧ ∀ i (hi : i < tab.length), ∃ u, vs[i]? = some u ∧ w.ownsRow B 3 1 u tab[i].length (Mill.nats tab[i])

theorem Tryz.infoInt : (Tryz.prog.info? 3).map (fun i => (i.zero, i.size, i.bytes)) = some (some (.int .i64 0), 1, 8) := by kernel_rfl
theorem Tryz.infoInts : (Tryz.prog.info? 42).map (fun i => (i.zero, i.size, i.bytes)) = some (some (.slice none 0 0), 1, 24) := by kernel_rfl
theorem Mill.nats_length (l : List Nat) : (Mill.nats l).length = l.length := by simp [Mill.nats]
theorem Mill.nats_app (l m : List Nat) : Mill.nats (l ++ m) = Mill.nats l ++ Mill.nats m := by simp [Mill.nats]
theorem Mill.own_take {w : World} {B e g n c : Nat} {xs : List Value} (h : w.ownsRow B e 1 (.slice (some ⟨g, 0, none⟩) n c) n xs) (m : Nat) (hm : m ≤ n) : w.ownsRow B e 1 (.slice (some ⟨g, 0, none⟩) m c) m (xs.take m) := by
  obtain ⟨h0, h2⟩ := h
  rcases h2 with ⟨h3, _⟩ | ⟨g', cap, cur, hv, hg, hh, hn, hcap, hsz, ht⟩
  · cases h3
  · cases hv
    refine ⟨by simp at h0 ⊢; omega, .inr ⟨g, c, cur, rfl, hg, hh, by omega, hcap, hsz, ?_⟩⟩
    rw [← ht, List.take_take]; congr 1; omega
theorem Mill.own_apart {w : World} {B e size n g : Nat} {v : Value} {xs : List Value} (h : w.ownsRow B e size v n xs) (hg : w.heap.size ≤ g) : v.ownBlock = none ∨ v.ownBlock ≠ some g := by
  cases hv : v.ownBlock with
  | none => exact .inl rfl
  | some k => right; intro hk; have := (h.lt k hv).2; cases hk; omega
theorem Mill.rowForm {w : World} {B e size n : Nat} {v : Value} {xs : List Value} (h : w.ownsRow B e size v n xs) (hn : 0 < n) : ∃ g cap, v = .slice (some ⟨g, 0, none⟩) n cap ∧ B ≤ g ∧ g < w.heap.size := by
  rcases h.2 with ⟨_, h0⟩ | ⟨g, cap, cur, rfl, hg, hgg, _⟩
  · omega
  · exact ⟨g, cap, rfl, hg, (Array.getElem?_eq_some_iff.1 hgg).1⟩
theorem Mill.rowLen {w : World} {B e size n : Nat} {v : Value} {xs : List Value} (h : w.ownsRow B e size v n xs) : ∃ a cap, v = .slice a n cap := by
  rcases h.2 with ⟨rfl, h0⟩ | ⟨g, cap, cur, rfl, _⟩
  · exact ⟨none, 0, by rw [h0]⟩
  · exact ⟨_, _, rfl⟩
theorem Mill.kept {W W' : World} {B e size n : Nat} {u v : Value} {xs : List Value} (h : W.ownsRow B e size u n xs) (hg : W.grownBy W' v.ownBlock) (ha : Mill.apart u v) : W'.ownsRow B e size u n xs := by
  refine h.kept hg ?_
  cases hu : u.ownBlock with
  | none => exact .inl rfl
  | some g => exact .inr (fun h2 => ha g hu h2.symm)
theorem Mill.apart_symm {u v : Value} (h : Mill.apart u v) : Mill.apart v u := fun g hv hu => h g hu hv
theorem Mill.apart_new {W : World} {B e size n k : Nat} {u v : Value} {xs : List Value} (h : W.ownsRow B e size u n xs) (hv : v.ownBlock = some k) (hk : W.heap.size ≤ k) : Mill.apart u v := by
  intro g hu h2
  have := (h.lt g hu).2
  rw [hv] at h2; cases h2; omega
theorem Mill.apart_at {W : World} {B e size n k : Nat} {u v v' : Value} {xs : List Value} (h : W.ownsRow B e size u n xs) (ha : Mill.apart u v) (hat : v'.ownBlock = v.ownBlock ∨ v'.ownBlock = some k) (hk : W.heap.size ≤ k) : Mill.apart u v' := by
  rcases hat with h1 | h1
  · intro g hu h2; rw [h1] at h2; exact ha g hu h2
  · exact Mill.apart_new h h1 hk
theorem Mill.nats_one (l : List Nat) : ∀ u ∈ Mill.nats l, u.oneCell' = true := by
  intro u hu
  unfold Mill.nats at hu
  obtain ⟨y, _, rfl⟩ := List.mem_map.1 hu
  rfl
theorem Mill.own_one {w : World} {B e size n : Nat} {v : Value} {xs : List Value} (h : w.ownsRow B e size v n xs) : ∀ u ∈ [v], u.oneCell' = true := by
  intro u hu
  simp at hu
  subst hu
  rcases h.2 with ⟨rfl, _⟩ | ⟨g, cap, cur, rfl, _⟩ <;> rfl
theorem Mill.int_one (x : Int) : ∀ u ∈ [Value.int .i64 x], u.oneCell' = true := by
  intro u hu
  simp at hu
  subst hu
  rfl
def Mill.kidsR (ns : List Mill.Nd) : Option (List (List Nat) × List Nat) := if 1 ≤ ns.length ∧ ns.length ≤ 12001 then Mill.kidsOf (ns.map (·.kids)) 0 [] [] else none
def Mill.KidsPost (w : World) (r : Option (List (List Nat) × List Nat)) (e : Ending) (w' : World) : Prop :=
  ∃ vo ok, e = .returned (.tuple #[vo, .bool ok]) ∧ Below w.heap.size w w' ∧ (match r with | none => ok = false | some (K, opn) => ok = decide (opn.length = 1) ∧ ∃ vs, Mill.TabIs w' w.heap.size vo K vs)

theorem Mill.kids_next {wr w1 w2 w3 : World} {B p m cp gp : Nat} {vp vo v1 vo2 vp3 vt : Value} {opn : List Nat} {tab : List (List Nat)} {vs : List Value} {o1 o2 o3 : Obj}
    (hop : wr.ownsRow B 3 1 vp (p + m) (Mill.nats opn)) (hot : wr.ownsRow B 3 1 (.slice (some ⟨gp, 0, none⟩) p cp) p (Mill.nats (opn.take p))) (hvp : vp.ownBlock = some gp)
    (htab : Mill.TabIs wr B vo tab vs) (hap : Mill.apart vo vp) (hapv : ∀ (j : Nat) u, vs[j]? = some u → Mill.apart u vp ∧ Mill.apart u vo)
    (hvt : vt.ownBlock = some wr.heap.size)
    (own1 : w1.ownsRow B 3 1 v1 m (Mill.nats (opn.drop p))) (g1 : (wr.alloc o1).grownBy w1 vt.ownBlock) (at1 : v1.ownBlock = vt.ownBlock ∨ v1.ownBlock = some (wr.alloc o1).heap.size)
    (own2 : w2.ownsRow B 42 1 vo2 (tab.length + 1) (vs ++ [v1])) (g2 : (w1.alloc o2).grownBy w2 vo.ownBlock) (at2 : vo2.ownBlock = vo.ownBlock ∨ vo2.ownBlock = some (w1.alloc o2).heap.size)
    (g3 : (w2.alloc o3).grownBy w3 (Value.slice (some ⟨gp, 0, none⟩) p cp).ownBlock) (at3 : vp3.ownBlock = (Value.slice (some ⟨gp, 0, none⟩) p cp).ownBlock ∨ vp3.ownBlock = some (w2.alloc o3).heap.size)
    (hd : (opn.drop p).length = m) :
    Mill.TabIs w3 B vo2 (tab ++ [opn.drop p]) (vs ++ [v1]) ∧ Mill.apart vo2 vp3 ∧ ∀ (j : Nat) u, (vs ++ [v1])[j]? = some u → Mill.apart u vp3 ∧ Mill.apart u vo2 := by
  have hpt : ∀ u, Mill.apart u vp → Mill.apart u (.slice (some ⟨gp, 0, none⟩) p cp) := fun u h g h1 h2 => h g h1 (by rw [hvp]; exact h2)
  have hs1 := g1.size
  have hs2 := g2.size
  have hs3 := g3.size
  rw [World.size_alloc] at hs1 hs2 hs3
  -- the new row is apart from all that lay
  have hv1 : ∀ {B e size n : Nat} {u : Value} {xs : List Value}, wr.ownsRow B e size u n xs → Mill.apart u v1 := by
    intro B e size n u xs h
    rcases at1 with h1 | h1
    · rw [hvt] at h1; exact Mill.apart_new h h1 (Nat.le_refl _)
    · exact Mill.apart_new h h1 (by simp)
  have hvt' : ∀ {B e size n : Nat} {u : Value} {xs : List Value}, wr.ownsRow B e size u n xs → Mill.apart u vt := fun h => Mill.apart_new h hvt (Nat.le_refl _)
  -- each row of the table
  have hrow : ∀ {n : Nat} {u : Value} {xs : List Value}, wr.ownsRow B 3 1 u n xs → Mill.apart u vp → Mill.apart u vo → w3.ownsRow B 3 1 u n xs ∧ Mill.apart u vp3 ∧ Mill.apart u vo2 := by
    intro n u xs h ha hb
    have h1 := Mill.kept (h.alloc o1) g1 (hvt' h)
    have h2 := Mill.kept (h1.alloc o2) g2 hb
    have h3 := Mill.kept (h2.alloc o3) g3 (hpt u ha)
    exact ⟨h3, Mill.apart_at (h2.alloc o3) (hpt u ha) at3 (Nat.le_refl _), Mill.apart_at (h1.alloc o2) hb at2 (Nat.le_refl _)⟩
  have hnew : w3.ownsRow B 3 1 v1 m (Mill.nats (opn.drop p)) ∧ Mill.apart v1 vp3 ∧ Mill.apart v1 vo2 := by
    have a1 : Mill.apart v1 vo := Mill.apart_symm (hv1 htab.1)
    have a2 : Mill.apart v1 vp := Mill.apart_symm (hv1 hop)
    have h2 := Mill.kept (own1.alloc o2) g2 a1
    have h3 := Mill.kept (h2.alloc o3) g3 (hpt v1 a2)
    exact ⟨h3, Mill.apart_at (h2.alloc o3) (hpt v1 a2) at3 (Nat.le_refl _), Mill.apart_at (own1.alloc o2) a1 at2 (Nat.le_refl _)⟩
  have hot1 := Mill.kept (hot.alloc o1) g1 (hvt' hot)
  have ha2 : Mill.apart (.slice (some ⟨gp, 0, none⟩) p cp) vo2 := Mill.apart_at (hot1.alloc o2) (fun g h1 h2 => hap g h2 (by rw [hvp]; exact h1)) at2 (Nat.le_refl _)
  have own2' := Mill.kept (own2.alloc o3) g3 (Mill.apart_symm ha2)
  have hvl : vs.length = tab.length := by have := htab.1.1; omega
  refine ⟨⟨by simpa using own2', fun i hi => ?_⟩, Mill.apart_at (own2.alloc o3) (Mill.apart_symm ha2) at3 (Nat.le_refl _), fun j u hj => ?_⟩
  · by_cases h : i < tab.length
    · obtain ⟨u, hu, ho⟩ := htab.2 i h
      refine ⟨u, by rw [List.getElem?_append_left (by omega)]; exact hu, ?_⟩
      rw [List.getElem_append_left h]
      exact (hrow ho (hapv i u hu).1 (hapv i u hu).2).1
    · have hi' : i = tab.length := by simp at hi; omega
      subst hi'
      refine ⟨v1, by rw [List.getElem?_append_right (by omega)]; simp [hvl], ?_⟩
      rw [List.getElem_append_right (Nat.le_refl _)]
      simp only [Nat.sub_self, List.getElem_cons_zero, hd]
      exact hnew.1
  · by_cases h : j < vs.length
    · rw [List.getElem?_append_left h] at hj
      obtain ⟨u', hu', ho⟩ := htab.2 j (by omega)
      rw [hj] at hu'; cases hu'
      exact (hrow ho (hapv j u hj).1 (hapv j u hj).2).2
    · rw [List.getElem?_append_right (by omega)] at hj
      have : j - vs.length = 0 := by
        have := (List.getElem?_eq_some_iff.1 hj).1; simp at this; omega
      rw [this] at hj
      simp at hj
      subst hj
      exact hnew.2

end Go.Proofs.YtkaoeoeloihigaaGreatDoor

namespace Go.Proofs.YtkaoeoeloihigaaGreatDoor
open Go.RowKit

set_option maxRecDepth 100000 in
set_option maxHeartbeats 2000000 in
theorem l2Kids_short (ns : List Mill.Nd) (v : Value) (w : World) (hN : Mill.NodesAt w v ns) (h1 : 1 ≤ ns.length) (h2 : ns.length ≤ 12001) :
    Calls Tryz.prog 11 #[.agg #[v]] w fun e w' => Mill.KidsPost w (Mill.kidsR ns) e w' := by
  obtain ⟨i0, hi0, hz0, hz1, hz2⟩ := info_parts Tryz.infoInt
  obtain ⟨i1, hi1, hy0, hy1, hy2⟩ := info_parts Tryz.infoInts
  obtain ⟨a, cap, rfl, hc⟩ := hN
  have HS : Hid (Mill.kidsR ns = Mill.kidsOf (ns.map (·.kids)) 0 [] []) := by rw [Hid, Mill.kidsR, if_pos ⟨h1, h2⟩]
  obtain ⟨n, HN⟩ : ∃ n, Hid (ns.length = n) := ⟨_, rfl⟩
  rw [HN.out] at h1 h2
  simp only [HN.out]
  have hc' : ∀ i (hi : i < n), ∃ g, a = some ⟨g, 0, none⟩ ∧ g < w.heap.size ∧ ∀ j, j < 6 → w.cell? ⟨g, i * 6 + j, none⟩ = (Mill.ndC (ns[i]'(by rw [HN.out]; exact hi)))[j]? := fun i hi => hc i (by rw [HN.out]; exact hi)
  clear hc
  have h1' : (1 : Int) ≤ (n : Int) := by omega
  have h2' : (n : Int) ≤ 12001 := by omega
  go_enter Tryz.func11, Tryz.ntmps11
  go_wp2
  go_loopw [5, 6, 7] (fun vo vp t wr => ∃ (i : Nat) (opn : List Nat) (tab : List (List Nat)) (vs : List Value) (gp cp : Nat), i ≤ n ∧ t = .int .i64 (i : Int) ∧ opn.length ≤ i ∧ tab.length = i ∧ vp = .slice (some ⟨gp, 0, none⟩) opn.length cp ∧ wr.ownsRow (w.heap.size + 1) 3 1 vp opn.length (Mill.nats opn) ∧ Mill.TabIs wr (w.heap.size + 1) vo tab vs ∧ Mill.apart vo vp ∧ (∀ (j : Nat) u, vs[j]? = some u → Mill.apart u vp ∧ Mill.apart u vo) ∧ Below (w.heap.size + 1) (w.alloc (.cells #[.slice a n cap] 29)) wr ∧ Mill.kidsOf ((ns.drop i).map (·.kids)) i opn tab = Mill.kidsR ns) (fun _ _ t _ => n - (intOf t).toNat)
  case atStart =>
    have o1 := World.ownsRow_made (base := w.heap.size + 1) (e := 42) (size := 1) (w.alloc (.cells #[.slice a n cap] 29)) #[] 0 (by simp) (by decide) rfl
    have o2 := World.ownsRow_made (base := w.heap.size + 1) (e := 3) (size := 1) ((w.alloc (.cells #[.slice a n cap] 29)).alloc (.cells #[] 42)) #[] 0 (by simp) (by decide) rfl
    refine ⟨0, [], [], [], w.heap.size + 2, 0, by omega, rfl, by simp, rfl, rfl, by simpa [Mill.nats] using o2, ⟨by simpa using o1.alloc _, fun i hi => by simp at hi⟩, ?_, ?_, ((Below.refl _ _).alloc (by simp) _).alloc (by simp) _, by rw [HS.out]; rfl⟩
    · intro g h3 h4; simp [Value.ownBlock] at h3 h4; omega
    · intro j u h3; simp at h3
  case round =>
    obtain ⟨i, opn, tab, vs, gp, cp, hi, rfl, hol, htl, rfl, hop, htab, hap, hapv, hbw, hu⟩ := hrel
    clear HS
    by_cases hlt : i < n
    · obtain ⟨g, rfl, hg, hcell⟩ := hc' i hlt
      have hil : i < ns.length := by rw [HN.out]; exact hlt
      rw [List.drop_eq_getElem_cons hil, List.map_cons, Mill.kidsOf] at hu
      have ck : wr.cell? ⟨g, i * 6 + 5, none⟩ = some (.int .i64 ns[i].kids) := by
        rw [hbw.cell (p := ⟨g, i * 6 + 5, none⟩) (by simp; omega), World.cell?_alloc_past _ _ _ hg, hcell 5 (by omega)]; rfl
      have ct : wr.cell? ⟨w.heap.size, 0, none⟩ = some (.slice (some ⟨g, 0, none⟩) n cap) := by
        rw [hbw.cell (p := ⟨w.heap.size, 0, none⟩) (by simp)]; simp [go_sem]
      clear hc' hcell
      generalize ns[i].kids = k at *
      by_cases hk : 0 ≤ k ∧ k ≤ opn.length
      · rw [if_pos hk] at hu
        obtain ⟨hk0, hk1⟩ := hk
        obtain ⟨m, rfl⟩ : ∃ m : Nat, k = (m : Int) := ⟨k.toNat, by omega⟩
        obtain ⟨p, hp⟩ : ∃ p, opn.length = p + m := ⟨opn.length - m, by omega⟩
        have hp1 : opn.length - (m : Int).toNat = p := by omega
        rw [hp1] at hu
        have HU : Hid (Mill.kidsOf ((ns.drop (i + 1)).map (·.kids)) (i + 1) (opn.take p ++ [i]) (tab ++ [opn.drop p]) = Mill.kidsR ns) := hu
        have hdl : (Mill.nats (opn.drop p)).length = m * 1 := by rw [Mill.nats_length, List.length_drop]; omega
        have htk : (opn.take p).length = p := by rw [List.length_take]; omega
        have hot : wr.ownsRow (w.heap.size + 1) 3 1 (.slice (some ⟨gp, 0, none⟩) p cp) p (Mill.nats (opn.take p)) := by
          have := Mill.own_take hop p (by omega)
          rwa [show (Mill.nats opn).take p = Mill.nats (opn.take p) by simp [Mill.nats, List.map_take]] at this
        have hdc : ∀ j u, (Mill.nats (opn.drop p))[j]? = some u → (wr.alloc (.cells #[] 3)).cell? ((⟨gp, p, none⟩ : Addr).add j) = some u := by
          intro j u hj
          have hadd : (⟨gp, p, none⟩ : Addr).add j = ⟨gp, p + j, none⟩ := by unfold Addr.add; split <;> simp_all
          have hj2 : j < m := by
            have := (List.getElem?_eq_some_iff.1 hj).1; omega
          have hgp := (hop.lt gp rfl).2
          rw [hadd, World.cell?_alloc_past _ _ _ hgp, hop.cellAt (p + j) (by omega)]
          simp only [Mill.nats, List.map_drop, List.getElem?_drop] at hj ⊢
          exact hj
        have HD : Hid ((opn.drop p).length = m) := by rw [Hid, List.length_drop]; omega
        have hpi : p ≤ i := by omega
        have hmi : m ≤ i := by omega
        have hin : i ≤ 12001 := by omega
        have hcpm : ∀ c, wr.ownsRow (w.heap.size + 1) 3 1 (.slice (some ⟨gp, 0, none⟩) (p + m) c) (p + m) (Mill.nats opn) → p + m ≤ c := by
          intro c hx
          rcases hx.2 with ⟨h3, _⟩ | ⟨g', cap', cur, hv, _, _, hn2, _⟩
          · cases h3
          · cases hv; exact hn2
        rw [hp] at hop
        have hcp := hcpm cp hop
        clear hcpm hu hk0 hk1 hp1 hol
        simp only [hp]
        have hz : w.heap.size + 1 ≤ wr.heap.size := by have := hbw.size; simpa using this
        have hs1 : p + m - p = m := by omega
        have o0 : (wr.alloc (.cells #[] 3)).ownsRow (w.heap.size + 1) 3 1 (.slice (some ⟨wr.heap.size, 0, none⟩) 0 0) 0 [] := by simpa using World.ownsRow_made (base := w.heap.size + 1) (e := 3) (size := 1) wr #[] 0 hz (by decide) rfl
        by_cases hm : m = 0
        · subst hm
          by_cases hcq : p = cp
          · subst hcq
            go_wp2_with (first
              | (at_builtin; (refine wpList_append_own_at _ rfl _ _ 42 rfl (w.heap.size + 1) 3 i0 (.int .i64 0) 1 8 Tryz.underlying42 hi0 hz0 hz1 hz2 rfl (by decide) _ 0 [] rfl o0 ⟨gp, 0, none⟩ 0 0 (Mill.nats (opn.drop p)) rfl hdl (fun j u hj => by exfalso; have := (List.getElem?_eq_some_iff.1 hj).1; omega) (Mill.nats_one _) (by unfold maxLen; omega) (by omega) (by simp; omega) ?_; intro v1 w1 own1 g1 _ at1; rw [Nat.zero_add, List.nil_append] at own1; obtain ⟨a1, c1, hv1⟩ := Mill.rowLen own1; subst hv1; have hs1 := g1.size; rw [World.size_alloc] at hs1; have tb1 : w1.ownsRow (w.heap.size + 1) 42 1 u5 tab.length vs := Mill.kept (htab.1.alloc _) g1 (Mill.apart_new htab.1 rfl (Nat.le_refl _))))
              | (at_builtin; (refine wpList_append_own_at _ rfl _ _ 35 rfl (w.heap.size + 1) 42 i1 (.slice none 0 0) 1 24 Tryz.underlying35 hi1 hy0 hy1 hy2 rfl (by decide) _ tab.length vs rfl (tb1.alloc _) ⟨w1.heap.size, 0, none⟩ 1 1 [.slice a1 0 c1] rfl rfl (cell_one_new _ _ _) (Mill.own_one own1) (by unfold maxLen; omega) (by omega) (by simp; omega) ?_; intro vo2 w2 own2 g2 _ at2)
                 have hs2 := g2.size
                 rw [World.size_alloc] at hs2
                 have ot1 : w1.ownsRow (w.heap.size + 1) 3 1 (.slice (some ⟨gp, 0, none⟩) p p) p (Mill.nats (opn.take p)) := Mill.kept (hot.alloc _) g1 (Mill.apart_new hot rfl (Nat.le_refl _))
                 have ot2 : w2.ownsRow (w.heap.size + 1) 3 1 (.slice (some ⟨gp, 0, none⟩) p p) p (Mill.nats (opn.take p)) := Mill.kept (ot1.alloc _) g2 (fun g h3 h4 => hap g h4 h3))
              | (at_builtin; (refine wpList_append_own_at _ rfl _ _ 42 rfl (w.heap.size + 1) 3 i0 (.int .i64 0) 1 8 Tryz.underlying42 hi0 hz0 hz1 hz2 rfl (by decide) _ p (Mill.nats (opn.take p)) rfl (ot2.alloc _) ⟨w2.heap.size, 0, none⟩ 1 1 [.int .i64 (i : Int)] rfl rfl (cell_one_new _ _ _) (Mill.int_one _) (by unfold maxLen; omega) (by omega) (by simp; omega) ?_; intro vp3 w3 own3 g3 _ at3)))
            have hb1 : Below (w.heap.size + 1) (w.alloc (.cells #[.slice (some ⟨g, 0, none⟩) n cap] 29)) w1 := Below.grown (hbw.alloc hz _) g1 (by simp; omega) (fun j hj => by cases hj; exact hz)
            have hb2 : Below (w.heap.size + 1) (w.alloc (.cells #[.slice (some ⟨g, 0, none⟩) n cap] 29)) w2 := Below.grown (hb1.alloc (by omega) _) g2 (by simp; omega) (fun j hj => (htab.1.lt _ hj).1)
            have hb3 : Below (w.heap.size + 1) (w.alloc (.cells #[.slice (some ⟨g, 0, none⟩) n cap] 29)) w3 := Below.grown (hb2.alloc (by omega) _) g3 (by simp; omega) (fun j hj => (hot.lt _ hj).1)
            have hnew := Mill.kids_next (vp := .slice (some ⟨gp, 0, none⟩) (p + 0) p) (vt := .slice (some ⟨wr.heap.size, 0, none⟩) 0 0) hop hot rfl htab hap hapv rfl own1 g1 at1 own2 g2 at2 g3 at3 HD.out
            clear own1 g1 at1 own2 g2 at2 g3 at3 tb1 ot1 ot2
            obtain ⟨gq, cq, hq, _⟩ := Mill.rowForm own3 (by omega)
            go_roundw
            case rel => exact ⟨i + 1, opn.take p ++ [i], tab ++ [opn.drop p], vs ++ [.slice a1 0 c1], gq, cq, by omega, by go_num, by simp [htk]; omega, by simp [htl], by simpa [htk] using hq, by rw [Mill.nats_app, show Mill.nats [i] = [Value.int .i64 (i : Int)] from rfl]; simpa [htk] using own3, hnew.1, hnew.2.1, hnew.2.2, hb3, HU.out⟩
            case measure => simp [intOf]; omega
          · have hcq1 : ¬ cp = p := by omega
            have hcq2 : ¬ cp - p = 0 := by omega
            go_wp2_with (first
              | (at_builtin; (refine wpList_append_own_at _ rfl _ _ 42 rfl (w.heap.size + 1) 3 i0 (.int .i64 0) 1 8 Tryz.underlying42 hi0 hz0 hz1 hz2 rfl (by decide) _ 0 [] rfl o0 ⟨gp, p, none⟩ 0 (cp - p) (Mill.nats (opn.drop p)) rfl hdl hdc (Mill.nats_one _) (by unfold maxLen; omega) (by omega) (by simp; omega) ?_; intro v1 w1 own1 g1 _ at1; rw [Nat.zero_add, List.nil_append] at own1; obtain ⟨a1, c1, hv1⟩ := Mill.rowLen own1; subst hv1; have hs1 := g1.size; rw [World.size_alloc] at hs1; have tb1 : w1.ownsRow (w.heap.size + 1) 42 1 u5 tab.length vs := Mill.kept (htab.1.alloc _) g1 (Mill.apart_new htab.1 rfl (Nat.le_refl _))))
              | (at_builtin; (refine wpList_append_own_at _ rfl _ _ 35 rfl (w.heap.size + 1) 42 i1 (.slice none 0 0) 1 24 Tryz.underlying35 hi1 hy0 hy1 hy2 rfl (by decide) _ tab.length vs rfl (tb1.alloc _) ⟨w1.heap.size, 0, none⟩ 1 1 [.slice a1 0 c1] rfl rfl (cell_one_new _ _ _) (Mill.own_one own1) (by unfold maxLen; omega) (by omega) (by simp; omega) ?_; intro vo2 w2 own2 g2 _ at2)
                 have hs2 := g2.size
                 rw [World.size_alloc] at hs2
                 have ot1 : w1.ownsRow (w.heap.size + 1) 3 1 (.slice (some ⟨gp, 0, none⟩) p cp) p (Mill.nats (opn.take p)) := Mill.kept (hot.alloc _) g1 (Mill.apart_new hot rfl (Nat.le_refl _))
                 have ot2 : w2.ownsRow (w.heap.size + 1) 3 1 (.slice (some ⟨gp, 0, none⟩) p cp) p (Mill.nats (opn.take p)) := Mill.kept (ot1.alloc _) g2 (fun g h3 h4 => hap g h4 h3))
              | (at_builtin; (refine wpList_append_own_at _ rfl _ _ 42 rfl (w.heap.size + 1) 3 i0 (.int .i64 0) 1 8 Tryz.underlying42 hi0 hz0 hz1 hz2 rfl (by decide) _ p (Mill.nats (opn.take p)) rfl (ot2.alloc _) ⟨w2.heap.size, 0, none⟩ 1 1 [.int .i64 (i : Int)] rfl rfl (cell_one_new _ _ _) (Mill.int_one _) (by unfold maxLen; omega) (by omega) (by simp; omega) ?_; intro vp3 w3 own3 g3 _ at3)))
            have hb1 : Below (w.heap.size + 1) (w.alloc (.cells #[.slice (some ⟨g, 0, none⟩) n cap] 29)) w1 := Below.grown (hbw.alloc hz _) g1 (by simp; omega) (fun j hj => by cases hj; exact hz)
            have hb2 : Below (w.heap.size + 1) (w.alloc (.cells #[.slice (some ⟨g, 0, none⟩) n cap] 29)) w2 := Below.grown (hb1.alloc (by omega) _) g2 (by simp; omega) (fun j hj => (htab.1.lt _ hj).1)
            have hb3 : Below (w.heap.size + 1) (w.alloc (.cells #[.slice (some ⟨g, 0, none⟩) n cap] 29)) w3 := Below.grown (hb2.alloc (by omega) _) g3 (by simp; omega) (fun j hj => (hot.lt _ hj).1)
            have hnew := Mill.kids_next (vp := .slice (some ⟨gp, 0, none⟩) (p + 0) cp) (vt := .slice (some ⟨wr.heap.size, 0, none⟩) 0 0) hop hot rfl htab hap hapv rfl own1 g1 at1 own2 g2 at2 g3 at3 HD.out
            clear own1 g1 at1 own2 g2 at2 g3 at3 tb1 ot1 ot2
            obtain ⟨gq, cq, hq, _⟩ := Mill.rowForm own3 (by omega)
            go_roundw
            case rel => exact ⟨i + 1, opn.take p ++ [i], tab ++ [opn.drop p], vs ++ [.slice a1 0 c1], gq, cq, by omega, by go_num, by simp [htk]; omega, by simp [htl], by simpa [htk] using hq, by rw [Mill.nats_app, show Mill.nats [i] = [Value.int .i64 (i : Int)] from rfl]; simpa [htk] using own3, hnew.1, hnew.2.1, hnew.2.2, hb3, HU.out⟩
            case measure => simp [intOf]; omega
        · have hcq : ¬ cp = p := by omega
          have hcq2 : ¬ cp - p = 0 := by omega
          have hpl : p < p + m := by omega
          go_wp2_with (first
            | (at_builtin; (refine wpList_append_own_at _ rfl _ _ 42 rfl (w.heap.size + 1) 3 i0 (.int .i64 0) 1 8 Tryz.underlying42 hi0 hz0 hz1 hz2 rfl (by decide) _ 0 [] rfl o0 ⟨gp, p, none⟩ m (cp - p) (Mill.nats (opn.drop p)) rfl hdl hdc (Mill.nats_one _) (by unfold maxLen; omega) (by omega) (by simp; omega) ?_; intro v1 w1 own1 g1 _ at1; rw [Nat.zero_add, List.nil_append] at own1; obtain ⟨a1, c1, hv1⟩ := Mill.rowLen own1; subst hv1; have hs1 := g1.size; rw [World.size_alloc] at hs1; have tb1 : w1.ownsRow (w.heap.size + 1) 42 1 u5 tab.length vs := Mill.kept (htab.1.alloc _) g1 (Mill.apart_new htab.1 rfl (Nat.le_refl _))))
            | (at_builtin; (refine wpList_append_own_at _ rfl _ _ 35 rfl (w.heap.size + 1) 42 i1 (.slice none 0 0) 1 24 Tryz.underlying35 hi1 hy0 hy1 hy2 rfl (by decide) _ tab.length vs rfl (tb1.alloc _) ⟨w1.heap.size, 0, none⟩ 1 1 [.slice a1 m c1] rfl rfl (cell_one_new _ _ _) (Mill.own_one own1) (by unfold maxLen; omega) (by omega) (by simp; omega) ?_; intro vo2 w2 own2 g2 _ at2)
               have hs2 := g2.size
               rw [World.size_alloc] at hs2
               have ot1 : w1.ownsRow (w.heap.size + 1) 3 1 (.slice (some ⟨gp, 0, none⟩) p cp) p (Mill.nats (opn.take p)) := Mill.kept (hot.alloc _) g1 (Mill.apart_new hot rfl (Nat.le_refl _))
               have ot2 : w2.ownsRow (w.heap.size + 1) 3 1 (.slice (some ⟨gp, 0, none⟩) p cp) p (Mill.nats (opn.take p)) := Mill.kept (ot1.alloc _) g2 (fun g h3 h4 => hap g h4 h3))
            | (at_builtin; (refine wpList_append_own_at _ rfl _ _ 42 rfl (w.heap.size + 1) 3 i0 (.int .i64 0) 1 8 Tryz.underlying42 hi0 hz0 hz1 hz2 rfl (by decide) _ p (Mill.nats (opn.take p)) rfl (ot2.alloc _) ⟨w2.heap.size, 0, none⟩ 1 1 [.int .i64 (i : Int)] rfl rfl (cell_one_new _ _ _) (Mill.int_one _) (by unfold maxLen; omega) (by omega) (by simp; omega) ?_; intro vp3 w3 own3 g3 _ at3)))
          have hb1 : Below (w.heap.size + 1) (w.alloc (.cells #[.slice (some ⟨g, 0, none⟩) n cap] 29)) w1 := Below.grown (hbw.alloc hz _) g1 (by simp; omega) (fun j hj => by cases hj; exact hz)
          have hb2 : Below (w.heap.size + 1) (w.alloc (.cells #[.slice (some ⟨g, 0, none⟩) n cap] 29)) w2 := Below.grown (hb1.alloc (by omega) _) g2 (by simp; omega) (fun j hj => (htab.1.lt _ hj).1)
          have hb3 : Below (w.heap.size + 1) (w.alloc (.cells #[.slice (some ⟨g, 0, none⟩) n cap] 29)) w3 := Below.grown (hb2.alloc (by omega) _) g3 (by simp; omega) (fun j hj => (hot.lt _ hj).1)
          have hnew := Mill.kids_next (vp := .slice (some ⟨gp, 0, none⟩) (p + m) cp) (vt := .slice (some ⟨wr.heap.size, 0, none⟩) 0 0) hop hot rfl htab hap hapv rfl own1 g1 at1 own2 g2 at2 g3 at3 HD.out
          clear own1 g1 at1 own2 g2 at2 g3 at3 tb1 ot1 ot2
          obtain ⟨gq, cq, hq, _⟩ := Mill.rowForm own3 (by omega)
          go_roundw
          case rel => exact ⟨i + 1, opn.take p ++ [i], tab ++ [opn.drop p], vs ++ [.slice a1 m c1], gq, cq, by omega, by go_num, by simp [htk]; omega, by simp [htl], by simpa [htk] using hq, by rw [Mill.nats_app, show Mill.nats [i] = [Value.int .i64 (i : Int)] from rfl]; simpa [htk] using own3, hnew.1, hnew.2.1, hnew.2.2, hb3, HU.out⟩
          case measure => simp [intOf]; omega
      · have HR : Hid (Mill.kidsR ns = none) := by rw [if_neg hk] at hu; exact hu.symm
        clear hu
        have hz : w.heap.size + 1 ≤ wr.heap.size := by have := hbw.size; simpa using this
        have hbf : Below w.heap.size w wr := ((Below.refl _ w).alloc (Nat.le_refl _) _).trans (hbw.mono (by omega))
        by_cases hk0 : k < 0
        · clear hk
          go_wp2
          go_ret2
          rw [HR.out]
          exact ⟨_, _, rfl, hbf.alloc (by omega) _, rfl⟩
        · have hk1 : (opn.length : Int) < k := by omega
          clear hk
          go_wp2
          go_ret2
          rw [HR.out]
          exact ⟨_, _, rfl, hbf.alloc (by omega) _, rfl⟩
    · have HR : Hid (Mill.kidsR ns = some (tab, opn)) := by
        rw [List.drop_of_length_le (by rw [HN.out]; omega)] at hu; exact hu.symm
      have hbf : Below w.heap.size w wr := ((Below.refl _ w).alloc (Nat.le_refl _) _).trans (hbw.mono (by omega))
      clear hu hc'
      go_wp2
      go_ret2
      rw [HR.out]
      refine ⟨_, _, rfl, hbf, ?_, vs, ?_⟩
      · go_light; rw [Bool.eq_iff_iff]; simp; omega
      · exact ⟨htab.1.mono (by omega), fun i hi => by obtain ⟨u, hu, ho⟩ := htab.2 i hi; exact ⟨u, hu, ho.mono (by omega)⟩⟩

set_option maxRecDepth 100000 in
set_option maxHeartbeats 1000000 in
theorem l2Kids_any (ns : List Mill.Nd) (v : Value) (w : World) (hN : Mill.NodesAt w v ns) :
    Calls Tryz.prog 11 #[.agg #[v]] w fun e w' => Mill.KidsPost w (Mill.kidsR ns) e w' := by
  by_cases h : 1 ≤ ns.length ∧ ns.length ≤ 12001
  · exact l2Kids_short ns v w hN h.1 h.2
  · have HR : Hid (Mill.kidsR ns = none) := by rw [Hid, Mill.kidsR, if_neg h]
    obtain ⟨a, cap, rfl, hc⟩ := hN
    clear hc
    generalize ns.length = n at *
    by_cases h1 : n < 1
    · have h1' : (n : Int) < 1 := by omega
      clear h
      go_enter Tryz.func11, Tryz.ntmps11
      go_wp2
      go_ret2
      rw [HR.out]
      exact ⟨_, _, rfl, ((Below.refl _ w).alloc (Nat.le_refl _) _).alloc (by simp) _, rfl⟩
    · have h2' : (12001 : Int) < (n : Int) := by omega
      have h1' : ¬ (n : Int) < 1 := by omega
      clear h h1
      go_enter Tryz.func11, Tryz.ntmps11
      go_wp2
      go_ret2
      rw [HR.out]
      exact ⟨_, _, rfl, ((Below.refl _ w).alloc (Nat.le_refl _) _).alloc (by simp) _, rfl⟩

end Go.Proofs.YtkaoeoeloihigaaGreatDoor
