import Derived.Test.YtkaoeoeloihigaaGreatDoorVTreeZD
import Derived.Test.YtkaoeoeloihigaaGreatDoorVTreeV
import Derived.Test.YtkaoeoeloihigaaGreatDoorVTreeZ
namespace Go.Proofs.YtkaoeoeloihigaaGreatDoor
open Go.RowKit

theorem Mill.fields_eq (d : Mill.Nd) (m : Nat) (h1 : 1 ≤ d.kind) (h2 : d.kind ≤ 24) (hm : d.kids = (m : Int)) : Mill.fields d = (Mill.useR d && Mill.ndEq d (Mill.takenN d m)) := by
  obtain ⟨c, o, t, y, x, k⟩ := d
  simp only at h1 h2 hm
  subst hm
  rcases Mill.kind24 c h1 h2 with rfl | rfl | rfl | rfl | rfl | rfl | rfl | rfl | rfl | rfl | rfl | rfl | rfl | rfl | rfl | rfl | rfl | rfl | rfl | rfl | rfl | rfl | rfl | rfl
  all_goals simp only [Mill.fields, Mill.unused, Mill.kindOk, Mill.useR, Mill.ndEq, Mill.takenN, Mill.uOp, Mill.uType, Mill.uN, Mill.uText, Mill.named]
  all_goals generalize Mill.nameOk x = nm
  all_goals rw [Bool.eq_iff_iff]
  all_goals simp
  all_goals grind

end Go.Proofs.YtkaoeoeloihigaaGreatDoor

namespace Go.Proofs.YtkaoeoeloihigaaGreatDoor
open Go.RowKit Go.Maps Go.WideMaps

def Mill.stepOk (d : Mill.Nd) (st : List Mill.Tr) : Bool := decide (0 ≤ d.kids) && decide (d.kids ≤ st.length) && Mill.useR d && Mill.fits d.kind d.op ((st.drop (st.length - d.kids.toNat)).map (fun t => t.nd.kind)) && Mill.ndEq d (Mill.takenN d d.kids.toNat)
def Mill.growT : List Mill.Nd → List Mill.Tr → Option (List Mill.Tr)
  | [], st => some st
  | d :: r, st => if Mill.stepOk d st = true then Mill.growT r (st.take (st.length - d.kids.toNat) ++ [.node d (st.drop (st.length - d.kids.toNat))]) else none
def Mill.rootOk (ns : List Mill.Nd) : Bool := decide (ns.length ≤ 12001) && (match Mill.growT ns [] with | some [t] => (t.nd.kind == 24) && decide (t.high ≤ 60) | _ => false)

theorem usesAll_any (d : Mill.Nd) (P : Nat → Prop) (us : List Value) (ks : List Int) (v : Value) (w : World) (hP : ∀ g, P g → g < w.heap.size) (hk : Mill.Kinded us ks) (hl : 23 ≤ d.kind → us.length ≤ 100000) (hS : Mill.Shape P w d us v) :
    Calls Tryz.prog 29 #[Mill.ndV d, v] w fun e w' => e = .returned (.bool (Mill.ndEq d (Mill.takenN d us.length))) ∧ Below w.heap.size w w' := by
  obtain ⟨h1, h2, X, rfl, hI⟩ := hS
  obtain ⟨c, o, t, y, x, k⟩ := d
  simp only at h1 h2 hl ⊢
  rcases Mill.kind24 c h1 h2 with rfl | rfl | rfl | rfl | rfl | rfl | rfl | rfl | rfl | rfl | rfl | rfl | rfl | rfl | rfl | rfl | rfl | rfl | rfl | rfl | rfl | rfl | rfl | rfl
  · exact usesAll_1 o t y x k P us ks X w hP hk hl hI
  · exact usesAll_2 o t y x k P us ks X w hP hk hl hI
  · exact usesAll_3 o t y x k P us ks X w hP hk hl hI
  · exact usesAll_4 o t y x k P us ks X w hP hk hl hI
  · exact usesAll_5 o t y x k P us ks X w hP hk hl hI
  · exact usesAll_6 o t y x k P us ks X w hP hk hl hI
  · exact usesAll_7 o t y x k P us ks X w hP hk hl hI
  · exact usesAll_8 o t y x k P us ks X w hP hk hl hI
  · exact usesAll_9 o t y x k P us ks X w hP hk hl hI
  · exact usesAll_10 o t y x k P us ks X w hP hk hl hI
  · exact usesAll_11 o t y x k P us ks X w hP hk hl hI
  · exact usesAll_12 o t y x k P us ks X w hP hk hl hI
  · exact usesAll_13 o t y x k P us ks X w hP hk hl hI
  · exact usesAll_14 o t y x k P us ks X w hP hk hl hI
  · exact usesAll_15 o t y x k P us ks X w hP hk hl hI
  · exact usesAll_16 o t y x k P us ks X w hP hk hl hI
  · exact usesAll_17 o t y x k P us ks X w hP hk hl hI
  · exact usesAll_18 o t y x k P us ks X w hP hk hl hI
  · exact usesAll_19 o t y x k P us ks X w hP hk hl hI
  · exact usesAll_20 o t y x k P us ks X w hP hk hl hI
  · exact usesAll_21 o t y x k P us ks X w hP hk hl hI
  · exact usesAll_22 o t y x k P us ks X w hP hk hl hI
  · exact usesAll_23 o t y x k P us ks X w hP hk hl hI
  · exact usesAll_24 o t y x k P us ks X w hP hk hl hI
theorem usesAll_is (b : Bool) (d : Mill.Nd) (P : Nat → Prop) (us : List Value) (ks : List Int) (m : Nat) (hm : us.length = m) (hb : Hid (Mill.ndEq d (Mill.takenN d m) = b)) (v : Value) (w : World) (hP : ∀ g, P g → g < w.heap.size) (hk : Mill.Kinded us ks) (hl : 23 ≤ d.kind → us.length ≤ 100000) (hS : Mill.Shape P w d us v) :
    Calls Tryz.prog 29 #[Mill.ndV d, v] w fun e w' => e = .returned (.bool b) ∧ Below w.heap.size w w' := by
  rw [← hb.out, ← hm]; exact usesAll_any d P us ks v w hP hk hl hS
theorem Mill.form_of {P : Nat → Prop} {w : World} {d : Mill.Nd} {us : List Value} {ks : List Int} {v : Value} (hk : Mill.Kinded us ks) (h : Mill.Shape P w d us v) : 1 ≤ d.kind ∧ d.kind ≤ 24 ∧ ∃ x, v = .iface (Mill.ty d.kind) x ∧ Mill.Form d.kind x := by
  obtain ⟨h1, h2, X, hv, hI⟩ := h
  refine ⟨h1, h2, X, hv, fun h => ?_, fun h => ?_, fun h => ?_, fun h => ?_⟩
  · unfold Mill.Inner at hI
    simp (decide := true) only [h, if_false, if_true] at hI
    obtain ⟨S, ⟨a, c, hS, _⟩, hx⟩ := hI
    exact ⟨a, _, c, by rw [hx, hS]⟩
  · unfold Mill.Inner at hI
    simp (decide := true) only [h, if_false, if_true] at hI
    obtain ⟨S, ⟨a, c, hS, _⟩, hx⟩ := hI
    exact ⟨_, a, _, c, by rw [hx, hS]⟩
  · unfold Mill.Inner at hI
    simp (decide := true) only [h, if_false, if_true] at hI
    exact ⟨_, _, hI.2⟩
  · unfold Mill.Inner at hI
    simp (decide := true) only [h, if_false, if_true] at hI
    obtain ⟨ps, SP, SB, hu, ⟨a, c, hS, _⟩, hx⟩ := hI
    obtain ⟨sa, sn, sc, hB⟩ := Mill.bl_slice hk ps.length SB (by rw [hu]; simp)
    exact ⟨_, _, a, _, c, sa, sn, sc, by rw [hx, hS, hB]⟩
theorem Mill.Kinded.drop {us : List Value} {ks : List Int} (h : Mill.Kinded us ks) (m : Nat) : Mill.Kinded (us.drop m) (ks.drop m) := by
  refine ⟨by rw [List.length_drop, List.length_drop, h.1], fun i hi => ?_⟩
  have hi2 : m + i < ks.length := by rw [List.length_drop] at hi; omega
  obtain ⟨h1, h2, x, h3, h4⟩ := h.2 (m + i) hi2
  rw [List.getElem_drop]
  exact ⟨h1, h2, x, by rw [List.getElem?_drop]; exact h3, h4⟩
theorem Mill.Kinded.take {us : List Value} {ks : List Int} (h : Mill.Kinded us ks) (m : Nat) : Mill.Kinded (us.take m) (ks.take m) := by
  refine ⟨by rw [List.length_take, List.length_take, h.1], fun i hi => ?_⟩
  have hi2 : i < ks.length := by rw [List.length_take] at hi; omega
  have hi3 : i < m := by rw [List.length_take] at hi; omega
  obtain ⟨h1, h2, x, h3, h4⟩ := h.2 i hi2
  rw [List.getElem_take]
  exact ⟨h1, h2, x, by rw [List.getElem?_take, if_pos hi3]; exact h3, h4⟩
theorem Mill.Kinded.snoc {us : List Value} {ks : List Int} (h : Mill.Kinded us ks) {k : Int} {x : Value} (h1 : 1 ≤ k) (h2 : k ≤ 24) (hf : Mill.Form k x) : Mill.Kinded (us ++ [.iface (Mill.ty k) x]) (ks ++ [k]) := by
  refine ⟨by simp [h.1], fun i hi => ?_⟩
  by_cases hi2 : i < ks.length
  · obtain ⟨h3, h4, x', h5, h6⟩ := h.2 i hi2
    rw [List.getElem_append_left hi2]
    exact ⟨h3, h4, x', by rw [List.getElem?_append_left (by rw [h.1]; exact hi2)]; exact h5, h6⟩
  · have hi3 : i = ks.length := by simp at hi; omega
    subst hi3
    rw [List.getElem_append_right (Nat.le_refl _)]
    simp only [Nat.sub_self, List.getElem_cons_zero]
    exact ⟨h1, h2, x, by rw [List.getElem?_append_right (by rw [h.1]; exact Nat.le_refl _), h.1]; simp, hf⟩
theorem Mill.Kinded.one {us : List Value} {ks : List Int} (h : Mill.Kinded us ks) : ∀ u ∈ us, u.oneCell' = true := by
  intro u hu
  obtain ⟨i, hi⟩ := List.mem_iff_getElem?.1 hu
  obtain ⟨k, y, _, _, _, rfl, _⟩ := Mill.us_at h i u hi
  rfl
theorem Mill.Reps.app {P : Nat → Prop} {w : World} : ∀ (a b : List Mill.Tr) (us vs : List Value), Mill.Reps P w a us → Mill.Reps P w b vs → Mill.Reps P w (a ++ b) (us ++ vs)
  | [], b, us, vs, h, h2 => by rw [Mill.Reps] at h; subst h; exact h2
  | t :: r, b, us, vs, h, h2 => by
    rw [Mill.Reps] at h
    obtain ⟨u, us', rfl, h3, h4⟩ := h
    rw [List.cons_append, List.cons_append, Mill.Reps]
    exact ⟨u, us' ++ vs, rfl, h3, Mill.Reps.app r b us' vs h4 h2⟩
theorem Mill.Reps.cut {P : Nat → Prop} {w : World} : ∀ (m : Nat) (a : List Mill.Tr) (us : List Value), Mill.Reps P w a us → Mill.Reps P w (a.take m) (us.take m) ∧ Mill.Reps P w (a.drop m) (us.drop m)
  | 0, a, us, h => by
    refine ⟨?_, by simpa using h⟩
    simp only [List.take_zero]; rw [Mill.Reps]
  | m + 1, [], us, h => by
    rw [Mill.Reps] at h; subst h
    simp only [List.take_nil, List.drop_nil]
    constructor <;> rw [Mill.Reps]
  | m + 1, t :: r, us, h => by
    rw [Mill.Reps] at h
    obtain ⟨u, us', rfl, h3, h4⟩ := h
    obtain ⟨h5, h6⟩ := Mill.Reps.cut m r us' h4
    simp only [List.take_succ_cons, List.drop_succ_cons]
    exact ⟨by rw [Mill.Reps]; exact ⟨u, us'.take m, rfl, h3, h5⟩, h6⟩

end Go.Proofs.YtkaoeoeloihigaaGreatDoor

namespace Go.Proofs.YtkaoeoeloihigaaGreatDoor
open Go.RowKit

theorem Mill.fits60 (kd ko : Int) (ks : List Int) (h : Mill.fits kd ko ks = true) (h23 : 23 ≤ kd) : ks.length ≤ 60 := by
  by_cases h1 : kd = 23
  · subst h1
    by_cases h9 : 9 < ks.length
    · have : Mill.fits 23 ko ks = false := by simp [Mill.fits, Mill.fnK_no ks (.inr h9)]
      rw [this] at h; cases h
    · omega
  · by_cases h2 : kd = 24
    · subst h2
      simp [Mill.fits] at h
      omega
    · have hn : ∀ m : Int, 1 ≤ m → m ≤ 24 → kd ≠ m := fun m h3 h4 => by omega
      have : Mill.fits kd ko ks = false := by simp [Mill.fits, hn]
      rw [this] at h; cases h
def Mill.FreeB (B : Nat) (w : World) (vt : Value) : Nat → Prop := fun g => B ≤ g ∧ g < w.heap.size ∧ vt.ownBlock ≠ some g
theorem Mill.reps_next {wr w4 w6 : World} {vt v6 v : Value} {P4 : Nat → Prop} {d : Mill.Nd} {st : List Mill.Tr} {vs : List Value} {p B : Nat}
    (hR : Mill.Reps (Mill.FreeB B wr vt) wr st vs) (hK : Mill.Kinded vs (st.map (fun t => t.nd.kind)))
    (hkeep : ∀ g, Mill.FreeB B wr vt g → w6.heap[g]? = wr.heap[g]?) (hfree : ∀ g, Mill.FreeB B wr vt g → Mill.FreeB B w6 v6 g)
    (hsh : Mill.Shape P4 w4 d (vs.drop p) v) (hkeep4 : ∀ g, P4 g → w6.heap[g]? = w4.heap[g]?) (hfree4 : ∀ g, P4 g → Mill.FreeB B w6 v6 g)
    (h60 : 23 ≤ d.kind → (vs.drop p).length ≤ 100000) (hl : (vs.drop p).length ≤ 100000) :
    Mill.Reps (Mill.FreeB B w6 v6) w6 (st.take p ++ [.node d (st.drop p)]) (vs.take p ++ [v]) ∧ Mill.Kinded (vs.take p ++ [v]) ((st.take p ++ [Mill.Tr.node d (st.drop p)]).map (fun t => t.nd.kind)) := by
  obtain ⟨hR1, hR2⟩ := Mill.Reps.cut p st vs hR
  have hKd : Mill.Kinded (vs.drop p) ((st.drop p).map (fun t => t.nd.kind)) := by rw [List.map_drop]; exact hK.drop p
  have hKt : Mill.Kinded (vs.take p) ((st.take p).map (fun t => t.nd.kind)) := by rw [List.map_take]; exact hK.take p
  obtain ⟨k1, k2, X, hv, hf⟩ := Mill.form_of hKd hsh
  constructor
  · refine Mill.Reps.app _ _ _ _ (Mill.Reps.below hfree hkeep _ _ hR1) ?_
    rw [Mill.Reps]
    refine ⟨v, [], rfl, ?_, by rw [Mill.Reps]⟩
    rw [Mill.Rep]
    exact ⟨vs.drop p, hsh.below hfree4 hkeep4, hKd, h60, hl, Mill.Reps.below hfree hkeep _ _ hR2⟩
  · rw [List.map_append]
    subst hv
    exact hKt.snoc k1 k2 hf

end Go.Proofs.YtkaoeoeloihigaaGreatDoor

namespace Go.Proofs.YtkaoeoeloihigaaGreatDoor
open Go.RowKit Go.Maps Go.WideMaps

theorem usesRight_is (c : Bool) (d : Mill.Nd) (hc : Hid (Mill.useR d = c)) (b : Nat) (w : World) (hs : d.text.size ≤ 1048576) (hM : Mill.TWords w b) (hG : Mill.Greats w) :
    Calls Tryz.prog 26 #[Mill.ndV d, .map (some b)] w fun e w' => e = .returned (.bool c) ∧ Below w.heap.size w w' := by
  rw [← hc.out]; exact usesRight_any d b w hs hM hG
theorem Mill.Greats.below {w w' : World} (h : Mill.Greats w) (hb : Below w.heap.size w w') : Mill.Greats w' :=
  ⟨fun t h1 h2 => by rw [hb.cell (p := ⟨1, t, none⟩) h.2]; exact h.1 t h1 h2, Nat.lt_of_lt_of_le h.2 hb.size⟩
theorem Mill.Builts.below {w w' : World} (h : Mill.Builts w) (hb : Below w.heap.size w w') : Mill.Builts w' :=
  ⟨fun t h1 h2 => by rw [hb.cell (p := ⟨2, t * 2 + 1, none⟩) h.2]; exact h.1 t h1 h2, Nat.lt_of_lt_of_le h.2 hb.size⟩
theorem Tryz.ifNeNil (t : TypeId) (y : Value) (w : World) : (binOp .eql 77 (.iface t y) .nilIface).run Tryz.prog w = .ok (.bool false) w := by kernel_rfl
theorem Tryz.ifEqNil (w : World) : (binOp .eql 77 .nilIface .nilIface).run Tryz.prog w = .ok (.bool true) w := by kernel_rfl
theorem Mill.below_undrew {B : Nat} {w w' : World} (h : Below B w.drew w') : Below B w w' := ⟨h.os, h.tape, h.output, h.size, h.block⟩
theorem Mill.own_cap {w : World} {B e size n : Nat} {v : Value} {xs : List Value} (h : w.ownsRow B e size v n xs) : Mill.Cap v n := by
  intro a c hv
  rcases h.2 with ⟨h1, h2⟩ | ⟨g, cap, cur, h1, _, _, h3, _⟩
  · rw [hv] at h1; cases h1; omega
  · rw [hv] at h1; cases h1; exact h3
theorem Mill.own_takeU {w : World} {B e n c : Nat} {a : Option Addr} {xs : List Value} (h : w.ownsRow B e 1 (.slice a n c) n xs) (m : Nat) (hm : m ≤ n) : w.ownsRow B e 1 (.slice a m c) m (xs.take m) := by
  rcases h.2 with ⟨h3, h0⟩ | ⟨g, cap, cur, hv, _⟩
  · cases h3
    have h4 : m = 0 := by omega
    subst h4
    exact ⟨by simp, .inl ⟨rfl, rfl⟩⟩
  · cases hv; exact Mill.own_take h m hm
theorem clone_u (at' : Option Addr) (p m ct B : Nat) (sa : Option Addr) (vs : List Value) (W : World) (hsa : Hid ((if ct = p then at' else at'.map (fun a => a.add p)) = sa)) (hown : W.ownsRow B 77 1 (.slice at' (p + m) ct) (p + m) vs) (hone : ∀ u ∈ vs.drop p, u.oneCell' = true) (hm : m ≤ 100000) :
    Calls Tryz.prog 28 #[.slice sa m (ct - p)] W fun e w' => ∃ aS cS, e = .returned (.slice aS m cS) ∧ Hid (Mill.Sl (fun g => W.heap.size ≤ g ∧ g < w'.heap.size) w' (.slice aS m cS) m (vs.drop p)) ∧ Mill.Cap (.slice aS m cS) m ∧ Below W.heap.size W w' := by
  have hvl : vs.length = p + m := by have := hown.1; omega
  have hdl : (vs.drop p).length = m := by rw [List.length_drop]; omega
  rcases hown.2 with ⟨h3, h0⟩ | ⟨g, cap, cur, hv, hBg, hgg, hcap, _⟩
  · simp only [Value.slice.injEq] at h3
    obtain ⟨rfl, _, rfl⟩ := h3
    have hp0 : p = 0 := by omega
    have hm0 : m = 0 := by omega
    subst hp0 hm0
    have hsn : sa = none := by rw [← hsa.out]; simp
    subst hsn
    refine (CloneB_nil W).mono ?_
    rintro e w' ⟨rfl, rfl⟩
    have hnil : vs.drop 0 = [] := List.length_eq_zero_iff.1 hdl
    exact ⟨none, 0, rfl, by rw [hnil]; exact Mill.sl_nil _ _, fun a c h => by cases h; exact Nat.le_refl _, Below.refl _ _⟩
  · simp only [Value.slice.injEq] at hv
    obtain ⟨rfl, _, rfl⟩ := hv
    have htb : g < W.heap.size := (Array.getElem?_eq_some_iff.1 hgg).1
    by_cases hcp : ct = p
    · have hm0 : m = 0 := by omega
      subst hm0
      have hsn : sa = some ⟨g, 0, none⟩ := by rw [← hsa.out, if_pos hcp]
      subst hsn
      have hnil : vs.drop p = [] := List.length_eq_zero_iff.1 hdl
      rw [hnil]
      refine (CloneB_any g 0 0 (ct - p) [] W rfl (by omega) (by simp) (fun j u hj => by simp at hj) htb).mono ?_
      rintro e w' ⟨S, rfl, ownS, hb⟩
      obtain ⟨aS, cS, rfl⟩ := Mill.rowLen ownS
      exact ⟨aS, cS, rfl, Mill.sl_own ownS, Mill.own_cap ownS, hb⟩
    · have hsn : sa = some ⟨g, p, none⟩ := by
        rw [← hsa.out, if_neg hcp]
        simp only [Option.map_some, Addr.add]
        split
        · simp_all
        · simp
      subst hsn
      refine (CloneB_any g p m (ct - p) (vs.drop p) W hdl hm hone (fun j u hj => ?_) htb).mono ?_
      · have hj2 := (List.getElem?_eq_some_iff.1 hj).1
        rw [hown.cellAt (p + j) (by omega)]
        rw [List.getElem?_drop] at hj; exact hj
      · rintro e w' ⟨S, rfl, ownS, hb⟩
        obtain ⟨aS, cS, rfl⟩ := Mill.rowLen ownS
        exact ⟨aS, cS, rfl, Mill.sl_own ownS, Mill.own_cap ownS, hb⟩
theorem Mill.round_next {wr w2 w3 w4 w5 w6 : World} {B p m ct : Nat} {at' : Option Addr} {v6 v : Value} {d : Mill.Nd} {st : List Mill.Tr} {vs : List Value} {o : Obj}
    (hown : wr.ownsRow B 77 1 (.slice at' (p + m) ct) (p + m) vs) (hR : Mill.Reps (Mill.FreeB B wr (.slice at' (p + m) ct)) wr st vs) (hK : Mill.Kinded vs (st.map (fun t => t.nd.kind)))
    (hB : B ≤ wr.heap.size) (hbr5 : Below wr.heap.size wr w5) (hb45 : Below w4.heap.size w4 w5) (h2 : wr.heap.size ≤ w2.heap.size) (h23 : w2.heap.size ≤ w3.heap.size)
    (hsh : Mill.Shape (fun g => w2.heap.size ≤ g ∧ g < w3.heap.size ∨ w3.heap.size ≤ g ∧ g < w4.heap.size) w4 d (vs.drop p) v) (h34 : w3.heap.size ≤ w4.heap.size)
    (g6 : (w5.alloc o).grownBy w6 (Value.slice at' p ct).ownBlock) (at6 : v6.ownBlock = (Value.slice at' p ct).ownBlock ∨ v6.ownBlock = some (w5.alloc o).heap.size)
    (h60 : 23 ≤ d.kind → (vs.drop p).length ≤ 100000) (hl : (vs.drop p).length ≤ 100000) :
    Mill.Reps (Mill.FreeB B w6 v6) w6 (st.take p ++ [.node d (st.drop p)]) (vs.take p ++ [v]) ∧ Mill.Kinded (vs.take p ++ [v]) ((st.take p ++ [Mill.Tr.node d (st.drop p)]).map (fun t => t.nd.kind)) := by
  have hob : (Value.slice at' p ct).ownBlock = (Value.slice at' (p + m) ct).ownBlock := by cases at' <;> rfl
  rw [hob] at g6 at6
  have hlt : ∀ g, (Value.slice at' (p + m) ct).ownBlock = some g → g < wr.heap.size := fun g h => (hown.lt g h).2
  have hz5 := hbr5.size
  have hz45 := hb45.size
  have hz6 := g6.size
  rw [World.size_alloc] at hz6 at6
  have ha5 : Below wr.heap.size wr (w5.alloc o) := hbr5.alloc hz5 o
  have ha45 : Below w4.heap.size w4 (w5.alloc o) := hb45.alloc hz45 o
  have hfree : ∀ g, B ≤ g → g < w5.heap.size → (Value.slice at' (p + m) ct).ownBlock ≠ some g → Mill.FreeB B w6 v6 g := fun g h0 h1 h3 => by
    refine ⟨h0, by omega, fun h4 => ?_⟩
    rcases at6 with h5 | h5
    · exact h3 (h5.symm.trans h4)
    · rw [h4] at h5; cases h5; omega
  have hkeep : ∀ g, g < w5.heap.size → (Value.slice at' (p + m) ct).ownBlock ≠ some g → w6.heap[g]? = (w5.alloc o).heap[g]? := fun g h1 h3 => g6.block g (by rw [World.size_alloc]; omega) (fun h4 => h3 (by first | exact h4 | exact h4.symm))
  refine Mill.reps_next hR hK ?_ ?_ hsh ?_ ?_ h60 hl
  · rintro g ⟨h0, h1, h3⟩
    rw [hkeep g (by omega) h3]; exact ha5.block g h1
  · rintro g ⟨h0, h1, h3⟩
    exact hfree g h0 (by omega) h3
  · intro g h1
    have h3 : (Value.slice at' (p + m) ct).ownBlock ≠ some g := fun h4 => by have := hlt g h4; omega
    rw [hkeep g (by omega) h3]; exact ha45.block g (by omega)
  · intro g h1
    exact hfree g (by omega) (by omega) (fun h4 => by have := hlt g h4; omega)
theorem Mill.step_of (d : Mill.Nd) (st : List Mill.Tr) (m p : Nat) (hd : d.kids = (m : Int)) (hL : st.length = p + m) : Mill.stepOk d st = (Mill.useR d && Mill.fits d.kind d.op ((st.map (fun t => t.nd.kind)).drop p) && Mill.ndEq d (Mill.takenN d m)) := by
  unfold Mill.stepOk
  have h1 : d.kids.toNat = m := by omega
  have h2 : st.length - m = p := by omega
  have h3 : (0 : Int) ≤ d.kids := by omega
  have h4 : d.kids ≤ st.length := by omega
  rw [h1, h2, List.map_drop]
  simp only [h3, h4, decide_true, Bool.true_and]
theorem Mill.hu_yes {d : Mill.Nd} {st : List Mill.Tr} {m p : Nat} {r : List Mill.Nd} {G : Option (List Mill.Tr)} (hd : d.kids = (m : Int)) (hL : st.length = p + m)
    (hu : (if Mill.stepOk d st = true then Mill.growT r (st.take (st.length - d.kids.toNat) ++ [.node d (st.drop (st.length - d.kids.toNat))]) else none) = G)
    (h1 : Mill.useR d = true) (h2 : Mill.fits d.kind d.op ((st.map (fun t => t.nd.kind)).drop p) = true) (h3 : Mill.ndEq d (Mill.takenN d m) = true) : Mill.growT r (st.take p ++ [.node d (st.drop p)]) = G := by
  have h4 : st.length - d.kids.toNat = p := by omega
  rw [Mill.step_of d st m p hd hL, h1, h2, h3, h4] at hu
  simpa using hu
theorem Mill.hu_no {d : Mill.Nd} {st : List Mill.Tr} {m p : Nat} {r : List Mill.Nd} {G : Option (List Mill.Tr)} (hd : d.kids = (m : Int)) (hL : st.length = p + m)
    (hu : (if Mill.stepOk d st = true then Mill.growT r (st.take (st.length - d.kids.toNat) ++ [.node d (st.drop (st.length - d.kids.toNat))]) else none) = G)
    (h : (Mill.useR d && Mill.fits d.kind d.op ((st.map (fun t => t.nd.kind)).drop p) && Mill.ndEq d (Mill.takenN d m)) = false) : G = none := by
  rw [Mill.step_of d st m p hd hL, h] at hu
  simpa using hu.symm
theorem Mill.highs_lt (l : List Mill.Tr) (i : Nat) (h : ∀ t ∈ l, t.high < i) : Mill.Tr.highs l ≤ i := by
  induction l with
  | nil => simp [Mill.Tr.highs]
  | cons t r ih =>
    simp only [Mill.Tr.highs]
    have h1 := h t (by simp)
    have h2 := ih (fun u hu => h u (by simp [hu]))
    omega
theorem Mill.high_next (st : List Mill.Tr) (d : Mill.Nd) (p i : Nat) (h : ∀ t ∈ st, t.high < i) : ∀ t ∈ st.take p ++ [.node d (st.drop p)], t.high < i + 1 := by
  intro t ht
  rcases List.mem_append.1 ht with ht | ht
  · have := h t (List.mem_of_mem_take ht); omega
  · rw [List.mem_singleton] at ht
    subst ht
    rw [Mill.Tr.high]
    have := Mill.highs_lt (st.drop p) i (fun u hu => h u (List.mem_of_mem_drop hu))
    omega
theorem Mill.prog_form {P : Nat → Prop} {w : World} {t : Mill.Tr} {T : TypeId} {X : Value} (h24 : t.nd.kind = 24) (h : Mill.Rep P w t (.iface T X)) : ∃ a n c, X = .agg #[.slice a n c] := by
  obtain ⟨d, ks⟩ := t
  rw [Mill.Rep] at h
  obtain ⟨us, ⟨_, _, x, hx, hI⟩, _⟩ := h
  cases hx
  unfold Mill.Inner at hI
  have h25 : d.kind = 24 := h24
  simp (decide := true) only [h25, if_false] at hI
  obtain ⟨fs, SF, _, ⟨a, c, hS, _⟩, hX⟩ := hI
  exact ⟨a, _, c, by rw [hX, hS]⟩
theorem Mill.heap_set (w : World) (B g : Nat) (v : Value) (h : B ≠ g) : (w.setCell ⟨B, 0, none⟩ v).heap[g]? = w.heap[g]? := by
  unfold World.setCell
  simp [Array.getElem?_modify, h]
theorem Mill.ty_prog (k : Int) (h1 : 1 ≤ k) (h2 : k ≤ 24) (h : Mill.ty k = 47) : k = 24 := by
  rcases Mill.kind24 k h1 h2 with rfl | rfl | rfl | rfl | rfl | rfl | rfl | rfl | rfl | rfl | rfl | rfl | rfl | rfl | rfl | rfl | rfl | rfl | rfl | rfl | rfl | rfl | rfl | rfl
  all_goals first | rfl | (exfalso; revert h; decide)
end Go.Proofs.YtkaoeoeloihigaaGreatDoor
