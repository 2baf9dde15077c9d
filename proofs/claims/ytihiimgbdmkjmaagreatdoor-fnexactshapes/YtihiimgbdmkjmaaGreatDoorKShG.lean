import Derived.Test.YtihiimgbdmkjmaaGreatDoorKShE
import Derived.Test.YtihiimgbdmkjmaaGreatDoorKCdYA
import Derived.Deep.RegionWith
namespace Go.Proofs.YtihiimgbdmkjmaaGreatDoor
open Go.RowKit

/-- What Shapes answers. -/
def Cd.ShapesAre (c : List Cd.Fn) (fn : Int) (X : List Cd.Sh) : Prop :=
  (((Cd.plain c).1 ≠ 0 ∨ fn < 0 ∨ (c.length : Int) ≤ fn) ∧ X = []) ∨ ((Cd.plain c).1 = 0 ∧ ∃ k, ∃ (hk : k < c.length), fn = (k : Int) ∧ Cd.Least c c[k] X)
theorem Cd.ShapesAre.one {c : List Cd.Fn} {fn : Int} {X Y : List Cd.Sh} (h : Cd.ShapesAre c fn X) (k : Cd.ShapesAre c fn Y) : X = Y := by
  rcases h with ⟨h1, rfl⟩ | ⟨h1, k1, hk1, e1, l1⟩
  · rcases k with ⟨_, rfl⟩ | ⟨h2, k2, hk2, e2, l2⟩
    · rfl
    · omega
  · rcases k with ⟨h2, rfl⟩ | ⟨h2, k2, hk2, e2, l2⟩
    · omega
    · have : k1 = k2 := by omega
      subst this; exact l1.one l2
/-- A shape and the slices of its two lists. -/
structure Cd.Ev where
  sh : Cd.Sh
  sv : Value
  kv : Value
def Cd.evC (e : Cd.Ev) : List Value := [.int .i64 (Cd.st e.sh), e.sv, e.kv]
def Cd.evCs (E : List Cd.Ev) : List Value := E.flatMap Cd.evC
theorem Cd.evCs_app (E F : List Cd.Ev) : Cd.evCs (E ++ F) = Cd.evCs E ++ Cd.evCs F := by unfold Cd.evCs; rw [List.flatMap_append]
theorem Cd.evCs_at : ∀ (E : List Cd.Ev) (u : Nat) (hu : u < E.length) (j : Nat), j < 3 → (Cd.evCs E)[u * 3 + j]? = (Cd.evC E[u])[j]?
  | e :: E, 0, _, j, hj => by
    rw [show Cd.evCs (e :: E) = Cd.evC e ++ Cd.evCs E from rfl, List.getElem?_append_left (by simp [Cd.evC]; omega)]
    simp
  | e :: E, u + 1, hu, j, hj => by
    have hl : (Cd.evC e).length = 3 := by simp [Cd.evC]
    rw [show Cd.evCs (e :: E) = Cd.evC e ++ Cd.evCs E from rfl, List.getElem?_append_right (by rw [hl]; omega), hl, show (u + 1) * 3 + j - 3 = u * 3 + j by omega]
    have := Cd.evCs_at E u (by simpa using hu) j hj
    simpa using this
structure Cd.EvAt (A : Nat) (w : World) (v : Value) (L : List Cd.Ev) : Prop where
  row : w.ownsRow A 43 3 v L.length (Cd.evCs L)
  each : ∀ e ∈ L, w.ownsRow A 3 1 e.sv (Cd.sl e.sh).length (Cd.ints (Cd.sl e.sh)) ∧ w.ownsRow A 3 1 e.kv (Cd.kl e.sh).length (Cd.ints (Cd.kl e.sh))
theorem Cd.EvAt.below {A : Nat} {w w' : World} {v : Value} {L : List Cd.Ev} (h : Cd.EvAt A w v L) (hb : Below w.heap.size w w') : Cd.EvAt A w' v L :=
  ⟨Cd.own_keep h.row fun k _ _ hk => hb.block k hk, fun e he => ⟨Cd.own_keep (h.each e he).1 fun k _ _ hk => hb.block k hk, Cd.own_keep (h.each e he).2 fun k _ _ hk => hb.block k hk⟩⟩
theorem Cd.row_ne {w : World} {A B n m i j : Nat} {e f : TypeId} {v u : Value} {xs ys : List Value} (h : w.ownsRow A e i v n xs) (h' : w.ownsRow B f j u m ys) (hne : e ≠ f) {g : Nat} (hg : v.ownBlock = some g) : u.ownBlock ≠ some g := by
  intro hg'
  rcases h.2 with ⟨rfl, _⟩ | ⟨a, cap, cur, rfl, _, ha, _⟩
  · simp [Value.ownBlock] at hg
  · rcases h'.2 with ⟨rfl, _⟩ | ⟨b, cap', cur', rfl, _, hb, _⟩
    · simp [Value.ownBlock] at hg'
    · have e1 : a = g := by simpa [Value.ownBlock] using hg
      have e2 : b = g := by simpa [Value.ownBlock] using hg'
      subst e1; subst e2
      rw [ha] at hb
      injection hb with hb; injection hb with _ hb
      exact hne hb
theorem Cd.EvAt.out {A : Nat} {w : World} {v : Value} {L : List Cd.Ev} {X : List Cd.Sh} (h : Cd.EvAt A w v L) (hX : L.map (·.sh) = X) : Cd.OutAt w.heap.size w v X := by
  have hl : X.length = L.length := by rw [← hX, List.length_map]
  rcases h.row.2 with ⟨rfl, h1⟩ | ⟨g, cap, cur, rfl, hA, hg, hnc, hmx, hsz, htk⟩
  · exact ⟨none, 0, by rw [show X.length = 0 by omega], fun u hu => by omega⟩
  · have hcell : ∀ u (hu : u < L.length) j, j < 3 → w.cell? ⟨g, u * 3 + j, none⟩ = (Cd.evC L[u])[j]? := fun u hu j hj => by
      rw [Lib.cell_of_heap hg, ← Cd.evCs_at L u hu j hj, ← htk, List.getElem?_take, if_pos (by omega), Array.getElem?_toList]
    rw [← hl]
    refine ⟨_, _, rfl, fun u hu => ?_⟩
    have hu2 : u < L.length := by omega
    have hxu : X[u] = L[u].sh := by subst hX; simp
    obtain ⟨h3, h4⟩ := h.each L[u] (List.getElem_mem hu2)
    obtain ⟨sa, sc, hs⟩ := Cd.rowLen h3
    obtain ⟨ka, kc, hk⟩ := Cd.rowLen h4
    have c1 := hcell u hu2 1 (by omega)
    have c2 := hcell u hu2 2 (by omega)
    rw [hxu]
    rw [hs] at h3; rw [hk] at h4
    refine ⟨g, sa, sc, ka, kc, rfl, (Array.getElem?_eq_some_iff.1 hg).1, ⟨hcell u hu2 0 (by omega), by rw [c1]; show some L[u].sv = _; rw [hs], by rw [c2]; show some L[u].kv = _; rw [hk]⟩, Cd.IntsAt.own h3 (Nat.le_refl _), Cd.IntsAt.own h4 (Nat.le_refl _)⟩
theorem Cd.run_append_ints_at {P : Program} {w : World} (base : Nat) (t ty e : TypeId) (i : TypeInfo) (z : Value) (ht : P.underlying t = some (.slice e)) (hi : P.info? e = some i) (hz : i.zero = some z) (hsize : i.size = 1) (hby : i.bytes = 8) (hzs : z.cells.size = 1)
    (v : Value) (n : Nat) (xs : List Int) (hown : w.ownsRow base e 1 v n (Cd.ints xs)) (C : Nat) (src : Value) (news : List Int) (hsrc : Cd.IntsAt C w src news) (hsmall : n + news.length ≤ 1048576) (hbase : base ≤ w.heap.size) :
    ∃ v' w', (Builtin.append_ #[t, t] ty #[v, src]).run P w = .ok v' w' ∧ w'.ownsRow base e 1 v' (n + news.length) (Cd.ints (xs ++ news)) ∧ w.grownBy w' v.ownBlock ∧ (v'.ownBlock = v.ownBlock ∨ v'.ownBlock = some w.heap.size) := by
  obtain ⟨ao, c, rfl, hc⟩ := hsrc
  by_cases h0 : news.length = 0
  · have hn : news = [] := List.eq_nil_of_length_eq_zero h0
    subst hn
    refine ⟨v, w, Cd.run_append_zero base t ty e i 1 ht hi v n _ hown ao c, ?_, ⟨rfl, rfl, rfl, Nat.le_refl _, fun _ _ _ => rfl⟩, .inl rfl⟩
    simpa using hown
  · obtain ⟨g, o, rfl, _, _⟩ := hc 0 (by omega)
    obtain ⟨v', w', h1, h2, h3, _, h4⟩ := run_append_own_at (P := P) (w := w) base t ty e i z 1 8 ht hi hz hsize hby hzs (by decide) v n (Cd.ints xs) hown ⟨g, o, none⟩ news.length c (Cd.ints news) (by simp [Cd.ints]) (fun j u hu => by
      have hj : j < news.length := by have := List.getElem?_eq_some_iff.1 hu; obtain ⟨h, _⟩ := this; simpa [Cd.ints] using h
      obtain ⟨g2, o2, e2, _, hcell⟩ := hc j hj
      injection e2 with e2; injection e2 with e3 e4
      subst e3 e4
      have hu2 : u = .int .i64 news[j] := by simpa [Cd.ints, List.getElem?_eq_getElem hj] using hu.symm
      rw [hu2]; by_cases hj0 : j = 0
      · subst hj0; simpa [Addr.add] using hcell
      · simpa [Addr.add, hj0] using hcell) Cd.ints_one (by unfold maxLen; omega) (by omega) hbase
    exact ⟨v', w', h1, by rw [Cd.ints_app]; exact h2, h3, h4⟩
theorem Cd.step_append_ints_at {P : Program} {ops : Array Oper} {o : Oper} {a : Act} {w : World} {K : Act → World → Prop} {Q : Exit → Act → World → Prop} {E : Prop}
    (hg : o.guard = none) (s x : Operand) (t : TypeId) (hop : o.op = Op.call { callee := Callee.builtin Builtin.append, args := #[s, x], argTypes := #[t, t] })
    (base : Nat) (e : TypeId) (i : TypeInfo) (z : Value) (ht : P.underlying t = some (.slice e)) (hi : P.info? e = some i) (hz : i.zero = some z) (hsize : i.size = 1) (hby : i.bytes = 8) (hzs : z.cells.size = 1)
    (v : Value) (n : Nat) (xs : List Int) (hs : a.eval s = v) (hown : w.ownsRow base e 1 v n (Cd.ints xs)) (C : Nat) (src : Value) (hx : a.eval x = src) (news : List Int) (hsrc : Cd.IntsAt C w src news) (hsmall : n + news.length ≤ 1048576) (hbase : base ≤ w.heap.size)
    (hK : ∀ v' w', w'.ownsRow base e 1 v' (n + news.length) (Cd.ints (xs ++ news)) → w.grownBy w' v.ownBlock → (v'.ownBlock = v.ownBlock ∨ v'.ownBlock = some w.heap.size) → K (a.put o.dst v') w') :
    if Region.wanted o (yielded ops a.tmps) = true then Oper.wp P o a w K Q else E := by
  have hw : Region.wanted o (yielded ops a.tmps) = true := by simp [Region.wanted, hg]
  rw [if_pos hw]
  obtain ⟨v', w', hrun, r1, r2, r3⟩ := Cd.run_append_ints_at (P := P) (w := w) base t o.type e i z ht hi hz hsize hby hzs v n xs hown C src news hsrc hsmall hbase
  unfold Oper.wp
  simp [execOp, hop, resolve, invoke, builtin, hs, hx, hrun, Result.andThen]
  exact hK v' w' r1 r2 r3
theorem Cd.step_append_at {P : Program} {ops : Array Oper} {o : Oper} {a : Act} {w : World} {K : Act → World → Prop} {Q : Exit → Act → World → Prop} {E : Prop}
    (hg : o.guard = none) (s x : Operand) (t : TypeId) (hop : o.op = Op.call { callee := Callee.builtin Builtin.append, args := #[s, x], argTypes := #[t, t] })
    (base : Nat) (e : TypeId) (i : TypeInfo) (z : Value) (size bytes : Nat) (h1 : P.underlying t = some (.slice e)) (h2 : P.info? e = some i) (h3 : i.zero = some z) (h4 : i.size = size) (h5 : i.bytes = bytes) (h6 : z.cells.size = size) (h7 : 0 < size)
    (v : Value) (n : Nat) (xs : List Value) (hs : a.eval s = v) (hown : w.ownsRow base e size v n xs)
    (ad : Addr) (m c : Nat) (news : List Value) (hx : a.eval x = .slice (some ad) m c) (hn : news.length = m * size) (hc : ∀ j u, news[j]? = some u → w.cell? (ad.add j) = some u) (h1c : ∀ u ∈ news, u.oneCell' = true)
    (b1 : n + m ≤ maxLen) (b2 : (n + m) * bytes ≤ 140737488355328) (hbase : base ≤ w.heap.size)
    (hK : ∀ v' w', w'.ownsRow base e size v' (n + m) (xs ++ news) → w.grownBy w' v.ownBlock → (v'.ownBlock = v.ownBlock ∨ v'.ownBlock = some w.heap.size) → K (a.put o.dst v') w') :
    if Region.wanted o (yielded ops a.tmps) = true then Oper.wp P o a w K Q else E := by
  have hw : Region.wanted o (yielded ops a.tmps) = true := by simp [Region.wanted, hg]
  rw [if_pos hw]
  obtain ⟨v', w', hrun, r1, r2, _, r3⟩ := run_append_own_at (P := P) (w := w) base t o.type e i z size bytes h1 h2 h3 h4 h5 h6 h7 v n xs hown ad m c news hn hc h1c b1 b2 hbase
  unfold Oper.wp
  simp [execOp, hop, resolve, invoke, builtin, hs, hx, hrun, Result.andThen]
  exact hK v' w' r1 r2 r3
theorem Cd.three_cells (w : World) (x y z : Value) (t : TypeId) : ∀ j u, [x, y, z][j]? = some u → (w.alloc (.cells #[x, y, z] t)).cell? ((⟨w.heap.size, 0, none⟩ : Addr).add j) = some u := by
  intro j u hj
  have h := (MapKept.heap_alloc w (.cells #[x, y, z] t)).1
  have hj3 : j < 3 := by have := (List.getElem?_eq_some_iff.1 hj).1; simpa using this
  have hj4 : j = 0 ∨ j = 1 ∨ j = 2 := by omega
  rcases hj4 with rfl | rfl | rfl
  · show (w.alloc (.cells #[x, y, z] t)).cell? ⟨w.heap.size, 0, none⟩ = some u
    rw [Lib.cell_of_heap h]; simpa using hj
  · show (w.alloc (.cells #[x, y, z] t)).cell? ⟨w.heap.size, 1, none⟩ = some u
    rw [Lib.cell_of_heap h]; simpa using hj
  · show (w.alloc (.cells #[x, y, z] t)).cell? ⟨w.heap.size, 2, none⟩ = some u
    rw [Lib.cell_of_heap h]; simpa using hj
theorem Cd.grown_to {a w w' : World} {b : Nat} {row : Option Nat} (h : a.grownBy w (some b)) (hg : w.grownBy w' row) (hr : ∀ k, row = some k → k = b ∨ a.heap.size ≤ k) : a.grownBy w' (some b) :=
  ⟨hg.os.trans h.os, hg.tape.trans h.tape, hg.output.trans h.output, Nat.le_trans h.size hg.size, fun k hk hkb => (hg.block k (Nat.lt_of_lt_of_le hk h.size) (fun e => by
    rcases hr k e.symm with e2 | e2
    · exact hkb (by rw [e2])
    · omega)).trans (h.block k hk hkb)⟩
theorem Cd.grown_b {a w w' : World} {row : Option Nat} (h : a.grownBy w row) (hb : Below w.heap.size w w') : a.grownBy w' row :=
  ⟨hb.os.trans h.os, hb.tape.trans h.tape, hb.output.trans h.output, Nat.le_trans h.size hb.size, fun k hk hkb => (hb.block k (Nat.lt_of_lt_of_le hk h.size)).trans (h.block k hk hkb)⟩
theorem Cd.own_mono {w : World} {A B e size n : Nat} {v : Value} {xs : List Value} (h : w.ownsRow B e size v n xs) (hA : A ≤ B) : w.ownsRow A e size v n xs := by
  obtain ⟨h1, h2⟩ := h
  refine ⟨h1, ?_⟩
  rcases h2 with h2 | ⟨g, cap, cur, hv, hB, r⟩
  · exact .inl h2
  · exact .inr ⟨g, cap, cur, hv, by omega, r⟩
theorem Cd.own_lt {w : World} {B e size n : Nat} {v : Value} {xs : List Value} (h : w.ownsRow B e size v n xs) {k : Nat} (hk : v.ownBlock = some k) : k < w.heap.size := by
  rcases h.2 with ⟨rfl, _⟩ | ⟨g, cap, cur, rfl, _, hg, _⟩
  · simp [Value.ownBlock] at hk
  · have : g = k := by simpa [Value.ownBlock] using hk
    subst this
    exact (Array.getElem?_eq_some_iff.1 hg).1
theorem Cd.EvAt.snoc {A : Nat} {wr U8 U9 W5 : World} {v v5 sv kv : Value} {L : List Cd.Ev} {sh : Cd.Sh} (hA : A ≤ wr.heap.size) (h : Cd.EvAt A wr v L) (hb : Below wr.heap.size wr U9) (h89 : Below U8.heap.size U8 U9) (hs : U8.ownsRow wr.heap.size 3 1 sv (Cd.sl sh).length (Cd.ints (Cd.sl sh))) (hk : U8.ownsRow wr.heap.size 3 1 kv (Cd.kl sh).length (Cd.ints (Cd.kl sh))) (hg : U9.grownBy W5 v.ownBlock) (h5 : W5.ownsRow A 43 3 v5 (L.length + 1) (Cd.evCs L ++ [.int .i64 (Cd.st sh), sv, kv])) : Cd.EvAt A W5 v5 (L ++ [⟨sh, sv, kv⟩]) := by
  have hold : ∀ (x : Value) (n : Nat) (xs : List Value), wr.ownsRow A 3 1 x n xs → W5.ownsRow A 3 1 x n xs := fun x n xs hx => Cd.own_keep hx fun k hxk _ hkl => by
    rw [hg.block k (Nat.lt_of_lt_of_le hkl hb.size) (fun e => Cd.row_ne hx h.row (by decide) hxk e.symm)]
    exact hb.block k hkl
  have hnew : ∀ (x : Value) (n : Nat) (xs : List Value), U8.ownsRow wr.heap.size 3 1 x n xs → W5.ownsRow A 3 1 x n xs := fun x n xs hx => Cd.own_mono (Cd.own_keep hx fun k hxk hge hkl => by
    rw [hg.block k (Nat.lt_of_lt_of_le hkl h89.size) (fun e => by have := Cd.own_lt h.row e.symm; omega)]
    exact h89.block k hkl) hA
  refine ⟨by rw [List.length_append, Cd.evCs_app]; exact h5, fun e he => ?_⟩
  rcases List.mem_append.1 he with he | he
  · exact ⟨hold _ _ _ (h.each e he).1, hold _ _ _ (h.each e he).2⟩
  · rw [List.mem_singleton] at he
    subst he
    exact ⟨hnew _ _ _ hs, hnew _ _ _ hk⟩
theorem Cd.take_next {X : List Cd.Sh} {i : Nat} {sh : Cd.Sh} (hi : i < X.length) (h : X[i] = sh) : X.take (i + 1) = X.take i ++ [sh] := by
  rw [List.take_add_one, List.getElem?_eq_getElem hi, h]; rfl
theorem Cd.ShAt.lists {B : Nat} {w : World} {st : Int} {sv kv : Value} : ∀ {sh : Cd.Sh}, Cd.ShAt B w (Cd.shV st sv kv) sh → st = Cd.st sh ∧ (∃ sa sc, sv = .slice sa (Cd.sl sh).length sc) ∧ (∃ ka kc, kv = .slice ka (Cd.kl sh).length kc) ∧ Cd.IntsAt B w sv (Cd.sl sh) ∧ Cd.IntsAt B w kv (Cd.kl sh) ∧ (∀ k, sv.ownBlock = some k ∨ kv.ownBlock = some k → ∃ cur fr, w.heap[k]? = some (.cells cur 3 fr))
  | .none, h => by
    have h' : Cd.shV st sv kv = Cd.shV 0 (.slice none 0 0) (.slice none 0 0) := h
    unfold Cd.shV at h'
    injection h' with h'
    simp at h'
    obtain ⟨rfl, rfl, rfl⟩ := h'
    exact ⟨rfl, ⟨_, _, rfl⟩, ⟨_, _, rfl⟩, ⟨none, 0, rfl, fun i hi => by simp [Cd.sl] at hi⟩, ⟨none, 0, rfl, fun i hi => by simp [Cd.kl] at hi⟩, fun k hk => by simp [Value.ownBlock] at hk⟩
  | .clash, h => by
    have h' : Cd.shV st sv kv = Cd.shV 2 (.slice none 0 0) (.slice none 0 0) := h
    unfold Cd.shV at h'
    injection h' with h'
    simp at h'
    obtain ⟨rfl, rfl, rfl⟩ := h'
    exact ⟨rfl, ⟨_, _, rfl⟩, ⟨_, _, rfl⟩, ⟨none, 0, rfl, fun i hi => by simp [Cd.sl] at hi⟩, ⟨none, 0, rfl, fun i hi => by simp [Cd.kl] at hi⟩, fun k hk => by simp [Value.ownBlock] at hk⟩
  | .known s l, h => by
    obtain ⟨sa, sc, ka, kc, e, _, _, h4, h5, h6, h7⟩ := h
    unfold Cd.shV at e
    injection e with e
    simp at e
    obtain ⟨rfl, rfl, rfl⟩ := e
    refine ⟨rfl, ⟨_, _, rfl⟩, ⟨_, _, rfl⟩, h4, h5, fun k hk => ?_⟩
    rcases hk with hk | hk
    · obtain ⟨_, c2, f2, h2⟩ := h6 _ hk
      exact ⟨c2, f2, h2⟩
    · obtain ⟨_, c2, f2, h2⟩ := h7 _ hk
      exact ⟨c2, f2, h2⟩
/-- What both Shapes say of a row that they answer. -/
def Cd.small2 (X : List Cd.Sh) : Prop := X.length ≤ 1048576 ∧ ∀ u (hu : u < X.length), (Cd.sl X[u]).length ≤ 1048576 ∧ (Cd.kl X[u]).length ≤ 1048576
def Cd.SpecPost (c : List Cd.Fn) (fn : Int) (w : World) (e : Ending) (w' : World) : Prop :=
  ∃ v X, e = .returned v ∧ Cd.ShapesAre c fn X ∧ Cd.OutAt w'.heap.size w' v X ∧ Cd.small2 X ∧ Below w.heap.size w w'
set_option maxRecDepth 100000 in
set_option maxHeartbeats 4000000 in
theorem Cd.specShapes_any (c : List Cd.Fn) (ca : Option Addr) (cc : Nat) (fn : Int) (hcl : c.length ≤ 1048576) (hpl : ∀ k (hk : k < c.length), c[k].params.length ≤ 1048576 ∧ c[k].ins.length ≤ 1048576) (w : World) (hC : Cd.CodeAt w.heap.size w (.slice ca c.length cc) c) :
    Calls Tryz.prog 5 #[.agg #[.slice ca c.length cc], .int .i64 fn] w (Cd.SpecPost c fn w) := by
  have HC : Hid (Cd.CodeAt w.heap.size w (.slice ca c.length cc) c) := hC
  clear hC
  obtain ⟨Y1, hY1⟩ : ∃ Y, w.alloc (.cells #[.slice ca c.length cc] 30) = Y := ⟨_, rfl⟩
  have hb1 : Below w.heap.size w Y1 := by rw [← hY1]; exact Cd.b1 w _
  have hs1 : Y1.heap.size = w.heap.size + 1 := by rw [← hY1]; exact World.size_alloc _ _
  have p1_0 : Y1.heap[w.heap.size]? = some (.cells #[.slice ca c.length cc] 30) := by rw [← hY1]; exact Cd.new_at w _
  obtain ⟨Y2, hY2⟩ : ∃ Y, Y1.alloc (.cells #[] 43) = Y := ⟨_, rfl⟩
  have hb2 : Below w.heap.size w Y2 := by rw [← hY2]; exact Cd.Below.new hb1 _
  have hs2 : Y2.heap.size = w.heap.size + 2 := by rw [← hY2, World.size_alloc]; omega
  have p2_0 : Y2.heap[w.heap.size]? = some (.cells #[.slice ca c.length cc] 30) := by rw [← hY2]; exact Cd.keepH _ p1_0
  have p2_1 : Y2.heap[w.heap.size + 1]? = some (.cells #[] 43) := by rw [← hY2, ← hs1]; exact Cd.new_at _ _
  have c0 : Y2.cell? ⟨w.heap.size, 0, none⟩ = some (.slice ca c.length cc) := by rw [Lib.cell_of_heap p2_0]; rfl
  have HK : Hid (∀ U, Below Y2.heap.size Y2 U → U.cell? ⟨w.heap.size, 0, none⟩ = some (.slice ca c.length cc) ∧ Cd.EvAt (w.heap.size + 1) U (.slice (some ⟨w.heap.size + 1, 0, none⟩) 0 0) [] ∧ Below w.heap.size w U) := fun U hU => by
    have r0 := (hU.block _ (by omega)).trans p2_0
    have r1 := (hU.block _ (by omega)).trans p2_1
    exact ⟨by rw [Lib.cell_of_heap r0]; rfl, ⟨⟨rfl, .inr ⟨w.heap.size + 1, 0, #[], rfl, Nat.le_refl _, r1, Nat.le_refl _, by unfold maxLen; omega, rfl, rfl⟩⟩, fun e he => by simp at he⟩, hb2.trans (hU.mono hb2.size)⟩
  obtain ⟨⟨p1, p2, p3⟩, HPL⟩ : ∃ p, Hid (Cd.plain c = p) := ⟨_, (rfl : Cd.plain c = _)⟩
  have HPC : Hid (Calls Tryz.prog 14 #[.agg #[.slice ca c.length cc]] Y2 fun e w' => e = .returned (.tuple #[.int .i64 p1, .int .i64 p2, .int .i64 p3]) ∧ Below Y2.heap.size Y2 w') := by
    have h := Cd.plain_any w.heap.size c (.slice ca c.length cc) hcl hpl Y2 (by omega) (HC.out.below hb2)
    rw [HPL.out] at h
    exact h
  clear p1_0 p2_0 p2_1
  by_cases hp : p1 = 0
  · subst hp
    have HP0 : Hid ((Cd.plain c).1 = 0) := by rw [Hid, HPL.out]
    by_cases hr : Cd.inR fn 0 ((c.length : Int) - 1) = true
    · obtain ⟨k, rfl, hk⟩ : ∃ k : Nat, fn = (k : Int) ∧ k < c.length := by
        simp only [Cd.inR, Bool.and_eq_true, decide_eq_true_eq] at hr
        exact ⟨fn.toNat, by omega, by omega⟩
      have HIN : Hid (∀ U, Calls Tryz.prog 15 #[.int .i64 (k : Int), .int .i64 0, .int .i64 ((c.length : Int) - 1)] U fun e w' => e = .returned (.bool true) ∧ U = w') := fun U => by
        have := Cd.in_any (k : Int) 0 ((c.length : Int) - 1) U
        rw [hr] at this; exact this
      clear hr
      have HSO : Hid (Cd.Sound c) := Cd.plain_sound HP0.out
      obtain ⟨f, HF⟩ : ∃ f, Hid (c[k] = f) := ⟨_, (rfl : c[k] = _)⟩
      have HSH : Hid (∀ U, Below w.heap.size w U → Calls Tryz.prog 16 #[.agg #[.slice ca c.length cc], .int .i64 (k : Int)] U (Cd.ShapesPost c f U)) := fun U hU => by
        have := HSO.out.shapes k hk ca cc U (Cd.CodeAt.mono (HC.out.below hU) hU.size)
        rw [HF.out] at this; exact this
      obtain ⟨b1, b2, b3, b4, b5, b6, -, -, -⟩ := Cd.fnOk_bd (by rw [← HF.out]; exact HSO.out.fns k hk : Cd.fnOk c k f = true)
      have hcI : (0 : Int) < (c.length : Int) := by omega
      go_enter Tryz.func5, Tryz.ntmps5
      go_wp2_with (first
        | (go_at_call 14; refine HPC.out.mono ?_; rintro e w1 ⟨rfl, hb3⟩; obtain ⟨d0, hev, hbw1⟩ := HK.out w1 hb3; have HEV : Hid (Cd.EvAt (w.heap.size + 1) w1 (.slice (some ⟨w.heap.size + 1, 0, none⟩) 0 0) []) := hev; clear hev)
        | (go_at_call 15; refine (HIN.out _).mono ?_; rintro e w2 ⟨rfl, rfl⟩)
        | (go_at_call 16; refine (HSH.out _ hbw1).mono ?_; rintro e w3 ⟨gs, X, rfl, hsh, hls, hstk, hb4⟩))
      have HXN : Hid (X.length = f.ins.length) := hls.1.size
      have HSM : Hid (Cd.small2 X) := by
        refine ⟨by rw [HXN.out]; omega, fun u hu => ?_⟩
        have h1 := hls.1.lens u
        have h2 := hstk u
        rw [Cd.at_get hu] at h1 h2
        have hm : (Cd.firstS f).length = f.slots.toNat := Cd.firstS_len f b6
        have h1' : Cd.len (Cd.firstS f).length X[u] := h1
        cases hx : X[u] with
        | none => simp [Cd.sl, Cd.kl]
        | clash => simp [Cd.sl, Cd.kl]
        | known s l =>
          rw [hx] at h1' h2
          have h3 : s.length = (Cd.firstS f).length := h1'
          have h4 : l.length ≤ 600 := h2
          exact ⟨by show s.length ≤ _; omega, by show l.length ≤ _; omega⟩
      have HLS : Hid (Cd.Least c f X) := hls
      have HSHS : Hid (Cd.ShsAt gs w3 X) := hsh
      have hbz : w.heap.size + 1 < w1.heap.size := by have := hb3.size; omega
      have hgsb : gs ≠ w.heap.size + 1 := fun e => by
        obtain ⟨cur, h1, h2⟩ := hsh.row
        rcases HEV.out.row.2 with ⟨h3, _⟩ | ⟨g, cap, cur2, h3, _, h4, h5, _, h6, _⟩
        · simp at h3
        · injection h3 with h3 _ h7
          injection h3 with h3; injection h3 with h3
          subst h3
          have h8 := (hb4.block _ hbz).trans h4
          rw [← e, h1] at h8
          injection h8 with h8; injection h8 with h8
          subst h8
          rw [HXN.out] at h2
          omega
      have hout : ∃ cur, w3.heap[w.heap.size + 1]? = some (.cells cur 43 (0, 0)) := by
        rcases HEV.out.row.2 with ⟨h3, _⟩ | ⟨g, cap, cur2, h3, _, h4, _⟩
        · simp at h3
        · injection h3 with h3 _ _
          injection h3 with h3; injection h3 with h3
          subst h3
          exact ⟨cur2, (hb4.block _ hbz).trans h4⟩
      have HOUT : Hid (∃ cur, w3.heap[w.heap.size + 1]? = some (.cells cur 43 (0, 0))) := hout
      have HEV3 : Hid (Cd.EvAt (w.heap.size + 1) w3 (.slice (some ⟨w.heap.size + 1, 0, none⟩) 0 0) []) := HEV.out.below hb4
      have HB3 : Hid (Below w.heap.size w w3) := hbw1.trans (hb4.mono hbw1.size)
      have hz3 : w.heap.size + 1 < w3.heap.size := by have := hb4.size; omega
      have hgs3 : gs < w3.heap.size := hsh.lt
      clear hsh hls hstk hout HPC HK HIN HSH HEV hb3 hb4 hbw1 d0 c0
      obtain ⟨i0, hi0, hz0, hz1, hz2⟩ := Cd.int_info
      obtain ⟨j0, hj0, hy0, hy1, hy2⟩ := Cd.shape_info
      go_loopw [5, 10] (fun ov t wr => ∃ (i : Nat) (L : List Cd.Ev) (oa : Option Addr) (oc : Nat), i ≤ f.ins.length ∧ t = .int .i64 (i : Int) ∧ ov = .slice oa i oc ∧ L.length = i ∧ Cd.EvAt (w.heap.size + 1) wr ov L ∧ L.map (·.sh) = X.take i ∧ (∀ k, ov.ownBlock = some k → k = w.heap.size + 1 ∨ w3.heap.size ≤ k) ∧ w3.grownBy wr (some (w.heap.size + 1))) (fun _ t _ => f.ins.length - (intOf t).toNat)
      case atStart => exact ⟨0, [], _, _, by omega, rfl, rfl, rfl, HEV3.out, by simp, fun k hk => .inl (by simpa [Value.ownBlock] using hk.symm), World.grownBy.refl _ _⟩
      case round =>
        obtain ⟨i, L, oa, oc, hi, rfl, rfl, hLL, hev, hmap, hob, hgr⟩ := hrel
        have HLL : Hid (L.length = i) := hLL
        have HEV : Hid (Cd.EvAt (w.heap.size + 1) wr (.slice oa i oc) L) := hev
        have HROW : Hid (wr.ownsRow (w.heap.size + 1) 43 3 (.slice oa i oc) i (Cd.evCs L)) := by
          have h := hev.row
          rw [hLL] at h; exact h
        have HMAP : Hid (L.map (·.sh) = X.take i) := hmap
        have HOB : Hid (∀ k, (Value.slice oa i oc).ownBlock = some k → k = w.heap.size + 1 ∨ w3.heap.size ≤ k) := hob
        have HGR : Hid (w3.grownBy wr (some (w.heap.size + 1))) := hgr
        have hwz : w.heap.size + 1 ≤ wr.heap.size := by have := hgr.size; omega
        clear hLL hev hmap hob hgr
        by_cases hlt : i < f.ins.length
        · have hltI : (i : Int) < (f.ins.length : Int) := by omega
          have hxi : i < X.length := by rw [HXN.out]; exact hlt
          obtain ⟨st, sa, sl0, sc, ka, kl0, kc, g0, g1, g2, hSA⟩ := HSHS.out.each i hxi
          obtain ⟨hst, ⟨sa', sc', hse⟩, ⟨ka', kc', hke⟩, hIS, hIK, hty⟩ := hSA.lists
          injection hse with e1 e2 e3
          injection hke with e4 e5 e6
          subst e1 e2 e3 e4 e5 e6 hst
          obtain ⟨hs1, hs2⟩ := HSM.out.2 i hxi
          obtain ⟨sh, HSHE⟩ : ∃ sh, Hid (X[i] = sh) := ⟨_, (rfl : X[i] = _)⟩
          rw [HSHE.out] at g0 g1 g2 hIS hIK hty hs1 hs2
          have HKG : Hid (∀ k, k < w3.heap.size → k ≠ w.heap.size + 1 → ∀ W, Below wr.heap.size wr W → W.heap[k]? = w3.heap[k]?) := fun k hk hkb W hW => (hW.block k (Nat.lt_of_lt_of_le hk HGR.out.size)).trans (HGR.out.block k hk (by simpa using hkb))
          have HS : Hid (∀ W, Below wr.heap.size wr W → W.cell? ⟨gs, i * 3, none⟩ = some (.int .i64 (Cd.st sh)) ∧ W.cell? ⟨gs, i * 3 + 1, none⟩ = some (.slice sa (Cd.sl sh).length sc) ∧ W.cell? ⟨gs, i * 3 + 2, none⟩ = some (.slice ka (Cd.kl sh).length kc)) := fun W hW => by
            have hb := HKG.out gs hgs3 hgsb W hW
            exact ⟨by rw [World.cell?_of_block (a := ⟨gs, i * 3, none⟩) hb]; exact g0, by rw [World.cell?_of_block (a := ⟨gs, i * 3 + 1, none⟩) hb]; exact g1, by rw [World.cell?_of_block (a := ⟨gs, i * 3 + 2, none⟩) hb]; exact g2⟩
          have HNB : Hid (∀ k, (Value.slice sa (Cd.sl sh).length sc).ownBlock = some k ∨ (Value.slice ka (Cd.kl sh).length kc).ownBlock = some k → k < w3.heap.size ∧ k ≠ w.heap.size + 1) := fun k hk => by
            obtain ⟨cur, fr, h1⟩ := hty k hk
            refine ⟨(Array.getElem?_eq_some_iff.1 h1).1, fun e => ?_⟩
            obtain ⟨cur2, h2⟩ := HOUT.out
            subst e
            rw [h1] at h2
            injection h2 with h2; injection h2 with _ h2
            exact absurd h2 (by decide)
          have HIS : Hid (∀ W, Below wr.heap.size wr W → Cd.IntsAt w3.heap.size W (.slice sa (Cd.sl sh).length sc) (Cd.sl sh)) := fun W hW => hIS.keep (fun k hk => HKG.out k (HNB.out k (.inl hk)).1 (HNB.out k (.inl hk)).2 W hW) (Nat.le_refl _)
          have HIK : Hid (∀ W, Below wr.heap.size wr W → Cd.IntsAt w3.heap.size W (.slice ka (Cd.kl sh).length kc) (Cd.kl sh)) := fun W hW => hIK.keep (fun k hk => HKG.out k (HNB.out k (.inr hk)).1 (HNB.out k (.inr hk)).2 W hW) (Nat.le_refl _)
          have HS5 : Hid (∀ U W, Below wr.heap.size wr U → U.grownBy W (Value.slice oa i oc).ownBlock → W.cell? ⟨gs, i * 3, none⟩ = some (.int .i64 (Cd.st sh)) ∧ W.cell? ⟨gs, i * 3 + 1, none⟩ = some (.slice sa (Cd.sl sh).length sc) ∧ W.cell? ⟨gs, i * 3 + 2, none⟩ = some (.slice ka (Cd.kl sh).length kc)) := fun U W hU hW => by
            obtain ⟨h1, h2, h3⟩ := HS.out U hU
            have hb : W.heap[gs]? = U.heap[gs]? := hW.block gs (by have := HGR.out.size; have := hU.size; omega) (fun e => by
              rcases HOB.out gs e.symm with h | h
              · exact hgsb h
              · omega)
            exact ⟨by rw [World.cell?_of_block (a := ⟨gs, i * 3, none⟩) hb]; exact h1, by rw [World.cell?_of_block (a := ⟨gs, i * 3 + 1, none⟩) hb]; exact h2, by rw [World.cell?_of_block (a := ⟨gs, i * 3 + 2, none⟩) hb]; exact h3⟩
          clear hIS hIK hty g0 g1 g2 hSA
          go_wp2_with fail
          obtain ⟨U0, hU0⟩ : ∃ U, wr.drew = U := ⟨_, rfl⟩
          have hbU0 : Below wr.heap.size wr U0 := by rw [← hU0]; exact Cd.belowD _ (Below.refl _ _)
          refine wp_region_held_drew (S := fun W => W.cell? ⟨gs, i * 3, none⟩ = some (.int .i64 (Cd.st sh)) ∧ W.cell? ⟨gs, i * 3 + 1, none⟩ = some (.slice sa (Cd.sl sh).length sc) ∧ W.cell? ⟨gs, i * 3 + 2, none⟩ = some (.slice ka (Cd.kl sh).length kc)) (by kernel_rfl) (HS.out _ (by rw [hU0]; exact hbU0)) (fun hHeld => ?_)
          rw [hU0] at hHeld ⊢
          refine wpAnyH_take (i := 0) (v := .slice oa i oc) rfl (by kernel_rfl) (by kernel_rfl) (by kernel_rfl) (fun _ _ _ h => h) (Or.inl ⟨by rfl, by intro w hSw; go_simp⟩) (by assumption) ?_
          try simp [Act.put]
          refine wpAnyH_take (i := 1) (v := .slice (some ⟨gs, 0, none⟩) f.ins.length f.ins.length) rfl (by kernel_rfl) (by kernel_rfl) (by kernel_rfl) (fun _ _ _ h => h) (Or.inl ⟨by rfl, by intro w hSw; go_simp⟩) (by assumption) ?_
          try simp [Act.put]
          refine wpAnyH_take (i := 2) (v := .int .i64 (i : Int)) rfl (by kernel_rfl) (by kernel_rfl) (by kernel_rfl) (fun _ _ _ h => h) (Or.inl ⟨by rfl, by intro w hSw; go_simp⟩) (by assumption) ?_
          try simp [Act.put]
          refine wpAnyH_take (i := 3) (v := .pointer (some ⟨gs, i * 3, none⟩)) rfl (by kernel_rfl) (by kernel_rfl) (by kernel_rfl) (fun _ _ _ h => h) (Or.inl ⟨by rfl, by intro w hSw; go_simp⟩) (by assumption) ?_
          try simp [Act.put]
          refine wpAnyH_take (i := 4) (v := .pointer (some ⟨gs, i * 3, none⟩)) rfl (by kernel_rfl) (by kernel_rfl) (by kernel_rfl) (fun _ _ _ h => h) (Or.inl ⟨by rfl, by intro w hSw; go_simp⟩) (by assumption) ?_
          try simp [Act.put]
          refine wpAnyH_take (i := 5) (v := .int .i64 (Cd.st sh)) rfl (by kernel_rfl) (by kernel_rfl) (by kernel_rfl) (fun _ _ _ h => h) (Or.inl ⟨by rfl, by intro w hSw; go_simp⟩) (by assumption) ?_
          try simp [Act.put]
          refine wpAnyH_take (i := 7) (v := .slice (some ⟨gs, 0, none⟩) f.ins.length f.ins.length) rfl (by kernel_rfl) (by kernel_rfl) (by kernel_rfl) (fun _ _ _ h => h) (Or.inl ⟨by rfl, by intro w hSw; go_simp⟩) (by assumption) ?_
          try simp [Act.put]
          refine wpAnyH_take (i := 8) (v := .int .i64 (i : Int)) rfl (by kernel_rfl) (by kernel_rfl) (by kernel_rfl) (fun _ _ _ h => h) (Or.inl ⟨by rfl, by intro w hSw; go_simp⟩) (by assumption) ?_
          try simp [Act.put]
          refine wpAnyH_take (i := 9) (v := .pointer (some ⟨gs, i * 3, none⟩)) rfl (by kernel_rfl) (by kernel_rfl) (by kernel_rfl) (fun _ _ _ h => h) (Or.inl ⟨by rfl, by intro w hSw; go_simp⟩) (by assumption) ?_
          try simp [Act.put]
          refine wpAnyH_take (i := 10) (v := .pointer (some ⟨gs, i * 3 + 1, none⟩)) rfl (by kernel_rfl) (by kernel_rfl) (by kernel_rfl) (fun _ _ _ h => h) (Or.inl ⟨by rfl, by intro w hSw; go_simp⟩) (by assumption) ?_
          try simp [Act.put]
          refine wpAnyH_take (i := 11) (v := .slice sa (Cd.sl sh).length sc) rfl (by kernel_rfl) (by kernel_rfl) (by kernel_rfl) (fun _ _ _ h => h) (Or.inl ⟨by rfl, by intro w hSw; go_simp⟩) (by assumption) ?_
          try simp [Act.put]
          refine wpAnyH_take (i := 14) (v := .slice (some ⟨gs, 0, none⟩) f.ins.length f.ins.length) rfl (by kernel_rfl) (by kernel_rfl) (by kernel_rfl) (fun _ _ _ h => h) (Or.inl ⟨by rfl, by intro w hSw; go_simp⟩) (by assumption) ?_
          try simp [Act.put]
          refine wpAnyH_take (i := 15) (v := .int .i64 (i : Int)) rfl (by kernel_rfl) (by kernel_rfl) (by kernel_rfl) (fun _ _ _ h => h) (Or.inl ⟨by rfl, by intro w hSw; go_simp⟩) (by assumption) ?_
          try simp [Act.put]
          refine wpAnyH_take (i := 16) (v := .pointer (some ⟨gs, i * 3, none⟩)) rfl (by kernel_rfl) (by kernel_rfl) (by kernel_rfl) (fun _ _ _ h => h) (Or.inl ⟨by rfl, by intro w hSw; go_simp⟩) (by assumption) ?_
          try simp [Act.put]
          refine wpAnyH_take (i := 17) (v := .pointer (some ⟨gs, i * 3 + 2, none⟩)) rfl (by kernel_rfl) (by kernel_rfl) (by kernel_rfl) (fun _ _ _ h => h) (Or.inl ⟨by rfl, by intro w hSw; go_simp⟩) (by assumption) ?_
          try simp [Act.put]
          refine wpAnyH_take (i := 18) (v := .slice ka (Cd.kl sh).length kc) rfl (by kernel_rfl) (by kernel_rfl) (by kernel_rfl) (fun _ _ _ h => h) (Or.inl ⟨by rfl, by intro w hSw; go_simp⟩) (by assumption) ?_
          try simp [Act.put]
          refine wpAnyH_ready (rs := [6, 13]) (by kernel_rfl) (by simp) ?_
          refine AllReadyH.cons rfl (fun KK hK => ?_) (AllReadyH.cons rfl (fun KK hK => ?_) AllReadyH.nil)
          · go_simp
            obtain ⟨U1, hU1⟩ : ∃ V, U0.alloc (.cells #[] 3) = V := ⟨_, rfl⟩
            try rw [hU1]
            have hbU1 : Below wr.heap.size wr U1 := by rw [← hU1]; exact hbU0.alloc hbU0.size _
            have hzU1 : U1.heap.size = U0.heap.size + 1 := by rw [← hU1]; exact World.size_alloc _ _
            have ownA : U1.ownsRow wr.heap.size 3 1 (.slice (some ⟨U0.heap.size, 0, none⟩) 0 0) 0 (Cd.ints []) := by rw [← hU1]; exact Cd.own_new _ _ hbU0.size _
            refine hK.out _ _ (HS.out _ hbU1) (fun hHeld => ?_)
            clear hK
            try simp [Act.put]
            refine wpAnyH_ready (rs := [12, 13]) (by kernel_rfl) (by simp) ?_
            refine AllReadyH.cons rfl (fun KK hK => ?_) (AllReadyH.cons rfl (fun KK hK => ?_) AllReadyH.nil)
            · refine Cd.step_append_ints_at rfl (.tmp 45) (.tmp 50) 41 rfl wr.heap.size 3 i0 (.int .i64 0) Tryz.underlying41 hi0 hz0 hz1 hz2 rfl (.slice (some ⟨U0.heap.size, 0, none⟩) 0 0) 0 [] rfl ownA w3.heap.size (.slice sa (Cd.sl sh).length sc) rfl (Cd.sl sh) (HIS.out U1 hbU1) (by omega) hbU1.size ?_
              intro vs U2 ownvs hgvs hatvs
              rw [Nat.zero_add, List.nil_append] at ownvs
              have hbU2 : Below wr.heap.size wr U2 := Cd.Below.grown hbU1 hgvs hbU1.size (fun g hg => Cd.rowBlk ownA hg)
              have hzU2 := hgvs.size
              refine hK.out _ _ (HS.out _ hbU2) (fun hHeld => ?_)
              clear hK
              try simp [Act.put]
              refine wpAnyH_ready (rs := [13]) (by kernel_rfl) (by simp) ?_
              refine AllReadyH.cons rfl (fun KK hK => ?_) AllReadyH.nil
              go_simp
              obtain ⟨U3, hU3⟩ : ∃ V, U2.alloc (.cells #[] 3) = V := ⟨_, rfl⟩
              try rw [hU3]
              have hbU3 : Below wr.heap.size wr U3 := by rw [← hU3]; exact hbU2.alloc hbU2.size _
              have hzU3 : U3.heap.size = U2.heap.size + 1 := by rw [← hU3]; exact World.size_alloc _ _
              have ownB : U3.ownsRow wr.heap.size 3 1 (.slice (some ⟨U2.heap.size, 0, none⟩) 0 0) 0 (Cd.ints []) := by rw [← hU3]; exact Cd.own_new _ _ hbU2.size _
              refine hK.out _ _ (HS.out _ hbU3) (fun hHeld => ?_)
              clear hK
              try simp [Act.put]
              refine wpAnyH_ready (rs := [19]) (by kernel_rfl) (by simp) ?_
              refine AllReadyH.cons rfl (fun KK hK => ?_) AllReadyH.nil
              refine Cd.step_append_ints_at rfl (.tmp 52) (.tmp 57) 41 rfl wr.heap.size 3 i0 (.int .i64 0) Tryz.underlying41 hi0 hz0 hz1 hz2 rfl (.slice (some ⟨U2.heap.size, 0, none⟩) 0 0) 0 [] rfl ownB w3.heap.size (.slice ka (Cd.kl sh).length kc) rfl (Cd.kl sh) (HIK.out U3 hbU3) (by omega) hbU3.size ?_
              intro vk U8 ownvk hgvk hatvk
              rw [Nat.zero_add, List.nil_append] at ownvk
              have hbU8 : Below wr.heap.size wr U8 := Cd.Below.grown hbU3 hgvk hbU3.size (fun g hg => Cd.rowBlk ownB hg)
              have hzU8 := hgvk.size
              refine hK.out _ _ (HS.out _ hbU8) (fun hHeld => ?_)
              clear hK
              try simp [Act.put]
              have ownS2 : U8.ownsRow wr.heap.size 3 1 vs (Cd.sl sh).length (Cd.ints (Cd.sl sh)) := Cd.own_keep ownvs fun k hk hw hl => by
                rw [hgvk.block k (by omega) (by show some k ≠ some U2.heap.size; intro e; injection e with e; omega), ← hU3]
                exact (MapKept.heap_alloc U2 _).2 k hl
              have ownK2 := ownvk
              obtain ⟨a1, c1, hv1⟩ := Cd.rowLen ownS2
              subst hv1
              obtain ⟨a2, c2, hv2⟩ := Cd.rowLen ownK2
              subst hv2
              refine wpAnyH_take (i := 20) (v := .agg #[.int .i64 (Cd.st sh), .slice a1 (Cd.sl sh).length c1, .slice a2 (Cd.kl sh).length c2]) rfl (by kernel_rfl) (by kernel_rfl) (by kernel_rfl) (fun _ _ _ h => h) (Or.inl ⟨by rfl, by intro w hSw; go_simp⟩) (by assumption) ?_
              try simp [Act.put]
              refine wpAnyH_ready (rs := [21]) (by kernel_rfl) (by simp) ?_
              refine AllReadyH.cons rfl (fun KK hK => ?_) AllReadyH.nil
              go_simp
              obtain ⟨U9, hU9⟩ : ∃ V, U8.alloc (.cells #[.int .i64 (Cd.st sh), .slice a1 (Cd.sl sh).length c1, .slice a2 (Cd.kl sh).length c2] 43) = V := ⟨_, rfl⟩
              try rw [hU9]
              have hbU9 : Below wr.heap.size wr U9 := by rw [← hU9]; exact hbU8.alloc hbU8.size _
              refine hK.out _ _ (HS.out _ hbU9) (fun hHeld => ?_)
              clear hK
              try simp [Act.put]
              refine wpAnyH_ready (rs := [22]) (by kernel_rfl) (by simp) ?_
              refine AllReadyH.cons rfl (fun KK hK => ?_) AllReadyH.nil
              refine Cd.step_append_at rfl (.tmp 39) (.tmp 60) 26 rfl (w.heap.size + 1) 43 j0 (.agg #[.int .i64 0, .slice none 0 0, .slice none 0 0]) 3 56 Tryz.underlying26 hj0 hy0 hy1 hy2 rfl (by decide) (.slice oa i oc) i (Cd.evCs L) rfl (Cd.own_keep HROW.out fun k _ _ hk => hbU9.block k hk) ⟨U8.heap.size, 0, none⟩ 1 1 [.int .i64 (Cd.st sh), .slice a1 (Cd.sl sh).length c1, .slice a2 (Cd.kl sh).length c2] rfl rfl (by rw [← hU9]; exact Cd.three_cells _ _ _ _ _) (fun x hx => by simp at hx; rcases hx with rfl | rfl | rfl <;> rfl) (by unfold maxLen; omega) (by omega) (Nat.le_trans hwz hbU9.size) ?_
              intro v5 W5 own5 hg5 hat5
              refine hK.out _ _ (HS5.out U9 W5 hbU9 hg5) (fun hHeld => ?_)
              clear hK
              try simp [Act.put]
              obtain ⟨a5, c5, hv5⟩ := Cd.rowLen own5
              subst hv5
              have HEV5 : Hid (Cd.EvAt (w.heap.size + 1) W5 (.slice a5 (i + 1) c5) (L ++ [⟨sh, .slice a1 (Cd.sl sh).length c1, .slice a2 (Cd.kl sh).length c2⟩])) := Cd.EvAt.snoc hwz HEV.out hbU9 (by rw [← hU9]; exact (Below.refl _ U8).alloc (Nat.le_refl _) _) ownS2 ownK2 hg5 (by rw [HLL.out]; exact own5)
              have HGR5 : Hid (w3.grownBy W5 (some (w.heap.size + 1))) := Cd.grown_to (Cd.grown_b HGR.out hbU9) hg5 HOB.out
              have HOB5 : Hid (∀ k, (Value.slice a5 (i + 1) c5).ownBlock = some k → k = w.heap.size + 1 ∨ w3.heap.size ≤ k) := fun k hk => by
                rcases hat5 with h | h
                · rw [hk] at h; exact HOB.out k h.symm
                · rw [hk] at h; injection h with h
                  right; have := hbU9.size; have := HGR.out.size; omega
              have HMAP5 : Hid ((L ++ [(⟨sh, .slice a1 (Cd.sl sh).length c1, .slice a2 (Cd.kl sh).length c2⟩ : Cd.Ev)]).map (·.sh) = X.take (i + 1)) := by
                rw [Hid, List.map_append, HMAP.out, Cd.take_next hxi HSHE.out]; rfl
              refine wpAnyH_take (i := 23) (v := .slice a5 (i + 1) c5) rfl (by kernel_rfl) (by kernel_rfl) (by kernel_rfl) (fun _ _ _ h => h) (Or.inl ⟨by rfl, by intro w hSw; go_simp⟩) (by assumption) ?_
              try simp [Act.put]
              refine wpAnyH_done (by kernel_rfl) ?_ _
              go_wp2_with fail
              go_roundw
              case rel => exact ⟨i + 1, _, a5, c5, by omega, by go_num, rfl, by rw [List.length_append, HLL.out]; rfl, HEV5.out, HMAP5.out, HOB5.out, HGR5.out⟩
              case measure => simp [intOf]; omega
            · go_simp
              obtain ⟨U2, hU2⟩ : ∃ V, U1.alloc (.cells #[] 3) = V := ⟨_, rfl⟩
              try rw [hU2]
              have hbU2 : Below wr.heap.size wr U2 := by rw [← hU2]; exact hbU1.alloc hbU1.size _
              have hzU2 : U2.heap.size = U1.heap.size + 1 := by rw [← hU2]; exact World.size_alloc _ _
              have ownB : U2.ownsRow wr.heap.size 3 1 (.slice (some ⟨U0.heap.size + 1, 0, none⟩) 0 0) 0 (Cd.ints []) := by rw [← hU2, ← hzU1]; exact Cd.own_new _ _ hbU1.size _
              refine hK.out _ _ (HS.out _ hbU2) (fun hHeld => ?_)
              clear hK
              try simp [Act.put]
              refine wpAnyH_ready (rs := [12]) (by kernel_rfl) (by simp) ?_
              refine AllReadyH.cons rfl (fun KK hK => ?_) AllReadyH.nil
              have ownA2 : U2.ownsRow wr.heap.size 3 1 (.slice (some ⟨U0.heap.size, 0, none⟩) 0 0) 0 (Cd.ints []) := by rw [← hU2]; exact ownA.alloc _
              refine Cd.step_append_ints_at rfl (.tmp 45) (.tmp 50) 41 rfl wr.heap.size 3 i0 (.int .i64 0) Tryz.underlying41 hi0 hz0 hz1 hz2 rfl (.slice (some ⟨U0.heap.size, 0, none⟩) 0 0) 0 [] rfl ownA2 w3.heap.size (.slice sa (Cd.sl sh).length sc) rfl (Cd.sl sh) (HIS.out U2 hbU2) (by omega) hbU2.size ?_
              intro vs U3 ownvs hgvs hatvs
              rw [Nat.zero_add, List.nil_append] at ownvs
              have hbU3 : Below wr.heap.size wr U3 := Cd.Below.grown hbU2 hgvs hbU2.size (fun g hg => Cd.rowBlk ownA2 hg)
              have hzU3 := hgvs.size
              refine hK.out _ _ (HS.out _ hbU3) (fun hHeld => ?_)
              clear hK
              try simp [Act.put]
              refine wpAnyH_ready (rs := [19]) (by kernel_rfl) (by simp) ?_
              refine AllReadyH.cons rfl (fun KK hK => ?_) AllReadyH.nil
              have ownB2 : U3.ownsRow wr.heap.size 3 1 (.slice (some ⟨U0.heap.size + 1, 0, none⟩) 0 0) 0 (Cd.ints []) := Cd.own_keep ownB fun k hk hw hl => hgvs.block k hl (by
                have : U0.heap.size + 1 = k := by simpa [Value.ownBlock] using hk
                show some k ≠ some U0.heap.size
                intro e; injection e with e; omega)
              refine Cd.step_append_ints_at rfl (.tmp 52) (.tmp 57) 41 rfl wr.heap.size 3 i0 (.int .i64 0) Tryz.underlying41 hi0 hz0 hz1 hz2 rfl (.slice (some ⟨U0.heap.size + 1, 0, none⟩) 0 0) 0 [] rfl ownB2 w3.heap.size (.slice ka (Cd.kl sh).length kc) rfl (Cd.kl sh) (HIK.out U3 hbU3) (by omega) hbU3.size ?_
              intro vk U8 ownvk hgvk hatvk
              rw [Nat.zero_add, List.nil_append] at ownvk
              have hbU8 : Below wr.heap.size wr U8 := Cd.Below.grown hbU3 hgvk hbU3.size (fun g hg => Cd.rowBlk ownB2 hg)
              have hzU8 := hgvk.size
              refine hK.out _ _ (HS.out _ hbU8) (fun hHeld => ?_)
              clear hK
              try simp [Act.put]
              have ownS2 : U8.ownsRow wr.heap.size 3 1 vs (Cd.sl sh).length (Cd.ints (Cd.sl sh)) := Cd.own_keep ownvs fun k hk hw hl => hgvk.block k hl (by
                show some k ≠ some (U0.heap.size + 1)
                intro e; injection e with e
                rcases hatvs with h | h
                · rw [hk] at h; simp [Value.ownBlock] at h; omega
                · rw [hk] at h; simp at h; omega)
              have ownK2 := ownvk
              obtain ⟨a1, c1, hv1⟩ := Cd.rowLen ownS2
              subst hv1
              obtain ⟨a2, c2, hv2⟩ := Cd.rowLen ownK2
              subst hv2
              refine wpAnyH_take (i := 20) (v := .agg #[.int .i64 (Cd.st sh), .slice a1 (Cd.sl sh).length c1, .slice a2 (Cd.kl sh).length c2]) rfl (by kernel_rfl) (by kernel_rfl) (by kernel_rfl) (fun _ _ _ h => h) (Or.inl ⟨by rfl, by intro w hSw; go_simp⟩) (by assumption) ?_
              try simp [Act.put]
              refine wpAnyH_ready (rs := [21]) (by kernel_rfl) (by simp) ?_
              refine AllReadyH.cons rfl (fun KK hK => ?_) AllReadyH.nil
              go_simp
              obtain ⟨U9, hU9⟩ : ∃ V, U8.alloc (.cells #[.int .i64 (Cd.st sh), .slice a1 (Cd.sl sh).length c1, .slice a2 (Cd.kl sh).length c2] 43) = V := ⟨_, rfl⟩
              try rw [hU9]
              have hbU9 : Below wr.heap.size wr U9 := by rw [← hU9]; exact hbU8.alloc hbU8.size _
              refine hK.out _ _ (HS.out _ hbU9) (fun hHeld => ?_)
              clear hK
              try simp [Act.put]
              refine wpAnyH_ready (rs := [22]) (by kernel_rfl) (by simp) ?_
              refine AllReadyH.cons rfl (fun KK hK => ?_) AllReadyH.nil
              refine Cd.step_append_at rfl (.tmp 39) (.tmp 60) 26 rfl (w.heap.size + 1) 43 j0 (.agg #[.int .i64 0, .slice none 0 0, .slice none 0 0]) 3 56 Tryz.underlying26 hj0 hy0 hy1 hy2 rfl (by decide) (.slice oa i oc) i (Cd.evCs L) rfl (Cd.own_keep HROW.out fun k _ _ hk => hbU9.block k hk) ⟨U8.heap.size, 0, none⟩ 1 1 [.int .i64 (Cd.st sh), .slice a1 (Cd.sl sh).length c1, .slice a2 (Cd.kl sh).length c2] rfl rfl (by rw [← hU9]; exact Cd.three_cells _ _ _ _ _) (fun x hx => by simp at hx; rcases hx with rfl | rfl | rfl <;> rfl) (by unfold maxLen; omega) (by omega) (Nat.le_trans hwz hbU9.size) ?_
              intro v5 W5 own5 hg5 hat5
              refine hK.out _ _ (HS5.out U9 W5 hbU9 hg5) (fun hHeld => ?_)
              clear hK
              try simp [Act.put]
              obtain ⟨a5, c5, hv5⟩ := Cd.rowLen own5
              subst hv5
              have HEV5 : Hid (Cd.EvAt (w.heap.size + 1) W5 (.slice a5 (i + 1) c5) (L ++ [⟨sh, .slice a1 (Cd.sl sh).length c1, .slice a2 (Cd.kl sh).length c2⟩])) := Cd.EvAt.snoc hwz HEV.out hbU9 (by rw [← hU9]; exact (Below.refl _ U8).alloc (Nat.le_refl _) _) ownS2 ownK2 hg5 (by rw [HLL.out]; exact own5)
              have HGR5 : Hid (w3.grownBy W5 (some (w.heap.size + 1))) := Cd.grown_to (Cd.grown_b HGR.out hbU9) hg5 HOB.out
              have HOB5 : Hid (∀ k, (Value.slice a5 (i + 1) c5).ownBlock = some k → k = w.heap.size + 1 ∨ w3.heap.size ≤ k) := fun k hk => by
                rcases hat5 with h | h
                · rw [hk] at h; exact HOB.out k h.symm
                · rw [hk] at h; injection h with h
                  right; have := hbU9.size; have := HGR.out.size; omega
              have HMAP5 : Hid ((L ++ [(⟨sh, .slice a1 (Cd.sl sh).length c1, .slice a2 (Cd.kl sh).length c2⟩ : Cd.Ev)]).map (·.sh) = X.take (i + 1)) := by
                rw [Hid, List.map_append, HMAP.out, Cd.take_next hxi HSHE.out]; rfl
              refine wpAnyH_take (i := 23) (v := .slice a5 (i + 1) c5) rfl (by kernel_rfl) (by kernel_rfl) (by kernel_rfl) (fun _ _ _ h => h) (Or.inl ⟨by rfl, by intro w hSw; go_simp⟩) (by assumption) ?_
              try simp [Act.put]
              refine wpAnyH_done (by kernel_rfl) ?_ _
              go_wp2_with fail
              go_roundw
              case rel => exact ⟨i + 1, _, a5, c5, by omega, by go_num, rfl, by rw [List.length_append, HLL.out]; rfl, HEV5.out, HMAP5.out, HOB5.out, HGR5.out⟩
              case measure => simp [intOf]; omega
          · go_simp
            obtain ⟨U1, hU1⟩ : ∃ V, U0.alloc (.cells #[] 3) = V := ⟨_, rfl⟩
            try rw [hU1]
            have hbU1 : Below wr.heap.size wr U1 := by rw [← hU1]; exact hbU0.alloc hbU0.size _
            have hzU1 : U1.heap.size = U0.heap.size + 1 := by rw [← hU1]; exact World.size_alloc _ _
            have ownB : U1.ownsRow wr.heap.size 3 1 (.slice (some ⟨U0.heap.size, 0, none⟩) 0 0) 0 (Cd.ints []) := by rw [← hU1]; exact Cd.own_new _ _ hbU0.size _
            refine hK.out _ _ (HS.out _ hbU1) (fun hHeld => ?_)
            clear hK
            try simp [Act.put]
            refine wpAnyH_ready (rs := [6]) (by kernel_rfl) (by simp) ?_
            refine AllReadyH.cons rfl (fun KK hK => ?_) AllReadyH.nil
            go_simp
            obtain ⟨U2, hU2⟩ : ∃ V, U1.alloc (.cells #[] 3) = V := ⟨_, rfl⟩
            try rw [hU2]
            have hbU2 : Below wr.heap.size wr U2 := by rw [← hU2]; exact hbU1.alloc hbU1.size _
            have hzU2 : U2.heap.size = U1.heap.size + 1 := by rw [← hU2]; exact World.size_alloc _ _
            have ownA : U2.ownsRow wr.heap.size 3 1 (.slice (some ⟨U0.heap.size + 1, 0, none⟩) 0 0) 0 (Cd.ints []) := by rw [← hU2, ← hzU1]; exact Cd.own_new _ _ hbU1.size _
            refine hK.out _ _ (HS.out _ hbU2) (fun hHeld => ?_)
            clear hK
            try simp [Act.put]
            refine wpAnyH_ready (rs := [12]) (by kernel_rfl) (by simp) ?_
            refine AllReadyH.cons rfl (fun KK hK => ?_) AllReadyH.nil
            refine Cd.step_append_ints_at rfl (.tmp 45) (.tmp 50) 41 rfl wr.heap.size 3 i0 (.int .i64 0) Tryz.underlying41 hi0 hz0 hz1 hz2 rfl (.slice (some ⟨U0.heap.size + 1, 0, none⟩) 0 0) 0 [] rfl ownA w3.heap.size (.slice sa (Cd.sl sh).length sc) rfl (Cd.sl sh) (HIS.out U2 hbU2) (by omega) hbU2.size ?_
            intro vs U3 ownvs hgvs hatvs
            rw [Nat.zero_add, List.nil_append] at ownvs
            have hbU3 : Below wr.heap.size wr U3 := Cd.Below.grown hbU2 hgvs hbU2.size (fun g hg => Cd.rowBlk ownA hg)
            have hzU3 := hgvs.size
            refine hK.out _ _ (HS.out _ hbU3) (fun hHeld => ?_)
            clear hK
            try simp [Act.put]
            refine wpAnyH_ready (rs := [19]) (by kernel_rfl) (by simp) ?_
            refine AllReadyH.cons rfl (fun KK hK => ?_) AllReadyH.nil
            have ownB2 : U3.ownsRow wr.heap.size 3 1 (.slice (some ⟨U0.heap.size, 0, none⟩) 0 0) 0 (Cd.ints []) := Cd.own_keep (show U2.ownsRow wr.heap.size 3 1 (.slice (some ⟨U0.heap.size, 0, none⟩) 0 0) 0 (Cd.ints []) by rw [← hU2]; exact ownB.alloc _) fun k hk hw hl => hgvs.block k hl (by
              have : U0.heap.size = k := by simpa [Value.ownBlock] using hk
              show some k ≠ some (U0.heap.size + 1)
              intro e; injection e with e; omega)
            refine Cd.step_append_ints_at rfl (.tmp 52) (.tmp 57) 41 rfl wr.heap.size 3 i0 (.int .i64 0) Tryz.underlying41 hi0 hz0 hz1 hz2 rfl (.slice (some ⟨U0.heap.size, 0, none⟩) 0 0) 0 [] rfl ownB2 w3.heap.size (.slice ka (Cd.kl sh).length kc) rfl (Cd.kl sh) (HIK.out U3 hbU3) (by omega) hbU3.size ?_
            intro vk U8 ownvk hgvk hatvk
            rw [Nat.zero_add, List.nil_append] at ownvk
            have hbU8 : Below wr.heap.size wr U8 := Cd.Below.grown hbU3 hgvk hbU3.size (fun g hg => Cd.rowBlk ownB2 hg)
            have hzU8 := hgvk.size
            refine hK.out _ _ (HS.out _ hbU8) (fun hHeld => ?_)
            clear hK
            try simp [Act.put]
            have ownS2 : U8.ownsRow wr.heap.size 3 1 vs (Cd.sl sh).length (Cd.ints (Cd.sl sh)) := Cd.own_keep ownvs fun k hk hw hl => hgvk.block k hl (by
              show some k ≠ some U0.heap.size
              intro e; injection e with e
              rcases hatvs with h | h
              · rw [hk] at h; simp [Value.ownBlock] at h; omega
              · rw [hk] at h; simp at h; omega)
            have ownK2 := ownvk
            obtain ⟨a1, c1, hv1⟩ := Cd.rowLen ownS2
            subst hv1
            obtain ⟨a2, c2, hv2⟩ := Cd.rowLen ownK2
            subst hv2
            refine wpAnyH_take (i := 20) (v := .agg #[.int .i64 (Cd.st sh), .slice a1 (Cd.sl sh).length c1, .slice a2 (Cd.kl sh).length c2]) rfl (by kernel_rfl) (by kernel_rfl) (by kernel_rfl) (fun _ _ _ h => h) (Or.inl ⟨by rfl, by intro w hSw; go_simp⟩) (by assumption) ?_
            try simp [Act.put]
            refine wpAnyH_ready (rs := [21]) (by kernel_rfl) (by simp) ?_
            refine AllReadyH.cons rfl (fun KK hK => ?_) AllReadyH.nil
            go_simp
            obtain ⟨U9, hU9⟩ : ∃ V, U8.alloc (.cells #[.int .i64 (Cd.st sh), .slice a1 (Cd.sl sh).length c1, .slice a2 (Cd.kl sh).length c2] 43) = V := ⟨_, rfl⟩
            try rw [hU9]
            have hbU9 : Below wr.heap.size wr U9 := by rw [← hU9]; exact hbU8.alloc hbU8.size _
            refine hK.out _ _ (HS.out _ hbU9) (fun hHeld => ?_)
            clear hK
            try simp [Act.put]
            refine wpAnyH_ready (rs := [22]) (by kernel_rfl) (by simp) ?_
            refine AllReadyH.cons rfl (fun KK hK => ?_) AllReadyH.nil
            refine Cd.step_append_at rfl (.tmp 39) (.tmp 60) 26 rfl (w.heap.size + 1) 43 j0 (.agg #[.int .i64 0, .slice none 0 0, .slice none 0 0]) 3 56 Tryz.underlying26 hj0 hy0 hy1 hy2 rfl (by decide) (.slice oa i oc) i (Cd.evCs L) rfl (Cd.own_keep HROW.out fun k _ _ hk => hbU9.block k hk) ⟨U8.heap.size, 0, none⟩ 1 1 [.int .i64 (Cd.st sh), .slice a1 (Cd.sl sh).length c1, .slice a2 (Cd.kl sh).length c2] rfl rfl (by rw [← hU9]; exact Cd.three_cells _ _ _ _ _) (fun x hx => by simp at hx; rcases hx with rfl | rfl | rfl <;> rfl) (by unfold maxLen; omega) (by omega) (Nat.le_trans hwz hbU9.size) ?_
            intro v5 W5 own5 hg5 hat5
            refine hK.out _ _ (HS5.out U9 W5 hbU9 hg5) (fun hHeld => ?_)
            clear hK
            try simp [Act.put]
            obtain ⟨a5, c5, hv5⟩ := Cd.rowLen own5
            subst hv5
            have HEV5 : Hid (Cd.EvAt (w.heap.size + 1) W5 (.slice a5 (i + 1) c5) (L ++ [⟨sh, .slice a1 (Cd.sl sh).length c1, .slice a2 (Cd.kl sh).length c2⟩])) := Cd.EvAt.snoc hwz HEV.out hbU9 (by rw [← hU9]; exact (Below.refl _ U8).alloc (Nat.le_refl _) _) ownS2 ownK2 hg5 (by rw [HLL.out]; exact own5)
            have HGR5 : Hid (w3.grownBy W5 (some (w.heap.size + 1))) := Cd.grown_to (Cd.grown_b HGR.out hbU9) hg5 HOB.out
            have HOB5 : Hid (∀ k, (Value.slice a5 (i + 1) c5).ownBlock = some k → k = w.heap.size + 1 ∨ w3.heap.size ≤ k) := fun k hk => by
              rcases hat5 with h | h
              · rw [hk] at h; exact HOB.out k h.symm
              · rw [hk] at h; injection h with h
                right; have := hbU9.size; have := HGR.out.size; omega
            have HMAP5 : Hid ((L ++ [(⟨sh, .slice a1 (Cd.sl sh).length c1, .slice a2 (Cd.kl sh).length c2⟩ : Cd.Ev)]).map (·.sh) = X.take (i + 1)) := by
              rw [Hid, List.map_append, HMAP.out, Cd.take_next hxi HSHE.out]; rfl
            refine wpAnyH_take (i := 23) (v := .slice a5 (i + 1) c5) rfl (by kernel_rfl) (by kernel_rfl) (by kernel_rfl) (fun _ _ _ h => h) (Or.inl ⟨by rfl, by intro w hSw; go_simp⟩) (by assumption) ?_
            try simp [Act.put]
            refine wpAnyH_done (by kernel_rfl) ?_ _
            go_wp2_with fail
            go_roundw
            case rel => exact ⟨i + 1, _, a5, c5, by omega, by go_num, rfl, by rw [List.length_append, HLL.out]; rfl, HEV5.out, HMAP5.out, HOB5.out, HGR5.out⟩
            case measure => simp [intOf]; omega
        · have hltI : ¬ (i : Int) < (f.ins.length : Int) := by omega
          have HALL : Hid (L.map (·.sh) = X) := by rw [Hid, HMAP.out]; exact List.take_of_length_le (by rw [HXN.out]; omega)
          have HOU : Hid (Cd.OutAt wr.heap.size wr (.slice oa i oc) X) := HEV.out.out HALL.out
          have HBW : Hid (Below w.heap.size w wr) := HB3.out.trans ⟨HGR.out.os, HGR.out.tape, HGR.out.output, HGR.out.size, fun k hk => HGR.out.block k (by omega) (by simp; omega)⟩
          go_wp2_with fail
          go_ret
          exact ⟨_, X, rfl, .inr ⟨HP0.out, k, hk, rfl, by rw [HF.out]; exact HLS.out⟩, HOU.out, HSM.out, HBW.out⟩
    · have hr' : Cd.inR fn 0 ((c.length : Int) - 1) = false := by simpa using hr
      have HIN : Hid (∀ U, Calls Tryz.prog 15 #[.int .i64 fn, .int .i64 0, .int .i64 ((c.length : Int) - 1)] U fun e w' => e = .returned (.bool false) ∧ U = w') := fun U => by
        have := Cd.in_any fn 0 ((c.length : Int) - 1) U
        rw [hr'] at this; exact this
      have HAN : Hid (Cd.ShapesAre c fn []) := by
        refine .inl ⟨?_, rfl⟩
        simp only [Cd.inR, Bool.and_eq_false_iff, decide_eq_false_iff_not] at hr'
        omega
      clear hr hr'
      go_enter Tryz.func5, Tryz.ntmps5
      go_wp2_with (first
        | (go_at_call 14; refine HPC.out.mono ?_; rintro e w1 ⟨rfl, hb3⟩; obtain ⟨d0, hev, hbw1⟩ := HK.out w1 hb3; have HEV : Hid (Cd.EvAt (w.heap.size + 1) w1 (.slice (some ⟨w.heap.size + 1, 0, none⟩) 0 0) []) := hev; clear hev)
        | (go_at_call 15; refine (HIN.out _).mono ?_; rintro e w2 ⟨rfl, rfl⟩))
      go_ret
      exact ⟨_, [], rfl, HAN.out, HEV.out.out rfl, ⟨by simp, fun u hu => by simp at hu⟩, hbw1⟩
  · have HAN : Hid (Cd.ShapesAre c fn []) := .inl ⟨.inl (by rw [HPL.out]; exact hp), rfl⟩
    go_enter Tryz.func5, Tryz.ntmps5
    go_wp2_with (first
      | (go_at_call 14; refine HPC.out.mono ?_; rintro e w1 ⟨rfl, hb3⟩; obtain ⟨d0, hev, hbw1⟩ := HK.out w1 hb3; have HEV : Hid (Cd.EvAt (w.heap.size + 1) w1 (.slice (some ⟨w.heap.size + 1, 0, none⟩) 0 0) []) := hev; clear hev))
    go_ret
    exact ⟨_, [], rfl, HAN.out, HEV.out.out rfl, ⟨by simp, fun u hu => by simp at hu⟩, hbw1⟩
end Go.Proofs.YtihiimgbdmkjmaaGreatDoor
