import Derived.Test.YtkaoeoeloihigaaGreatDoorWA
import Derived.Deep.RegionHeld3
namespace Go.Proofs.YtkaoeoeloihigaaGreatDoor
open Go.RowKit

def Pr.decT (n : Int) : ByteArray := ⟨(Lib.decDigits (n % 18446744073709551616).toNat).toArray⟩
def Pr.called (x : ByteArray) (xs : List ByteArray) : ByteArray := x ++ ⟨#[40]⟩ ++ Pr.listT xs ++ ⟨#[41]⟩
def Pr.mkE (d : Mill.Nd) (kd : List Int) (xs : List ByteArray) : ByteArray :=
  if d.kind = 1 then (if d.type = 10 then Pr.decT d.n else Pr.decT d.n ++ Mill.typeWord d.type)
  else if d.kind = 2 then Pr.quote d.text
  else if d.kind = 3 then (if d.n = 1 then ⟨#[116, 114, 117, 101]⟩ else ⟨#[102, 97, 108, 115, 101]⟩)
  else if d.kind = 4 then d.text
  else if d.kind = 5 then Pr.unMark d.op ++ Pr.held (kd.getD 0 0) (xs.getD 0 ⟨#[]⟩)
  else if d.kind = 6 then Pr.held (kd.getD 0 0) (xs.getD 0 ⟨#[]⟩) ++ ⟨#[32]⟩ ++ Pr.binMark d.op ++ ⟨#[32]⟩ ++ Pr.held (kd.getD 1 0) (xs.getD 1 ⟨#[]⟩)
  else if d.kind = 7 then Pr.called d.text xs
  else if d.kind = 8 then Pr.called (Mill.builtWord d.op) xs
  else Pr.called (Mill.typeWord d.type) xs
theorem Pr.ite_size {c : Prop} [Decidable c] {a b : ByteArray} {n : Nat} (ha : a.size ≤ n) (hb : b.size ≤ n) : (if c then a else b).size ≤ n := by split <;> assumption
theorem Pr.typeWord_size (t : Int) : (Mill.typeWord t).size ≤ 4 := by
  unfold Mill.typeWord
  repeat' apply Pr.ite_size
  all_goals decide
theorem Pr.builtWord_size (t : Int) : (Mill.builtWord t).size ≤ 4 := by
  unfold Mill.builtWord
  repeat' apply Pr.ite_size
  all_goals decide
theorem Pr.unMark_size (t : Int) : (Pr.unMark t).size ≤ 1 := by
  unfold Pr.unMark
  repeat' apply Pr.ite_size
  all_goals decide
theorem Pr.binMark_size (t : Int) : (Pr.binMark t).size ≤ 2 := by
  unfold Pr.binMark
  repeat' apply Pr.ite_size
  all_goals decide
theorem Pr.decT_size (n : Int) : (Pr.decT n).size ≤ 20 := by
  have := Val.decLen20 (n % 18446744073709551616).toNat (by omega)
  simpa [Pr.decT, ByteArray.size] using this
theorem Pr.held_size (k : Int) (x : ByteArray) : (Pr.held k x).size ≤ x.size + 2 := by
  unfold Pr.held
  split
  · rw [ByteArray.size_append, ByteArray.size_append]
    have e1 : (⟨#[40]⟩ : ByteArray).size = 1 := rfl
    have e2 : (⟨#[41]⟩ : ByteArray).size = 1 := rfl
    omega
  · omega
theorem Pr.listT_size (xs : List ByteArray) : (Pr.listT xs).size ≤ Pr.total xs := by
  have := Pr.joinL_len xs
  simpa [Pr.listT, ByteArray.size] using this
theorem Pr.six {w w' : World} {a b c d e f : Value} {t : TypeId} (hb : Below (w.heap.size + 1) (w.alloc (.cells #[a, b, c, d, e, f] t)) w') :
    w'.cell? ⟨w.heap.size, 0, none⟩ = some a ∧ w'.cell? ⟨w.heap.size, 1, none⟩ = some b ∧ w'.cell? ⟨w.heap.size, 2, none⟩ = some c ∧ w'.cell? ⟨w.heap.size, 3, none⟩ = some d ∧ w'.cell? ⟨w.heap.size, 4, none⟩ = some e ∧ w'.cell? ⟨w.heap.size, 5, none⟩ = some f := by
  have e1 : w'.heap[w.heap.size]? = some (.cells #[a, b, c, d, e, f] t (0, 0)) := (hb.block w.heap.size (by omega)).trans (Val.new_at w _)
  simp [World.cell?, e1]
theorem Pr.on1 {w w' : World} {o : Obj} (hb : Below (w.heap.size + 1) (w.alloc o) w') : Below w.heap.size w w' := ((Below.refl _ w).alloc (Nat.le_refl _) o).trans (hb.mono (by omega))
theorem Pr.next1 {w w1 w2 : World} {o : Obj} (hb : Below (w.heap.size + 1) (w.alloc o) w1) (h2 : Below w1.heap.size w1 w2) : Below (w.heap.size + 1) (w.alloc o) w2 := hb.trans (h2.mono (by have := hb.size; simpa using this))
/-- What a node and its row read as. -/
theorem Pr.pen_node {w : World} {g : Nat} {ns : List Mill.Nd} {K : List (List Nat)} (h : Pr.PenAt w g ns K) (k : Nat) (hk : k < ns.length) (hK : K.length = ns.length) :
    ∃ gn cn gk ck v, (g < w.heap.size ∧ gn < w.heap.size ∧ gk < w.heap.size) ∧ w.cell? ⟨g, 0, none⟩ = some (.slice (some ⟨gn, 0, none⟩) ns.length cn) ∧ w.cell? ⟨g, 1, none⟩ = some (.slice (some ⟨gk, 0, none⟩) ns.length ck) ∧
      (w.cell? ⟨gn, k * 6, none⟩ = some (.int .i64 ns[k].kind) ∧ w.cell? ⟨gn, k * 6 + 1, none⟩ = some (.int .i64 ns[k].op) ∧ w.cell? ⟨gn, k * 6 + 2, none⟩ = some (.int .i64 ns[k].type) ∧ w.cell? ⟨gn, k * 6 + 3, none⟩ = some (.int .i64 ns[k].n) ∧ w.cell? ⟨gn, k * 6 + 4, none⟩ = some (.string ns[k].text) ∧ w.cell? ⟨gn, k * 6 + 5, none⟩ = some (.int .i64 ns[k].kids)) ∧
      w.cell? ⟨gk, k, none⟩ = some v ∧ Pr.RowAt w v (K.getD k []) := by
  obtain ⟨hg, gn, cn, gk, ck, h0, h1, hgn, hgk, hN, hR⟩ := h
  obtain ⟨ua, uc, hu, hj⟩ := hR k (by omega)
  have hn := hN k hk
  have n0 := hn 0 (by omega); have n1 := hn 1 (by omega); have n2 := hn 2 (by omega); have n3 := hn 3 (by omega); have n4 := hn 4 (by omega); have n5 := hn 5 (by omega)
  simp only [Mill.ndC, List.getElem?_cons_zero, List.getElem?_cons_succ, Nat.add_zero] at n0 n1 n2 n3 n4 n5
  rw [hK] at h1
  exact ⟨gn, cn, gk, ck, _, ⟨hg, hgn, hgk⟩, h0, h1, ⟨n0, n1, n2, n3, n4, n5⟩, hu, ua, uc, rfl, hj⟩
theorem Pr.dec_any (n : Int) (w : World) : Calls Tryz.prog 79 #[.int .u64 (n % 18446744073709551616)] w fun e w' => e = .returned (.string (Pr.decT n)) ∧ Below w.heap.size w w' := Val.l1Decimal_i _ (by omega) (by omega) w
/-- What all of these walks are given. -/
structure Pr.Given (g : Nat) (ns : List Mill.Nd) (K : List (List Nat)) (k : Nat) (xs : List ByteArray) : Prop where
  lt : k < ns.length
  len : ns.length ≤ 12001
  rows : K.length = ns.length
  text : ns[k].text.size ≤ 1048576
  kidN : xs.length = (K.getD k []).length
  kidL : (K.getD k []).length ≤ 12001
  kids : ∀ x ∈ K.getD k [], x < ns.length
  size : Pr.total xs ≤ 50000000
  each : ∀ j (h : j < (K.getD k []).length) (h' : j < xs.length), Pr.ExprIs g ns K (K.getD k [])[j] xs[j]
set_option maxRecDepth 100000 in
set_option maxHeartbeats 2000000 in
theorem Pr.expr_text (g : Nat) (ns : List Mill.Nd) (K : List (List Nat)) (k : Nat) (xs : List ByteArray) (H : Hid (Pr.Given g ns K k xs)) (d : Mill.Nd) (hnd : ns[k]'H.out.lt = d) (hd : d.kind = 2) (w : World) (HP : Hid (Pr.PenAt w g ns K)) :
    Calls Tryz.prog 63 #[.pointer (some ⟨g, 0, none⟩), .int .i64 (k : Int)] w fun e w' => e = .returned (.string (Pr.quote d.text)) ∧ Below w.heap.size w w' := by
  obtain ⟨hlt, hlen, hrows, htext, hkn, hkl, hkids, hsize, heach⟩ := H.out
  obtain ⟨gn, cn, gk, ck, v, ⟨hg, hgn, hgk⟩, p0, p1, ⟨n0, n1, n2, n3, n4, n5⟩, hv, hrow⟩ := Pr.pen_node HP.out k hlt hrows
  have p1a : ∀ ob : Obj, (w.alloc ob).cell? ⟨g, 1, none⟩ = _ := fun ob => (((Below.refl _ w).alloc (Nat.le_refl _) ob).cell (p := ⟨g, 1, none⟩) hg).trans p1
  have hva : ∀ ob : Obj, (w.alloc ob).cell? ⟨gk, k, none⟩ = _ := fun ob => (((Below.refl _ w).alloc (Nat.le_refl _) ob).cell (p := ⟨gk, k, none⟩) hgk).trans hv
  rw [hnd] at n0 n1 n2 n3 n4 n5 htext
  clear hnd
  rw [hd] at n0
  have HR : Hid (Pr.RowAt w v (K.getD k [])) := hrow
  clear hrow
  have HE : Hid (∀ j (h : j < (K.getD k []).length) (h' : j < xs.length), Pr.ExprIs g ns K (K.getD k [])[j] xs[j]) := heach
  have HKI : Hid (∀ x ∈ K.getD k [], x < ns.length) := hkids
  clear heach hkids
  have HPA : Hid (∀ ob : Obj, Pr.PenAt (w.alloc ob) g ns K) := fun ob => HP.out.below ((Below.refl _ w).alloc (Nat.le_refl _) ob)
  go_enter Tryz.func63, Tryz.ntmps63
  go_wp2_with (go_at_call 80; refine (Pr.l1Quote_any _ htext _).mono ?_; rintro e w1 ⟨rfl, hb1⟩)
  go_ret
  exact ⟨rfl, ((Below.refl _ w).alloc (Nat.le_refl _) _).trans (hb1.mono (by simp))⟩
set_option maxRecDepth 100000 in
set_option maxHeartbeats 2000000 in
theorem Pr.expr_bool1 (g : Nat) (ns : List Mill.Nd) (K : List (List Nat)) (k : Nat) (xs : List ByteArray) (H : Hid (Pr.Given g ns K k xs)) (d : Mill.Nd) (hnd : ns[k]'H.out.lt = d) (hd : d.kind = 3) (h1 : d.n = 1) (w : World) (HP : Hid (Pr.PenAt w g ns K)) :
    Calls Tryz.prog 63 #[.pointer (some ⟨g, 0, none⟩), .int .i64 (k : Int)] w fun e w' => e = .returned (.string (⟨#[116, 114, 117, 101]⟩)) ∧ Below w.heap.size w w' := by
  obtain ⟨hlt, hlen, hrows, htext, hkn, hkl, hkids, hsize, heach⟩ := H.out
  obtain ⟨gn, cn, gk, ck, v, ⟨hg, hgn, hgk⟩, p0, p1, ⟨n0, n1, n2, n3, n4, n5⟩, hv, hrow⟩ := Pr.pen_node HP.out k hlt hrows
  have p1a : ∀ ob : Obj, (w.alloc ob).cell? ⟨g, 1, none⟩ = _ := fun ob => (((Below.refl _ w).alloc (Nat.le_refl _) ob).cell (p := ⟨g, 1, none⟩) hg).trans p1
  have hva : ∀ ob : Obj, (w.alloc ob).cell? ⟨gk, k, none⟩ = _ := fun ob => (((Below.refl _ w).alloc (Nat.le_refl _) ob).cell (p := ⟨gk, k, none⟩) hgk).trans hv
  rw [hnd] at n0 n1 n2 n3 n4 n5 htext
  clear hnd
  rw [hd] at n0
  have HR : Hid (Pr.RowAt w v (K.getD k [])) := hrow
  clear hrow
  have HE : Hid (∀ j (h : j < (K.getD k []).length) (h' : j < xs.length), Pr.ExprIs g ns K (K.getD k [])[j] xs[j]) := heach
  have HKI : Hid (∀ x ∈ K.getD k [], x < ns.length) := hkids
  clear heach hkids
  have HPA : Hid (∀ ob : Obj, Pr.PenAt (w.alloc ob) g ns K) := fun ob => HP.out.below ((Below.refl _ w).alloc (Nat.le_refl _) ob)
  rw [h1] at n3
  go_enter Tryz.func63, Tryz.ntmps63
  go_wp2
  go_ret
  exact ⟨rfl, (Below.refl _ w).alloc (Nat.le_refl _) _⟩
set_option maxRecDepth 100000 in
set_option maxHeartbeats 2000000 in
theorem Pr.expr_bool0 (g : Nat) (ns : List Mill.Nd) (K : List (List Nat)) (k : Nat) (xs : List ByteArray) (H : Hid (Pr.Given g ns K k xs)) (d : Mill.Nd) (hnd : ns[k]'H.out.lt = d) (hd : d.kind = 3) (h1 : ¬ d.n = 1) (w : World) (HP : Hid (Pr.PenAt w g ns K)) :
    Calls Tryz.prog 63 #[.pointer (some ⟨g, 0, none⟩), .int .i64 (k : Int)] w fun e w' => e = .returned (.string (⟨#[102, 97, 108, 115, 101]⟩)) ∧ Below w.heap.size w w' := by
  obtain ⟨hlt, hlen, hrows, htext, hkn, hkl, hkids, hsize, heach⟩ := H.out
  obtain ⟨gn, cn, gk, ck, v, ⟨hg, hgn, hgk⟩, p0, p1, ⟨n0, n1, n2, n3, n4, n5⟩, hv, hrow⟩ := Pr.pen_node HP.out k hlt hrows
  have p1a : ∀ ob : Obj, (w.alloc ob).cell? ⟨g, 1, none⟩ = _ := fun ob => (((Below.refl _ w).alloc (Nat.le_refl _) ob).cell (p := ⟨g, 1, none⟩) hg).trans p1
  have hva : ∀ ob : Obj, (w.alloc ob).cell? ⟨gk, k, none⟩ = _ := fun ob => (((Below.refl _ w).alloc (Nat.le_refl _) ob).cell (p := ⟨gk, k, none⟩) hgk).trans hv
  rw [hnd] at n0 n1 n2 n3 n4 n5 htext
  clear hnd
  rw [hd] at n0
  have HR : Hid (Pr.RowAt w v (K.getD k [])) := hrow
  clear hrow
  have HE : Hid (∀ j (h : j < (K.getD k []).length) (h' : j < xs.length), Pr.ExprIs g ns K (K.getD k [])[j] xs[j]) := heach
  have HKI : Hid (∀ x ∈ K.getD k [], x < ns.length) := hkids
  clear heach hkids
  have HPA : Hid (∀ ob : Obj, Pr.PenAt (w.alloc ob) g ns K) := fun ob => HP.out.below ((Below.refl _ w).alloc (Nat.le_refl _) ob)
  have h1' : (d.n == 1) = false := by simpa using h1
  go_enter Tryz.func63, Tryz.ntmps63
  go_wp2
  go_ret
  exact ⟨rfl, (Below.refl _ w).alloc (Nat.le_refl _) _⟩
set_option maxRecDepth 100000 in
set_option maxHeartbeats 2000000 in
theorem Pr.expr_name (g : Nat) (ns : List Mill.Nd) (K : List (List Nat)) (k : Nat) (xs : List ByteArray) (H : Hid (Pr.Given g ns K k xs)) (d : Mill.Nd) (hnd : ns[k]'H.out.lt = d) (hd : d.kind = 4) (w : World) (HP : Hid (Pr.PenAt w g ns K)) :
    Calls Tryz.prog 63 #[.pointer (some ⟨g, 0, none⟩), .int .i64 (k : Int)] w fun e w' => e = .returned (.string (d.text)) ∧ Below w.heap.size w w' := by
  obtain ⟨hlt, hlen, hrows, htext, hkn, hkl, hkids, hsize, heach⟩ := H.out
  obtain ⟨gn, cn, gk, ck, v, ⟨hg, hgn, hgk⟩, p0, p1, ⟨n0, n1, n2, n3, n4, n5⟩, hv, hrow⟩ := Pr.pen_node HP.out k hlt hrows
  have p1a : ∀ ob : Obj, (w.alloc ob).cell? ⟨g, 1, none⟩ = _ := fun ob => (((Below.refl _ w).alloc (Nat.le_refl _) ob).cell (p := ⟨g, 1, none⟩) hg).trans p1
  have hva : ∀ ob : Obj, (w.alloc ob).cell? ⟨gk, k, none⟩ = _ := fun ob => (((Below.refl _ w).alloc (Nat.le_refl _) ob).cell (p := ⟨gk, k, none⟩) hgk).trans hv
  rw [hnd] at n0 n1 n2 n3 n4 n5 htext
  clear hnd
  rw [hd] at n0
  have HR : Hid (Pr.RowAt w v (K.getD k [])) := hrow
  clear hrow
  have HE : Hid (∀ j (h : j < (K.getD k []).length) (h' : j < xs.length), Pr.ExprIs g ns K (K.getD k [])[j] xs[j]) := heach
  have HKI : Hid (∀ x ∈ K.getD k [], x < ns.length) := hkids
  clear heach hkids
  have HPA : Hid (∀ ob : Obj, Pr.PenAt (w.alloc ob) g ns K) := fun ob => HP.out.below ((Below.refl _ w).alloc (Nat.le_refl _) ob)
  go_enter Tryz.func63, Tryz.ntmps63
  go_wp2
  go_ret
  exact ⟨rfl, (Below.refl _ w).alloc (Nat.le_refl _) _⟩
set_option maxRecDepth 100000 in
set_option maxHeartbeats 2000000 in
theorem Pr.expr_int10 (g : Nat) (ns : List Mill.Nd) (K : List (List Nat)) (k : Nat) (xs : List ByteArray) (H : Hid (Pr.Given g ns K k xs)) (d : Mill.Nd) (hnd : ns[k]'H.out.lt = d) (hd : d.kind = 1) (h1 : d.type = 10) (w : World) (HP : Hid (Pr.PenAt w g ns K)) :
    Calls Tryz.prog 63 #[.pointer (some ⟨g, 0, none⟩), .int .i64 (k : Int)] w fun e w' => e = .returned (.string (Pr.decT d.n)) ∧ Below w.heap.size w w' := by
  obtain ⟨hlt, hlen, hrows, htext, hkn, hkl, hkids, hsize, heach⟩ := H.out
  obtain ⟨gn, cn, gk, ck, v, ⟨hg, hgn, hgk⟩, p0, p1, ⟨n0, n1, n2, n3, n4, n5⟩, hv, hrow⟩ := Pr.pen_node HP.out k hlt hrows
  have p1a : ∀ ob : Obj, (w.alloc ob).cell? ⟨g, 1, none⟩ = _ := fun ob => (((Below.refl _ w).alloc (Nat.le_refl _) ob).cell (p := ⟨g, 1, none⟩) hg).trans p1
  have hva : ∀ ob : Obj, (w.alloc ob).cell? ⟨gk, k, none⟩ = _ := fun ob => (((Below.refl _ w).alloc (Nat.le_refl _) ob).cell (p := ⟨gk, k, none⟩) hgk).trans hv
  rw [hnd] at n0 n1 n2 n3 n4 n5 htext
  clear hnd
  rw [hd] at n0
  have HR : Hid (Pr.RowAt w v (K.getD k [])) := hrow
  clear hrow
  have HE : Hid (∀ j (h : j < (K.getD k []).length) (h' : j < xs.length), Pr.ExprIs g ns K (K.getD k [])[j] xs[j]) := heach
  have HKI : Hid (∀ x ∈ K.getD k [], x < ns.length) := hkids
  clear heach hkids
  have HPA : Hid (∀ ob : Obj, Pr.PenAt (w.alloc ob) g ns K) := fun ob => HP.out.below ((Below.refl _ w).alloc (Nat.le_refl _) ob)
  rw [h1] at n2
  have hw : IntKind.u64.wrap d.n = d.n % 18446744073709551616 := Val.wrap_u _
  go_enter Tryz.func63, Tryz.ntmps63
  go_wp2_with (go_at_call 79; refine (Val.l1Decimal_i _ (by omega) (by omega) _).mono ?_; rintro e w1 ⟨rfl, hb1⟩)
  go_ret
  exact ⟨rfl, ((Below.refl _ w).alloc (Nat.le_refl _) _).trans (hb1.mono (by simp))⟩
set_option maxRecDepth 100000 in
set_option maxHeartbeats 2000000 in
theorem Pr.expr_int (g : Nat) (ns : List Mill.Nd) (K : List (List Nat)) (k : Nat) (xs : List ByteArray) (H : Hid (Pr.Given g ns K k xs)) (d : Mill.Nd) (hnd : ns[k]'H.out.lt = d) (hd : d.kind = 1) (h1 : ¬ d.type = 10) (w : World) (HP : Hid (Pr.PenAt w g ns K)) :
    Calls Tryz.prog 63 #[.pointer (some ⟨g, 0, none⟩), .int .i64 (k : Int)] w fun e w' => e = .returned (.string (Pr.decT d.n ++ Mill.typeWord d.type)) ∧ Below w.heap.size w w' := by
  obtain ⟨hlt, hlen, hrows, htext, hkn, hkl, hkids, hsize, heach⟩ := H.out
  obtain ⟨gn, cn, gk, ck, v, ⟨hg, hgn, hgk⟩, p0, p1, ⟨n0, n1, n2, n3, n4, n5⟩, hv, hrow⟩ := Pr.pen_node HP.out k hlt hrows
  have p1a : ∀ ob : Obj, (w.alloc ob).cell? ⟨g, 1, none⟩ = _ := fun ob => (((Below.refl _ w).alloc (Nat.le_refl _) ob).cell (p := ⟨g, 1, none⟩) hg).trans p1
  have hva : ∀ ob : Obj, (w.alloc ob).cell? ⟨gk, k, none⟩ = _ := fun ob => (((Below.refl _ w).alloc (Nat.le_refl _) ob).cell (p := ⟨gk, k, none⟩) hgk).trans hv
  rw [hnd] at n0 n1 n2 n3 n4 n5 htext
  clear hnd
  rw [hd] at n0
  have HR : Hid (Pr.RowAt w v (K.getD k [])) := hrow
  clear hrow
  have HE : Hid (∀ j (h : j < (K.getD k []).length) (h' : j < xs.length), Pr.ExprIs g ns K (K.getD k [])[j] xs[j]) := heach
  have HKI : Hid (∀ x ∈ K.getD k [], x < ns.length) := hkids
  clear heach hkids
  have HPA : Hid (∀ ob : Obj, Pr.PenAt (w.alloc ob) g ns K) := fun ob => HP.out.below ((Below.refl _ w).alloc (Nat.le_refl _) ob)
  have h1' : (d.type == 10) = false := by simpa using h1
  have hw : IntKind.u64.wrap d.n = d.n % 18446744073709551616 := Val.wrap_u _
  have z1 := Pr.decT_size d.n
  have z2 := Pr.typeWord_size d.type
  have s0 : ¬ (9223372036854775807 < (Pr.decT d.n).size + (Mill.typeWord d.type).size) := by omega
  have hbc := (Below.refl (w.heap.size + 1) (w.alloc (.cells #[.int .i64 1, .int .i64 d.op, .int .i64 d.type, .int .i64 d.n, .string d.text, .int .i64 d.kids] 68))).drew
  obtain ⟨c0, c1, c2, c3, c4, c5⟩ := Pr.six hbc
  go_enter Tryz.func63, Tryz.ntmps63
  go_wp2_with fail
  go_region_held3 (fun w' => w'.cell? ⟨w.heap.size, 2, none⟩ = some (.int .i64 d.type) ∧ w'.cell? ⟨w.heap.size, 3, none⟩ = some (.int .i64 d.n)) (with_reducible exact ⟨c2, c3⟩) (first
    | (go_at_call 79; refine (Pr.dec_any _ _).mono ?_; rintro e w1 ⟨rfl, hb1⟩; have hbc := Pr.next1 hbc hb1; obtain ⟨c0, c1, c2, c3, c4, c5⟩ := Pr.six hbc)
    | (go_at_call 22; refine (l1TypeWord_any _ _).mono ?_; rintro e w2 ⟨rfl, rfl⟩))
  go_wp2
  go_ret
  exact ⟨rfl, Pr.on1 hbc⟩
set_option maxRecDepth 100000 in
set_option maxHeartbeats 2000000 in
theorem Pr.expr_un (g : Nat) (ns : List Mill.Nd) (K : List (List Nat)) (k : Nat) (xs : List ByteArray) (H : Hid (Pr.Given g ns K k xs)) (d : Mill.Nd) (hnd : ns[k]'H.out.lt = d) (hd : d.kind = 5) (c : Nat) (x : ByteArray) (hcl : c < ns.length) (hxs : x.size ≤ 100000000) (Hx : Hid (Pr.ExprIs g ns K c x)) (hrow : K.getD k [] = [c]) (w : World) (HP : Hid (Pr.PenAt w g ns K)) :
    Calls Tryz.prog 63 #[.pointer (some ⟨g, 0, none⟩), .int .i64 (k : Int)] w fun e w' => e = .returned (.string (Pr.unMark d.op ++ Pr.held ns[c].kind x)) ∧ Below w.heap.size w w' := by
  obtain ⟨hlt, hlen, hrows, htext, hkn, hkl, hkids, hsize, heach⟩ := H.out
  obtain ⟨gn, cn, gk, ck, v, ⟨hg, hgn, hgk⟩, p0, p1, ⟨n0, n1, n2, n3, n4, n5⟩, hv, hrow⟩ := Pr.pen_node HP.out k hlt hrows
  have p1a : ∀ ob : Obj, (w.alloc ob).cell? ⟨g, 1, none⟩ = _ := fun ob => (((Below.refl _ w).alloc (Nat.le_refl _) ob).cell (p := ⟨g, 1, none⟩) hg).trans p1
  have hva : ∀ ob : Obj, (w.alloc ob).cell? ⟨gk, k, none⟩ = _ := fun ob => (((Below.refl _ w).alloc (Nat.le_refl _) ob).cell (p := ⟨gk, k, none⟩) hgk).trans hv
  rw [hnd] at n0 n1 n2 n3 n4 n5 htext
  clear hnd
  rw [hd] at n0
  have HR : Hid (Pr.RowAt w v (K.getD k [])) := hrow
  clear hrow
  have HE : Hid (∀ j (h : j < (K.getD k []).length) (h' : j < xs.length), Pr.ExprIs g ns K (K.getD k [])[j] xs[j]) := heach
  have HKI : Hid (∀ x ∈ K.getD k [], x < ns.length) := hkids
  clear heach hkids
  have HPA : Hid (∀ ob : Obj, Pr.PenAt (w.alloc ob) g ns K) := fun ob => HP.out.below ((Below.refl _ w).alloc (Nat.le_refl _) ob)
  have hR := HR.out
  rw [hrow] at hR
  obtain ⟨ua, uc, rfl, hj⟩ := hR
  obtain ⟨gu, rfl, hgu, r00⟩ := hj 0 (by simp)
  simp only [List.getElem_cons_zero] at r00
  simp only [List.length_cons, List.length_nil] at hv hva
  clear hj
  have HH : Hid (∀ w1 : World, Pr.PenAt w1 g ns K → Calls Tryz.prog 82 #[.pointer (some ⟨g, 0, none⟩), .int .i64 (c : Int)] w1 fun e w' => e = .returned (.string (Pr.held ns[c].kind x)) ∧ Below w1.heap.size w1 w') := fun w1 h1 => Pr.held_any g ns K c x hcl hlen hxs Hx w1 h1
  have zy := Pr.held_size ns[c].kind x
  generalize Pr.held ns[c].kind x = y at HH zy ⊢
  have z1 := Pr.unMark_size d.op
  have s0 : ¬ (9223372036854775807 < (Pr.unMark d.op).size + y.size) := by omega
  have hbc := (Below.refl (w.heap.size + 1) (w.alloc (.cells #[.int .i64 5, .int .i64 d.op, .int .i64 d.type, .int .i64 d.n, .string d.text, .int .i64 d.kids] 68))).drew
  obtain ⟨c0, c1, c2, c3, c4, c5⟩ := Pr.six hbc
  have r0 := ((Pr.on1 hbc).cell (p := ⟨gu, 0, none⟩) hgu).trans r00
  go_enter Tryz.func63, Tryz.ntmps63
  go_wp2_with fail
  go_region_held3 (fun w' => w'.cell? ⟨w.heap.size, 1, none⟩ = some (.int .i64 d.op) ∧ w'.cell? ⟨gu, 0, none⟩ = some (.int .i64 (c : Int))) (with_reducible exact ⟨c1, r0⟩) (first
    | (go_at_call 81; refine (Pr.l2UnMark_any _ _).mono ?_; rintro e w2 ⟨rfl, rfl⟩)
    | (go_at_call 82; have hpen := HP.out.below (Pr.on1 hbc); (with_reducible refine (HH.out _ hpen).mono ?_); rintro e w1 ⟨rfl, hb1⟩; have hbc := Pr.next1 hbc hb1; obtain ⟨c0, c1, c2, c3, c4, c5⟩ := Pr.six hbc; have r0 := ((Pr.on1 hbc).cell (p := ⟨gu, 0, none⟩) hgu).trans r00))
  go_wp2
  go_ret
  exact ⟨rfl, Pr.on1 hbc⟩
set_option maxRecDepth 100000 in
set_option maxHeartbeats 2000000 in
theorem Pr.expr_call (g : Nat) (ns : List Mill.Nd) (K : List (List Nat)) (k : Nat) (xs : List ByteArray) (H : Hid (Pr.Given g ns K k xs)) (d : Mill.Nd) (hnd : ns[k]'H.out.lt = d) (hd : d.kind = 7) (w : World) (HP : Hid (Pr.PenAt w g ns K)) :
    Calls Tryz.prog 63 #[.pointer (some ⟨g, 0, none⟩), .int .i64 (k : Int)] w fun e w' => e = .returned (.string (Pr.called d.text xs)) ∧ Below w.heap.size w w' := by
  obtain ⟨hlt, hlen, hrows, htext, hkn, hkl, hkids, hsize, heach⟩ := H.out
  obtain ⟨gn, cn, gk, ck, v, ⟨hg, hgn, hgk⟩, p0, p1, ⟨n0, n1, n2, n3, n4, n5⟩, hv, hrow⟩ := Pr.pen_node HP.out k hlt hrows
  have p1a : ∀ ob : Obj, (w.alloc ob).cell? ⟨g, 1, none⟩ = _ := fun ob => (((Below.refl _ w).alloc (Nat.le_refl _) ob).cell (p := ⟨g, 1, none⟩) hg).trans p1
  have hva : ∀ ob : Obj, (w.alloc ob).cell? ⟨gk, k, none⟩ = _ := fun ob => (((Below.refl _ w).alloc (Nat.le_refl _) ob).cell (p := ⟨gk, k, none⟩) hgk).trans hv
  rw [hnd] at n0 n1 n2 n3 n4 n5 htext
  clear hnd
  rw [hd] at n0
  have HR : Hid (Pr.RowAt w v (K.getD k [])) := hrow
  clear hrow
  have HE : Hid (∀ j (h : j < (K.getD k []).length) (h' : j < xs.length), Pr.ExprIs g ns K (K.getD k [])[j] xs[j]) := heach
  have HKI : Hid (∀ x ∈ K.getD k [], x < ns.length) := hkids
  clear heach hkids
  have HPA : Hid (∀ ob : Obj, Pr.PenAt (w.alloc ob) g ns K) := fun ob => HP.out.below ((Below.refl _ w).alloc (Nat.le_refl _) ob)
  have HL : Hid (∀ w1 : World, Pr.PenAt w1 g ns K → Pr.RowAt w1 v (K.getD k []) → Calls Tryz.prog 64 #[.pointer (some ⟨g, 0, none⟩), v] w1 fun e w' => e = .returned (.string (Pr.listT xs)) ∧ Below w1.heap.size w1 w') := fun w1 h1 h2 => Pr.list_any g ns K v (K.getD k []) xs hkn hkl (by omega) HE w1 h1 h2
  have zl := Pr.listT_size xs
  unfold Pr.called
  generalize Pr.listT xs = l at HL zl ⊢
  have u0 : ¬ (9223372036854775806 < d.text.size) := by omega
  have s0 : ¬ (9223372036854775807 < d.text.size + 1) := by omega
  have s1 : ¬ (9223372036854775807 < d.text.size + 1 + l.size) := by omega
  have u2 : ¬ (9223372036854775806 < d.text.size + 1 + l.size) := by omega
  have s2 : ¬ (9223372036854775807 < d.text.size + 1 + l.size + 1) := by omega
  have hbc := (Below.refl (w.heap.size + 1) (w.alloc (.cells #[.int .i64 7, .int .i64 d.op, .int .i64 d.type, .int .i64 d.n, .string d.text, .int .i64 d.kids] 68))).drew
  obtain ⟨c0, c1, c2, c3, c4, c5⟩ := Pr.six hbc
  go_enter Tryz.func63, Tryz.ntmps63
  go_wp2_with fail
  go_region_held3 (fun w' => w'.cell? ⟨w.heap.size, 4, none⟩ = some (.string d.text)) (with_reducible exact c4) (first
    | (go_at_call 64; refine (HL.out _ (HP.out.below (Pr.on1 hbc)) (HR.out.below (Pr.on1 hbc))).mono ?_; rintro e w1 ⟨rfl, hb1⟩; have hbc := Pr.next1 hbc hb1; obtain ⟨c0, c1, c2, c3, c4, c5⟩ := Pr.six hbc))
  go_wp2
  go_ret
  exact ⟨rfl, Pr.on1 hbc⟩
set_option maxRecDepth 100000 in
set_option maxHeartbeats 2000000 in
theorem Pr.expr_built (g : Nat) (ns : List Mill.Nd) (K : List (List Nat)) (k : Nat) (xs : List ByteArray) (H : Hid (Pr.Given g ns K k xs)) (d : Mill.Nd) (hnd : ns[k]'H.out.lt = d) (hd : d.kind = 8) (w : World) (HP : Hid (Pr.PenAt w g ns K)) :
    Calls Tryz.prog 63 #[.pointer (some ⟨g, 0, none⟩), .int .i64 (k : Int)] w fun e w' => e = .returned (.string (Pr.called (Mill.builtWord d.op) xs)) ∧ Below w.heap.size w w' := by
  obtain ⟨hlt, hlen, hrows, htext, hkn, hkl, hkids, hsize, heach⟩ := H.out
  obtain ⟨gn, cn, gk, ck, v, ⟨hg, hgn, hgk⟩, p0, p1, ⟨n0, n1, n2, n3, n4, n5⟩, hv, hrow⟩ := Pr.pen_node HP.out k hlt hrows
  have p1a : ∀ ob : Obj, (w.alloc ob).cell? ⟨g, 1, none⟩ = _ := fun ob => (((Below.refl _ w).alloc (Nat.le_refl _) ob).cell (p := ⟨g, 1, none⟩) hg).trans p1
  have hva : ∀ ob : Obj, (w.alloc ob).cell? ⟨gk, k, none⟩ = _ := fun ob => (((Below.refl _ w).alloc (Nat.le_refl _) ob).cell (p := ⟨gk, k, none⟩) hgk).trans hv
  rw [hnd] at n0 n1 n2 n3 n4 n5 htext
  clear hnd
  rw [hd] at n0
  have HR : Hid (Pr.RowAt w v (K.getD k [])) := hrow
  clear hrow
  have HE : Hid (∀ j (h : j < (K.getD k []).length) (h' : j < xs.length), Pr.ExprIs g ns K (K.getD k [])[j] xs[j]) := heach
  have HKI : Hid (∀ x ∈ K.getD k [], x < ns.length) := hkids
  clear heach hkids
  have HPA : Hid (∀ ob : Obj, Pr.PenAt (w.alloc ob) g ns K) := fun ob => HP.out.below ((Below.refl _ w).alloc (Nat.le_refl _) ob)
  have HL : Hid (∀ w1 : World, Pr.PenAt w1 g ns K → Pr.RowAt w1 v (K.getD k []) → Calls Tryz.prog 64 #[.pointer (some ⟨g, 0, none⟩), v] w1 fun e w' => e = .returned (.string (Pr.listT xs)) ∧ Below w1.heap.size w1 w') := fun w1 h1 h2 => Pr.list_any g ns K v (K.getD k []) xs hkn hkl (by omega) HE w1 h1 h2
  have zl := Pr.listT_size xs
  unfold Pr.called
  generalize Pr.listT xs = l at HL zl ⊢
  have z1 := Pr.builtWord_size d.op
  have u0 : ¬ (9223372036854775806 < (Mill.builtWord d.op).size) := by omega
  have s0 : ¬ (9223372036854775807 < (Mill.builtWord d.op).size + 1) := by omega
  have s1 : ¬ (9223372036854775807 < (Mill.builtWord d.op).size + 1 + l.size) := by omega
  have u2 : ¬ (9223372036854775806 < (Mill.builtWord d.op).size + 1 + l.size) := by omega
  have s2 : ¬ (9223372036854775807 < (Mill.builtWord d.op).size + 1 + l.size + 1) := by omega
  have hbc := (Below.refl (w.heap.size + 1) (w.alloc (.cells #[.int .i64 8, .int .i64 d.op, .int .i64 d.type, .int .i64 d.n, .string d.text, .int .i64 d.kids] 68)))
  obtain ⟨c0, c1, c2, c3, c4, c5⟩ := Pr.six hbc
  go_enter Tryz.func63, Tryz.ntmps63
  go_wp2_with (first
    | (go_at_call 42; refine (l1BuiltWord_any _ _).mono ?_; rintro e w2 ⟨rfl, rfl⟩)
    | (go_at_call 64; refine (HL.out _ (HP.out.below (Pr.on1 hbc)) (HR.out.below (Pr.on1 hbc))).mono ?_; rintro e w1 ⟨rfl, hb1⟩; have hbc := Pr.next1 hbc hb1; obtain ⟨c0, c1, c2, c3, c4, c5⟩ := Pr.six hbc))
  go_ret
  exact ⟨rfl, Pr.on1 hbc⟩
set_option maxRecDepth 100000 in
set_option maxHeartbeats 2000000 in
theorem Pr.expr_conv (g : Nat) (ns : List Mill.Nd) (K : List (List Nat)) (k : Nat) (xs : List ByteArray) (H : Hid (Pr.Given g ns K k xs)) (d : Mill.Nd) (hnd : ns[k]'H.out.lt = d) (hd : d.kind = 9) (w : World) (HP : Hid (Pr.PenAt w g ns K)) :
    Calls Tryz.prog 63 #[.pointer (some ⟨g, 0, none⟩), .int .i64 (k : Int)] w fun e w' => e = .returned (.string (Pr.called (Mill.typeWord d.type) xs)) ∧ Below w.heap.size w w' := by
  obtain ⟨hlt, hlen, hrows, htext, hkn, hkl, hkids, hsize, heach⟩ := H.out
  obtain ⟨gn, cn, gk, ck, v, ⟨hg, hgn, hgk⟩, p0, p1, ⟨n0, n1, n2, n3, n4, n5⟩, hv, hrow⟩ := Pr.pen_node HP.out k hlt hrows
  have p1a : ∀ ob : Obj, (w.alloc ob).cell? ⟨g, 1, none⟩ = _ := fun ob => (((Below.refl _ w).alloc (Nat.le_refl _) ob).cell (p := ⟨g, 1, none⟩) hg).trans p1
  have hva : ∀ ob : Obj, (w.alloc ob).cell? ⟨gk, k, none⟩ = _ := fun ob => (((Below.refl _ w).alloc (Nat.le_refl _) ob).cell (p := ⟨gk, k, none⟩) hgk).trans hv
  rw [hnd] at n0 n1 n2 n3 n4 n5 htext
  clear hnd
  rw [hd] at n0
  have HR : Hid (Pr.RowAt w v (K.getD k [])) := hrow
  clear hrow
  have HE : Hid (∀ j (h : j < (K.getD k []).length) (h' : j < xs.length), Pr.ExprIs g ns K (K.getD k [])[j] xs[j]) := heach
  have HKI : Hid (∀ x ∈ K.getD k [], x < ns.length) := hkids
  clear heach hkids
  have HPA : Hid (∀ ob : Obj, Pr.PenAt (w.alloc ob) g ns K) := fun ob => HP.out.below ((Below.refl _ w).alloc (Nat.le_refl _) ob)
  have HL : Hid (∀ w1 : World, Pr.PenAt w1 g ns K → Pr.RowAt w1 v (K.getD k []) → Calls Tryz.prog 64 #[.pointer (some ⟨g, 0, none⟩), v] w1 fun e w' => e = .returned (.string (Pr.listT xs)) ∧ Below w1.heap.size w1 w') := fun w1 h1 h2 => Pr.list_any g ns K v (K.getD k []) xs hkn hkl (by omega) HE w1 h1 h2
  have zl := Pr.listT_size xs
  unfold Pr.called
  generalize Pr.listT xs = l at HL zl ⊢
  have z1 := Pr.typeWord_size d.type
  have u0 : ¬ (9223372036854775806 < (Mill.typeWord d.type).size) := by omega
  have s0 : ¬ (9223372036854775807 < (Mill.typeWord d.type).size + 1) := by omega
  have s1 : ¬ (9223372036854775807 < (Mill.typeWord d.type).size + 1 + l.size) := by omega
  have u2 : ¬ (9223372036854775806 < (Mill.typeWord d.type).size + 1 + l.size) := by omega
  have s2 : ¬ (9223372036854775807 < (Mill.typeWord d.type).size + 1 + l.size + 1) := by omega
  have hbc := (Below.refl (w.heap.size + 1) (w.alloc (.cells #[.int .i64 9, .int .i64 d.op, .int .i64 d.type, .int .i64 d.n, .string d.text, .int .i64 d.kids] 68)))
  obtain ⟨c0, c1, c2, c3, c4, c5⟩ := Pr.six hbc
  go_enter Tryz.func63, Tryz.ntmps63
  go_wp2_with (first
    | (go_at_call 22; refine (l1TypeWord_any _ _).mono ?_; rintro e w2 ⟨rfl, rfl⟩)
    | (go_at_call 64; refine (HL.out _ (HP.out.below (Pr.on1 hbc)) (HR.out.below (Pr.on1 hbc))).mono ?_; rintro e w1 ⟨rfl, hb1⟩; have hbc := Pr.next1 hbc hb1; obtain ⟨c0, c1, c2, c3, c4, c5⟩ := Pr.six hbc))
  go_ret
  exact ⟨rfl, Pr.on1 hbc⟩
end Go.Proofs.YtkaoeoeloihigaaGreatDoor

namespace Go.Proofs.YtkaoeoeloihigaaGreatDoor
open Go.RowKit

set_option maxRecDepth 100000 in
set_option maxHeartbeats 2000000 in
theorem Pr.expr_bin (g : Nat) (ns : List Mill.Nd) (K : List (List Nat)) (k : Nat) (xs : List ByteArray) (H : Hid (Pr.Given g ns K k xs)) (d : Mill.Nd) (hnd : ns[k]'H.out.lt = d) (hd : d.kind = 6) (c : Nat) (x : ByteArray) (hcl : c < ns.length) (hxs : x.size ≤ 100000000) (Hx : Hid (Pr.ExprIs g ns K c x)) (b : Nat) (y : ByteArray) (hbl : b < ns.length) (hys : y.size ≤ 100000000) (Hy : Hid (Pr.ExprIs g ns K b y)) (hrow : K.getD k [] = [c, b]) (hop : 1 ≤ d.op ∧ d.op ≤ 18) (w : World) (HP : Hid (Pr.PenAt w g ns K)) :
    Calls Tryz.prog 63 #[.pointer (some ⟨g, 0, none⟩), .int .i64 (k : Int)] w fun e w' => e = .returned (.string (Pr.held ns[c].kind x ++ ⟨#[32]⟩ ++ Pr.binMark d.op ++ ⟨#[32]⟩ ++ Pr.held ns[b].kind y)) ∧ Below w.heap.size w w' := by
  obtain ⟨hlt, hlen, hrows, htext, hkn, hkl, hkids, hsize, heach⟩ := H.out
  obtain ⟨gn, cn, gk, ck, v, ⟨hg, hgn, hgk⟩, p0, p1, ⟨n0, n1, n2, n3, n4, n5⟩, hv, hrow⟩ := Pr.pen_node HP.out k hlt hrows
  have p1a : ∀ ob : Obj, (w.alloc ob).cell? ⟨g, 1, none⟩ = _ := fun ob => (((Below.refl _ w).alloc (Nat.le_refl _) ob).cell (p := ⟨g, 1, none⟩) hg).trans p1
  have hva : ∀ ob : Obj, (w.alloc ob).cell? ⟨gk, k, none⟩ = _ := fun ob => (((Below.refl _ w).alloc (Nat.le_refl _) ob).cell (p := ⟨gk, k, none⟩) hgk).trans hv
  rw [hnd] at n0 n1 n2 n3 n4 n5 htext
  clear hnd
  rw [hd] at n0
  have HR : Hid (Pr.RowAt w v (K.getD k [])) := hrow
  clear hrow
  have HE : Hid (∀ j (h : j < (K.getD k []).length) (h' : j < xs.length), Pr.ExprIs g ns K (K.getD k [])[j] xs[j]) := heach
  have HKI : Hid (∀ x ∈ K.getD k [], x < ns.length) := hkids
  clear heach hkids
  have HPA : Hid (∀ ob : Obj, Pr.PenAt (w.alloc ob) g ns K) := fun ob => HP.out.below ((Below.refl _ w).alloc (Nat.le_refl _) ob)
  have hR := HR.out
  rw [hrow] at hR
  obtain ⟨ua, uc, rfl, hj⟩ := hR
  obtain ⟨gu, rfl, hgu, r00⟩ := hj 0 (by simp)
  obtain ⟨gu', hgu', _, r11⟩ := hj 1 (by simp)
  cases hgu'
  simp only [List.getElem_cons_zero, List.getElem_cons_succ] at r00 r11
  simp only [List.length_cons, List.length_nil] at hv hva
  clear hj
  have HH1 : Hid (∀ w1 : World, Pr.PenAt w1 g ns K → Calls Tryz.prog 82 #[.pointer (some ⟨g, 0, none⟩), .int .i64 (c : Int)] w1 fun e w' => e = .returned (.string (Pr.held ns[c].kind x)) ∧ Below w1.heap.size w1 w') := fun w1 h1 => Pr.held_any g ns K c x hcl hlen hxs Hx w1 h1
  have zp := Pr.held_size ns[c].kind x
  generalize Pr.held ns[c].kind x = p at HH1 zp ⊢
  have HH2 : Hid (∀ w1 : World, Pr.PenAt w1 g ns K → Calls Tryz.prog 82 #[.pointer (some ⟨g, 0, none⟩), .int .i64 (b : Int)] w1 fun e w' => e = .returned (.string (Pr.held ns[b].kind y)) ∧ Below w1.heap.size w1 w') := fun w1 h1 => Pr.held_any g ns K b y hbl hlen hys Hy w1 h1
  have zq := Pr.held_size ns[b].kind y
  generalize Pr.held ns[b].kind y = q at HH2 zq ⊢
  have z1 := Pr.binMark_size d.op
  have u0 : ¬ (9223372036854775806 < p.size) := by omega
  have s0 : ¬ (9223372036854775807 < p.size + 1) := by omega
  have s1 : ¬ (9223372036854775807 < p.size + 1 + (Pr.binMark d.op).size) := by omega
  have u2 : ¬ (9223372036854775806 < p.size + 1 + (Pr.binMark d.op).size) := by omega
  have s2 : ¬ (9223372036854775807 < p.size + 1 + (Pr.binMark d.op).size + 1) := by omega
  have s3 : ¬ (9223372036854775807 < p.size + 1 + (Pr.binMark d.op).size + 1 + q.size) := by omega
  have hbc := (Below.refl (w.heap.size + 1) (w.alloc (.cells #[.int .i64 6, .int .i64 d.op, .int .i64 d.type, .int .i64 d.n, .string d.text, .int .i64 d.kids] 68))).drew
  obtain ⟨c0, c1, c2, c3, c4, c5⟩ := Pr.six hbc
  have r0 := ((Pr.on1 hbc).cell (p := ⟨gu, 0, none⟩) hgu).trans r00
  have r1 := ((Pr.on1 hbc).cell (p := ⟨gu, 1, none⟩) hgu).trans r11
  go_enter Tryz.func63, Tryz.ntmps63
  go_wp2_with (go_at_call 83; refine (Pr.l2Mark_any _ hop _).mono ?_; rintro e w2 ⟨rfl, rfl⟩)
  go_region_held3 (fun w' => w'.cell? ⟨gu, 0, none⟩ = some (.int .i64 (c : Int)) ∧ w'.cell? ⟨gu, 1, none⟩ = some (.int .i64 (b : Int))) (with_reducible exact ⟨r0, r1⟩) (first
    | (go_at_call 82; have hpen := HP.out.below (Pr.on1 hbc); (with_reducible refine (HH1.out _ hpen).mono ?_); rintro e w1 ⟨rfl, hb1⟩; have hbc := Pr.next1 hbc hb1; obtain ⟨c0, c1, c2, c3, c4, c5⟩ := Pr.six hbc; have r0 := ((Pr.on1 hbc).cell (p := ⟨gu, 0, none⟩) hgu).trans r00; have r1 := ((Pr.on1 hbc).cell (p := ⟨gu, 1, none⟩) hgu).trans r11)
    | (go_at_call 82; have hpen := HP.out.below (Pr.on1 hbc); (with_reducible refine (HH2.out _ hpen).mono ?_); rintro e w1 ⟨rfl, hb1⟩; have hbc := Pr.next1 hbc hb1; obtain ⟨c0, c1, c2, c3, c4, c5⟩ := Pr.six hbc; have r0 := ((Pr.on1 hbc).cell (p := ⟨gu, 0, none⟩) hgu).trans r00; have r1 := ((Pr.on1 hbc).cell (p := ⟨gu, 1, none⟩) hgu).trans r11))
  go_wp2
  go_ret
  exact ⟨rfl, Pr.on1 hbc⟩
end Go.Proofs.YtkaoeoeloihigaaGreatDoor
