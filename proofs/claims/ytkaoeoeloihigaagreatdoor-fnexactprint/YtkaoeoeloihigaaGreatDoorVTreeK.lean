import Derived.Test.YtkaoeoeloihigaaGreatDoorVTreeJ
namespace Go.Proofs.YtkaoeoeloihigaaGreatDoor
open Go.RowKit

def Mill.Sl (P : Nat → Prop) (w : World) (S : Value) (n : Nat) (cs : List Value) : Prop :=
  ∃ a c, S = .slice a n c ∧ ∀ (j : Nat) u, cs[j]? = some u → ∃ g, a = some ⟨g, 0, none⟩ ∧ P g ∧ w.cell? ⟨g, j, none⟩ = some u
structure Mill.FnR where
  name : ByteArray
  result : Int
  sa : Option Addr
  sn : Nat
  sc : Nat
  ba : Option Addr
  bn : Nat
  bc : Nat
def Mill.FnR.sp (f : Mill.FnR) : Value := .slice f.sa f.sn f.sc
def Mill.FnR.sb (f : Mill.FnR) : Value := .slice f.ba f.bn f.bc
def Mill.Form (k : Int) (x : Value) : Prop := (k = 21 → ∃ a n c, x = .agg #[.slice a n c]) ∧ (k = 7 → ∃ nm a n c, x = .agg #[.string nm, .slice a n c]) ∧ (k = 22 → ∃ nm t, x = .agg #[.string nm, .int .i64 t]) ∧ (k = 23 → ∃ nm r a n c a' n' c', x = .agg #[.string nm, .int .i64 r, .slice a n c, .slice a' n' c'])
def Mill.Kinded (us : List Value) (ks : List Int) : Prop := us.length = ks.length ∧ ∀ i (h : i < ks.length), 1 ≤ ks[i] ∧ ks[i] ≤ 24 ∧ ∃ x, us[i]? = some (.iface (Mill.ty ks[i]) x) ∧ Mill.Form ks[i] x
theorem Mill.Sl.alloc {P : Nat → Prop} {w : World} {S : Value} {n : Nat} {cs : List Value} (h : Mill.Sl P w S n cs) (hP : ∀ g, P g → g < w.heap.size) (o : Obj) : Mill.Sl P (w.alloc o) S n cs := by
  obtain ⟨a, c, rfl, hc⟩ := h
  refine ⟨a, c, rfl, fun j u hj => ?_⟩
  obtain ⟨g, ha, hg, hcell⟩ := hc j u hj
  exact ⟨g, ha, hg, by rw [World.cell?_alloc_past _ _ _ (hP g hg)]; exact hcell⟩
theorem Mill.Sl.below {P Q : Nat → Prop} {w w' : World} {S : Value} {n : Nat} {cs : List Value} (h : Mill.Sl P w S n cs) (hQ : ∀ g, P g → Q g) (hc : ∀ g, P g → w'.heap[g]? = w.heap[g]?) : Mill.Sl Q w' S n cs := by
  obtain ⟨a, c, rfl, hcl⟩ := h
  refine ⟨a, c, rfl, fun j u hj => ?_⟩
  obtain ⟨g, ha, hg, hcell⟩ := hcl j u hj
  exact ⟨g, ha, hQ g hg, by rw [World.cell?_of_block (w := w) (hc g hg)]; exact hcell⟩

theorem isValue_is (k : Int) (h1 : 1 ≤ k) (h2 : k ≤ 24) (x : Value) (b : Bool) (hb : Hid (Mill.isE k = b)) (w : World) :
    Calls Tryz.prog 67 #[.iface (Mill.ty k) x] w fun e w' => e = .returned (.bool b) ∧ w = w' := by
  rw [← hb.out]; exact isValue_ty k h1 h2 x w

set_option maxRecDepth 100000 in
set_option maxHeartbeats 1000000 in
theorem allValue_any (P : Nat → Prop) (us : List Value) (ks : List Int) (S : Value) (n : Nat) (HN : Hid (ks.length = n)) (w : World) (hS : Mill.Sl P w S n us) (hk : Mill.Kinded us ks) (hl : n ≤ 1000000) :
    Calls Tryz.prog 51 #[S, .func (.func 67) #[] #[]] w fun e w' => e = .returned (.bool (ks.all Mill.isE)) ∧ w = w' := by
  obtain ⟨a, c, rfl, hc⟩ := hS
  obtain ⟨_, hk2⟩ := hk
  go_enter Tryz.func51, Tryz.ntmps51
  go_wp2
  go_loop [9] (fun t => ∃ i : Nat, i ≤ n ∧ t = .int .i64 (i : Int) ∧ (ks.drop i).all Mill.isE = ks.all Mill.isE) (fun t => n - (intOf t).toNat)
  case atStart => exact ⟨0, by omega, rfl, rfl⟩
  case round =>
    obtain ⟨i, hi, rfl, hf⟩ := hrel
    by_cases hlt : i < n
    · have hil : i < ks.length := by rw [HN.out]; exact hlt
      obtain ⟨k1, k2, x, hx, _⟩ := hk2 i hil
      obtain ⟨g, rfl, _, hcell⟩ := hc i _ hx
      rw [List.drop_eq_getElem_cons hil, List.all_cons] at hf
      clear hc hk2
      generalize ks[i] = k at *
      obtain ⟨b, HB⟩ : ∃ b, Hid (Mill.isE k = b) := ⟨_, (rfl : Mill.isE k = _)⟩
      rw [HB.out] at hf
      cases b with
      | true =>
        have HF : Hid ((ks.drop (i + 1)).all Mill.isE = ks.all Mill.isE) := by rw [Hid]; simpa using hf
        clear hf
        go_wp2_with (go_at_call 67; refine (isValue_is k k1 k2 x true HB _).mono ?_; rintro e w' ⟨rfl, rfl⟩)
        go_round
        case rel => exact ⟨i + 1, by omega, by go_num, HF.out⟩
        case measure => simp [intOf]; omega
      | false =>
        have HF : Hid (ks.all Mill.isE = false) := by rw [Hid, ← hf]; rfl
        clear hf
        go_wp2_with (go_at_call 67; refine (isValue_is k k1 k2 x false HB _).mono ?_; rintro e w' ⟨rfl, rfl⟩)
        go_ret
        exact ⟨Mill.ret_bool HF.out.symm, rfl⟩
    · have HF : Hid (ks.all Mill.isE = true) := by
        rw [List.drop_of_length_le (by rw [HN.out]; omega)] at hf; rw [Hid, ← hf]; rfl
      clear hf hc hk2
      go_wp2
      go_ret
      exact ⟨Mill.ret_bool HF.out.symm, rfl⟩
theorem allValue_is (b : Bool) (P : Nat → Prop) (us : List Value) (ks : List Int) (hb : Hid (ks.all Mill.isE = b)) (S : Value) (n : Nat) (HN : Hid (ks.length = n)) (w : World) (hS : Mill.Sl P w S n us) (hk : Mill.Kinded us ks) (hl : n ≤ 1000000) :
    Calls Tryz.prog 51 #[S, .func (.func 67) #[] #[]] w fun e w' => e = .returned (.bool b) ∧ w = w' := by
  rw [← hb.out]; exact allValue_any P us ks S n HN w hS hk hl

theorem isStatement_is (k : Int) (h1 : 1 ≤ k) (h2 : k ≤ 24) (x : Value) (b : Bool) (hb : Hid (Mill.isS k = b)) (w : World) :
    Calls Tryz.prog 52 #[.iface (Mill.ty k) x] w fun e w' => e = .returned (.bool b) ∧ w = w' := by
  rw [← hb.out]; exact isStatement_ty k h1 h2 x w

set_option maxRecDepth 100000 in
set_option maxHeartbeats 1000000 in
theorem allStatement_any (P : Nat → Prop) (us : List Value) (ks : List Int) (S : Value) (n : Nat) (HN : Hid (ks.length = n)) (w : World) (hS : Mill.Sl P w S n us) (hk : Mill.Kinded us ks) (hl : n ≤ 1000000) :
    Calls Tryz.prog 51 #[S, .func (.func 52) #[] #[]] w fun e w' => e = .returned (.bool (ks.all Mill.isS)) ∧ w = w' := by
  obtain ⟨a, c, rfl, hc⟩ := hS
  obtain ⟨_, hk2⟩ := hk
  go_enter Tryz.func51, Tryz.ntmps51
  go_wp2
  go_loop [9] (fun t => ∃ i : Nat, i ≤ n ∧ t = .int .i64 (i : Int) ∧ (ks.drop i).all Mill.isS = ks.all Mill.isS) (fun t => n - (intOf t).toNat)
  case atStart => exact ⟨0, by omega, rfl, rfl⟩
  case round =>
    obtain ⟨i, hi, rfl, hf⟩ := hrel
    by_cases hlt : i < n
    · have hil : i < ks.length := by rw [HN.out]; exact hlt
      obtain ⟨k1, k2, x, hx, _⟩ := hk2 i hil
      obtain ⟨g, rfl, _, hcell⟩ := hc i _ hx
      rw [List.drop_eq_getElem_cons hil, List.all_cons] at hf
      clear hc hk2
      generalize ks[i] = k at *
      obtain ⟨b, HB⟩ : ∃ b, Hid (Mill.isS k = b) := ⟨_, (rfl : Mill.isS k = _)⟩
      rw [HB.out] at hf
      cases b with
      | true =>
        have HF : Hid ((ks.drop (i + 1)).all Mill.isS = ks.all Mill.isS) := by rw [Hid]; simpa using hf
        clear hf
        go_wp2_with (go_at_call 52; refine (isStatement_is k k1 k2 x true HB _).mono ?_; rintro e w' ⟨rfl, rfl⟩)
        go_round
        case rel => exact ⟨i + 1, by omega, by go_num, HF.out⟩
        case measure => simp [intOf]; omega
      | false =>
        have HF : Hid (ks.all Mill.isS = false) := by rw [Hid, ← hf]; rfl
        clear hf
        go_wp2_with (go_at_call 52; refine (isStatement_is k k1 k2 x false HB _).mono ?_; rintro e w' ⟨rfl, rfl⟩)
        go_ret
        exact ⟨Mill.ret_bool HF.out.symm, rfl⟩
    · have HF : Hid (ks.all Mill.isS = true) := by
        rw [List.drop_of_length_le (by rw [HN.out]; omega)] at hf; rw [Hid, ← hf]; rfl
      clear hf hc hk2
      go_wp2
      go_ret
      exact ⟨Mill.ret_bool HF.out.symm, rfl⟩
theorem allStatement_is (b : Bool) (P : Nat → Prop) (us : List Value) (ks : List Int) (hb : Hid (ks.all Mill.isS = b)) (S : Value) (n : Nat) (HN : Hid (ks.length = n)) (w : World) (hS : Mill.Sl P w S n us) (hk : Mill.Kinded us ks) (hl : n ≤ 1000000) :
    Calls Tryz.prog 51 #[S, .func (.func 52) #[] #[]] w fun e w' => e = .returned (.bool b) ∧ w = w' := by
  rw [← hb.out]; exact allStatement_any P us ks S n HN w hS hk hl

def Mill.prV (p : ByteArray × Int) : Value := .iface 85 (.agg #[.string p.1, .int .i64 p.2])
def Mill.fnV (f : Mill.FnR) : Value := .iface 60 (.agg #[.string f.name, .int .i64 f.result, f.sp, f.sb])
def Mill.blV (S : Value) : Value := .iface 58 (.agg #[S])
def Mill.Inner (P : Nat → Prop) (w : World) (d : Mill.Nd) (us : List Value) (x : Value) : Prop :=
  if d.kind = 1 then us = [] ∧ x = .agg #[.int .i64 d.type, .int .i64 d.n]
  else if d.kind = 2 then us = [] ∧ x = .agg #[.string d.text]
  else if d.kind = 3 then us = [] ∧ x = .agg #[.bool (d.n == 1)]
  else if d.kind = 4 then us = [] ∧ x = .agg #[.string d.text]
  else if d.kind = 5 then ∃ u, us = [u] ∧ x = .agg #[.int .i64 d.op, u]
  else if d.kind = 6 then ∃ u v, us = [u, v] ∧ x = .agg #[.int .i64 d.op, u, v]
  else if d.kind = 7 then ∃ S, Mill.Sl P w S us.length us ∧ x = .agg #[.string d.text, S]
  else if d.kind = 8 then ∃ S, Mill.Sl P w S us.length us ∧ x = .agg #[.int .i64 d.op, S]
  else if d.kind = 9 then ∃ u, us = [u] ∧ x = .agg #[.int .i64 d.type, u]
  else if d.kind = 10 ∨ d.kind = 11 then ∃ u, us = [u] ∧ x = .agg #[.string d.text, u]
  else if d.kind = 12 then (∃ u S, us = [u, Mill.blV S] ∧ x = .agg #[u, S, .nilIface]) ∨ (∃ u S t y, us = [u, Mill.blV S, .iface t y] ∧ x = .agg #[u, S, .iface t y])
  else if d.kind = 13 then ∃ u S, us = [u, Mill.blV S] ∧ x = .agg #[u, S]
  else if d.kind = 14 ∨ d.kind = 15 then us = [] ∧ x = .agg #[]
  else if d.kind = 16 then (us = [] ∧ x = .agg #[.nilIface]) ∨ (∃ t y, us = [.iface t y] ∧ x = .agg #[.iface t y])
  else if d.kind = 17 ∨ d.kind = 19 then ∃ u, us = [u] ∧ x = .agg #[u]
  else if d.kind = 18 then ∃ u v, us = [u, v] ∧ x = .agg #[u, v]
  else if d.kind = 20 then ∃ nm S, us = [.iface 134 (.agg #[.string nm, S])] ∧ x = .agg #[.string nm, S]
  else if d.kind = 21 then ∃ S, Mill.Sl P w S us.length us ∧ x = .agg #[S]
  else if d.kind = 22 then us = [] ∧ x = .agg #[.string d.text, .int .i64 d.type]
  else if d.kind = 23 then ∃ (ps : List (ByteArray × Int)) (SP SB : Value), us = ps.map Mill.prV ++ [Mill.blV SB] ∧ Mill.Sl P w SP ps.length (ps.flatMap (fun p => [.string p.1, .int .i64 p.2])) ∧ x = .agg #[.string d.text, .int .i64 d.type, SP, SB]
  else ∃ (fs : List Mill.FnR) (SF : Value), us = fs.map Mill.fnV ∧ Mill.Sl P w SF fs.length (fs.flatMap (fun f => [.string f.name, .int .i64 f.result, f.sp, f.sb])) ∧ x = .agg #[SF]
def Mill.Shape (P : Nat → Prop) (w : World) (d : Mill.Nd) (us : List Value) (v : Value) : Prop := 1 ≤ d.kind ∧ d.kind ≤ 24 ∧ ∃ x, v = .iface (Mill.ty d.kind) x ∧ Mill.Inner P w d us x
def Mill.Grown (P : Nat → Prop) (w : World) (d : Mill.Nd) (us : List Value) (ks : List Int) (e : Ending) (w' : World) : Prop :=
  Below w.heap.size w w' ∧ ((Mill.fits d.kind d.op ks = true ∧ ∃ v, e = .returned v ∧ Mill.Shape (fun g => P g ∨ (w.heap.size ≤ g ∧ g < w'.heap.size)) w' d us v) ∨ (Mill.fits d.kind d.op ks = false ∧ e = .returned .nilIface))

end Go.Proofs.YtkaoeoeloihigaaGreatDoor
