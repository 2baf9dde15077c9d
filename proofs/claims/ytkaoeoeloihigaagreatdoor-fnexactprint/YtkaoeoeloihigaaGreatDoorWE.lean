import Derived.Test.YtkaoeoeloihigaaGreatDoorWD
import Derived.Deep.QuietTactic
namespace Go.Proofs.YtkaoeoeloihigaaGreatDoor
open Go.RowKit

set_option maxRecDepth 100000 in
set_option maxHeartbeats 2000000 in
theorem Pr.st_while (g : Nat) (ns : List Mill.Nd) (K : List (List Nat)) (k : Nat) (hlt : k < ns.length) (_hlen : ns.length ≤ 12001) (hrows : K.length = ns.length) (d : Mill.Nd) (hnd : ns[k] = d) (hd : d.kind = 13) (_htext : d.text.size ≤ 1048576) (gap : ByteArray) (hgap : gap.size ≤ 400) (c : Nat) (x : ByteArray) (hxs : x.size ≤ 100000000) (Hx : Hid (Pr.ExprIs g ns K c x)) (b : Nat) (y : ByteArray) (hys : y.size ≤ 100000000) (Hy : Hid (∀ w1 : World, Pr.PenAt w1 g ns K → Calls Tryz.prog 23 #[.pointer (some ⟨g, 0, none⟩), .int .i64 (b : Int), .string (gap ++ ⟨#[32, 32]⟩)] w1 fun e w' => e = .returned (.string y) ∧ Below w1.heap.size w1 w')) (hrow : K.getD k [] = [c, b]) (w : World) (HP : Hid (Pr.PenAt w g ns K)) :
    Calls Tryz.prog 44 #[.pointer (some ⟨g, 0, none⟩), .int .i64 (k : Int), .string gap] w fun e w' => e = .returned (.string (⟨#[119, 104, 105, 108, 101, 32]⟩ ++ x ++ ⟨#[32, 123, 10]⟩ ++ y ++ gap ++ ⟨#[125, 10]⟩)) ∧ Below w.heap.size w w' := by
  obtain ⟨gn, cn, gk, ck, v, ⟨hg, hgn, hgk⟩, p0, p1, ⟨n0, n1, n2, n3, n4, n5⟩, hv, hrow0⟩ := Pr.pen_node HP.out k hlt hrows
  have p1a : ∀ ob : Obj, (w.alloc ob).cell? ⟨g, 1, none⟩ = _ := fun ob => (((Below.refl _ w).alloc (Nat.le_refl _) ob).cell (p := ⟨g, 1, none⟩) hg).trans p1
  have hva : ∀ ob : Obj, (w.alloc ob).cell? ⟨gk, k, none⟩ = _ := fun ob => (((Below.refl _ w).alloc (Nat.le_refl _) ob).cell (p := ⟨gk, k, none⟩) hgk).trans hv
  rw [hnd] at n0 n1 n2 n3 n4 n5
  clear hnd
  rw [hd] at n0
  have HR : Hid (Pr.RowAt w v (K.getD k [])) := hrow0
  clear hrow0
  have hR := HR.out
  rw [hrow] at hR
  obtain ⟨ua, uc, rfl, hj⟩ := hR
  obtain ⟨gu, rfl, hgu, r00⟩ := hj 0 (by simp)
  obtain ⟨gu1, hgu1, _, r11⟩ := hj 1 (by simp)
  cases hgu1
  simp only [List.getElem_cons_zero, List.getElem_cons_succ] at r00 r11
  simp only [List.length_cons, List.length_nil] at hv hva
  clear hj
  have v0 : ¬ (9223372036854775805 < gap.size) := by omega
  have v1 : ¬ (9223372036854775807 < gap.size + 2) := by omega
  have s0 : ¬ (9223372036854775807 < 6 + x.size) := by omega
  have u1 : ¬ (9223372036854775804 < 6 + x.size) := by omega
  have s1 : ¬ (9223372036854775807 < 6 + x.size + 3) := by omega
  have s2 : ¬ (9223372036854775807 < 6 + x.size + 3 + y.size) := by omega
  have s3 : ¬ (9223372036854775807 < 6 + x.size + 3 + y.size + gap.size) := by omega
  have u4 : ¬ (9223372036854775805 < 6 + x.size + 3 + y.size + gap.size) := by omega
  have s4 : ¬ (9223372036854775807 < 6 + x.size + 3 + y.size + gap.size + 2) := by omega
  have hbc := (Below.refl (w.heap.size + 1) (w.alloc (.cells #[.int .i64 13, .int .i64 d.op, .int .i64 d.type, .int .i64 d.n, .string d.text, .int .i64 d.kids] 68))).drew
  obtain ⟨c0, c1, c2, c3, c4, c5⟩ := Pr.six hbc
  have r0 := ((Pr.on1 hbc).cell (p := ⟨gu, 0, none⟩) hgu).trans r00
  have r1 := ((Pr.on1 hbc).cell (p := ⟨gu, 1, none⟩) hgu).trans r11
  go_enter Tryz.func44, Tryz.ntmps44
  go_wp2_with fail
  go_region_held3 (fun w' => w'.cell? ⟨gu, 0, none⟩ = some (.int .i64 (c : Int)) ∧ w'.cell? ⟨gu, 1, none⟩ = some (.int .i64 (b : Int))) (with_reducible exact ⟨r0, r1⟩) (first
    | (go_at_call 63; refine (Hx.out _ (HP.out.below (Pr.on1 hbc))).mono ?_; rintro e w1 ⟨rfl, hb1⟩; have hbc := Pr.next1 hbc hb1; obtain ⟨c0, c1, c2, c3, c4, c5⟩ := Pr.six hbc; have r0 := ((Pr.on1 hbc).cell (p := ⟨gu, 0, none⟩) hgu).trans r00; have r1 := ((Pr.on1 hbc).cell (p := ⟨gu, 1, none⟩) hgu).trans r11)
    | (go_at_call 23; refine (Hy.out _ (HP.out.below (Pr.on1 hbc))).mono ?_; rintro e w1 ⟨rfl, hb1⟩; have hbc := Pr.next1 hbc hb1; obtain ⟨c0, c1, c2, c3, c4, c5⟩ := Pr.six hbc; have r0 := ((Pr.on1 hbc).cell (p := ⟨gu, 0, none⟩) hgu).trans r00; have r1 := ((Pr.on1 hbc).cell (p := ⟨gu, 1, none⟩) hgu).trans r11))
  go_wp2
  go_ret
  exact ⟨rfl, Pr.on1 hbc⟩
set_option maxRecDepth 100000 in
set_option maxHeartbeats 2000000 in
theorem Pr.st_if2 (g : Nat) (ns : List Mill.Nd) (K : List (List Nat)) (k : Nat) (hlt : k < ns.length) (_hlen : ns.length ≤ 12001) (hrows : K.length = ns.length) (d : Mill.Nd) (hnd : ns[k] = d) (hd : d.kind = 12) (_htext : d.text.size ≤ 1048576) (gap : ByteArray) (hgap : gap.size ≤ 400) (c : Nat) (x : ByteArray) (hxs : x.size ≤ 100000000) (Hx : Hid (Pr.ExprIs g ns K c x)) (b : Nat) (y : ByteArray) (hys : y.size ≤ 100000000) (Hy : Hid (∀ w1 : World, Pr.PenAt w1 g ns K → Calls Tryz.prog 23 #[.pointer (some ⟨g, 0, none⟩), .int .i64 (b : Int), .string (gap ++ ⟨#[32, 32]⟩)] w1 fun e w' => e = .returned (.string y) ∧ Below w1.heap.size w1 w')) (hrow : K.getD k [] = [c, b]) (w : World) (HP : Hid (Pr.PenAt w g ns K)) :
    Calls Tryz.prog 44 #[.pointer (some ⟨g, 0, none⟩), .int .i64 (k : Int), .string gap] w fun e w' => e = .returned (.string (⟨#[105, 102, 32]⟩ ++ x ++ ⟨#[32, 123, 10]⟩ ++ y ++ gap ++ ⟨#[125]⟩ ++ ⟨#[10]⟩)) ∧ Below w.heap.size w w' := by
  obtain ⟨gn, cn, gk, ck, v, ⟨hg, hgn, hgk⟩, p0, p1, ⟨n0, n1, n2, n3, n4, n5⟩, hv, hrow0⟩ := Pr.pen_node HP.out k hlt hrows
  have p1a : ∀ ob : Obj, (w.alloc ob).cell? ⟨g, 1, none⟩ = _ := fun ob => (((Below.refl _ w).alloc (Nat.le_refl _) ob).cell (p := ⟨g, 1, none⟩) hg).trans p1
  have hva : ∀ ob : Obj, (w.alloc ob).cell? ⟨gk, k, none⟩ = _ := fun ob => (((Below.refl _ w).alloc (Nat.le_refl _) ob).cell (p := ⟨gk, k, none⟩) hgk).trans hv
  rw [hnd] at n0 n1 n2 n3 n4 n5
  clear hnd
  rw [hd] at n0
  have HR : Hid (Pr.RowAt w v (K.getD k [])) := hrow0
  clear hrow0
  have hR := HR.out
  rw [hrow] at hR
  obtain ⟨ua, uc, rfl, hj⟩ := hR
  obtain ⟨gu, rfl, hgu, r00⟩ := hj 0 (by simp)
  obtain ⟨gu1, hgu1, _, r11⟩ := hj 1 (by simp)
  cases hgu1
  simp only [List.getElem_cons_zero, List.getElem_cons_succ] at r00 r11
  simp only [List.length_cons, List.length_nil] at hv hva
  clear hj
  have v0 : ¬ (9223372036854775805 < gap.size) := by omega
  have v1 : ¬ (9223372036854775807 < gap.size + 2) := by omega
  have s0 : ¬ (9223372036854775807 < 3 + x.size) := by omega
  have u1 : ¬ (9223372036854775804 < 3 + x.size) := by omega
  have s1 : ¬ (9223372036854775807 < 3 + x.size + 3) := by omega
  have s2 : ¬ (9223372036854775807 < 3 + x.size + 3 + y.size) := by omega
  have s3 : ¬ (9223372036854775807 < 3 + x.size + 3 + y.size + gap.size) := by omega
  have u4 : ¬ (9223372036854775806 < 3 + x.size + 3 + y.size + gap.size) := by omega
  have s4 : ¬ (9223372036854775807 < 3 + x.size + 3 + y.size + gap.size + 1) := by omega
  have u5 : ¬ (9223372036854775806 < 3 + x.size + 3 + y.size + gap.size + 1) := by omega
  have s5 : ¬ (9223372036854775807 < 3 + x.size + 3 + y.size + gap.size + 1 + 1) := by omega
  have hbc := (Below.refl (w.heap.size + 1) (w.alloc (.cells #[.int .i64 12, .int .i64 d.op, .int .i64 d.type, .int .i64 d.n, .string d.text, .int .i64 d.kids] 68))).drew
  obtain ⟨c0, c1, c2, c3, c4, c5⟩ := Pr.six hbc
  have r0 := ((Pr.on1 hbc).cell (p := ⟨gu, 0, none⟩) hgu).trans r00
  have r1 := ((Pr.on1 hbc).cell (p := ⟨gu, 1, none⟩) hgu).trans r11
  go_enter Tryz.func44, Tryz.ntmps44
  go_wp2_with fail
  go_region_held3 (fun w' => w'.cell? ⟨gu, 0, none⟩ = some (.int .i64 (c : Int)) ∧ w'.cell? ⟨gu, 1, none⟩ = some (.int .i64 (b : Int))) (with_reducible exact ⟨r0, r1⟩) (first
    | (go_at_call 63; refine (Hx.out _ (HP.out.below (Pr.on1 hbc))).mono ?_; rintro e w1 ⟨rfl, hb1⟩; have hbc := Pr.next1 hbc hb1; obtain ⟨c0, c1, c2, c3, c4, c5⟩ := Pr.six hbc; have r0 := ((Pr.on1 hbc).cell (p := ⟨gu, 0, none⟩) hgu).trans r00; have r1 := ((Pr.on1 hbc).cell (p := ⟨gu, 1, none⟩) hgu).trans r11)
    | (go_at_call 23; refine (Hy.out _ (HP.out.below (Pr.on1 hbc))).mono ?_; rintro e w1 ⟨rfl, hb1⟩; have hbc := Pr.next1 hbc hb1; obtain ⟨c0, c1, c2, c3, c4, c5⟩ := Pr.six hbc; have r0 := ((Pr.on1 hbc).cell (p := ⟨gu, 0, none⟩) hgu).trans r00; have r1 := ((Pr.on1 hbc).cell (p := ⟨gu, 1, none⟩) hgu).trans r11))
  go_wp2
  go_ret
  exact ⟨rfl, Pr.on1 hbc⟩
set_option maxRecDepth 100000 in
set_option maxHeartbeats 2000000 in
theorem Pr.st_ifif (g : Nat) (ns : List Mill.Nd) (K : List (List Nat)) (k : Nat) (hlt : k < ns.length) (_hlen : ns.length ≤ 12001) (hrows : K.length = ns.length) (d : Mill.Nd) (hnd : ns[k] = d) (hd : d.kind = 12) (_htext : d.text.size ≤ 1048576) (gap : ByteArray) (hgap : gap.size ≤ 400) (c : Nat) (x : ByteArray) (hxs : x.size ≤ 100000000) (Hx : Hid (Pr.ExprIs g ns K c x)) (b : Nat) (y : ByteArray) (hys : y.size ≤ 100000000) (Hy : Hid (∀ w1 : World, Pr.PenAt w1 g ns K → Calls Tryz.prog 23 #[.pointer (some ⟨g, 0, none⟩), .int .i64 (b : Int), .string (gap ++ ⟨#[32, 32]⟩)] w1 fun e w' => e = .returned (.string y) ∧ Below w1.heap.size w1 w')) (f : Nat) (z : ByteArray) (hfl : f < ns.length) (hzs : z.size ≤ 100000000) (Hz : Hid (∀ w1 : World, Pr.PenAt w1 g ns K → Calls Tryz.prog 44 #[.pointer (some ⟨g, 0, none⟩), .int .i64 (f : Int), .string gap] w1 fun e w' => e = .returned (.string z) ∧ Below w1.heap.size w1 w')) (hrow : K.getD k [] = [c, b, f]) (hk12 : ns[f].kind = 12) (w : World) (HP : Hid (Pr.PenAt w g ns K)) :
    Calls Tryz.prog 44 #[.pointer (some ⟨g, 0, none⟩), .int .i64 (k : Int), .string gap] w fun e w' => e = .returned (.string (⟨#[105, 102, 32]⟩ ++ x ++ ⟨#[32, 123, 10]⟩ ++ y ++ gap ++ ⟨#[125]⟩ ++ ⟨#[32, 101, 108, 115, 101, 32]⟩ ++ z)) ∧ Below w.heap.size w w' := by
  obtain ⟨gn, cn, gk, ck, v, ⟨hg, hgn, hgk⟩, p0, p1, ⟨n0, n1, n2, n3, n4, n5⟩, hv, hrow0⟩ := Pr.pen_node HP.out k hlt hrows
  have p1a : ∀ ob : Obj, (w.alloc ob).cell? ⟨g, 1, none⟩ = _ := fun ob => (((Below.refl _ w).alloc (Nat.le_refl _) ob).cell (p := ⟨g, 1, none⟩) hg).trans p1
  have hva : ∀ ob : Obj, (w.alloc ob).cell? ⟨gk, k, none⟩ = _ := fun ob => (((Below.refl _ w).alloc (Nat.le_refl _) ob).cell (p := ⟨gk, k, none⟩) hgk).trans hv
  rw [hnd] at n0 n1 n2 n3 n4 n5
  clear hnd
  rw [hd] at n0
  have HR : Hid (Pr.RowAt w v (K.getD k [])) := hrow0
  clear hrow0
  have hR := HR.out
  rw [hrow] at hR
  obtain ⟨ua, uc, rfl, hj⟩ := hR
  obtain ⟨gu, rfl, hgu, r00⟩ := hj 0 (by simp)
  obtain ⟨gu1, hgu1, _, r11⟩ := hj 1 (by simp)
  cases hgu1
  obtain ⟨gu2, hgu2, _, r22⟩ := hj 2 (by simp)
  cases hgu2
  simp only [List.getElem_cons_zero, List.getElem_cons_succ] at r00 r11 r22
  simp only [List.length_cons, List.length_nil] at hv hva
  clear hj
  have nk0 := Pr.pen_node HP.out f hfl hrows
  obtain ⟨gn', cn', _, _, _, _, q0, _, ⟨m0, _⟩, _⟩ := nk0
  rw [p0] at q0
  cases q0
  rw [hk12] at m0
  have v0 : ¬ (9223372036854775805 < gap.size) := by omega
  have v1 : ¬ (9223372036854775807 < gap.size + 2) := by omega
  have s0 : ¬ (9223372036854775807 < 3 + x.size) := by omega
  have u1 : ¬ (9223372036854775804 < 3 + x.size) := by omega
  have s1 : ¬ (9223372036854775807 < 3 + x.size + 3) := by omega
  have s2 : ¬ (9223372036854775807 < 3 + x.size + 3 + y.size) := by omega
  have s3 : ¬ (9223372036854775807 < 3 + x.size + 3 + y.size + gap.size) := by omega
  have u4 : ¬ (9223372036854775806 < 3 + x.size + 3 + y.size + gap.size) := by omega
  have s4 : ¬ (9223372036854775807 < 3 + x.size + 3 + y.size + gap.size + 1) := by omega
  have u5 : ¬ (9223372036854775801 < 3 + x.size + 3 + y.size + gap.size + 1) := by omega
  have s5 : ¬ (9223372036854775807 < 3 + x.size + 3 + y.size + gap.size + 1 + 6) := by omega
  have s6 : ¬ (9223372036854775807 < 3 + x.size + 3 + y.size + gap.size + 1 + 6 + z.size) := by omega
  have hbc := (Below.refl (w.heap.size + 1) (w.alloc (.cells #[.int .i64 12, .int .i64 d.op, .int .i64 d.type, .int .i64 d.n, .string d.text, .int .i64 d.kids] 68))).drew
  obtain ⟨c0, c1, c2, c3, c4, c5⟩ := Pr.six hbc
  have r0 := ((Pr.on1 hbc).cell (p := ⟨gu, 0, none⟩) hgu).trans r00
  have r1 := ((Pr.on1 hbc).cell (p := ⟨gu, 1, none⟩) hgu).trans r11
  have r2 := ((Pr.on1 hbc).cell (p := ⟨gu, 2, none⟩) hgu).trans r22
  go_enter Tryz.func44, Tryz.ntmps44
  go_wp2_with fail
  go_region_held3 (fun w' => w'.cell? ⟨gu, 0, none⟩ = some (.int .i64 (c : Int)) ∧ w'.cell? ⟨gu, 1, none⟩ = some (.int .i64 (b : Int))) (with_reducible exact ⟨r0, r1⟩) (first
    | (go_at_call 63; refine (Hx.out _ (HP.out.below (Pr.on1 hbc))).mono ?_; rintro e w1 ⟨rfl, hb1⟩; have hbc := Pr.next1 hbc hb1; obtain ⟨c0, c1, c2, c3, c4, c5⟩ := Pr.six hbc; have r0 := ((Pr.on1 hbc).cell (p := ⟨gu, 0, none⟩) hgu).trans r00; have r1 := ((Pr.on1 hbc).cell (p := ⟨gu, 1, none⟩) hgu).trans r11; have r2 := ((Pr.on1 hbc).cell (p := ⟨gu, 2, none⟩) hgu).trans r22)
    | (go_at_call 23; refine (Hy.out _ (HP.out.below (Pr.on1 hbc))).mono ?_; rintro e w1 ⟨rfl, hb1⟩; have hbc := Pr.next1 hbc hb1; obtain ⟨c0, c1, c2, c3, c4, c5⟩ := Pr.six hbc; have r0 := ((Pr.on1 hbc).cell (p := ⟨gu, 0, none⟩) hgu).trans r00; have r1 := ((Pr.on1 hbc).cell (p := ⟨gu, 1, none⟩) hgu).trans r11; have r2 := ((Pr.on1 hbc).cell (p := ⟨gu, 2, none⟩) hgu).trans r22))
  have pc := ((Pr.on1 hbc).cell (p := ⟨g, 0, none⟩) hg).trans p0
  have mc := ((Pr.on1 hbc).cell (p := ⟨gn, f * 6, none⟩) hgn).trans m0
  have hf1 : f < ns.length := hfl
  go_wp2_with fail
  go_quiet (fail)
  have hbc := Pr.below_drewN nq hbc
  obtain ⟨c0, c1, c2, c3, c4, c5⟩ := Pr.six hbc
  have r0 := ((Pr.on1 hbc).cell (p := ⟨gu, 0, none⟩) hgu).trans r00
  have r1 := ((Pr.on1 hbc).cell (p := ⟨gu, 1, none⟩) hgu).trans r11
  have r2 := ((Pr.on1 hbc).cell (p := ⟨gu, 2, none⟩) hgu).trans r22
  go_wp2_with (first
    | (go_at_call 44; refine (Hz.out _ (HP.out.below (Pr.on1 hbc))).mono ?_; rintro e w1 ⟨rfl, hb1⟩; have hbc := Pr.next1 hbc hb1; obtain ⟨c0, c1, c2, c3, c4, c5⟩ := Pr.six hbc; have r0 := ((Pr.on1 hbc).cell (p := ⟨gu, 0, none⟩) hgu).trans r00; have r1 := ((Pr.on1 hbc).cell (p := ⟨gu, 1, none⟩) hgu).trans r11; have r2 := ((Pr.on1 hbc).cell (p := ⟨gu, 2, none⟩) hgu).trans r22))
  go_ret
  exact ⟨rfl, Pr.on1 hbc⟩
set_option maxRecDepth 100000 in
set_option maxHeartbeats 2000000 in
theorem Pr.st_ifelse (g : Nat) (ns : List Mill.Nd) (K : List (List Nat)) (k : Nat) (hlt : k < ns.length) (_hlen : ns.length ≤ 12001) (hrows : K.length = ns.length) (d : Mill.Nd) (hnd : ns[k] = d) (hd : d.kind = 12) (_htext : d.text.size ≤ 1048576) (gap : ByteArray) (hgap : gap.size ≤ 400) (c : Nat) (x : ByteArray) (hxs : x.size ≤ 100000000) (Hx : Hid (Pr.ExprIs g ns K c x)) (b : Nat) (y : ByteArray) (hys : y.size ≤ 100000000) (Hy : Hid (∀ w1 : World, Pr.PenAt w1 g ns K → Calls Tryz.prog 23 #[.pointer (some ⟨g, 0, none⟩), .int .i64 (b : Int), .string (gap ++ ⟨#[32, 32]⟩)] w1 fun e w' => e = .returned (.string y) ∧ Below w1.heap.size w1 w')) (f : Nat) (hfl : f < ns.length) (z : ByteArray) (hzs : z.size ≤ 100000000) (Hz : Hid (∀ w1 : World, Pr.PenAt w1 g ns K → Calls Tryz.prog 23 #[.pointer (some ⟨g, 0, none⟩), .int .i64 (f : Int), .string (gap ++ ⟨#[32, 32]⟩)] w1 fun e w' => e = .returned (.string z) ∧ Below w1.heap.size w1 w')) (hrow : K.getD k [] = [c, b, f]) (hk12 : ¬ ns[f].kind = 12) (w : World) (HP : Hid (Pr.PenAt w g ns K)) :
    Calls Tryz.prog 44 #[.pointer (some ⟨g, 0, none⟩), .int .i64 (k : Int), .string gap] w fun e w' => e = .returned (.string (⟨#[105, 102, 32]⟩ ++ x ++ ⟨#[32, 123, 10]⟩ ++ y ++ gap ++ ⟨#[125]⟩ ++ ⟨#[32, 101, 108, 115, 101, 32, 123, 10]⟩ ++ z ++ gap ++ ⟨#[125, 10]⟩)) ∧ Below w.heap.size w w' := by
  obtain ⟨gn, cn, gk, ck, v, ⟨hg, hgn, hgk⟩, p0, p1, ⟨n0, n1, n2, n3, n4, n5⟩, hv, hrow0⟩ := Pr.pen_node HP.out k hlt hrows
  have p1a : ∀ ob : Obj, (w.alloc ob).cell? ⟨g, 1, none⟩ = _ := fun ob => (((Below.refl _ w).alloc (Nat.le_refl _) ob).cell (p := ⟨g, 1, none⟩) hg).trans p1
  have hva : ∀ ob : Obj, (w.alloc ob).cell? ⟨gk, k, none⟩ = _ := fun ob => (((Below.refl _ w).alloc (Nat.le_refl _) ob).cell (p := ⟨gk, k, none⟩) hgk).trans hv
  rw [hnd] at n0 n1 n2 n3 n4 n5
  clear hnd
  rw [hd] at n0
  have HR : Hid (Pr.RowAt w v (K.getD k [])) := hrow0
  clear hrow0
  have hR := HR.out
  rw [hrow] at hR
  obtain ⟨ua, uc, rfl, hj⟩ := hR
  obtain ⟨gu, rfl, hgu, r00⟩ := hj 0 (by simp)
  obtain ⟨gu1, hgu1, _, r11⟩ := hj 1 (by simp)
  cases hgu1
  obtain ⟨gu2, hgu2, _, r22⟩ := hj 2 (by simp)
  cases hgu2
  simp only [List.getElem_cons_zero, List.getElem_cons_succ] at r00 r11 r22
  simp only [List.length_cons, List.length_nil] at hv hva
  clear hj
  have nk0 := Pr.pen_node HP.out f hfl hrows
  obtain ⟨gn', cn', _, _, _, _, q0, _, ⟨m0, _⟩, _⟩ := nk0
  rw [p0] at q0
  cases q0
  have hk12' : (ns[f].kind == 12) = false := by simpa using hk12
  have v0 : ¬ (9223372036854775805 < gap.size) := by omega
  have v1 : ¬ (9223372036854775807 < gap.size + 2) := by omega
  have s0 : ¬ (9223372036854775807 < 3 + x.size) := by omega
  have u1 : ¬ (9223372036854775804 < 3 + x.size) := by omega
  have s1 : ¬ (9223372036854775807 < 3 + x.size + 3) := by omega
  have s2 : ¬ (9223372036854775807 < 3 + x.size + 3 + y.size) := by omega
  have s3 : ¬ (9223372036854775807 < 3 + x.size + 3 + y.size + gap.size) := by omega
  have u4 : ¬ (9223372036854775806 < 3 + x.size + 3 + y.size + gap.size) := by omega
  have s4 : ¬ (9223372036854775807 < 3 + x.size + 3 + y.size + gap.size + 1) := by omega
  have u5 : ¬ (9223372036854775799 < 3 + x.size + 3 + y.size + gap.size + 1) := by omega
  have s5 : ¬ (9223372036854775807 < 3 + x.size + 3 + y.size + gap.size + 1 + 8) := by omega
  have s6 : ¬ (9223372036854775807 < 3 + x.size + 3 + y.size + gap.size + 1 + 8 + z.size) := by omega
  have s7 : ¬ (9223372036854775807 < 3 + x.size + 3 + y.size + gap.size + 1 + 8 + z.size + gap.size) := by omega
  have u8 : ¬ (9223372036854775805 < 3 + x.size + 3 + y.size + gap.size + 1 + 8 + z.size + gap.size) := by omega
  have s8 : ¬ (9223372036854775807 < 3 + x.size + 3 + y.size + gap.size + 1 + 8 + z.size + gap.size + 2) := by omega
  have hbc := (Below.refl (w.heap.size + 1) (w.alloc (.cells #[.int .i64 12, .int .i64 d.op, .int .i64 d.type, .int .i64 d.n, .string d.text, .int .i64 d.kids] 68))).drew
  obtain ⟨c0, c1, c2, c3, c4, c5⟩ := Pr.six hbc
  have r0 := ((Pr.on1 hbc).cell (p := ⟨gu, 0, none⟩) hgu).trans r00
  have r1 := ((Pr.on1 hbc).cell (p := ⟨gu, 1, none⟩) hgu).trans r11
  have r2 := ((Pr.on1 hbc).cell (p := ⟨gu, 2, none⟩) hgu).trans r22
  go_enter Tryz.func44, Tryz.ntmps44
  go_wp2_with fail
  go_region_held3 (fun w' => w'.cell? ⟨gu, 0, none⟩ = some (.int .i64 (c : Int)) ∧ w'.cell? ⟨gu, 1, none⟩ = some (.int .i64 (b : Int))) (with_reducible exact ⟨r0, r1⟩) (first
    | (go_at_call 63; refine (Hx.out _ (HP.out.below (Pr.on1 hbc))).mono ?_; rintro e w1 ⟨rfl, hb1⟩; have hbc := Pr.next1 hbc hb1; obtain ⟨c0, c1, c2, c3, c4, c5⟩ := Pr.six hbc; have r0 := ((Pr.on1 hbc).cell (p := ⟨gu, 0, none⟩) hgu).trans r00; have r1 := ((Pr.on1 hbc).cell (p := ⟨gu, 1, none⟩) hgu).trans r11; have r2 := ((Pr.on1 hbc).cell (p := ⟨gu, 2, none⟩) hgu).trans r22)
    | (go_at_call 23; refine (Hy.out _ (HP.out.below (Pr.on1 hbc))).mono ?_; rintro e w1 ⟨rfl, hb1⟩; have hbc := Pr.next1 hbc hb1; obtain ⟨c0, c1, c2, c3, c4, c5⟩ := Pr.six hbc; have r0 := ((Pr.on1 hbc).cell (p := ⟨gu, 0, none⟩) hgu).trans r00; have r1 := ((Pr.on1 hbc).cell (p := ⟨gu, 1, none⟩) hgu).trans r11; have r2 := ((Pr.on1 hbc).cell (p := ⟨gu, 2, none⟩) hgu).trans r22))
  have pc := ((Pr.on1 hbc).cell (p := ⟨g, 0, none⟩) hg).trans p0
  have mc := ((Pr.on1 hbc).cell (p := ⟨gn, f * 6, none⟩) hgn).trans m0
  have hf1 : f < ns.length := hfl
  go_wp2_with fail
  go_quiet (fail)
  have hbc := Pr.below_drewN nq hbc
  obtain ⟨c0, c1, c2, c3, c4, c5⟩ := Pr.six hbc
  have r0 := ((Pr.on1 hbc).cell (p := ⟨gu, 0, none⟩) hgu).trans r00
  have r1 := ((Pr.on1 hbc).cell (p := ⟨gu, 1, none⟩) hgu).trans r11
  have r2 := ((Pr.on1 hbc).cell (p := ⟨gu, 2, none⟩) hgu).trans r22
  go_wp2_with (first
    | (go_at_call 23; refine (Hz.out _ (HP.out.below (Pr.on1 hbc))).mono ?_; rintro e w1 ⟨rfl, hb1⟩; have hbc := Pr.next1 hbc hb1; obtain ⟨c0, c1, c2, c3, c4, c5⟩ := Pr.six hbc; have r0 := ((Pr.on1 hbc).cell (p := ⟨gu, 0, none⟩) hgu).trans r00; have r1 := ((Pr.on1 hbc).cell (p := ⟨gu, 1, none⟩) hgu).trans r11; have r2 := ((Pr.on1 hbc).cell (p := ⟨gu, 2, none⟩) hgu).trans r22))
  go_ret
  exact ⟨rfl, Pr.on1 hbc⟩
end Go.Proofs.YtkaoeoeloihigaaGreatDoor
