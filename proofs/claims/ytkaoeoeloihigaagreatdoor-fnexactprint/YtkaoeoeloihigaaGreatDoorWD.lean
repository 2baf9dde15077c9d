import Derived.Test.YtkaoeoeloihigaaGreatDoorWC
namespace Go.Proofs.YtkaoeoeloihigaaGreatDoor
open Go.RowKit

theorem Pr.below_drewN {B : Nat} {a w : World} (n : Nat) (h : Below B a w) : Below B a (w.drewN n) := ⟨h.os, h.tape, h.output, h.size, h.block⟩
def Pr.mkS (d : Mill.Nd) (gap : ByteArray) (kd : List Int) (es ss bs : List ByteArray) : ByteArray :=
  if d.kind = 10 then ⟨#[108, 101, 116, 32]⟩ ++ d.text ++ ⟨#[32, 61, 32]⟩ ++ es.getD 0 ⟨#[]⟩ ++ ⟨#[59, 10]⟩
  else if d.kind = 11 then d.text ++ ⟨#[32, 61, 32]⟩ ++ es.getD 0 ⟨#[]⟩ ++ ⟨#[59, 10]⟩
  else if d.kind = 12 then
    (if kd.length < 3 then ⟨#[105, 102, 32]⟩ ++ es.getD 0 ⟨#[]⟩ ++ ⟨#[32, 123, 10]⟩ ++ bs.getD 1 ⟨#[]⟩ ++ gap ++ ⟨#[125]⟩ ++ ⟨#[10]⟩
     else if kd.getD 2 0 = 12 then ⟨#[105, 102, 32]⟩ ++ es.getD 0 ⟨#[]⟩ ++ ⟨#[32, 123, 10]⟩ ++ bs.getD 1 ⟨#[]⟩ ++ gap ++ ⟨#[125]⟩ ++ ⟨#[32, 101, 108, 115, 101, 32]⟩ ++ ss.getD 2 ⟨#[]⟩
     else ⟨#[105, 102, 32]⟩ ++ es.getD 0 ⟨#[]⟩ ++ ⟨#[32, 123, 10]⟩ ++ bs.getD 1 ⟨#[]⟩ ++ gap ++ ⟨#[125]⟩ ++ ⟨#[32, 101, 108, 115, 101, 32, 123, 10]⟩ ++ bs.getD 2 ⟨#[]⟩ ++ gap ++ ⟨#[125, 10]⟩)
  else if d.kind = 13 then ⟨#[119, 104, 105, 108, 101, 32]⟩ ++ es.getD 0 ⟨#[]⟩ ++ ⟨#[32, 123, 10]⟩ ++ bs.getD 1 ⟨#[]⟩ ++ gap ++ ⟨#[125, 10]⟩
  else if d.kind = 14 then ⟨#[98, 114, 101, 97, 107, 59, 10]⟩
  else if d.kind = 15 then ⟨#[99, 111, 110, 116, 105, 110, 117, 101, 59, 10]⟩
  else if d.kind = 16 then (if kd.length = 0 then ⟨#[114, 101, 116, 117, 114, 110, 59, 10]⟩ else ⟨#[114, 101, 116, 117, 114, 110, 32]⟩ ++ es.getD 0 ⟨#[]⟩ ++ ⟨#[59, 10]⟩)
  else if d.kind = 17 then ⟨#[102, 97, 105, 108, 32]⟩ ++ es.getD 0 ⟨#[]⟩ ++ ⟨#[59, 10]⟩
  else if d.kind = 18 then ⟨#[119, 114, 105, 116, 101, 32]⟩ ++ Pr.listT es ++ ⟨#[59, 10]⟩
  else if d.kind = 19 then ⟨#[115, 97, 121, 32]⟩ ++ es.getD 0 ⟨#[]⟩ ++ ⟨#[59, 10]⟩
  else es.getD 0 ⟨#[]⟩ ++ ⟨#[59, 10]⟩
set_option maxRecDepth 100000 in
set_option maxHeartbeats 2000000 in
theorem Pr.st_let (g : Nat) (ns : List Mill.Nd) (K : List (List Nat)) (k : Nat) (hlt : k < ns.length) (_hlen : ns.length ≤ 12001) (hrows : K.length = ns.length) (d : Mill.Nd) (hnd : ns[k] = d) (hd : d.kind = 10) (htext : d.text.size ≤ 1048576) (gap : ByteArray) (_hgap : gap.size ≤ 400) (c : Nat) (x : ByteArray) (hxs : x.size ≤ 100000000) (Hx : Hid (Pr.ExprIs g ns K c x)) (hrow : K.getD k [] = [c]) (w : World) (HP : Hid (Pr.PenAt w g ns K)) :
    Calls Tryz.prog 44 #[.pointer (some ⟨g, 0, none⟩), .int .i64 (k : Int), .string gap] w fun e w' => e = .returned (.string (⟨#[108, 101, 116, 32]⟩ ++ d.text ++ ⟨#[32, 61, 32]⟩ ++ x ++ ⟨#[59, 10]⟩)) ∧ Below w.heap.size w w' := by
  obtain ⟨gn, cn, gk, ck, v, ⟨hg, hgn, hgk⟩, p0, p1, ⟨n0, n1, n2, n3, n4, n5⟩, hv, hrow0⟩ := Pr.pen_node HP.out k hlt hrows
  have p1a : ∀ ob : Obj, (w.alloc ob).cell? ⟨g, 1, none⟩ = _ := fun ob => (((Below.refl _ w).alloc (Nat.le_refl _) ob).cell (p := ⟨g, 1, none⟩) hg).trans p1
  have hva : ∀ ob : Obj, (w.alloc ob).cell? ⟨gk, k, none⟩ = _ := fun ob => (((Below.refl _ w).alloc (Nat.le_refl _) ob).cell (p := ⟨gk, k, none⟩) hgk).trans hv
  rw [hnd] at n0 n1 n2 n3 n4 n5
  clear hnd
  rw [hd] at n0
  have HR : Hid (Pr.RowAt w v (K.getD k [])) := hrow0
  clear hrow0
  have hR := HR.out
  rw [hrow] at hR
  obtain ⟨ua, uc, rfl, hj⟩ := hR
  obtain ⟨gu, rfl, hgu, r00⟩ := hj 0 (by simp)
  simp only [List.getElem_cons_zero] at r00
  simp only [List.length_cons, List.length_nil] at hv hva
  clear hj
  have s0 : ¬ (9223372036854775807 < 4 + d.text.size) := by omega
  have u1 : ¬ (9223372036854775804 < 4 + d.text.size) := by omega
  have s1 : ¬ (9223372036854775807 < 4 + d.text.size + 3) := by omega
  have s2 : ¬ (9223372036854775807 < 4 + d.text.size + 3 + x.size) := by omega
  have u3 : ¬ (9223372036854775805 < 4 + d.text.size + 3 + x.size) := by omega
  have s3 : ¬ (9223372036854775807 < 4 + d.text.size + 3 + x.size + 2) := by omega
  have hbc := (Below.refl (w.heap.size + 1) (w.alloc (.cells #[.int .i64 10, .int .i64 d.op, .int .i64 d.type, .int .i64 d.n, .string d.text, .int .i64 d.kids] 68))).drew
  obtain ⟨c0, c1, c2, c3, c4, c5⟩ := Pr.six hbc
  have r0 := ((Pr.on1 hbc).cell (p := ⟨gu, 0, none⟩) hgu).trans r00
  go_enter Tryz.func44, Tryz.ntmps44
  go_wp2_with fail
  go_region_held3 (fun w' => w'.cell? ⟨gu, 0, none⟩ = some (.int .i64 (c : Int)) ∧ w'.cell? ⟨w.heap.size, 4, none⟩ = some (.string d.text)) (with_reducible exact ⟨r0, c4⟩) (first
    | (go_at_call 63; refine (Hx.out _ (HP.out.below (Pr.on1 hbc))).mono ?_; rintro e w1 ⟨rfl, hb1⟩; have hbc := Pr.next1 hbc hb1; obtain ⟨c0, c1, c2, c3, c4, c5⟩ := Pr.six hbc; have r0 := ((Pr.on1 hbc).cell (p := ⟨gu, 0, none⟩) hgu).trans r00))
  go_wp2
  go_ret
  exact ⟨rfl, Pr.on1 hbc⟩
set_option maxRecDepth 100000 in
set_option maxHeartbeats 2000000 in
theorem Pr.st_set (g : Nat) (ns : List Mill.Nd) (K : List (List Nat)) (k : Nat) (hlt : k < ns.length) (_hlen : ns.length ≤ 12001) (hrows : K.length = ns.length) (d : Mill.Nd) (hnd : ns[k] = d) (hd : d.kind = 11) (htext : d.text.size ≤ 1048576) (gap : ByteArray) (_hgap : gap.size ≤ 400) (c : Nat) (x : ByteArray) (hxs : x.size ≤ 100000000) (Hx : Hid (Pr.ExprIs g ns K c x)) (hrow : K.getD k [] = [c]) (w : World) (HP : Hid (Pr.PenAt w g ns K)) :
    Calls Tryz.prog 44 #[.pointer (some ⟨g, 0, none⟩), .int .i64 (k : Int), .string gap] w fun e w' => e = .returned (.string (d.text ++ ⟨#[32, 61, 32]⟩ ++ x ++ ⟨#[59, 10]⟩)) ∧ Below w.heap.size w w' := by
  obtain ⟨gn, cn, gk, ck, v, ⟨hg, hgn, hgk⟩, p0, p1, ⟨n0, n1, n2, n3, n4, n5⟩, hv, hrow0⟩ := Pr.pen_node HP.out k hlt hrows
  have p1a : ∀ ob : Obj, (w.alloc ob).cell? ⟨g, 1, none⟩ = _ := fun ob => (((Below.refl _ w).alloc (Nat.le_refl _) ob).cell (p := ⟨g, 1, none⟩) hg).trans p1
  have hva : ∀ ob : Obj, (w.alloc ob).cell? ⟨gk, k, none⟩ = _ := fun ob => (((Below.refl _ w).alloc (Nat.le_refl _) ob).cell (p := ⟨gk, k, none⟩) hgk).trans hv
  rw [hnd] at n0 n1 n2 n3 n4 n5
  clear hnd
  rw [hd] at n0
  have HR : Hid (Pr.RowAt w v (K.getD k [])) := hrow0
  clear hrow0
  have hR := HR.out
  rw [hrow] at hR
  obtain ⟨ua, uc, rfl, hj⟩ := hR
  obtain ⟨gu, rfl, hgu, r00⟩ := hj 0 (by simp)
  simp only [List.getElem_cons_zero] at r00
  simp only [List.length_cons, List.length_nil] at hv hva
  clear hj
  have u0 : ¬ (9223372036854775804 < d.text.size) := by omega
  have s0 : ¬ (9223372036854775807 < d.text.size + 3) := by omega
  have s1 : ¬ (9223372036854775807 < d.text.size + 3 + x.size) := by omega
  have u2 : ¬ (9223372036854775805 < d.text.size + 3 + x.size) := by omega
  have s2 : ¬ (9223372036854775807 < d.text.size + 3 + x.size + 2) := by omega
  have hbc := (Below.refl (w.heap.size + 1) (w.alloc (.cells #[.int .i64 11, .int .i64 d.op, .int .i64 d.type, .int .i64 d.n, .string d.text, .int .i64 d.kids] 68))).drew
  obtain ⟨c0, c1, c2, c3, c4, c5⟩ := Pr.six hbc
  have r0 := ((Pr.on1 hbc).cell (p := ⟨gu, 0, none⟩) hgu).trans r00
  go_enter Tryz.func44, Tryz.ntmps44
  go_wp2_with fail
  go_region_held3 (fun w' => w'.cell? ⟨gu, 0, none⟩ = some (.int .i64 (c : Int)) ∧ w'.cell? ⟨w.heap.size, 4, none⟩ = some (.string d.text)) (with_reducible exact ⟨r0, c4⟩) (first
    | (go_at_call 63; refine (Hx.out _ (HP.out.below (Pr.on1 hbc))).mono ?_; rintro e w1 ⟨rfl, hb1⟩; have hbc := Pr.next1 hbc hb1; obtain ⟨c0, c1, c2, c3, c4, c5⟩ := Pr.six hbc; have r0 := ((Pr.on1 hbc).cell (p := ⟨gu, 0, none⟩) hgu).trans r00))
  go_wp2
  go_ret
  exact ⟨rfl, Pr.on1 hbc⟩
set_option maxRecDepth 100000 in
set_option maxHeartbeats 2000000 in
theorem Pr.st_fail (g : Nat) (ns : List Mill.Nd) (K : List (List Nat)) (k : Nat) (hlt : k < ns.length) (_hlen : ns.length ≤ 12001) (hrows : K.length = ns.length) (d : Mill.Nd) (hnd : ns[k] = d) (hd : d.kind = 17) (_htext : d.text.size ≤ 1048576) (gap : ByteArray) (_hgap : gap.size ≤ 400) (c : Nat) (x : ByteArray) (hxs : x.size ≤ 100000000) (Hx : Hid (Pr.ExprIs g ns K c x)) (hrow : K.getD k [] = [c]) (w : World) (HP : Hid (Pr.PenAt w g ns K)) :
    Calls Tryz.prog 44 #[.pointer (some ⟨g, 0, none⟩), .int .i64 (k : Int), .string gap] w fun e w' => e = .returned (.string (⟨#[102, 97, 105, 108, 32]⟩ ++ x ++ ⟨#[59, 10]⟩)) ∧ Below w.heap.size w w' := by
  obtain ⟨gn, cn, gk, ck, v, ⟨hg, hgn, hgk⟩, p0, p1, ⟨n0, n1, n2, n3, n4, n5⟩, hv, hrow0⟩ := Pr.pen_node HP.out k hlt hrows
  have p1a : ∀ ob : Obj, (w.alloc ob).cell? ⟨g, 1, none⟩ = _ := fun ob => (((Below.refl _ w).alloc (Nat.le_refl _) ob).cell (p := ⟨g, 1, none⟩) hg).trans p1
  have hva : ∀ ob : Obj, (w.alloc ob).cell? ⟨gk, k, none⟩ = _ := fun ob => (((Below.refl _ w).alloc (Nat.le_refl _) ob).cell (p := ⟨gk, k, none⟩) hgk).trans hv
  rw [hnd] at n0 n1 n2 n3 n4 n5
  clear hnd
  rw [hd] at n0
  have HR : Hid (Pr.RowAt w v (K.getD k [])) := hrow0
  clear hrow0
  have hR := HR.out
  rw [hrow] at hR
  obtain ⟨ua, uc, rfl, hj⟩ := hR
  obtain ⟨gu, rfl, hgu, r00⟩ := hj 0 (by simp)
  simp only [List.getElem_cons_zero] at r00
  simp only [List.length_cons, List.length_nil] at hv hva
  clear hj
  have s0 : ¬ (9223372036854775807 < 5 + x.size) := by omega
  have u1 : ¬ (9223372036854775805 < 5 + x.size) := by omega
  have s1 : ¬ (9223372036854775807 < 5 + x.size + 2) := by omega
  have hbc := (Below.refl (w.heap.size + 1) (w.alloc (.cells #[.int .i64 17, .int .i64 d.op, .int .i64 d.type, .int .i64 d.n, .string d.text, .int .i64 d.kids] 68)))
  obtain ⟨c0, c1, c2, c3, c4, c5⟩ := Pr.six hbc
  have r0 := ((Pr.on1 hbc).cell (p := ⟨gu, 0, none⟩) hgu).trans r00
  go_enter Tryz.func44, Tryz.ntmps44
  go_wp2_with (first
    | (go_at_call 63; refine (Hx.out _ (HP.out.below (Pr.on1 hbc))).mono ?_; rintro e w1 ⟨rfl, hb1⟩; have hbc := Pr.next1 hbc hb1; obtain ⟨c0, c1, c2, c3, c4, c5⟩ := Pr.six hbc; have r0 := ((Pr.on1 hbc).cell (p := ⟨gu, 0, none⟩) hgu).trans r00))
  go_ret
  exact ⟨rfl, Pr.on1 hbc⟩
set_option maxRecDepth 100000 in
set_option maxHeartbeats 2000000 in
theorem Pr.st_say (g : Nat) (ns : List Mill.Nd) (K : List (List Nat)) (k : Nat) (hlt : k < ns.length) (_hlen : ns.length ≤ 12001) (hrows : K.length = ns.length) (d : Mill.Nd) (hnd : ns[k] = d) (hd : d.kind = 19) (_htext : d.text.size ≤ 1048576) (gap : ByteArray) (_hgap : gap.size ≤ 400) (c : Nat) (x : ByteArray) (hxs : x.size ≤ 100000000) (Hx : Hid (Pr.ExprIs g ns K c x)) (hrow : K.getD k [] = [c]) (w : World) (HP : Hid (Pr.PenAt w g ns K)) :
    Calls Tryz.prog 44 #[.pointer (some ⟨g, 0, none⟩), .int .i64 (k : Int), .string gap] w fun e w' => e = .returned (.string (⟨#[115, 97, 121, 32]⟩ ++ x ++ ⟨#[59, 10]⟩)) ∧ Below w.heap.size w w' := by
  obtain ⟨gn, cn, gk, ck, v, ⟨hg, hgn, hgk⟩, p0, p1, ⟨n0, n1, n2, n3, n4, n5⟩, hv, hrow0⟩ := Pr.pen_node HP.out k hlt hrows
  have p1a : ∀ ob : Obj, (w.alloc ob).cell? ⟨g, 1, none⟩ = _ := fun ob => (((Below.refl _ w).alloc (Nat.le_refl _) ob).cell (p := ⟨g, 1, none⟩) hg).trans p1
  have hva : ∀ ob : Obj, (w.alloc ob).cell? ⟨gk, k, none⟩ = _ := fun ob => (((Below.refl _ w).alloc (Nat.le_refl _) ob).cell (p := ⟨gk, k, none⟩) hgk).trans hv
  rw [hnd] at n0 n1 n2 n3 n4 n5
  clear hnd
  rw [hd] at n0
  have HR : Hid (Pr.RowAt w v (K.getD k [])) := hrow0
  clear hrow0
  have hR := HR.out
  rw [hrow] at hR
  obtain ⟨ua, uc, rfl, hj⟩ := hR
  obtain ⟨gu, rfl, hgu, r00⟩ := hj 0 (by simp)
  simp only [List.getElem_cons_zero] at r00
  simp only [List.length_cons, List.length_nil] at hv hva
  clear hj
  have s0 : ¬ (9223372036854775807 < 4 + x.size) := by omega
  have u1 : ¬ (9223372036854775805 < 4 + x.size) := by omega
  have s1 : ¬ (9223372036854775807 < 4 + x.size + 2) := by omega
  have hbc := (Below.refl (w.heap.size + 1) (w.alloc (.cells #[.int .i64 19, .int .i64 d.op, .int .i64 d.type, .int .i64 d.n, .string d.text, .int .i64 d.kids] 68)))
  obtain ⟨c0, c1, c2, c3, c4, c5⟩ := Pr.six hbc
  have r0 := ((Pr.on1 hbc).cell (p := ⟨gu, 0, none⟩) hgu).trans r00
  go_enter Tryz.func44, Tryz.ntmps44
  go_wp2_with (first
    | (go_at_call 63; refine (Hx.out _ (HP.out.below (Pr.on1 hbc))).mono ?_; rintro e w1 ⟨rfl, hb1⟩; have hbc := Pr.next1 hbc hb1; obtain ⟨c0, c1, c2, c3, c4, c5⟩ := Pr.six hbc; have r0 := ((Pr.on1 hbc).cell (p := ⟨gu, 0, none⟩) hgu).trans r00))
  go_ret
  exact ⟨rfl, Pr.on1 hbc⟩
set_option maxRecDepth 100000 in
set_option maxHeartbeats 2000000 in
theorem Pr.st_ret1 (g : Nat) (ns : List Mill.Nd) (K : List (List Nat)) (k : Nat) (hlt : k < ns.length) (_hlen : ns.length ≤ 12001) (hrows : K.length = ns.length) (d : Mill.Nd) (hnd : ns[k] = d) (hd : d.kind = 16) (_htext : d.text.size ≤ 1048576) (gap : ByteArray) (_hgap : gap.size ≤ 400) (c : Nat) (x : ByteArray) (hxs : x.size ≤ 100000000) (Hx : Hid (Pr.ExprIs g ns K c x)) (hrow : K.getD k [] = [c]) (w : World) (HP : Hid (Pr.PenAt w g ns K)) :
    Calls Tryz.prog 44 #[.pointer (some ⟨g, 0, none⟩), .int .i64 (k : Int), .string gap] w fun e w' => e = .returned (.string (⟨#[114, 101, 116, 117, 114, 110, 32]⟩ ++ x ++ ⟨#[59, 10]⟩)) ∧ Below w.heap.size w w' := by
  obtain ⟨gn, cn, gk, ck, v, ⟨hg, hgn, hgk⟩, p0, p1, ⟨n0, n1, n2, n3, n4, n5⟩, hv, hrow0⟩ := Pr.pen_node HP.out k hlt hrows
  have p1a : ∀ ob : Obj, (w.alloc ob).cell? ⟨g, 1, none⟩ = _ := fun ob => (((Below.refl _ w).alloc (Nat.le_refl _) ob).cell (p := ⟨g, 1, none⟩) hg).trans p1
  have hva : ∀ ob : Obj, (w.alloc ob).cell? ⟨gk, k, none⟩ = _ := fun ob => (((Below.refl _ w).alloc (Nat.le_refl _) ob).cell (p := ⟨gk, k, none⟩) hgk).trans hv
  rw [hnd] at n0 n1 n2 n3 n4 n5
  clear hnd
  rw [hd] at n0
  have HR : Hid (Pr.RowAt w v (K.getD k [])) := hrow0
  clear hrow0
  have hR := HR.out
  rw [hrow] at hR
  obtain ⟨ua, uc, rfl, hj⟩ := hR
  obtain ⟨gu, rfl, hgu, r00⟩ := hj 0 (by simp)
  simp only [List.getElem_cons_zero] at r00
  simp only [List.length_cons, List.length_nil] at hv hva
  clear hj
  have s0 : ¬ (9223372036854775807 < 7 + x.size) := by omega
  have u1 : ¬ (9223372036854775805 < 7 + x.size) := by omega
  have s1 : ¬ (9223372036854775807 < 7 + x.size + 2) := by omega
  have hbc := (Below.refl (w.heap.size + 1) (w.alloc (.cells #[.int .i64 16, .int .i64 d.op, .int .i64 d.type, .int .i64 d.n, .string d.text, .int .i64 d.kids] 68)))
  obtain ⟨c0, c1, c2, c3, c4, c5⟩ := Pr.six hbc
  have r0 := ((Pr.on1 hbc).cell (p := ⟨gu, 0, none⟩) hgu).trans r00
  go_enter Tryz.func44, Tryz.ntmps44
  go_wp2_with (first
    | (go_at_call 63; refine (Hx.out _ (HP.out.below (Pr.on1 hbc))).mono ?_; rintro e w1 ⟨rfl, hb1⟩; have hbc := Pr.next1 hbc hb1; obtain ⟨c0, c1, c2, c3, c4, c5⟩ := Pr.six hbc; have r0 := ((Pr.on1 hbc).cell (p := ⟨gu, 0, none⟩) hgu).trans r00))
  go_ret
  exact ⟨rfl, Pr.on1 hbc⟩
set_option maxRecDepth 100000 in
set_option maxHeartbeats 2000000 in
theorem Pr.st_do (g : Nat) (ns : List Mill.Nd) (K : List (List Nat)) (k : Nat) (hlt : k < ns.length) (_hlen : ns.length ≤ 12001) (hrows : K.length = ns.length) (d : Mill.Nd) (hnd : ns[k] = d) (hd : d.kind = 20) (_htext : d.text.size ≤ 1048576) (gap : ByteArray) (_hgap : gap.size ≤ 400) (c : Nat) (x : ByteArray) (hxs : x.size ≤ 100000000) (Hx : Hid (Pr.ExprIs g ns K c x)) (hrow : K.getD k [] = [c]) (w : World) (HP : Hid (Pr.PenAt w g ns K)) :
    Calls Tryz.prog 44 #[.pointer (some ⟨g, 0, none⟩), .int .i64 (k : Int), .string gap] w fun e w' => e = .returned (.string (x ++ ⟨#[59, 10]⟩)) ∧ Below w.heap.size w w' := by
  obtain ⟨gn, cn, gk, ck, v, ⟨hg, hgn, hgk⟩, p0, p1, ⟨n0, n1, n2, n3, n4, n5⟩, hv, hrow0⟩ := Pr.pen_node HP.out k hlt hrows
  have p1a : ∀ ob : Obj, (w.alloc ob).cell? ⟨g, 1, none⟩ = _ := fun ob => (((Below.refl _ w).alloc (Nat.le_refl _) ob).cell (p := ⟨g, 1, none⟩) hg).trans p1
  have hva : ∀ ob : Obj, (w.alloc ob).cell? ⟨gk, k, none⟩ = _ := fun ob => (((Below.refl _ w).alloc (Nat.le_refl _) ob).cell (p := ⟨gk, k, none⟩) hgk).trans hv
  rw [hnd] at n0 n1 n2 n3 n4 n5
  clear hnd
  rw [hd] at n0
  have HR : Hid (Pr.RowAt w v (K.getD k [])) := hrow0
  clear hrow0
  have hR := HR.out
  rw [hrow] at hR
  obtain ⟨ua, uc, rfl, hj⟩ := hR
  obtain ⟨gu, rfl, hgu, r00⟩ := hj 0 (by simp)
  simp only [List.getElem_cons_zero] at r00
  simp only [List.length_cons, List.length_nil] at hv hva
  clear hj
  have u0 : ¬ (9223372036854775805 < x.size) := by omega
  have s0 : ¬ (9223372036854775807 < x.size + 2) := by omega
  have hbc := (Below.refl (w.heap.size + 1) (w.alloc (.cells #[.int .i64 20, .int .i64 d.op, .int .i64 d.type, .int .i64 d.n, .string d.text, .int .i64 d.kids] 68)))
  obtain ⟨c0, c1, c2, c3, c4, c5⟩ := Pr.six hbc
  have r0 := ((Pr.on1 hbc).cell (p := ⟨gu, 0, none⟩) hgu).trans r00
  go_enter Tryz.func44, Tryz.ntmps44
  go_wp2_with (first
    | (go_at_call 63; refine (Hx.out _ (HP.out.below (Pr.on1 hbc))).mono ?_; rintro e w1 ⟨rfl, hb1⟩; have hbc := Pr.next1 hbc hb1; obtain ⟨c0, c1, c2, c3, c4, c5⟩ := Pr.six hbc; have r0 := ((Pr.on1 hbc).cell (p := ⟨gu, 0, none⟩) hgu).trans r00))
  go_ret
  exact ⟨rfl, Pr.on1 hbc⟩
set_option maxRecDepth 100000 in
set_option maxHeartbeats 2000000 in
theorem Pr.st_break (g : Nat) (ns : List Mill.Nd) (K : List (List Nat)) (k : Nat) (hlt : k < ns.length) (_hlen : ns.length ≤ 12001) (hrows : K.length = ns.length) (d : Mill.Nd) (hnd : ns[k] = d) (hd : d.kind = 14) (_htext : d.text.size ≤ 1048576) (gap : ByteArray) (_hgap : gap.size ≤ 400) (w : World) (HP : Hid (Pr.PenAt w g ns K)) :
    Calls Tryz.prog 44 #[.pointer (some ⟨g, 0, none⟩), .int .i64 (k : Int), .string gap] w fun e w' => e = .returned (.string (⟨#[98, 114, 101, 97, 107, 59, 10]⟩)) ∧ Below w.heap.size w w' := by
  obtain ⟨gn, cn, gk, ck, v, ⟨hg, hgn, hgk⟩, p0, p1, ⟨n0, n1, n2, n3, n4, n5⟩, hv, hrow0⟩ := Pr.pen_node HP.out k hlt hrows
  have p1a : ∀ ob : Obj, (w.alloc ob).cell? ⟨g, 1, none⟩ = _ := fun ob => (((Below.refl _ w).alloc (Nat.le_refl _) ob).cell (p := ⟨g, 1, none⟩) hg).trans p1
  have hva : ∀ ob : Obj, (w.alloc ob).cell? ⟨gk, k, none⟩ = _ := fun ob => (((Below.refl _ w).alloc (Nat.le_refl _) ob).cell (p := ⟨gk, k, none⟩) hgk).trans hv
  rw [hnd] at n0 n1 n2 n3 n4 n5
  clear hnd
  rw [hd] at n0
  have HR : Hid (Pr.RowAt w v (K.getD k [])) := hrow0
  clear hrow0
  go_enter Tryz.func44, Tryz.ntmps44
  go_wp2
  go_ret
  exact ⟨rfl, (Below.refl _ w).alloc (Nat.le_refl _) _⟩
set_option maxRecDepth 100000 in
set_option maxHeartbeats 2000000 in
theorem Pr.st_continue (g : Nat) (ns : List Mill.Nd) (K : List (List Nat)) (k : Nat) (hlt : k < ns.length) (_hlen : ns.length ≤ 12001) (hrows : K.length = ns.length) (d : Mill.Nd) (hnd : ns[k] = d) (hd : d.kind = 15) (_htext : d.text.size ≤ 1048576) (gap : ByteArray) (_hgap : gap.size ≤ 400) (w : World) (HP : Hid (Pr.PenAt w g ns K)) :
    Calls Tryz.prog 44 #[.pointer (some ⟨g, 0, none⟩), .int .i64 (k : Int), .string gap] w fun e w' => e = .returned (.string (⟨#[99, 111, 110, 116, 105, 110, 117, 101, 59, 10]⟩)) ∧ Below w.heap.size w w' := by
  obtain ⟨gn, cn, gk, ck, v, ⟨hg, hgn, hgk⟩, p0, p1, ⟨n0, n1, n2, n3, n4, n5⟩, hv, hrow0⟩ := Pr.pen_node HP.out k hlt hrows
  have p1a : ∀ ob : Obj, (w.alloc ob).cell? ⟨g, 1, none⟩ = _ := fun ob => (((Below.refl _ w).alloc (Nat.le_refl _) ob).cell (p := ⟨g, 1, none⟩) hg).trans p1
  have hva : ∀ ob : Obj, (w.alloc ob).cell? ⟨gk, k, none⟩ = _ := fun ob => (((Below.refl _ w).alloc (Nat.le_refl _) ob).cell (p := ⟨gk, k, none⟩) hgk).trans hv
  rw [hnd] at n0 n1 n2 n3 n4 n5
  clear hnd
  rw [hd] at n0
  have HR : Hid (Pr.RowAt w v (K.getD k [])) := hrow0
  clear hrow0
  go_enter Tryz.func44, Tryz.ntmps44
  go_wp2
  go_ret
  exact ⟨rfl, (Below.refl _ w).alloc (Nat.le_refl _) _⟩
set_option maxRecDepth 100000 in
set_option maxHeartbeats 2000000 in
theorem Pr.st_ret0 (g : Nat) (ns : List Mill.Nd) (K : List (List Nat)) (k : Nat) (hlt : k < ns.length) (_hlen : ns.length ≤ 12001) (hrows : K.length = ns.length) (d : Mill.Nd) (hnd : ns[k] = d) (hd : d.kind = 16) (_htext : d.text.size ≤ 1048576) (gap : ByteArray) (_hgap : gap.size ≤ 400) (hrow : K.getD k [] = []) (w : World) (HP : Hid (Pr.PenAt w g ns K)) :
    Calls Tryz.prog 44 #[.pointer (some ⟨g, 0, none⟩), .int .i64 (k : Int), .string gap] w fun e w' => e = .returned (.string (⟨#[114, 101, 116, 117, 114, 110, 59, 10]⟩)) ∧ Below w.heap.size w w' := by
  obtain ⟨gn, cn, gk, ck, v, ⟨hg, hgn, hgk⟩, p0, p1, ⟨n0, n1, n2, n3, n4, n5⟩, hv, hrow0⟩ := Pr.pen_node HP.out k hlt hrows
  have p1a : ∀ ob : Obj, (w.alloc ob).cell? ⟨g, 1, none⟩ = _ := fun ob => (((Below.refl _ w).alloc (Nat.le_refl _) ob).cell (p := ⟨g, 1, none⟩) hg).trans p1
  have hva : ∀ ob : Obj, (w.alloc ob).cell? ⟨gk, k, none⟩ = _ := fun ob => (((Below.refl _ w).alloc (Nat.le_refl _) ob).cell (p := ⟨gk, k, none⟩) hgk).trans hv
  rw [hnd] at n0 n1 n2 n3 n4 n5
  clear hnd
  rw [hd] at n0
  have HR : Hid (Pr.RowAt w v (K.getD k [])) := hrow0
  clear hrow0
  have hR := HR.out
  rw [hrow] at hR
  obtain ⟨ua, uc, rfl, hj⟩ := hR
  simp only [List.length_nil] at hv hva
  clear hj
  go_enter Tryz.func44, Tryz.ntmps44
  go_wp2
  go_ret
  exact ⟨rfl, (Below.refl _ w).alloc (Nat.le_refl _) _⟩
set_option maxRecDepth 100000 in
set_option maxHeartbeats 2000000 in
theorem Pr.st_write (g : Nat) (ns : List Mill.Nd) (K : List (List Nat)) (k : Nat) (hlt : k < ns.length) (_hlen : ns.length ≤ 12001) (hrows : K.length = ns.length) (d : Mill.Nd) (hnd : ns[k] = d) (hd : d.kind = 18) (_htext : d.text.size ≤ 1048576) (gap : ByteArray) (_hgap : gap.size ≤ 400) (xs : List ByteArray) (hkn : xs.length = (K.getD k []).length) (hkl : (K.getD k []).length ≤ 12001) (hsize : Pr.total xs ≤ 50000000) (HE : Hid (∀ j (h : j < (K.getD k []).length) (h' : j < xs.length), Pr.ExprIs g ns K (K.getD k [])[j] xs[j])) (w : World) (HP : Hid (Pr.PenAt w g ns K)) :
    Calls Tryz.prog 44 #[.pointer (some ⟨g, 0, none⟩), .int .i64 (k : Int), .string gap] w fun e w' => e = .returned (.string (⟨#[119, 114, 105, 116, 101, 32]⟩ ++ Pr.listT xs ++ ⟨#[59, 10]⟩)) ∧ Below w.heap.size w w' := by
  obtain ⟨gn, cn, gk, ck, v, ⟨hg, hgn, hgk⟩, p0, p1, ⟨n0, n1, n2, n3, n4, n5⟩, hv, hrow0⟩ := Pr.pen_node HP.out k hlt hrows
  have p1a : ∀ ob : Obj, (w.alloc ob).cell? ⟨g, 1, none⟩ = _ := fun ob => (((Below.refl _ w).alloc (Nat.le_refl _) ob).cell (p := ⟨g, 1, none⟩) hg).trans p1
  have hva : ∀ ob : Obj, (w.alloc ob).cell? ⟨gk, k, none⟩ = _ := fun ob => (((Below.refl _ w).alloc (Nat.le_refl _) ob).cell (p := ⟨gk, k, none⟩) hgk).trans hv
  rw [hnd] at n0 n1 n2 n3 n4 n5
  clear hnd
  rw [hd] at n0
  have HR : Hid (Pr.RowAt w v (K.getD k [])) := hrow0
  clear hrow0
  have HL : Hid (∀ w1 : World, Pr.PenAt w1 g ns K → Pr.RowAt w1 v (K.getD k []) → Calls Tryz.prog 64 #[.pointer (some ⟨g, 0, none⟩), v] w1 fun e w' => e = .returned (.string (Pr.listT xs)) ∧ Below w1.heap.size w1 w') := fun w1 h1 h2 => Pr.list_any g ns K v (K.getD k []) xs hkn hkl (by omega) HE w1 h1 h2
  have zl := Pr.listT_size xs
  generalize Pr.listT xs = l at HL zl ⊢
  have s0 : ¬ (9223372036854775807 < 6 + l.size) := by omega
  have u1 : ¬ (9223372036854775805 < 6 + l.size) := by omega
  have s1 : ¬ (9223372036854775807 < 6 + l.size + 2) := by omega
  have hbc := (Below.refl (w.heap.size + 1) (w.alloc (.cells #[.int .i64 18, .int .i64 d.op, .int .i64 d.type, .int .i64 d.n, .string d.text, .int .i64 d.kids] 68)))
  obtain ⟨c0, c1, c2, c3, c4, c5⟩ := Pr.six hbc
  go_enter Tryz.func44, Tryz.ntmps44
  go_wp2_with (first
    | (go_at_call 64; refine (HL.out _ (HP.out.below (Pr.on1 hbc)) (HR.out.below (Pr.on1 hbc))).mono ?_; rintro e w1 ⟨rfl, hb1⟩; have hbc := Pr.next1 hbc hb1; obtain ⟨c0, c1, c2, c3, c4, c5⟩ := Pr.six hbc))
  go_ret
  exact ⟨rfl, Pr.on1 hbc⟩
end Go.Proofs.YtkaoeoeloihigaaGreatDoor
