import Derived.Test.YtdapajkckocmbaaBoxB
namespace Go.Proofs.Ytdapajkckocmbaa
open Go.RowKit

structure Bx.Sn where
  kind : Int
  name : ByteArray
  code : Int
  text : ByteArray
def Bx.sfl (s : Bx.Sn) : Bx.Fl := ⟨s.name, s.text⟩
def Bx.sC (s : Bx.Sn) : List Value := [.int .i64 s.kind, .string s.name, .int .i64 s.code, .string s.text]
def Bx.SOff (w : World) (v : Value) (ss : List Bx.Sn) : Prop :=
  ∃ a cap, v = .slice a ss.length cap ∧ ∀ i (hi : i < ss.length), ∃ g o, a = some ⟨g, o, none⟩ ∧ g < w.heap.size ∧ w.cell? ⟨g, o + i * 4, none⟩ = some (.int .i64 ss[i].kind) ∧ w.cell? ⟨g, o + i * 4 + 1, none⟩ = some (.string ss[i].name) ∧ w.cell? ⟨g, o + i * 4 + 2, none⟩ = some (.int .i64 ss[i].code) ∧ w.cell? ⟨g, o + i * 4 + 3, none⟩ = some (.string ss[i].text)
theorem Bx.SOff.below {w w' : World} {v : Value} {ss : List Bx.Sn} (h : Bx.SOff w v ss) (hb : Below w.heap.size w w') : Bx.SOff w' v ss := by
  obtain ⟨a, cap, rfl, hc⟩ := h
  refine ⟨a, cap, rfl, fun i hi => ?_⟩
  obtain ⟨g, o, ha, hg, h1, h2, h3, h4⟩ := hc i hi
  exact ⟨g, o, ha, Nat.lt_of_lt_of_le hg hb.size, by rw [hb.cell (p := ⟨g, o + i * 4, none⟩) hg]; exact h1, by rw [hb.cell (p := ⟨g, o + i * 4 + 1, none⟩) hg]; exact h2, by rw [hb.cell (p := ⟨g, o + i * 4 + 2, none⟩) hg]; exact h3, by rw [hb.cell (p := ⟨g, o + i * 4 + 3, none⟩) hg]; exact h4⟩
theorem Bx.SOff.slice {w : World} {v : Value} {ss : List Bx.Sn} (h : Bx.SOff w v ss) : ∃ p c, v = .slice p ss.length c := by
  obtain ⟨p, c, h, _⟩ := h; exact ⟨p, c, h⟩
theorem Bx.szF_rp (n t : ByteArray) (l : Int) (h : ¬ l - (n.size : Int) < 0) : Bx.szF ⟨n, t⟩ l = Rp.sz t (l - (n.size : Int)) := by
  unfold Bx.szF Rp.sz; simp only; rw [if_neg h]
set_option maxRecDepth 100000 in
set_option maxHeartbeats 1000000 in
theorem Bx.szSeen_any (k : Int) (n : ByteArray) (c : Int) (t : ByteArray) (l : Int) (hn : n.size ≤ 9223372036854775807) (ht : t.size ≤ 9223372036854775807) (h0 : 0 ≤ l) (h1 : l ≤ 1048576) (w : World) :
    Calls Try.prog 45 #[.agg #[.int .i64 k, .string n, .int .i64 c, .string t], .int .i64 l] w fun e w' => e = .returned (.int .i64 (Bx.szF ⟨n, t⟩ l)) ∧ Below w.heap.size w w' := by
  by_cases h : l - (n.size : Int) < 0
  · have HR : Hid (Bx.szF ⟨n, t⟩ l = -1) := by unfold Bx.szF; simp only; rw [Hid, if_pos h]
    rw [HR.out]
    go_enter Try.func45, Try.ntmps45
    go_wp2
    go_ret
    exact ⟨rfl, (Below.refl _ w).alloc (Nat.le_refl _) _⟩
  · rw [Bx.szF_rp n t l h]
    have hb : -1 ≤ Rp.sz t (l - (n.size : Int)) := by unfold Rp.sz; split <;> omega
    have HZ : Hid (∀ w, Calls Try.prog 60 #[.agg #[.int .i64 c, .string t], .int .i64 (l - (n.size : Int))] w fun e w' => e = .returned (.int .i64 (Rp.sz t (l - (n.size : Int)))) ∧ Below w.heap.size w w') := fun w => Rp.szReply_any c t (l - (n.size : Int)) ht (by omega) (by omega) w
    obtain ⟨q, HQ⟩ : ∃ q, Hid (Rp.sz t (l - (n.size : Int)) = q) := ⟨_, (rfl : Rp.sz t (l - (n.size : Int)) = _)⟩
    rw [HQ.out] at HZ hb ⊢
    by_cases hq : q < 0
    · have hq1 : Hid (q = -1) := (by omega : q = -1)
      go_enter Try.func45, Try.ntmps45
      go_wp2_with (go_at_call 60; refine (HZ.out _).mono ?_; rintro e w1 ⟨rfl, hb1⟩; simp only [World.size_alloc] at hb1)
      go_ret
      exact ⟨Bx.ret_int hq1.out.symm, ((Below.refl w.heap.size w).alloc (Nat.le_refl _) _).trans (hb1.mono (by omega))⟩
    · go_enter Try.func45, Try.ntmps45
      go_wp2_with (go_at_call 60; refine (HZ.out _).mono ?_; rintro e w1 ⟨rfl, hb1⟩; simp only [World.size_alloc] at hb1)
      go_ret
      exact ⟨rfl, ((Below.refl w.heap.size w).alloc (Nat.le_refl _) _).trans (hb1.mono (by omega))⟩
set_option maxRecDepth 100000 in
set_option maxHeartbeats 1000000 in
theorem Bx.szSeenS_any (ss : List Bx.Sn) (v : Value) (l : Int) (h0 : 0 ≤ l) (h1 : l ≤ 1048576) (hn : ss.length ≤ 9223372036854775807) (hx : ∀ d ∈ ss, d.name.size ≤ 9223372036854775807 ∧ d.text.size ≤ 9223372036854775807) (w : World) (hN : Bx.SOff w v ss) :
    Calls Try.prog 23 #[v, .int .i64 l] w fun e w' => e = .returned (.int .i64 (Bx.sz (ss.map Bx.sfl) l)) ∧ Below w.heap.size w w' := by
  obtain ⟨a, cap, rfl, hc⟩ := hN
  obtain ⟨q0, HQ⟩ : ∃ q, Hid (Bx.sz (ss.map Bx.sfl) l = q) := ⟨_, (rfl : Bx.sz (ss.map Bx.sfl) l = _)⟩
  have HQ2 : Hid ((if l - (ss.length : Int) < 0 then -1 else Bx.szL (ss.map Bx.sfl) (l - (ss.length : Int))) = q0) := by have h := HQ.out; unfold Bx.sz at h; rw [List.length_map] at h; exact h
  rw [HQ.out]
  clear HQ
  obtain ⟨n, HN⟩ : ∃ n, Hid (ss.length = n) := ⟨_, (rfl : ss.length = _)⟩
  have HC : Hid (∀ i (hi : i < ss.length), ∃ g o, a = some ⟨g, o, none⟩ ∧ g < w.heap.size ∧ w.cell? ⟨g, o + i * 4, none⟩ = some (.int .i64 ss[i].kind) ∧ w.cell? ⟨g, o + i * 4 + 1, none⟩ = some (.string ss[i].name) ∧ w.cell? ⟨g, o + i * 4 + 2, none⟩ = some (.int .i64 ss[i].code) ∧ w.cell? ⟨g, o + i * 4 + 3, none⟩ = some (.string ss[i].text)) := hc
  clear hc
  rw [HN.out] at hn HQ2
  simp only [HN.out]
  by_cases hl : l - (n : Int) < 0
  · have HR : Hid (q0 = -1) := by have h := HQ2.out; rw [if_pos hl] at h; exact h.symm
    clear HQ2
    go_enter Try.func23, Try.ntmps23
    go_wp2
    go_ret
    exact ⟨Bx.ret_int HR.out.symm, Below.refl _ _⟩
  · have HR : Hid (Bx.szL (ss.map Bx.sfl) (l - (n : Int)) = q0) := by have h := HQ2.out; rw [if_neg hl] at h; exact h
    clear HQ2
    go_enter Try.func23, Try.ntmps23
    go_wp2
    go_loopw [1, 5] (fun tl tv wr => ∃ (i : Nat) (q : Int), i ≤ n ∧ tv = .int .i64 (i : Int) ∧ tl = .int .i64 q ∧ 0 ≤ q ∧ q ≤ 1048576 ∧ Bx.szL ((ss.map Bx.sfl).drop i) q = q0 ∧ Below w.heap.size w wr) (fun _ tv _ => n - (intOf tv).toNat)
    case atStart => exact ⟨0, l - (n : Int), by omega, rfl, rfl, by omega, by omega, HR.out, Below.refl _ _⟩
    case round =>
      obtain ⟨i, q, hi, rfl, rfl, hq0, hq1, hu, hbw⟩ := hrel
      have hz := hbw.size
      by_cases hlt : i < n
      · have hil : i < ss.length := by rw [HN.out]; exact hlt
        obtain ⟨g, o, rfl, hg, k0, k1, k2, k3⟩ := HC.out i hil
        rw [List.drop_eq_getElem_cons (by rw [List.length_map]; exact hil), Bx.szL, List.getElem_map] at hu
        obtain ⟨hxa, hxb⟩ := hx ss[i] (List.getElem_mem hil)
        have hb1 := (Bx.szF_bd (Bx.sfl ss[i]) q)
        have e0 : wr.cell? ⟨g, o + i * 4, none⟩ = some (.int .i64 ss[i].kind) := by rw [hbw.cell (p := ⟨g, o + i * 4, none⟩) hg, k0]
        have e1 : wr.cell? ⟨g, o + i * 4 + 1, none⟩ = some (.string ss[i].name) := by rw [hbw.cell (p := ⟨g, o + i * 4 + 1, none⟩) hg, k1]
        have e2 : wr.cell? ⟨g, o + i * 4 + 2, none⟩ = some (.int .i64 ss[i].code) := by rw [hbw.cell (p := ⟨g, o + i * 4 + 2, none⟩) hg, k2]
        have e3 : wr.cell? ⟨g, o + i * 4 + 3, none⟩ = some (.string ss[i].text) := by rw [hbw.cell (p := ⟨g, o + i * 4 + 3, none⟩) hg, k3]
        generalize ss[i] = d at *
        obtain ⟨dk, da, dc, db⟩ := d
        simp only at e0 e1 e2 e3 hxa hxb
        have hb2 : -1 ≤ Bx.szF ⟨da, db⟩ q ∧ (0 ≤ Bx.szF ⟨da, db⟩ q → Bx.szF ⟨da, db⟩ q ≤ q ∧ (da.size : Int) ≤ q ∧ (db.size : Int) ≤ q) := hb1
        have hu2 : (if Bx.szF ⟨da, db⟩ q < 0 then -1 else Bx.szL ((ss.map Bx.sfl).drop (i + 1)) (Bx.szF ⟨da, db⟩ q)) = q0 := hu
        clear hu hb1
        have hb1 := hb2
        have hu := hu2
        clear hb2 hu2
        clear k0 k1 k2 k3 HC HR
        obtain ⟨s, HS⟩ : ∃ s, Hid (Bx.szF ⟨da, db⟩ q = s) := ⟨_, (rfl : Bx.szF ⟨da, db⟩ q = _)⟩
        rw [HS.out] at hu hb1
        obtain ⟨hb0, hb1⟩ := hb1
        by_cases hlq : s < 0
        · have HU : Hid (q0 = -1) := by rw [if_pos hlq] at hu; exact hu.symm
          clear hu hb1
          go_wp2_with (go_at_call 45; (refine (Bx.szSeen_any dk da dc db q hxa hxb hq0 hq1 _).mono ?_; rintro e w1 ⟨rfl, hb1⟩; rw [HS.out]))
          go_ret
          exact ⟨Bx.ret_int HU.out.symm, hbw.trans (hb1.mono hz)⟩
        · have HU : Hid (Bx.szL ((ss.map Bx.sfl).drop (i + 1)) s = q0) := by rw [if_neg hlq] at hu; exact hu
          obtain ⟨hs1, _, _⟩ := hb1 (by omega)
          clear hu hb1
          go_wp2_with (go_at_call 45; (refine (Bx.szSeen_any dk da dc db q hxa hxb hq0 hq1 _).mono ?_; rintro e w1 ⟨rfl, hb1⟩; rw [HS.out]))
          go_roundw
          case rel => exact ⟨i + 1, s, by omega, by go_num, rfl, by omega, by omega, HU.out, hbw.trans (hb1.mono hz)⟩
          case measure => simp [intOf]; omega
      · have HU : Hid (q0 = q) := by rw [List.drop_of_length_le (by rw [List.length_map, HN.out]; omega)] at hu; exact hu.symm
        clear hu HC HR
        go_wp2
        go_ret
        exact ⟨Bx.ret_int HU.out.symm, hbw⟩
theorem Bx.three_blocks {w w1 : World} {o1 o2 o3 : Obj} (hb : Below (w.heap.size + 1 + 1 + 1) (((w.alloc o1).alloc o2).alloc o3) w1) : w1.heap[w.heap.size + 1]? = some o2 ∧ w1.heap[w.heap.size + 1 + 1]? = some o3 ∧ Below w.heap.size w w1 := by
  have h3 := (MapKept.heap_alloc ((w.alloc o1).alloc o2) o3).1
  have h2 := (MapKept.heap_alloc (w.alloc o1) o2).1
  simp only [World.size_alloc] at h2 h3
  have h2b : (((w.alloc o1).alloc o2).alloc o3).heap[w.heap.size + 1]? = some o2 := by
    rw [← h2]; exact ((Below.refl _ ((w.alloc o1).alloc o2)).alloc (Nat.le_refl _) o3).block _ (by simp)
  exact ⟨(hb.block _ (by omega)).trans h2b, (hb.block _ (by omega)).trans h3, ((((Below.refl _ w).alloc (Nat.le_refl _) o1).alloc (by simp) o2).alloc (by simp only [World.size_alloc]; omega) o3).trans (hb.mono (by omega))⟩
theorem Bx.cell4 {w1 : World} {g : Nat} {a b c d : Value} {t : TypeId} (h : w1.heap[g]? = some (.cells #[a, b, c, d] t)) : (w1.cell? ⟨g, 0, none⟩ = some a ∧ w1.cell? ⟨g, 1, none⟩ = some b ∧ w1.cell? ⟨g, 2, none⟩ = some c ∧ w1.cell? ⟨g, 3, none⟩ = some d) ∧ w1.frozen? ⟨g, 0, none⟩ = false ∧ w1.frozen? ⟨g, 1, none⟩ = false ∧ w1.frozen? ⟨g, 2, none⟩ = false ∧ w1.frozen? ⟨g, 3, none⟩ = false := by
  refine ⟨⟨?_, ?_, ?_, ?_⟩, ?_, ?_, ?_, ?_⟩ <;> simp [World.cell?, World.frozen?, h]
theorem Bx.set_same {w : World} {g i : Nat} {arr : Array Value} {t : TypeId} {v : Value} (h : w.heap[g]? = some (.cells arr t)) : (w.setCell ⟨g, i, none⟩ v).heap[g]? = some (.cells (arr.setIfInBounds i v) t) := by
  simp [World.setCell, Array.getElem?_modify, h]
theorem Bx.set_other {w : World} {g i k : Nat} {v : Value} {x : Obj} (h : w.heap[k]? = some x) (hne : g ≠ k) : (w.setCell ⟨g, i, none⟩ v).heap[k]? = some x := by
  simp [World.setCell, Array.getElem?_modify, hne, h]
set_option maxRecDepth 100000 in
set_option maxHeartbeats 1000000 in
theorem Bx.toSeen_any (k : Int) (n : ByteArray) (c : Int) (t : ByteArray) (w : World) :
    Calls Try.prog 46 #[.agg #[.int .i64 k, .string n, .int .i64 c, .string t]] w fun e w' => e = .returned (.agg #[.int .i64 k, .string n, .int .i64 c, .string t]) ∧ Below w.heap.size w w' := by
  go_enter Try.func46, Try.ntmps46
  go_wp2_with (go_at_call 61; refine (Rp.toReply_any c t _).mono ?_; rintro e w1 ⟨rfl, hb⟩; simp only [World.size_alloc] at hb; obtain ⟨hR, hO, hbw⟩ := Bx.three_blocks hb; obtain ⟨⟨p0, p1, p2, p3⟩, p4, p5, p6, p7⟩ := Bx.cell4 hO; obtain ⟨V1, hV1⟩ : ∃ V, w1.setCell ⟨w.heap.size + 1 + 1, 2, none⟩ (.int .i64 c) = V := ⟨_, rfl⟩; have hO1 : V1.heap[w.heap.size + 1 + 1]? = some (.cells #[.int .i64 k, .string n, .int .i64 c, .string ⟨#[]⟩] 81) := (by rw [← hV1]; exact Bx.set_same hO); have hR1 : V1.heap[w.heap.size + 1]? = some (.cells #[.int .i64 0, .string ⟨#[]⟩, .int .i64 0, .string ⟨#[]⟩] 81) := (by rw [← hV1]; exact Bx.set_other hR (by omega)); obtain ⟨⟨-, -, -, a3⟩, -, -, -, a7⟩ := Bx.cell4 hO1; obtain ⟨V2, hV2⟩ : ∃ V, V1.setCell ⟨w.heap.size + 1 + 1, 3, none⟩ (.string t) = V := ⟨_, rfl⟩; have hO2 : V2.heap[w.heap.size + 1 + 1]? = some (.cells #[.int .i64 k, .string n, .int .i64 c, .string t] 81) := (by rw [← hV2]; exact Bx.set_same hO1); have hR2 : V2.heap[w.heap.size + 1]? = some (.cells #[.int .i64 0, .string ⟨#[]⟩, .int .i64 0, .string ⟨#[]⟩] 81) := (by rw [← hV2]; exact Bx.set_other hR1 (by omega)); obtain ⟨⟨b0, b1, b2, b3⟩, -⟩ := Bx.cell4 hO2; obtain ⟨⟨q0, q1, q2, q3⟩, q4, q5, q6, q7⟩ := Bx.cell4 hR2; obtain ⟨V3, hV3⟩ : ∃ V, V2.setCell ⟨w.heap.size + 1, 0, none⟩ (.int .i64 k) = V := ⟨_, rfl⟩; have hR3 : V3.heap[w.heap.size + 1]? = some (.cells #[.int .i64 k, .string ⟨#[]⟩, .int .i64 0, .string ⟨#[]⟩] 81) := (by rw [← hV3]; exact Bx.set_same hR2); obtain ⟨⟨-, c1, -, -⟩, -, c5, -, -⟩ := Bx.cell4 hR3; obtain ⟨V4, hV4⟩ : ∃ V, V3.setCell ⟨w.heap.size + 1, 1, none⟩ (.string n) = V := ⟨_, rfl⟩; have hR4 : V4.heap[w.heap.size + 1]? = some (.cells #[.int .i64 k, .string n, .int .i64 0, .string ⟨#[]⟩] 81) := (by rw [← hV4]; exact Bx.set_same hR3); obtain ⟨⟨-, -, d2, -⟩, -, -, d6, -⟩ := Bx.cell4 hR4; obtain ⟨V5, hV5⟩ : ∃ V, V4.setCell ⟨w.heap.size + 1, 2, none⟩ (.int .i64 c) = V := ⟨_, rfl⟩; have hR5 : V5.heap[w.heap.size + 1]? = some (.cells #[.int .i64 k, .string n, .int .i64 c, .string ⟨#[]⟩] 81) := (by rw [← hV5]; exact Bx.set_same hR4); obtain ⟨⟨-, -, -, e3⟩, -, -, -, e7⟩ := Bx.cell4 hR5; obtain ⟨V6, hV6⟩ : ∃ V, V5.setCell ⟨w.heap.size + 1, 3, none⟩ (.string t) = V := ⟨_, rfl⟩; have hR6 : V6.heap[w.heap.size + 1]? = some (.cells #[.int .i64 k, .string n, .int .i64 c, .string t] 81) := (by rw [← hV6]; exact Bx.set_same hR5); obtain ⟨⟨f0, f1, f2, f3⟩, -⟩ := Bx.cell4 hR6; have hb6 : Below w.heap.size w V6 := (by rw [← hV6, ← hV5, ← hV4, ← hV3, ← hV2, ← hV1]; exact ((((((hbw.setCell (p := ⟨w.heap.size + 1 + 1, 2, none⟩) (by simp only; omega) _).setCell (p := ⟨w.heap.size + 1 + 1, 3, none⟩) (by simp only; omega) _).setCell (p := ⟨w.heap.size + 1, 0, none⟩) (by simp only; omega) _).setCell (p := ⟨w.heap.size + 1, 1, none⟩) (by simp only; omega) _).setCell (p := ⟨w.heap.size + 1, 2, none⟩) (by simp only; omega) _).setCell (p := ⟨w.heap.size + 1, 3, none⟩) (by simp only; omega) _)); clear hR hO hO1 hR1 hO2 hR2 hR3 hR4 hR5 hR6)
  exact bodyPost_ret (v := .agg #[.int .i64 k, .string n, .int .i64 c, .string t]) (by simp [results, Try.results46, go_sem, f0, f1, f2, f3]) rfl ⟨rfl, hb6⟩
end Go.Proofs.Ytdapajkckocmbaa
