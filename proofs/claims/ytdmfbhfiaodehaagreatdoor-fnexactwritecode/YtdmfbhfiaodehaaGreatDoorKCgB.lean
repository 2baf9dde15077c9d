import Derived.Test.YtdmfbhfiaodehaaGreatDoorKCdH
import Derived.Deep.RegionWith
namespace Go.Proofs.YtdmfbhfiaodehaaGreatDoor
open Go.RowKit

def Cd.InsOff (w : World) (v : Value) (l : List Cd.Ins) : Prop :=
  ∃ a cap, v = .slice a l.length cap ∧ ∀ i (hi : i < l.length), ∃ g o, a = some ⟨g, o, none⟩ ∧ g < w.heap.size ∧ w.cell? ⟨g, o + i * 4, none⟩ = some (.int .i64 l[i].op) ∧ w.cell? ⟨g, o + i * 4 + 1, none⟩ = some (.int .i64 l[i].a) ∧ w.cell? ⟨g, o + i * 4 + 2, none⟩ = some (.int .i64 l[i].n) ∧ w.cell? ⟨g, o + i * 4 + 3, none⟩ = some (.string l[i].text)
theorem Cd.InsOff.below {w w' : World} {v : Value} {l : List Cd.Ins} (h : Cd.InsOff w v l) (hb : Below w.heap.size w w') : Cd.InsOff w' v l := by
  obtain ⟨a, cap, rfl, hc⟩ := h
  refine ⟨a, cap, rfl, fun i hi => ?_⟩
  obtain ⟨g, o, ha, hg, h1, h2, h3, h4⟩ := hc i hi
  exact ⟨g, o, ha, Nat.lt_of_lt_of_le hg hb.size, by rw [hb.cell (p := ⟨g, o + i * 4, none⟩) hg]; exact h1, by rw [hb.cell (p := ⟨g, o + i * 4 + 1, none⟩) hg]; exact h2, by rw [hb.cell (p := ⟨g, o + i * 4 + 2, none⟩) hg]; exact h3, by rw [hb.cell (p := ⟨g, o + i * 4 + 3, none⟩) hg]; exact h4⟩
def Cd.FnsOff (w : World) (v : Value) (c : List Cd.Fn) : Prop :=
  ∃ a cap, v = .slice a c.length cap ∧ ∀ k (hk : k < c.length), ∃ g o pa pc ia ic, a = some ⟨g, o, none⟩ ∧ g < w.heap.size ∧ (w.cell? ⟨g, o + k * 5, none⟩ = some (.string c[k].name) ∧ w.cell? ⟨g, o + k * 5 + 1, none⟩ = some (.slice pa c[k].params.length pc) ∧ w.cell? ⟨g, o + k * 5 + 2, none⟩ = some (.int .i64 c[k].result) ∧ w.cell? ⟨g, o + k * 5 + 3, none⟩ = some (.int .i64 c[k].slots) ∧ w.cell? ⟨g, o + k * 5 + 4, none⟩ = some (.slice ia c[k].ins.length ic)) ∧ Cd.IntsAt w.heap.size w (.slice pa c[k].params.length pc) c[k].params ∧ Cd.InsOff w (.slice ia c[k].ins.length ic) c[k].ins
theorem Cd.FnsOff.below {w w' : World} {v : Value} {c : List Cd.Fn} (h : Cd.FnsOff w v c) (hb : Below w.heap.size w w') : Cd.FnsOff w' v c := by
  obtain ⟨a, cap, rfl, hc⟩ := h
  refine ⟨a, cap, rfl, fun i hi => ?_⟩
  obtain ⟨g, o, pa, pc, ia, ic, ha, hg, ⟨h1, h2, h3, h4, h5⟩, h6, h7⟩ := hc i hi
  exact ⟨g, o, pa, pc, ia, ic, ha, Nat.lt_of_lt_of_le hg hb.size, ⟨by rw [hb.cell (p := ⟨g, o + i * 5, none⟩) hg]; exact h1, by rw [hb.cell (p := ⟨g, o + i * 5 + 1, none⟩) hg]; exact h2, by rw [hb.cell (p := ⟨g, o + i * 5 + 2, none⟩) hg]; exact h3, by rw [hb.cell (p := ⟨g, o + i * 5 + 3, none⟩) hg]; exact h4, by rw [hb.cell (p := ⟨g, o + i * 5 + 4, none⟩) hg]; exact h5⟩, Cd.IntsAt.mono (h6.below hb) hb.size, h7.below hb⟩
theorem Cd.FnsOff.slice {w : World} {v : Value} {c : List Cd.Fn} (h : Cd.FnsOff w v c) : ∃ p k, v = .slice p c.length k := by
  obtain ⟨p, k, h, _⟩ := h; exact ⟨p, k, h⟩
def Cd.z0 (n : Nat) (l : Int) : Int := if l - (n : Int) < 0 then -1 else l - (n : Int)
def Cd.zI : List Cd.Ins → Int → Int
  | [], l => l
  | i :: r, l => if Cd.z0 i.text.size l < 0 then -1 else Cd.zI r (Cd.z0 i.text.size l)
def Cd.zIs (is : List Cd.Ins) (l : Int) : Int := if l - (is.length : Int) < 0 then -1 else Cd.zI is (l - (is.length : Int))
def Cd.zF (f : Cd.Fn) (l : Int) : Int :=
  if l - (f.name.size : Int) < 0 then -1 else if Cd.z0 f.params.length (l - (f.name.size : Int)) < 0 then -1 else Cd.zIs f.ins (Cd.z0 f.params.length (l - (f.name.size : Int)))
def Cd.zL : List Cd.Fn → Int → Int
  | [], l => l
  | f :: r, l => if Cd.zF f l < 0 then -1 else Cd.zL r (Cd.zF f l)
def Cd.zC (c : List Cd.Fn) (l : Int) : Int := if l - (c.length : Int) < 0 then -1 else Cd.zL c (l - (c.length : Int))
theorem Cd.z0_bd (n : Nat) (l : Int) : -1 ≤ Cd.z0 n l ∧ (0 ≤ Cd.z0 n l → Cd.z0 n l ≤ l ∧ (n : Int) ≤ l) := by
  unfold Cd.z0
  split <;> omega
theorem Cd.zI_bd : ∀ (is : List Cd.Ins) (l : Int), 0 ≤ l → -1 ≤ Cd.zI is l ∧ Cd.zI is l ≤ l
  | [], l, h => by rw [Cd.zI]; exact ⟨by omega, by omega⟩
  | i :: r, l, h => by
    obtain ⟨h1, h2⟩ := Cd.z0_bd i.text.size l
    rw [Cd.zI]
    split
    · exact ⟨by omega, by omega⟩
    · obtain ⟨e1, e2⟩ := h2 (by omega)
      obtain ⟨g1, g2⟩ := Cd.zI_bd r (Cd.z0 i.text.size l) (by omega)
      exact ⟨g1, by omega⟩
theorem Cd.zIs_bd (is : List Cd.Ins) (l : Int) (h : 0 ≤ l) : -1 ≤ Cd.zIs is l ∧ Cd.zIs is l ≤ l ∧ (0 ≤ Cd.zIs is l → (is.length : Int) ≤ l) := by
  unfold Cd.zIs
  split
  · exact ⟨by omega, by omega, fun h => by omega⟩
  · obtain ⟨g1, g2⟩ := Cd.zI_bd is (l - (is.length : Int)) (by omega)
    exact ⟨g1, by omega, fun hp => by omega⟩
def Cd.bdF (f : Cd.Fn) (l : Int) : Prop := (f.name.size : Int) ≤ l ∧ (f.params.length : Int) ≤ l ∧ (f.ins.length : Int) ≤ l
theorem Cd.zF_bd (f : Cd.Fn) (l : Int) (h : 0 ≤ l) : -1 ≤ Cd.zF f l ∧ Cd.zF f l ≤ l ∧ (0 ≤ Cd.zF f l → Cd.bdF f l) := by
  unfold Cd.zF Cd.bdF
  split
  · exact ⟨by omega, by omega, fun h => by omega⟩
  · obtain ⟨h1, h2⟩ := Cd.z0_bd f.params.length (l - (f.name.size : Int))
    split
    · exact ⟨by omega, by omega, fun h => by omega⟩
    · obtain ⟨e1, e2⟩ := h2 (by omega)
      obtain ⟨g1, g2, g3⟩ := Cd.zIs_bd f.ins (Cd.z0 f.params.length (l - (f.name.size : Int))) (by omega)
      exact ⟨g1, by omega, fun hp => ⟨by omega, by omega, by have := g3 hp; omega⟩⟩
theorem Cd.zL_bd : ∀ (c : List Cd.Fn) (l : Int), 0 ≤ l → -1 ≤ Cd.zL c l ∧ Cd.zL c l ≤ l ∧ (0 ≤ Cd.zL c l → ∀ f ∈ c, Cd.bdF f l)
  | [], l, h => by rw [Cd.zL]; exact ⟨by omega, by omega, fun _ d hd => by simp at hd⟩
  | f :: r, l, h => by
    obtain ⟨h1, h2, h3⟩ := Cd.zF_bd f l h
    rw [Cd.zL]
    split
    · exact ⟨by omega, by omega, fun h => by omega⟩
    · obtain ⟨g1, g2, g3⟩ := Cd.zL_bd r (Cd.zF f l) (by omega)
      refine ⟨g1, by omega, fun hp x hx => ?_⟩
      rcases List.mem_cons.1 hx with rfl | hx
      · exact h3 (by omega)
      · obtain ⟨k1, k2, k3⟩ := g3 hp x hx; exact ⟨by omega, by omega, by omega⟩
theorem Cd.zC_bd (c : List Cd.Fn) (l : Int) (h : 0 ≤ l) : -1 ≤ Cd.zC c l ∧ Cd.zC c l ≤ l ∧ (0 ≤ Cd.zC c l → (c.length : Int) ≤ l ∧ ∀ f ∈ c, Cd.bdF f l) := by
  unfold Cd.zC
  split
  · exact ⟨by omega, by omega, fun h => by omega⟩
  · obtain ⟨g1, g2, g3⟩ := Cd.zL_bd c (l - (c.length : Int)) (by omega)
    exact ⟨g1, by omega, fun hp => ⟨by omega, fun d hd => by obtain ⟨k1, k2, k3⟩ := g3 hp d hd; exact ⟨by omega, by omega, by omega⟩⟩⟩
set_option maxRecDepth 100000 in
set_option maxHeartbeats 1000000 in
theorem Cd.szIntS_any (a : Option Addr) (n cap : Nat) (l : Int) (hn : n ≤ 9223372036854775807) (h0 : 0 ≤ l) (h1 : l ≤ 1048576) (w : World) :
    Calls Tryz.prog 34 #[.slice a n cap, .int .i64 l] w fun e w' => e = .returned (.int .i64 (Cd.z0 n l)) ∧ Below w.heap.size w w' := by
  unfold Cd.z0
  by_cases h : l - (n : Int) < 0
  · rw [if_pos h]
    go_enter Tryz.func34, Tryz.ntmps34
    go_wp2
    go_ret
    exact ⟨rfl, Below.refl _ w⟩
  · rw [if_neg h]
    go_enter Tryz.func34, Tryz.ntmps34
    go_wp2
    go_ret
    exact ⟨rfl, Below.refl _ w⟩
set_option maxRecDepth 100000 in
set_option maxHeartbeats 1000000 in
theorem Cd.szIns_any (op a n : Int) (t : ByteArray) (l : Int) (hn : t.size ≤ 9223372036854775807) (h0 : 0 ≤ l) (h1 : l ≤ 1048576) (w : World) :
    Calls Tryz.prog 52 #[.agg #[.int .i64 op, .int .i64 a, .int .i64 n, .string t], .int .i64 l] w fun e w' => e = .returned (.int .i64 (Cd.z0 t.size l)) ∧ Below w.heap.size w w' := by
  unfold Cd.z0
  by_cases h : l - (t.size : Int) < 0
  · rw [if_pos h]
    go_enter Tryz.func52, Tryz.ntmps52
    go_wp2
    go_ret
    exact ⟨rfl, (Below.refl _ w).alloc (Nat.le_refl _) _⟩
  · rw [if_neg h]
    go_enter Tryz.func52, Tryz.ntmps52
    go_wp2
    go_ret
    exact ⟨rfl, (Below.refl _ w).alloc (Nat.le_refl _) _⟩
set_option maxRecDepth 100000 in
set_option maxHeartbeats 1000000 in
theorem Cd.szInsS_any (is : List Cd.Ins) (v : Value) (l : Int) (h0 : 0 ≤ l) (h1 : l ≤ 1048576) (hn : is.length ≤ 9223372036854775807) (hx : ∀ d ∈ is, d.text.size ≤ 9223372036854775807) (w : World) (hN : Cd.InsOff w v is) :
    Calls Tryz.prog 35 #[v, .int .i64 l] w fun e w' => e = .returned (.int .i64 (Cd.zIs is l)) ∧ Below w.heap.size w w' := by
  obtain ⟨a, cap, rfl, hc⟩ := hN
  obtain ⟨q0, HQ⟩ : ∃ q, Hid (Cd.zIs is l = q) := ⟨_, (rfl : Cd.zIs is l = _)⟩
  have HQ2 : Hid ((if l - (is.length : Int) < 0 then -1 else Cd.zI is (l - (is.length : Int))) = q0) := HQ
  rw [HQ.out]
  clear HQ
  obtain ⟨n, HN⟩ : ∃ n, Hid (is.length = n) := ⟨_, (rfl : is.length = _)⟩
  have HC : Hid (∀ i (hi : i < is.length), ∃ g o, a = some ⟨g, o, none⟩ ∧ g < w.heap.size ∧ w.cell? ⟨g, o + i * 4, none⟩ = some (.int .i64 is[i].op) ∧ w.cell? ⟨g, o + i * 4 + 1, none⟩ = some (.int .i64 is[i].a) ∧ w.cell? ⟨g, o + i * 4 + 2, none⟩ = some (.int .i64 is[i].n) ∧ w.cell? ⟨g, o + i * 4 + 3, none⟩ = some (.string is[i].text)) := hc
  clear hc
  rw [HN.out] at hn HQ2
  simp only [HN.out]
  by_cases hl : l - (n : Int) < 0
  · have HR : Hid (q0 = -1) := by have h := HQ2.out; rw [if_pos hl] at h; exact h.symm
    clear HQ2
    go_enter Tryz.func35, Tryz.ntmps35
    go_wp2
    go_ret
    exact ⟨Cd.ret_int HR.out.symm, Below.refl _ _⟩
  · have HR : Hid (Cd.zI is (l - (n : Int)) = q0) := by have h := HQ2.out; rw [if_neg hl] at h; exact h
    clear HQ2
    go_enter Tryz.func35, Tryz.ntmps35
    go_wp2
    go_loopw [1, 5] (fun tl tv wr => ∃ (i : Nat) (q : Int), i ≤ n ∧ tv = .int .i64 (i : Int) ∧ tl = .int .i64 q ∧ 0 ≤ q ∧ q ≤ 1048576 ∧ Cd.zI (is.drop i) q = q0 ∧ Below w.heap.size w wr) (fun _ tv _ => n - (intOf tv).toNat)
    case atStart => exact ⟨0, l - (n : Int), by omega, rfl, rfl, by omega, by omega, HR.out, Below.refl _ _⟩
    case round =>
      obtain ⟨i, q, hi, rfl, rfl, hq0, hq1, hu, hbw⟩ := hrel
      have hz := hbw.size
      by_cases hlt : i < n
      · have hil : i < is.length := by rw [HN.out]; exact hlt
        obtain ⟨g, o, rfl, hg, hcell, hcell2, hcell3, hcell4⟩ := HC.out i hil
        rw [List.drop_eq_getElem_cons hil, Cd.zI] at hu
        have hxa := hx is[i] (List.getElem_mem hil)
        have hb1 := (Cd.z0_bd is[i].text.size q)
        have e1 : wr.cell? ⟨g, o + i * 4, none⟩ = some (.int .i64 is[i].op) := by rw [hbw.cell (p := ⟨g, o + i * 4, none⟩) hg, hcell]
        have e2 : wr.cell? ⟨g, o + i * 4 + 1, none⟩ = some (.int .i64 is[i].a) := by rw [hbw.cell (p := ⟨g, o + i * 4 + 1, none⟩) hg, hcell2]
        have e3 : wr.cell? ⟨g, o + i * 4 + 2, none⟩ = some (.int .i64 is[i].n) := by rw [hbw.cell (p := ⟨g, o + i * 4 + 2, none⟩) hg, hcell3]
        have e4 : wr.cell? ⟨g, o + i * 4 + 3, none⟩ = some (.string is[i].text) := by rw [hbw.cell (p := ⟨g, o + i * 4 + 3, none⟩) hg, hcell4]
        generalize is[i] = d at *
        obtain ⟨dop, da, dn, dt⟩ := d
        simp only at e1 e2 e3 e4 hxa hu hb1
        clear hcell hcell2 hcell3 hcell4 HC HR
        obtain ⟨s, HS⟩ : ∃ s, Hid (Cd.z0 dt.size q = s) := ⟨_, (rfl : Cd.z0 dt.size q = _)⟩
        rw [HS.out] at hu hb1
        obtain ⟨hb0, hb1⟩ := hb1
        by_cases hlq : s < 0
        · have HU : Hid (q0 = -1) := by rw [if_pos hlq] at hu; exact hu.symm
          clear hu hb1
          go_wp2_with (go_at_call 52; (refine (Cd.szIns_any dop da dn dt q hxa hq0 hq1 _).mono ?_; rintro e w1 ⟨rfl, hb1⟩; rw [HS.out]))
          go_ret
          exact ⟨Cd.ret_int HU.out.symm, hbw.trans (hb1.mono hz)⟩
        · have HU : Hid (Cd.zI (is.drop (i + 1)) s = q0) := by rw [if_neg hlq] at hu; exact hu
          obtain ⟨hs1, _⟩ := hb1 (by omega)
          clear hu hb1
          go_wp2_with (go_at_call 52; (refine (Cd.szIns_any dop da dn dt q hxa hq0 hq1 _).mono ?_; rintro e w1 ⟨rfl, hb1⟩; rw [HS.out]))
          go_roundw
          case rel => exact ⟨i + 1, s, by omega, by go_num, rfl, by omega, by omega, HU.out, hbw.trans (hb1.mono hz)⟩
          case measure => simp [intOf]; omega
      · have HU : Hid (q0 = q) := by rw [List.drop_of_length_le (by rw [HN.out]; omega)] at hu; exact hu.symm
        clear hu HC HR
        go_wp2
        go_ret
        exact ⟨Cd.ret_int HU.out.symm, hbw⟩
end Go.Proofs.YtdmfbhfiaodehaaGreatDoor
namespace Go.Proofs.YtdmfbhfiaodehaaGreatDoor
open Go.RowKit

set_option maxRecDepth 100000 in
set_option maxHeartbeats 1000000 in
theorem Cd.szFn_any (f : Cd.Fn) (pa : Option Addr) (pc : Nat) (ia : Option Addr) (ic : Nat) (l : Int) (h0 : 0 ≤ l) (h1 : l ≤ 1048576) (hn : f.name.size ≤ 9223372036854775807) (hp : f.params.length ≤ 9223372036854775807) (hi : f.ins.length ≤ 9223372036854775807) (hx : ∀ d ∈ f.ins, d.text.size ≤ 9223372036854775807) (w : World) (hN : Cd.InsOff w (.slice ia f.ins.length ic) f.ins) :
    Calls Tryz.prog 20 #[.agg #[.string f.name, .slice pa f.params.length pc, .int .i64 f.result, .int .i64 f.slots, .slice ia f.ins.length ic], .int .i64 l] w fun e w' => e = .returned (.int .i64 (Cd.zF f l)) ∧ Below w.heap.size w w' := by
  obtain ⟨Y1, hY1⟩ : ∃ Y, w.alloc (.cells #[.string f.name, .slice pa f.params.length pc, .int .i64 f.result, .int .i64 f.slots, .slice ia f.ins.length ic] 61) = Y := ⟨_, rfl⟩
  have hb1 : Below w.heap.size w Y1 := by rw [← hY1]; exact Cd.b1 w _
  have hs1 : Y1.heap.size = w.heap.size + 1 := by rw [← hY1]; exact World.size_alloc _ _
  have p1 : Y1.heap[w.heap.size]? = some (.cells #[.string f.name, .slice pa f.params.length pc, .int .i64 f.result, .int .i64 f.slots, .slice ia f.ins.length ic] 61) := by rw [← hY1]; exact Cd.new_at w _
  have c0 : Y1.cell? ⟨w.heap.size, 0, none⟩ = some (.string f.name) := by rw [Lib.cell_of_heap p1]; rfl
  have c1 : Y1.cell? ⟨w.heap.size, 1, none⟩ = some (.slice pa f.params.length pc) := by rw [Lib.cell_of_heap p1]; rfl
  have c4 : Y1.cell? ⟨w.heap.size, 4, none⟩ = some (.slice ia f.ins.length ic) := by rw [Lib.cell_of_heap p1]; rfl
  have HK : Hid (∀ U, Below Y1.heap.size Y1 U → U.cell? ⟨w.heap.size, 4, none⟩ = some (.slice ia f.ins.length ic) ∧ Cd.InsOff U (.slice ia f.ins.length ic) f.ins ∧ Below w.heap.size w U) := fun U hU => ⟨(hU.cell (p := ⟨w.heap.size, 4, none⟩) (by show w.heap.size < _; omega)).trans c4, (hN.below hb1).below hU, hb1.trans (hU.mono hb1.size)⟩
  clear hN p1
  unfold Cd.zF
  by_cases hl : l - (f.name.size : Int) < 0
  · rw [if_pos hl]
    go_enter Tryz.func20, Tryz.ntmps20
    go_wp2
    go_ret
    exact ⟨rfl, hb1⟩
  · rw [if_neg hl]
    have HZ : Hid (∀ U, Calls Tryz.prog 34 #[.slice pa f.params.length pc, .int .i64 (l - (f.name.size : Int))] U fun e w' => e = .returned (.int .i64 (Cd.z0 f.params.length (l - (f.name.size : Int)))) ∧ Below U.heap.size U w') := fun U => Cd.szIntS_any pa f.params.length pc (l - (f.name.size : Int)) hp (by omega) (by omega) U
    have hb := Cd.z0_bd f.params.length (l - (f.name.size : Int))
    obtain ⟨q, HQ⟩ : ∃ q, Hid (Cd.z0 f.params.length (l - (f.name.size : Int)) = q) := ⟨_, (rfl : Cd.z0 f.params.length (l - (f.name.size : Int)) = _)⟩
    rw [HQ.out] at HZ hb ⊢
    by_cases hq : q < 0
    · have HR : Hid (-1 = q) := (by omega : -1 = q)
      rw [if_pos hq]
      clear hb
      go_enter Tryz.func20, Tryz.ntmps20
      go_wp2_with (first | (go_at_call 34; refine (HZ.out _).mono ?_; rintro e w2 ⟨rfl, hb2⟩; obtain ⟨d4, hI2, hbw2⟩ := HK.out w2 hb2))
      go_ret
      exact ⟨rfl, hbw2⟩
    · rw [if_neg hq]
      obtain ⟨-, hb⟩ := hb
      obtain ⟨hb3, -⟩ := hb (by omega)
      have HS : Hid (∀ U, Cd.InsOff U (.slice ia f.ins.length ic) f.ins → Calls Tryz.prog 35 #[.slice ia f.ins.length ic, .int .i64 q] U fun e w' => e = .returned (.int .i64 (Cd.zIs f.ins q)) ∧ Below U.heap.size U w') := fun U h => Cd.szInsS_any f.ins _ q (by omega) (by omega) hi hx U h
      obtain ⟨hz1, hz2, -⟩ := Cd.zIs_bd f.ins q (by omega)
      obtain ⟨r, HR⟩ : ∃ r, Hid (Cd.zIs f.ins q = r) := ⟨_, (rfl : Cd.zIs f.ins q = _)⟩
      rw [HR.out] at HS hz1 hz2 ⊢
      by_cases hr : r < 0
      · have HR1 : Hid (-1 = r) := (by omega : -1 = r)
        go_enter Tryz.func20, Tryz.ntmps20
        go_wp2_with (first | (go_at_call 34; refine (HZ.out _).mono ?_; rintro e w2 ⟨rfl, hb2⟩; obtain ⟨d4, hI2, hbw2⟩ := HK.out w2 hb2) | (go_at_call 35; refine (HS.out _ hI2).mono ?_; rintro e w3 ⟨rfl, hb3⟩))
        go_ret
        exact ⟨Cd.ret_int HR1.out, hbw2.trans (hb3.mono hbw2.size)⟩
      · go_enter Tryz.func20, Tryz.ntmps20
        go_wp2_with (first | (go_at_call 34; refine (HZ.out _).mono ?_; rintro e w2 ⟨rfl, hb2⟩; obtain ⟨d4, hI2, hbw2⟩ := HK.out w2 hb2) | (go_at_call 35; refine (HS.out _ hI2).mono ?_; rintro e w3 ⟨rfl, hb3⟩))
        go_ret
        exact ⟨rfl, hbw2.trans (hb3.mono hbw2.size)⟩
def Cd.far (f : Cd.Fn) : Prop := f.name.size ≤ 9223372036854775807 ∧ f.params.length ≤ 9223372036854775807 ∧ f.ins.length ≤ 9223372036854775807 ∧ ∀ d ∈ f.ins, d.text.size ≤ 9223372036854775807
set_option maxRecDepth 100000 in
set_option maxHeartbeats 1000000 in
theorem Cd.szFnS_any (c : List Cd.Fn) (v : Value) (l : Int) (h0 : 0 ≤ l) (h1 : l ≤ 1048576) (hn : c.length ≤ 9223372036854775807) (hx : ∀ f ∈ c, Cd.far f) (w : World) (hN : Cd.FnsOff w v c) :
    Calls Tryz.prog 9 #[v, .int .i64 l] w fun e w' => e = .returned (.int .i64 (Cd.zC c l)) ∧ Below w.heap.size w w' := by
  have HN0 : Hid (Cd.FnsOff w v c) := hN
  obtain ⟨a, cap, hv⟩ := hN.slice
  subst hv
  clear hN
  obtain ⟨q0, HQ⟩ : ∃ q, Hid (Cd.zC c l = q) := ⟨_, (rfl : Cd.zC c l = _)⟩
  have HQ2 : Hid ((if l - (c.length : Int) < 0 then -1 else Cd.zL c (l - (c.length : Int))) = q0) := HQ
  rw [HQ.out]
  clear HQ
  by_cases hl : l - (c.length : Int) < 0
  · have HR : Hid (q0 = -1) := by have h := HQ2.out; rw [if_pos hl] at h; exact h.symm
    clear HQ2
    go_enter Tryz.func9, Tryz.ntmps9
    go_wp2
    go_ret
    exact ⟨Cd.ret_int HR.out.symm, Below.refl _ _⟩
  · have HR : Hid (Cd.zL c (l - (c.length : Int)) = q0) := by have h := HQ2.out; rw [if_neg hl] at h; exact h
    clear HQ2
    go_enter Tryz.func9, Tryz.ntmps9
    go_wp2
    go_loopw [1, 5] (fun tl tv wr => ∃ (i : Nat) (q : Int), i ≤ c.length ∧ tv = .int .i64 (i : Int) ∧ tl = .int .i64 q ∧ 0 ≤ q ∧ q ≤ 1048576 ∧ Hid (Cd.zL (c.drop i) q = q0) ∧ Below w.heap.size w wr) (fun _ tv _ => c.length - (intOf tv).toNat)
    case atStart => exact ⟨0, l - (c.length : Int), by omega, rfl, rfl, by omega, by omega, HR.out, Below.refl _ _⟩
    case round =>
      obtain ⟨i, q, hi, rfl, rfl, hq0, hq1, HU0, hbw⟩ := hrel
      have hz := hbw.size
      by_cases hlt : i < c.length
      · have hltI : (i : Int) < (c.length : Int) := by omega
        obtain ⟨g, o, pa, pc, ia, ic, hae, hg, e0, e1, e2, e3, e4, HI⟩ : ∃ g o pa pc ia ic, a = some ⟨g, o, none⟩ ∧ g < w.heap.size ∧ wr.cell? ⟨g, o + i * 5, none⟩ = some (.string c[i].name) ∧ wr.cell? ⟨g, o + i * 5 + 1, none⟩ = some (.slice pa c[i].params.length pc) ∧ wr.cell? ⟨g, o + i * 5 + 2, none⟩ = some (.int .i64 c[i].result) ∧ wr.cell? ⟨g, o + i * 5 + 3, none⟩ = some (.int .i64 c[i].slots) ∧ wr.cell? ⟨g, o + i * 5 + 4, none⟩ = some (.slice ia c[i].ins.length ic) ∧ Hid (Cd.InsOff wr (.slice ia c[i].ins.length ic) c[i].ins) := by
          obtain ⟨a', cap', e, h⟩ := HN0.out
          injection e with e
          subst e
          obtain ⟨g, o, pa, pc, ia, ic, ha, hg, ⟨h1, h2, h3, h4, h5⟩, h6, h7⟩ := h i hlt
          exact ⟨g, o, pa, pc, ia, ic, ha, hg, by rw [hbw.cell (p := ⟨g, o + i * 5, none⟩) hg]; exact h1, by rw [hbw.cell (p := ⟨g, o + i * 5 + 1, none⟩) hg]; exact h2, by rw [hbw.cell (p := ⟨g, o + i * 5 + 2, none⟩) hg]; exact h3, by rw [hbw.cell (p := ⟨g, o + i * 5 + 3, none⟩) hg]; exact h4, by rw [hbw.cell (p := ⟨g, o + i * 5 + 4, none⟩) hg]; exact h5, h7.below hbw⟩
        subst hae
        obtain ⟨x1, x2, x3, x4⟩ := hx c[i] (List.getElem_mem hlt)
        have HZ : Hid (Calls Tryz.prog 20 #[.agg #[.string c[i].name, .slice pa c[i].params.length pc, .int .i64 c[i].result, .int .i64 c[i].slots, .slice ia c[i].ins.length ic], .int .i64 q] wr fun e w' => e = .returned (.int .i64 (Cd.zF c[i] q)) ∧ Below wr.heap.size wr w') := Cd.szFn_any c[i] pa pc ia ic q hq0 hq1 x1 x2 x3 x4 wr HI.out
        have hu := HU0.out
        rw [List.drop_eq_getElem_cons hlt, Cd.zL] at hu
        obtain ⟨hb0, hb1, -⟩ := Cd.zF_bd c[i] q hq0
        obtain ⟨s, HS⟩ : ∃ s, Hid (Cd.zF c[i] q = s) := ⟨_, (rfl : Cd.zF c[i] q = _)⟩
        rw [HS.out] at hu hb0 hb1 HZ
        clear x1 x2 x3 x4
        by_cases hlq : s < 0
        · have HU : Hid (q0 = -1) := by rw [if_pos hlq] at hu; exact hu.symm
          clear hu
          go_wp2_with (first | (go_at_call 20; (refine HZ.out.mono ?_; rintro e w1 ⟨rfl, hb1⟩)))
          go_ret
          exact ⟨Cd.ret_int HU.out.symm, hbw.trans (hb1.mono hz)⟩
        · have HU : Hid (Cd.zL (c.drop (i + 1)) s = q0) := by rw [if_neg hlq] at hu; exact hu
          clear hu
          go_wp2_with (first | (go_at_call 20; (refine HZ.out.mono ?_; rintro e w1 ⟨rfl, hb1⟩)))
          go_roundw
          case rel => exact ⟨i + 1, s, by omega, by go_num, rfl, by omega, by omega, HU, hbw.trans (hb1.mono hz)⟩
          case measure => simp [intOf]; omega
      · have hltI : ¬ (i : Int) < (c.length : Int) := by omega
        have HU : Hid (q0 = q) := by have hu := HU0.out; rw [List.drop_of_length_le (by omega)] at hu; exact hu.symm
        go_wp2
        go_ret
        exact ⟨Cd.ret_int HU.out.symm, hbw⟩
set_option maxRecDepth 100000 in
set_option maxHeartbeats 1000000 in
theorem Cd.szCode_any (c : List Cd.Fn) (a : Option Addr) (cap : Nat) (l : Int) (h0 : 0 ≤ l) (h1 : l ≤ 1048576) (hn : c.length ≤ 9223372036854775807) (hx : ∀ f ∈ c, Cd.far f) (w : World) (hN : Cd.FnsOff w (.slice a c.length cap) c) :
    Calls Tryz.prog 4 #[.agg #[.slice a c.length cap], .int .i64 l] w fun e w' => e = .returned (.int .i64 (Cd.zC c l)) ∧ Below w.heap.size w w' := by
  obtain ⟨hb1, hb2, -⟩ := Cd.zC_bd c l h0
  obtain ⟨q, HQ⟩ : ∃ q, Hid (Cd.zC c l = q) := ⟨_, (rfl : Cd.zC c l = _)⟩
  rw [HQ.out] at hb1 hb2 ⊢
  have HZ : Hid (∀ o, Calls Tryz.prog 9 #[.slice a c.length cap, .int .i64 l] (w.alloc o) fun e w' => e = .returned (.int .i64 q) ∧ Below w.heap.size w w') := fun o => by
    have hb := Cd.b1 w o
    have h := Cd.szFnS_any c _ l h0 h1 hn hx (w.alloc o) (hN.below hb)
    rw [HQ.out] at h
    exact h.mono (fun e w' h => ⟨h.1, hb.trans (h.2.mono hb.size)⟩)
  clear hN hx
  by_cases hq : q < 0
  · have hq1 : Hid (-1 = q) := (by omega : -1 = q)
    go_enter Tryz.func4, Tryz.ntmps4
    go_wp2_with (first | (go_at_call 9; (refine (HZ.out _).mono ?_; rintro e w1 ⟨rfl, hb⟩)))
    go_ret
    exact ⟨Cd.ret_int hq1.out, hb⟩
  · go_enter Tryz.func4, Tryz.ntmps4
    go_wp2_with (first | (go_at_call 9; (refine (HZ.out _).mono ?_; rintro e w1 ⟨rfl, hb⟩)))
    go_ret
    exact ⟨rfl, hb⟩
end Go.Proofs.YtdmfbhfiaodehaaGreatDoor
