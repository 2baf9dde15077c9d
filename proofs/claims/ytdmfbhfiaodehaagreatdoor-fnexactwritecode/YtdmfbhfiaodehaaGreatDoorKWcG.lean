import Derived.Test.YtdmfbhfiaodehaaGreatDoorKWcB
import Derived.Test.YtdmfbhfiaodehaaGreatDoorKCdYA
import Derived.Test.YtdmfbhfiaodehaaGreatDoorKWcE
import Derived.Test.YtdmfbhfiaodehaaGreatDoorKCfYr
namespace Go.Proofs.YtdmfbhfiaodehaaGreatDoor
open Go.RowKit

theorem Cd.Sound.fit {c : List Cd.Fn} (h : Cd.Sound c) (hn : ∀ f ∈ c, f.name.size ≤ 1048576) : Wc.Fit c := by
  refine ⟨h.len, hn, h.pl, fun f hf => ?_, fun f hf i hi h1 h2 => ?_⟩
  · obtain ⟨k, hk, rfl⟩ := List.getElem_of_mem hf
    exact (Cd.fnOk_bd (h.fns k hk)).2.2.1
  · obtain ⟨k, hk, rfl⟩ := List.getElem_of_mem hf
    obtain ⟨j, hj, rfl⟩ := List.getElem_of_mem hi
    have h3 := h.ins k hk j hj
    unfold Cd.insOk at h3
    by_cases hc : Cd.inR c[k].ins[j].op 1 16 = false ∨ (Cd.hasA c[k].ins[j].op = false ∧ c[k].ins[j].a ≠ 0)
    · rw [if_pos hc] at h3; exact absurd h3 (by decide)
    · rw [if_neg hc, if_pos h1] at h3
      unfold Val.valid at h3
      rw [if_neg (by show ¬ c[k].ins[j].a = 1; omega), if_pos (by exact h2), Bool.and_eq_true, decide_eq_true_eq, decide_eq_true_eq] at h3
      have := h3.2
      simp only at this
      omega
theorem Cd.Sound.ops {c : List Cd.Fn} (h : Cd.Sound c) : ∀ f ∈ c, ∀ i ∈ f.ins, 1 ≤ i.op ∧ i.op ≤ 16 := fun f hf i hi => by
  obtain ⟨k, hk, rfl⟩ := List.getElem_of_mem hf
  obtain ⟨j, hj, rfl⟩ := List.getElem_of_mem hi
  have h3 := h.ins k hk j hj
  unfold Cd.insOk at h3
  by_cases hc : Cd.inR c[k].ins[j].op 1 16 = false ∨ (Cd.hasA c[k].ins[j].op = false ∧ c[k].ins[j].a ≠ 0)
  · rw [if_pos hc] at h3; exact absurd h3 (by decide)
  · have h5 : Cd.inR c[k].ins[j].op 1 16 = true := by
      cases hx : Cd.inR c[k].ins[j].op 1 16 with
      | true => rfl
      | false => exact absurd (.inl hx) hc
    unfold Cd.inR at h5
    rw [Bool.and_eq_true, decide_eq_true_eq, decide_eq_true_eq] at h5
    exact h5
theorem Cd.Answer.sound {c : List Cd.Fn} {r : Int × Int × Int} (h : Cd.Answer c r) (hr : r.1 = 0) : Cd.Sound c := by
  by_cases hp : (Cd.plain c).1 = 0
  · exact Cd.plain_sound hp
  · unfold Cd.Answer at h
    rw [if_pos hp] at h
    rw [h] at hr
    exact absurd hr hp
def Wc.out (c : List Cd.Fn) (r : Int × Int × Int) : ByteArray := if r.1 = 0 ∧ (Wc.form c).length ≤ 200000 then ⟨(Wc.form c).toArray⟩ else ⟨#[]⟩
def Wc.WrPost (c : List Cd.Fn) (w : World) (e : Ending) (w' : World) : Prop := (∃ r, e = .returned (.string (Wc.out c r)) ∧ Cd.Answer c r) ∧ Below w.heap.size w w'
theorem Wc.out_long {c : List Cd.Fn} {r : Int × Int × Int} (h : 200000 < (Wc.form c).length) : Wc.out c r = ⟨#[]⟩ := by unfold Wc.out; rw [if_neg (by omega)]
theorem Wc.out_wrong {c : List Cd.Fn} {r : Int × Int × Int} (h : r.1 ≠ 0) : Wc.out c r = ⟨#[]⟩ := by unfold Wc.out; rw [if_neg (fun x => h x.1)]
theorem Wc.out_fine {c : List Cd.Fn} {r : Int × Int × Int} (h : r.1 = 0) (hl : (Wc.form c).length ≤ 200000) : Wc.out c r = ⟨(Wc.form c).toArray⟩ := by unfold Wc.out; rw [if_pos ⟨h, hl⟩]
theorem Wc.eq_zero (r : Int) (h : r ≠ 0) : (r == 0) = false := by simp [h]
set_option maxRecDepth 100000 in
set_option maxHeartbeats 2000000 in
theorem Wc.ok_any (c : List Cd.Fn) (ca : Option Addr) (cc : Nat) (hcl : c.length ≤ 1048576) (hpl : ∀ k (hk : k < c.length), c[k].params.length ≤ 1048576 ∧ c[k].ins.length ≤ 1048576) (w : World) (hC : Cd.CodeAt w.heap.size w (.slice ca c.length cc) c) :
    Calls Tryz.prog 10 #[.agg #[.slice ca c.length cc]] w fun e w' => (∃ r, e = .returned (.bool (decide (r.1 = 0))) ∧ Cd.Answer c r) ∧ Below w.heap.size w w' := by
  have HS : Hid (∀ o : Obj, Calls Tryz.prog 21 #[.agg #[.slice ca c.length cc]] (w.alloc o) (Cd.CheckPost c (w.alloc o))) := fun o => Cd.specCheck_any c ca cc hcl hpl (w.alloc o) (Cd.CodeAt.mono (hC.below (Wc.b1 w o)) (by simp))
  clear hC hpl
  go_enter Tryz.func10, Tryz.ntmps10
  go_wp2_with (first | (go_at_call 21; refine (HS.out _).mono ?_; rintro e w1 ⟨⟨⟨r0, r1, r2⟩, rfl, hans⟩, hb1⟩; unfold Cd.trip; simp only; have HA : Hid (Cd.Answer c (r0, r1, r2)) := hans; clear hans))
  go_ret
  refine ⟨⟨(r0, r1, r2), ?_, HA.out⟩, (Wc.b1 w _).trans (hb1.mono (by simp))⟩
  by_cases h : r0 = 0
  · subst h; rfl
  · simp [h]
set_option maxRecDepth 100000 in
set_option maxHeartbeats 2000000 in
theorem Wc.specWrite_any (c : List Cd.Fn) (ca : Option Addr) (cc : Nat) (hcl : c.length ≤ 1048576) (hpl : ∀ k (hk : k < c.length), c[k].params.length ≤ 1048576 ∧ c[k].ins.length ≤ 1048576 ∧ c[k].name.size ≤ 1048576) (w : World) (hC : Cd.CodeAt w.heap.size w (.slice ca c.length cc) c) :
    Calls Tryz.prog 5 #[.agg #[.slice ca c.length cc]] w (Wc.WrPost c w) := by
  obtain ⟨Y1, hY1⟩ : ∃ Y, w.alloc (.cells #[.slice ca c.length cc] 29) = Y := ⟨_, rfl⟩
  have hb1 : Below w.heap.size w Y1 := by rw [← hY1]; exact Wc.b1 w _
  have hs1 : Y1.heap.size = w.heap.size + 1 := by rw [← hY1]; exact World.size_alloc _ _
  have p1 : Y1.heap[w.heap.size]? = some (.cells #[.slice ca c.length cc] 29) := by rw [← hY1]; exact (MapKept.heap_alloc w _).1
  have c0 : Y1.cell? ⟨w.heap.size, 0, none⟩ = some (.slice ca c.length cc) := by rw [Lib.cell_of_heap p1]; rfl
  have HK : Hid (∀ U, Below Y1.heap.size Y1 U → U.cell? ⟨w.heap.size, 0, none⟩ = some (.slice ca c.length cc) ∧ Below w.heap.size w U) := fun U hU => ⟨(hU.cell (p := ⟨w.heap.size, 0, none⟩) (by show w.heap.size < _; omega)).trans c0, hb1.trans (hU.mono hb1.size)⟩
  have HOK : Hid (Calls Tryz.prog 10 #[.agg #[.slice ca c.length cc]] Y1 fun e w' => (∃ r, e = .returned (.bool (decide (r.1 = 0))) ∧ Cd.Answer c r) ∧ Below Y1.heap.size Y1 w') := Wc.ok_any c ca cc hcl (fun k hk => ⟨(hpl k hk).1, (hpl k hk).2.1⟩) Y1 (Cd.CodeAt.mono (hC.below hb1) hb1.size)
  have HFO : Hid (∀ U, Cd.Sound c → Below w.heap.size w U → Calls Tryz.prog 11 #[.agg #[.slice ca c.length cc]] U fun e w' => ∃ v, e = .returned v ∧ Wc.At U.heap.size w' v (Wc.form c) ∧ Below U.heap.size U w') := fun U hS hU => Wc.form_any c (hS.fit (fun f hf => by obtain ⟨k, hk, rfl⟩ := List.getElem_of_mem hf; exact (hpl k hk).2.2)) ca cc U (Cd.CodeAt.mono (hC.below hU) hU.size)
  clear hC hpl p1
  go_enter Tryz.func5, Tryz.ntmps5
  go_wp2_with (first | (go_at_call 10; refine HOK.out.mono ?_; rintro e w1 ⟨⟨⟨r0, r1, r2⟩, rfl, hans⟩, hb2⟩; have HA : Hid (Cd.Answer c (r0, r1, r2)) := hans; clear hans; obtain ⟨d0, hw1⟩ := HK.out w1 hb2))
  · have hz : r0 ≠ 0 := by simpa using ‹(!decide (r0 = 0)) = true›
    go_ret
    exact ⟨⟨(r0, r1, r2), by rw [Wc.out_wrong hz]; rfl, HA.out⟩, hw1⟩
  · have hz : r0 = 0 := by simpa using ‹(!decide (r0 = 0)) = false›
    refine (HFO.out w1 (HA.out.sound hz) hw1).mono ?_
    rintro e w2 ⟨v2, rfl, ho2, hb3⟩
    obtain ⟨a2, c2, hv2⟩ := ho2.form
    subst hv2
    have hcv := Mill.conv_own (P := Tryz.prog) (src := 35) (dst := 9) Tryz.underlying35 Tryz.underlying5 Tryz.underlying9 ho2
    have HB : Hid (Below w.heap.size w w2) := hw1.trans (hb3.mono hw1.size)
    have HOL : Hid (200000 < (Wc.form c).length → Wc.out c (r0, r1, r2) = ⟨#[]⟩) := fun h => Wc.out_long h
    have HOF : Hid ((Wc.form c).length ≤ 200000 → Wc.out c (r0, r1, r2) = ⟨(Wc.form c).toArray⟩) := fun h => Wc.out_fine hz h
    clear ho2 hb3 HFO HOK HK d0 hz
    obtain ⟨n, HN⟩ : ∃ n, Hid ((Wc.form c).length = n) := ⟨_, (rfl : (Wc.form c).length = _)⟩
    obtain ⟨b, HBB⟩ : ∃ b, Hid ((⟨(Wc.form c).toArray⟩ : ByteArray) = b) := ⟨_, (rfl : (⟨(Wc.form c).toArray⟩ : ByteArray) = _)⟩
    rw [HBB.out] at hcv HOF
    rw [HN.out] at hcv HOL HOF ⊢
    by_cases hlong : 200000 < n
    · have hI : (200000 : Int) < (n : Int) := by omega
      go_wp2_with fail
      go_ret
      exact ⟨⟨(r0, r1, r2), by rw [HOL.out hlong]; rfl, HA.out⟩, HB.out⟩
    · have hI : ¬ (200000 : Int) < (n : Int) := by omega
      go_wp2_with fail
      go_ret
      exact ⟨⟨(r0, r1, r2), by rw [HOF.out (by omega)]; rfl, HA.out⟩, HB.out⟩
end Go.Proofs.YtdmfbhfiaodehaaGreatDoor
namespace Go.Proofs.YtdmfbhfiaodehaaGreatDoor
open Go.RowKit

theorem Wc.fresh (w : World) : Wc.Has w.heap.size [] (w.alloc (.cells #[.pointer none, .slice none 0 0] 44)) := Lib.IsBuilderF.of (Lib.fresh_isBuilder 44 5 w)
set_option maxRecDepth 100000 in
set_option maxHeartbeats 4000000 in
theorem Wc.implWrite_any (c : List Cd.Fn) (ca : Option Addr) (cc : Nat) (hcl : c.length ≤ 1048576) (hcap : c.length ≤ cc) (hpl : ∀ k (hk : k < c.length), c[k].params.length ≤ 1048576 ∧ c[k].ins.length ≤ 1048576 ∧ c[k].name.size ≤ 1048576) (hN : ∀ k (hk : k < c.length) i (hi : i < c[k].ins.length), -9223372036854775808 ≤ c[k].ins[i].n ∧ c[k].ins[i].n ≤ 9223372036854775807) (w : World) (hC : Cd.CodeAt w.heap.size w (.slice ca c.length cc) c) (hT : Cd.InsTab w) (hW : Cd.WordTab w) :
    Calls Tryz.prog 7 #[.agg #[.slice ca c.length cc]] w (Wc.WrPost c w) := by
  obtain ⟨Y1, hY1⟩ : ∃ Y, w.alloc (.cells #[.slice ca c.length cc] 29) = Y := ⟨_, rfl⟩
  have hb1 : Below w.heap.size w Y1 := by rw [← hY1]; exact Wc.b1 w _
  have hs1 : Y1.heap.size = w.heap.size + 1 := by rw [← hY1]; exact World.size_alloc _ _
  have p1 : Y1.heap[w.heap.size]? = some (.cells #[.slice ca c.length cc] 29) := by rw [← hY1]; exact (MapKept.heap_alloc w _).1
  have c0 : Y1.cell? ⟨w.heap.size, 0, none⟩ = some (.slice ca c.length cc) := by rw [Lib.cell_of_heap p1]; rfl
  have HP1 : Hid (Y1.heap[w.heap.size]? = some (.cells #[.slice ca c.length cc] 29)) := p1
  have HCK : Hid (Calls Tryz.prog 13 #[.agg #[.slice ca c.length cc]] Y1 (Cd.CheckPost c Y1)) := Cd.implCheck_any c ca cc hcl hcap hpl hN Y1 (Cd.CodeAt.mono (hC.below hb1) hb1.size) (hT.below hb1) (hW.below hb1)
  have HCO : Hid (Cd.CodeAt w.heap.size w (.slice ca c.length cc) c) := hC
  have HTB : Hid (Cd.InsTab w) := hT
  have HNM : Hid (∀ f ∈ c, f.name.size ≤ 1048576) := fun f hf => by obtain ⟨k, hk, rfl⟩ := List.getElem_of_mem hf; exact (hpl k hk).2.2
  clear hC hpl hN hT hW p1
  go_enter Tryz.func7, Tryz.ntmps7
  go_wp2_with (first | (go_at_call 13; refine HCK.out.mono ?_; rintro e w1 ⟨⟨⟨r0, r1, r2⟩, rfl, hans⟩, hb2⟩; unfold Cd.trip; simp only; have HA : Hid (Cd.Answer c (r0, r1, r2)) := hans; clear hans))
  · have hz : r0 ≠ 0 := by simpa using ‹(r0 != 0) = true›
    go_ret
    exact ⟨⟨(r0, r1, r2), by rw [Wc.out_wrong hz]; rfl, HA.out⟩, hb1.trans (hb2.mono hb1.size)⟩
  · have hz : r0 = 0 := by simpa using ‹(r0 != 0) = false›
    have HSO : Hid (Cd.Sound c) := HA.out.sound hz
    have HFT : Hid (Wc.Fit c) := HSO.out.fit HNM.out
    have hlen := HFT.out.len
    have HOL : Hid (200000 < (Wc.form c).length → Wc.out c (r0, r1, r2) = ⟨#[]⟩) := fun h => Wc.out_long h
    have HOF : Hid ((Wc.form c).length ≤ 200000 → Wc.out c (r0, r1, r2) = ⟨(Wc.form c).toArray⟩) := fun h => Wc.out_fine hz h
    obtain ⟨Z, hZ⟩ : ∃ Z, w1.alloc (.cells #[.pointer none, .slice none 0 0] 44) = Z := ⟨_, rfl⟩
    rw [hZ]
    have HHZ : Hid (Wc.Has w1.heap.size [] Z) := by rw [Hid, ← hZ]; exact Wc.fresh w1
    have hbZ : Below w1.heap.size w1 Z := by rw [← hZ]; exact Wc.b1 w1 _
    have hwz : w.heap.size < w1.heap.size := by have := hb2.size; omega
    have HKZ : Hid (∀ U, Wc.Fr w1.heap.size Z U → U.cell? ⟨w.heap.size, 0, none⟩ = some (.slice ca c.length cc) ∧ Below w.heap.size w U) := fun U hU => by
      have h := hbZ.trans hU.1
      have hp := (h.block _ hwz).trans ((hb2.block _ (by omega)).trans HP1.out)
      exact ⟨by rw [Lib.cell_of_heap hp]; rfl, (hb1.trans (hb2.mono hb1.size)).trans (h.mono (by omega))⟩
    have HTG : Hid (0 < w1.heap.size) := Nat.lt_trans HTB.out.lt hwz
    have HTU : Hid (∀ U, Below w.heap.size w U → Cd.InsTab U) := fun U hU => HTB.out.below hU
    have HCU : Hid (∀ U, Below w.heap.size w U → Cd.CodeAt w.heap.size U (.slice ca c.length cc) c) := fun U hU => HCO.out.below hU
    clear HCK HP1 hY1 hb1 hs1 c0 hb2 hZ hbZ hz HTB HCO
    have hwg : w.heap.size ≤ w1.heap.size := Nat.le_of_lt hwz
    generalize w1.heap.size = g at *
    refine (Wc.putText g [] ⟨#[109, 105, 108, 108, 49]⟩ (by decide) (by simp) Z HHZ.out (Nat.le_of_lt HHZ.out.lt)).mono ?_
    rintro e w2 ⟨rfl, h2, hf2⟩
    have HH2 : Hid (Wc.Has g [109, 105, 108, 108, 49] w2) := h2
    have HF2 : Hid (Wc.Fr g Z w2) := hf2
    obtain ⟨d2, -⟩ := HKZ.out w2 hf2
    clear h2 hf2 HHZ
    have HNS : Hid (Calls Tryz.prog 15 #[.pointer (some ⟨g, 0, none⟩), .slice (some ⟨w2.heap.size, 0, none⟩) 1 1] (w2.alloc (.cells #[.int .i64 (c.length : Int)] 3)) fun e w' => e = .returned (.tuple #[]) ∧ Wc.Has g ([109, 105, 108, 108, 49] ++ Wc.num c.length) w' ∧ Wc.Fr g w2 w') := by
      have := Wc.inumbers_any g [109, 105, 108, 108, 49] [(c.length : Int)] (.slice (some ⟨w2.heap.size, 0, none⟩) 1 1) (by simp) (by simp) _ (HH2.out.alloc (.cells #[.int .i64 (c.length : Int)] 3)) (by have := HH2.out.lt; simp; omega) (Wc.Ints.new g w2 [(c.length : Int)] HH2.out.lt)
      refine this.mono ?_
      rintro e w' ⟨h1, h2, h3⟩
      exact ⟨h1, by rw [Wc.pars_one c.length (by omega)] at h2; exact h2, (Wc.Fr.alloc g w2 _ (Nat.le_of_lt HH2.out.lt)).trans h3⟩
    go_wp2_with (go_at_call 15; refine HNS.out.mono ?_; rintro e w3 ⟨rfl, h3, hf3⟩; have HH3 : Hid (Wc.Has g ([109, 105, 108, 108, 49] ++ Wc.num c.length) w3) := h3; have HF3 : Hid (Wc.Fr g Z w3) := HF2.out.trans hf3; clear h3 hf3; obtain ⟨d3, -⟩ := HKZ.out w3 HF3.out)
    have HLN : Hid (([109, 105, 108, 108, 49] ++ Wc.num c.length : List UInt8).length ≤ 20) := by
      have := Wc.num_ten (n := c.length) (by omega)
      show ([109, 105, 108, 108, 49] ++ Wc.num c.length : List UInt8).length ≤ 20
      simp only [List.length_append, List.length_cons, List.length_nil]; omega
    obtain ⟨hd, HHE⟩ : ∃ hd, Hid (([109, 105, 108, 108, 49] ++ Wc.num c.length : List UInt8) = hd) := ⟨_, (rfl : ([109, 105, 108, 108, 49] ++ Wc.num c.length : List UInt8) = _)⟩
    rw [HHE.out] at HH3 HLN
    have HFORM : Hid (Wc.form c = hd ++ Wc.fns (c.take c.length)) := by rw [Hid, List.take_length, ← HHE.out]; rfl
    have HHD : Hid (∀ k, hd ++ Wc.fns (c.take k) ≠ []) := fun k h => by
      rw [← HHE.out] at h; simp at h
    clear HNS HH2 HF2 d2 d3 HHE
    go_loopw [27] (fun t wr => ∃ (k : Nat) (l : List UInt8), k ≤ c.length ∧ t = .int .i64 (k : Int) ∧ Wc.Has g l wr ∧ Wc.Up (hd ++ Wc.fns (c.take k)) l ∧ Wc.Fr g Z wr) (fun t _ => c.length - (intOf t).toNat)
    case atStart => exact ⟨0, hd, by omega, rfl, HH3.out, .inl (by simp [Wc.fns]), HF3.out⟩
    case round =>
      obtain ⟨k, l, hk, rfl, hh, hup, hfr⟩ := hrel
      have HH : Hid (Wc.Has g l wr) := hh
      have HU : Hid (Wc.Up (hd ++ Wc.fns (c.take k)) l) := hup
      have HF : Hid (Wc.Fr g Z wr) := hfr
      have hgl := hh.lt
      have hTl : (hd ++ Wc.fns (c.take k)).length ≤ 3500000000000 := by
        have h1 := Wc.fns_len HFT.out k
        have h2 := HLN.out
        rw [List.length_append]; omega
      obtain ⟨y0, hbw⟩ := HKZ.out wr hfr
      have HBW : Hid (Below w.heap.size w wr) := hbw
      clear hh hup hfr HH3 HF3 hbw
      by_cases hlt : k < c.length
      · have hltI : (k : Int) < (c.length : Int) := by omega
        obtain ⟨gc, pv, iv, hcae, hgc, hcell, hPV, hIV⟩ : ∃ p pv iv, ca = some ⟨p, 0, none⟩ ∧ p < w.heap.size ∧ (∀ j, j < 5 → wr.cell? ⟨p, k * 5 + j, none⟩ = (Cd.fnC c[k] pv iv)[j]?) ∧ Cd.IntsAt w.heap.size wr pv c[k].params ∧ Cd.InsAt w.heap.size wr iv c[k].ins := by
          obtain ⟨a', cp, e, h⟩ := HCU.out wr HBW.out
          injection e with e1
          subst e1
          exact h k hlt
        subst hcae
        obtain ⟨f, HFK⟩ : ∃ f, Hid (c[k] = f) := ⟨_, (rfl : c[k] = _)⟩
        have hmem : f ∈ c := by rw [← HFK.out]; exact List.getElem_mem hlt
        have hf1 := HFT.out.name f hmem
        have hf2 := HFT.out.params f hmem
        have hf3 := HFT.out.ins f hmem
        have HF4 : Hid (∀ i ∈ f.ins, i.op = 1 → i.a = 2 → i.text.size ≤ 1048576) := HFT.out.text f hmem
        have HF5 : Hid (∀ i ∈ f.ins, 1 ≤ i.op ∧ i.op ≤ 16) := HSO.out.ops f hmem
        rw [HFK.out] at hcell hPV hIV
        have HPV : Hid (Cd.IntsAt w.heap.size wr pv f.params) := hPV
        have HIV : Hid (Cd.InsAt w.heap.size wr iv f.ins) := hIV
        obtain ⟨pa, pc, hpv, -⟩ := hPV
        obtain ⟨ia, ic, hiv, -⟩ := hIV
        subst hpv hiv
        have e0 : wr.cell? ⟨gc, k * 5, none⟩ = some (.string f.name) := hcell 0 (by omega)
        have e1 : wr.cell? ⟨gc, k * 5 + 1, none⟩ = some (.slice pa f.params.length pc) := hcell 1 (by omega)
        have e2 : wr.cell? ⟨gc, k * 5 + 2, none⟩ = some (.int .i64 f.result) := hcell 2 (by omega)
        have e3 : wr.cell? ⟨gc, k * 5 + 3, none⟩ = some (.int .i64 f.slots) := hcell 3 (by omega)
        have e4 : wr.cell? ⟨gc, k * 5 + 4, none⟩ = some (.slice ia f.ins.length ic) := hcell 4 (by omega)
        clear hcell
        obtain ⟨V2, hV2⟩ : ∃ V2, wr.alloc (.cells #[.string f.name, .slice pa f.params.length pc, .int .i64 f.result, .int .i64 f.slots, .slice ia f.ins.length ic] 53) = V2 := ⟨_, rfl⟩
        have hV2b : V2.heap[wr.heap.size]? = some (.cells #[.string f.name, .slice pa f.params.length pc, .int .i64 f.result, .int .i64 f.slots, .slice ia f.ins.length ic] 53) := by rw [← hV2]; exact (MapKept.heap_alloc wr _).1
        have hbV2 : Below wr.heap.size wr V2 := by rw [← hV2]; exact Wc.b1 wr _
        have hzw := HBW.out.size
        have HF2 : Hid (Wc.Fr g Z V2) := HF.out.trans (by rw [← hV2]; exact Wc.Fr.alloc g wr _ (by omega))
        have HH2 : Hid (Wc.Has g l V2) := by rw [Hid, ← hV2]; exact HH.out.alloc _
        have HP2 : Hid (Cd.IntsAt w.heap.size V2 (.slice pa f.params.length pc) f.params) := HPV.out.below (hbV2.mono hzw)
        have HI2 : Hid (Cd.InsAt w.heap.size V2 (.slice ia f.ins.length ic) f.ins) := HIV.out.below (hbV2.mono hzw)
        have HT2 : Hid (Cd.InsTab V2) := HTU.out V2 (HBW.out.trans (hbV2.mono hzw))
        have q0 : V2.cell? ⟨wr.heap.size, 0, none⟩ = some (.string f.name) := by rw [Lib.cell_of_heap hV2b]; rfl
        have q1 : V2.cell? ⟨wr.heap.size, 1, none⟩ = some (.slice pa f.params.length pc) := by rw [Lib.cell_of_heap hV2b]; rfl
        have q2 : V2.cell? ⟨wr.heap.size, 2, none⟩ = some (.int .i64 f.result) := by rw [Lib.cell_of_heap hV2b]; rfl
        have q3 : V2.cell? ⟨wr.heap.size, 3, none⟩ = some (.int .i64 f.slots) := by rw [Lib.cell_of_heap hV2b]; rfl
        have q4 : V2.cell? ⟨wr.heap.size, 4, none⟩ = some (.slice ia f.ins.length ic) := by rw [Lib.cell_of_heap hV2b]; rfl
        clear hV2b HH HPV HIV hbV2
        go_wp2_with (go_at_call 16; refine (Wc.ifn_any g w.heap.size hwg (hd ++ Wc.fns (c.take k)) l f pa ia pc ic hf1 hf2 hf3 HF4.out HF5.out (by omega) HU.out V2 HH2.out HT2.out HTG.out HP2.out HI2.out).mono ?_; rintro e w4 ⟨rfl, ⟨l', hh4, hu4⟩, hf4⟩; have HH4 : Hid (Wc.Has g l' w4) := hh4; have HU4 : Hid (Wc.Up (hd ++ Wc.fns (c.take (k + 1))) l') := (by rw [Hid]; unfold Wc.fns; rw [Wc.flat_take _ c k hlt, HFK.out, ← List.append_assoc]; exact hu4); clear hh4 hu4)
        go_roundw
        case rel => exact ⟨k + 1, l', by omega, by go_num, HH4.out, HU4.out, HF2.out.trans hf4⟩
        case measure => simp [intOf]; omega
      · have hltI : ¬ (k : Int) < (c.length : Int) := by omega
        have hkc : k = c.length := by omega
        have HUE : Hid (Wc.Up (Wc.form c) l) := by rw [Hid, HFORM.out, ← hkc]; exact HU.out
        have hll := HU.out.len
        have HNE : Hid (Wc.form c ≠ []) := by rw [Hid, HFORM.out]; exact HHD.out _
        by_cases hfull : 200000 < l.length
        · have HFU : Hid (Calls Tryz.prog 17 #[.pointer (some ⟨g, 0, none⟩)] wr fun e w' => e = .returned (.bool true) ∧ wr = w') := by
            have h := Wc.full_any g l (by omega) wr HH.out
            rw [decide_eq_true hfull] at h; exact h
          have hlong : 200000 < (Wc.form c).length := by have := HUE.out.len; omega
          have HOU := HOL.out hlong
          clear hfull hlong
          go_wp2_with (go_at_call 17; refine HFU.out.mono ?_; rintro e w' ⟨rfl, rfl⟩)
          go_ret
          exact ⟨⟨(r0, r1, r2), by rw [HOU]; rfl, HA.out⟩, HBW.out⟩
        · have HFU : Hid (Calls Tryz.prog 17 #[.pointer (some ⟨g, 0, none⟩)] wr fun e w' => e = .returned (.bool false) ∧ wr = w') := by
            have h := Wc.full_any g l (by omega) wr HH.out
            rw [decide_eq_false hfull] at h; exact h
          have hle : l = Wc.form c := by
            rcases HUE.out with h | h
            · exact h
            · omega
          have HOU : Hid (Wc.out c (r0, r1, r2) = ⟨l.toArray⟩) := by rw [Hid, HOF.out (by rw [← hle]; omega), hle]
          have HLN2 : Hid (l ≠ []) := by rw [Hid, hle]; exact HNE.out
          clear hfull hle
          go_wp2_with (first
            | (go_at_call 17; refine HFU.out.mono ?_; rintro e w' ⟨rfl, rfl⟩)
            | (go_at_call 18; refine (Wc.stringT 44 g g l wr HH.out HLN2.out).mono ?_; rintro e w5 ⟨rfl, hb5, _⟩))
          go_ret
          exact ⟨⟨(r0, r1, r2), by rw [HOU.out]; rfl, HA.out⟩, HBW.out.trans (hb5.mono hwg)⟩
end Go.Proofs.YtdmfbhfiaodehaaGreatDoor
