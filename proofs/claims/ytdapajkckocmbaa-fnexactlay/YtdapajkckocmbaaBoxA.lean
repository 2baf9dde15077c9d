import Derived.Test.YtdapajkckocmbaaJobA
import Derived.OwnWalk
namespace Go.Proofs.Ytdapajkckocmbaa
open Go.RowKit

structure Bx.Fl where
  name : ByteArray
  text : ByteArray
def Bx.fC (f : Bx.Fl) : List Value := [.string f.name, .string f.text]
def Bx.fCs (fs : List Bx.Fl) : List Value := fs.flatMap Bx.fC
theorem Bx.fCs_length (fs : List Bx.Fl) : (Bx.fCs fs).length = fs.length * 2 := by
  induction fs with
  | nil => rfl
  | cons a r ih => unfold Bx.fCs at ih ⊢; rw [List.flatMap_cons, List.length_append, ih]; simp only [Bx.fC, List.length_cons, List.length_nil]; omega
theorem Bx.fCs_at (fs : List Bx.Fl) (i : Nat) (hi : i < fs.length) : (Bx.fCs fs)[i * 2]? = some (.string fs[i].name) ∧ (Bx.fCs fs)[i * 2 + 1]? = some (.string fs[i].text) := by
  induction fs generalizing i with
  | nil => simp at hi
  | cons a r ih =>
    cases i with
    | zero => exact ⟨rfl, rfl⟩
    | succ k =>
      have hk : k < r.length := by simpa using hi
      obtain ⟨h1, h2⟩ := ih k hk
      have e : Bx.fCs (a :: r) = .string a.name :: .string a.text :: Bx.fCs r := rfl
      rw [e, (by omega : (k + 1) * 2 = k * 2 + 1 + 1)]
      simp only [List.getElem?_cons_succ, List.getElem_cons_succ]
      exact ⟨h1, h2⟩
def Bx.Off (w : World) (v : Value) (fs : List Bx.Fl) : Prop :=
  ∃ a cap, v = .slice a fs.length cap ∧ ∀ i (hi : i < fs.length), ∃ g o, a = some ⟨g, o, none⟩ ∧ g < w.heap.size ∧ w.cell? ⟨g, o + i * 2, none⟩ = some (.string fs[i].name) ∧ w.cell? ⟨g, o + i * 2 + 1, none⟩ = some (.string fs[i].text)
theorem Bx.Off.below {w w' : World} {v : Value} {fs : List Bx.Fl} (h : Bx.Off w v fs) (hb : Below w.heap.size w w') : Bx.Off w' v fs := by
  obtain ⟨a, cap, rfl, hc⟩ := h
  refine ⟨a, cap, rfl, fun i hi => ?_⟩
  obtain ⟨g, o, ha, hg, h1, h2⟩ := hc i hi
  exact ⟨g, o, ha, Nat.lt_of_lt_of_le hg hb.size, by rw [hb.cell (p := ⟨g, o + i * 2, none⟩) hg]; exact h1, by rw [hb.cell (p := ⟨g, o + i * 2 + 1, none⟩) hg]; exact h2⟩
theorem Bx.Off.slice {w : World} {v : Value} {fs : List Bx.Fl} (h : Bx.Off w v fs) : ∃ p c, v = .slice p fs.length c := by
  obtain ⟨p, c, h, _⟩ := h; exact ⟨p, c, h⟩
theorem Bx.ret_int {a b : Int} (h : a = b) : (Ending.returned (.int .i64 a) : Ending) = .returned (.int .i64 b) := by rw [h]
def Bx.szF (f : Bx.Fl) (l : Int) : Int := if l - (f.name.size : Int) < 0 then -1 else if l - (f.name.size : Int) - (f.text.size : Int) < 0 then -1 else l - (f.name.size : Int) - (f.text.size : Int)
def Bx.szL : List Bx.Fl → Int → Int
  | [], l => l
  | d :: r, l => if Bx.szF d l < 0 then -1 else Bx.szL r (Bx.szF d l)
def Bx.sz (fs : List Bx.Fl) (l : Int) : Int := if l - (fs.length : Int) < 0 then -1 else Bx.szL fs (l - (fs.length : Int))
theorem Bx.szF_bd (f : Bx.Fl) (l : Int) : -1 ≤ Bx.szF f l ∧ (0 ≤ Bx.szF f l → Bx.szF f l ≤ l ∧ (f.name.size : Int) ≤ l ∧ (f.text.size : Int) ≤ l) := by
  unfold Bx.szF
  split
  · omega
  · split <;> omega
theorem Bx.szL_bd : ∀ (fs : List Bx.Fl) (l : Int), 0 ≤ l → -1 ≤ Bx.szL fs l ∧ Bx.szL fs l ≤ l ∧ (0 ≤ Bx.szL fs l → ∀ d ∈ fs, (d.name.size : Int) ≤ l ∧ (d.text.size : Int) ≤ l)
  | [], l, h => by rw [Bx.szL]; exact ⟨by omega, by omega, fun _ d hd => by simp at hd⟩
  | d :: r, l, h => by
    obtain ⟨h1, h2⟩ := Bx.szF_bd d l
    rw [Bx.szL]
    split
    · exact ⟨by omega, by omega, fun h => by omega⟩
    · rename_i hn
      obtain ⟨e1, e2, e3⟩ := h2 (by omega)
      obtain ⟨g1, g2, g3⟩ := Bx.szL_bd r (Bx.szF d l) (by omega)
      refine ⟨g1, by omega, fun hp x hx => ?_⟩
      rcases List.mem_cons.1 hx with rfl | hx
      · exact ⟨e2, e3⟩
      · obtain ⟨k1, k2⟩ := g3 hp x hx; exact ⟨by omega, by omega⟩
theorem Bx.sz_bd (fs : List Bx.Fl) (l : Int) (h : 0 ≤ l) : -1 ≤ Bx.sz fs l ∧ Bx.sz fs l ≤ l ∧ (0 ≤ Bx.sz fs l → (fs.length : Int) ≤ l ∧ ∀ d ∈ fs, (d.name.size : Int) ≤ l ∧ (d.text.size : Int) ≤ l) := by
  unfold Bx.sz
  split
  · exact ⟨by omega, by omega, fun h => by omega⟩
  · obtain ⟨g1, g2, g3⟩ := Bx.szL_bd fs (l - (fs.length : Int)) (by omega)
    exact ⟨g1, by omega, fun hp => ⟨by omega, fun d hd => by obtain ⟨k1, k2⟩ := g3 hp d hd; exact ⟨by omega, by omega⟩⟩⟩
set_option maxRecDepth 100000 in
set_option maxHeartbeats 1000000 in
theorem Bx.szFile_any (a b : ByteArray) (l : Int) (ha : a.size ≤ 9223372036854775807) (hb : b.size ≤ 9223372036854775807) (h0 : 0 ≤ l) (h1 : l ≤ 1048576) (w : World) :
    Calls Try.prog 34 #[.agg #[.string a, .string b], .int .i64 l] w fun e w' => e = .returned (.int .i64 (Bx.szF ⟨a, b⟩ l)) ∧ Below w.heap.size w w' := by
  unfold Bx.szF
  simp only
  by_cases h : l - (a.size : Int) < 0
  · rw [if_pos h]
    go_enter Try.func34, Try.ntmps34
    go_wp2
    go_ret
    exact ⟨rfl, (Below.refl _ w).alloc (Nat.le_refl _) _⟩
  · rw [if_neg h]
    by_cases h2 : l - (a.size : Int) - (b.size : Int) < 0
    · rw [if_pos h2]
      go_enter Try.func34, Try.ntmps34
      go_wp2
      go_ret
      exact ⟨rfl, (Below.refl _ w).alloc (Nat.le_refl _) _⟩
    · rw [if_neg h2]
      go_enter Try.func34, Try.ntmps34
      go_wp2
      go_ret
      exact ⟨rfl, (Below.refl _ w).alloc (Nat.le_refl _) _⟩
set_option maxRecDepth 100000 in
set_option maxHeartbeats 1000000 in
theorem Bx.szFileS_any (fs : List Bx.Fl) (v : Value) (l : Int) (h0 : 0 ≤ l) (h1 : l ≤ 1048576) (hn : fs.length ≤ 9223372036854775807) (hx : ∀ d ∈ fs, d.name.size ≤ 9223372036854775807 ∧ d.text.size ≤ 9223372036854775807) (w : World) (hN : Bx.Off w v fs) :
    Calls Try.prog 15 #[v, .int .i64 l] w fun e w' => e = .returned (.int .i64 (Bx.sz fs l)) ∧ Below w.heap.size w w' := by
  obtain ⟨a, cap, rfl, hc⟩ := hN
  obtain ⟨q0, HQ⟩ : ∃ q, Hid (Bx.sz fs l = q) := ⟨_, (rfl : Bx.sz fs l = _)⟩
  have HQ2 : Hid ((if l - (fs.length : Int) < 0 then -1 else Bx.szL fs (l - (fs.length : Int))) = q0) := HQ
  rw [HQ.out]
  clear HQ
  obtain ⟨n, HN⟩ : ∃ n, Hid (fs.length = n) := ⟨_, (rfl : fs.length = _)⟩
  have HC : Hid (∀ i (hi : i < fs.length), ∃ g o, a = some ⟨g, o, none⟩ ∧ g < w.heap.size ∧ w.cell? ⟨g, o + i * 2, none⟩ = some (.string fs[i].name) ∧ w.cell? ⟨g, o + i * 2 + 1, none⟩ = some (.string fs[i].text)) := hc
  clear hc
  rw [HN.out] at hn HQ2
  simp only [HN.out]
  by_cases hl : l - (n : Int) < 0
  · have HR : Hid (q0 = -1) := by have h := HQ2.out; rw [if_pos hl] at h; exact h.symm
    clear HQ2
    go_enter Try.func15, Try.ntmps15
    go_wp2
    go_ret
    exact ⟨Bx.ret_int HR.out.symm, Below.refl _ _⟩
  · have HR : Hid (Bx.szL fs (l - (n : Int)) = q0) := by have h := HQ2.out; rw [if_neg hl] at h; exact h
    clear HQ2
    go_enter Try.func15, Try.ntmps15
    go_wp2
    go_loopw [1, 5] (fun tl tv wr => ∃ (i : Nat) (q : Int), i ≤ n ∧ tv = .int .i64 (i : Int) ∧ tl = .int .i64 q ∧ 0 ≤ q ∧ q ≤ 1048576 ∧ Bx.szL (fs.drop i) q = q0 ∧ Below w.heap.size w wr) (fun _ tv _ => n - (intOf tv).toNat)
    case atStart => exact ⟨0, l - (n : Int), by omega, rfl, rfl, by omega, by omega, HR.out, Below.refl _ _⟩
    case round =>
      obtain ⟨i, q, hi, rfl, rfl, hq0, hq1, hu, hbw⟩ := hrel
      have hz := hbw.size
      by_cases hlt : i < n
      · have hil : i < fs.length := by rw [HN.out]; exact hlt
        obtain ⟨g, o, rfl, hg, hcell, hcell2⟩ := HC.out i hil
        rw [List.drop_eq_getElem_cons hil, Bx.szL] at hu
        obtain ⟨hxa, hxb⟩ := hx fs[i] (List.getElem_mem hil)
        have hb1 := (Bx.szF_bd fs[i] q)
        have e1 : wr.cell? ⟨g, o + i * 2, none⟩ = some (.string fs[i].name) := by rw [hbw.cell (p := ⟨g, o + i * 2, none⟩) hg, hcell]
        have e2 : wr.cell? ⟨g, o + i * 2 + 1, none⟩ = some (.string fs[i].text) := by rw [hbw.cell (p := ⟨g, o + i * 2 + 1, none⟩) hg, hcell2]
        generalize fs[i] = d at *
        obtain ⟨da, db⟩ := d
        simp only at e1 e2 hxa hxb
        clear hcell hcell2 HC HR
        obtain ⟨s, HS⟩ : ∃ s, Hid (Bx.szF ⟨da, db⟩ q = s) := ⟨_, (rfl : Bx.szF ⟨da, db⟩ q = _)⟩
        rw [HS.out] at hu hb1
        obtain ⟨hb0, hb1⟩ := hb1
        by_cases hlq : s < 0
        · have HU : Hid (q0 = -1) := by rw [if_pos hlq] at hu; exact hu.symm
          clear hu hb1
          go_wp2_with (go_at_call 34; (refine (Bx.szFile_any da db q hxa hxb hq0 hq1 _).mono ?_; rintro e w1 ⟨rfl, hb1⟩; rw [HS.out]))
          go_ret
          exact ⟨Bx.ret_int HU.out.symm, hbw.trans (hb1.mono hz)⟩
        · have HU : Hid (Bx.szL (fs.drop (i + 1)) s = q0) := by rw [if_neg hlq] at hu; exact hu
          obtain ⟨hs1, _, _⟩ := hb1 (by omega)
          clear hu hb1
          go_wp2_with (go_at_call 34; (refine (Bx.szFile_any da db q hxa hxb hq0 hq1 _).mono ?_; rintro e w1 ⟨rfl, hb1⟩; rw [HS.out]))
          go_roundw
          case rel => exact ⟨i + 1, s, by omega, by go_num, rfl, by omega, by omega, HU.out, hbw.trans (hb1.mono hz)⟩
          case measure => simp [intOf]; omega
      · have HU : Hid (q0 = q) := by rw [List.drop_of_length_le (by rw [HN.out]; omega)] at hu; exact hu.symm
        clear hu HC HR
        go_wp2
        go_ret
        exact ⟨Bx.ret_int HU.out.symm, hbw⟩
set_option maxRecDepth 100000 in
set_option maxHeartbeats 1000000 in
theorem Bx.szPlace_any (fs : List Bx.Fl) (v : Value) (l : Int) (h0 : 0 ≤ l) (h1 : l ≤ 1048576) (hn : fs.length ≤ 9223372036854775807) (hx : ∀ d ∈ fs, d.name.size ≤ 9223372036854775807 ∧ d.text.size ≤ 9223372036854775807) (w : World) (hN : Bx.Off w v fs) :
    Calls Try.prog 7 #[.agg #[v], .int .i64 l] w fun e w' => e = .returned (.int .i64 (Bx.sz fs l)) ∧ Below w.heap.size w w' := by
  obtain ⟨hb1, hb2, _⟩ := Bx.sz_bd fs l h0
  obtain ⟨q, HQ⟩ : ∃ q, Hid (Bx.sz fs l = q) := ⟨_, (rfl : Bx.sz fs l = _)⟩
  rw [HQ.out] at hb1 hb2 ⊢
  have HN1 : Hid (∀ o, Bx.Off (w.alloc o) v fs) := fun o => hN.below ((Below.refl w.heap.size w).alloc (Nat.le_refl _) o)
  have HZ : Hid (∀ w1, Bx.Off w1 v fs → Calls Try.prog 15 #[v, .int .i64 l] w1 fun e w' => e = .returned (.int .i64 q) ∧ Below w1.heap.size w1 w') := fun w1 h => by
    have := Bx.szFileS_any fs v l h0 h1 hn hx w1 h
    rw [HQ.out] at this; exact this
  obtain ⟨a, c, rfl⟩ := hN.slice
  clear hN HQ hx
  generalize fs.length = L at *
  by_cases hq : q < 0
  · have hq1 : Hid (q = -1) := (by omega : q = -1)
    go_enter Try.func7, Try.ntmps7
    go_wp2_with (go_at_call 15; (refine (HZ.out _ (HN1.out _)).mono ?_; rintro e w1 ⟨rfl, hb⟩; rw [World.size_alloc] at hb))
    go_ret
    exact ⟨Bx.ret_int hq1.out.symm, ((Below.refl w.heap.size w).alloc (Nat.le_refl _) _).trans (hb.mono (by omega))⟩
  · go_enter Try.func7, Try.ntmps7
    go_wp2_with (go_at_call 15; (refine (HZ.out _ (HN1.out _)).mono ?_; rintro e w1 ⟨rfl, hb⟩; rw [World.size_alloc] at hb))
    go_ret
    exact ⟨rfl, ((Below.refl w.heap.size w).alloc (Nat.le_refl _) _).trans (hb.mono (by omega))⟩
set_option maxRecDepth 100000 in
set_option maxHeartbeats 1000000 in
theorem Bx.eqFile_is (a b c d : ByteArray) (w : World) :
    Calls Try.prog 42 #[.agg #[.string a, .string b], .agg #[.string c, .string d]] w fun e w' => e = .returned (.bool (decide (a = c) && decide (b = d))) ∧ Below w.heap.size w w' := by
  have hal : ∀ o1 o2 : Obj, Below w.heap.size w ((w.alloc o1).alloc o2) := fun o1 o2 => ((Below.refl _ w).alloc (Nat.le_refl _) o1).alloc (by simp) o2
  by_cases h1 : a = c
  · subst h1
    by_cases h2 : b = d
    · subst h2
      go_enter Try.func42, Try.ntmps42
      go_wp2
      all_goals go_ret
      all_goals exact ⟨by simp, hal _ _⟩
    · have h3 : (b.toList == d.toList) = false := by
        rw [beq_eq_false_iff_ne]; intro h; apply h2; rw [ByteArray.toList_eq, ByteArray.toList_eq] at h; exact ByteArray.ext (Array.toList_inj.1 h)
      have h4 : (b.toList != d.toList) = true := by rw [bne, h3]; rfl
      go_enter Try.func42, Try.ntmps42
      go_wp2
      all_goals go_ret
      all_goals exact ⟨by simp [h2], hal _ _⟩
  · have h3 : (a.toList == c.toList) = false := by
      rw [beq_eq_false_iff_ne]; intro h; apply h1; rw [ByteArray.toList_eq, ByteArray.toList_eq] at h; exact ByteArray.ext (Array.toList_inj.1 h)
    have h4 : (a.toList != c.toList) = true := by rw [bne, h3]; rfl
    go_enter Try.func42, Try.ntmps42
    go_wp2
    all_goals go_ret
    all_goals exact ⟨by simp [h1], hal _ _⟩
end Go.Proofs.Ytdapajkckocmbaa
