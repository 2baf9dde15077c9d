import Derived.Test.YtkaoeoeloihigaaGreatDoorWL
import Derived.Deep.RegionHeld3
import Derived.Test.YtkaoeoeloihigaaGreatDoorVTreeZI
namespace Go.Proofs.YtkaoeoeloihigaaGreatDoor
open Go.RowKit

def Prj.parT (p : ByteArray × Int) : ByteArray := p.1 ++ ⟨#[32]⟩ ++ Mill.typeWord p.2
def Prj.fnT (name : ByteArray) (r : Int) (ps : List (ByteArray × Int)) (U : List UInt8) : List UInt8 :=
  [102, 110, 32] ++ name.data.toList ++ [40] ++ Pr.joinL (ps.map Prj.parT) ++ [41] ++ (if r = 0 then [] else [32, 45, 62, 32] ++ (Mill.typeWord r).data.toList) ++ [32] ++ U ++ [10]
theorem Prj.new_past (w : World) (o : Obj) (g : Nat) (h : g < w.heap.size) : (w.alloc o).heap[g]? = w.heap[g]? := ((Below.refl w.heap.size w).alloc (Nat.le_refl _) o).block g h
theorem Prj.put3_drew (g : Nat) (l : List UInt8) (hl : l.length ≤ 20000000) (x y z : ByteArray) (hx : x.size ≤ 15000000) (hy : y.size ≤ 15000000) (hz : z.size ≤ 15000000) (w : World) (b : Nat) (hb : w.heap.size = b) (hA : Prj.At g l w) :
    Calls Tryz.prog 31 #[.pointer (some ⟨g, 0, none⟩), .slice (some ⟨b, 0, none⟩) 3 3] ((w.alloc (.cells #[.string x, .string y, .string z] 9)).drew) fun e w' => ∃ l', e = .returned (.tuple #[]) ∧ Prj.At g l' w' ∧ Prj.Adds l (x.data.toList ++ y.data.toList ++ z.data.toList) l' ∧ Prj.Fr g w w' := by
  subst hb
  have hg := hA.lt
  have h := Prj.put_adds g l hl [x, y, z] (by simp) (by
    intro u hu
    simp only [List.mem_cons, List.not_mem_nil, or_false] at hu
    rcases hu with rfl | rfl | rfl
    · exact hx
    · exact hy
    · exact hz) (.slice (some ⟨w.heap.size, 0, none⟩) 3 3) ((w.alloc (.cells #[.string x, .string y, .string z] 9)).drew) (Prj.txts_new g w [x, y, z] #[.string x, .string y, .string z] hg (fun j h => by
      have hj3 : j = 0 ∨ j = 1 ∨ j = 2 := by simp at h; omega
      rcases hj3 with rfl | rfl | rfl <;> rfl)) ((hA.alloc _).below (Below.refl _ _).drew) (by simp; omega)
  refine h.mono ?_
  rintro e w' ⟨l', rfl, h1, h2, h3⟩
  have hF : Prj.Fr g w (w.alloc (.cells #[.string x, .string y, .string z] 9)).drew := ⟨(Prj.Fr.alloc1 (Prj.Fr.refl g w) hg _).1.drew, (Prj.Fr.alloc1 (Prj.Fr.refl g w) hg _).2.drew⟩
  exact ⟨l', rfl, h1, h2.eq (by simp), hF.trans h3⟩
theorem Prj.flat_at : ∀ (ps : List (ByteArray × Int)) (j : Nat) (h : j < ps.length), (ps.flatMap (fun p => [Value.string p.1, .int .i64 p.2]))[j * 2]? = some (.string ps[j].1) ∧ (ps.flatMap (fun p => [Value.string p.1, .int .i64 p.2]))[j * 2 + 1]? = some (.int .i64 ps[j].2)
  | p :: r, 0, _ => by simp
  | p :: r, j + 1, h => by
    have ih := Prj.flat_at r j (by simpa using h)
    have e1 : (j + 1) * 2 = j * 2 + 1 + 1 := by omega
    have e2 : (j + 1) * 2 + 1 = j * 2 + 1 + 1 + 1 := by omega
    rw [e1]
    simp only [List.flatMap_cons, List.cons_append, List.nil_append, List.getElem?_cons_succ, List.getElem_cons_succ]
    exact ih
theorem Prj.sl_pars {P : Nat → Prop} {g : Nat} {w0 w1 : World} {SP : Value} {ps : List (ByteArray × Int)} (hP : ∀ k, P k → k < g) (h : Mill.Sl P w0 SP ps.length (ps.flatMap (fun p => [.string p.1, .int .i64 p.2]))) (hw : Below g w0 w1) (j : Nat) (hj : j < ps.length) :
    ∃ gu uc, SP = .slice (some ⟨gu, 0, none⟩) ps.length uc ∧ w1.cell? ⟨gu, j * 2, none⟩ = some (.string ps[j].1) ∧ w1.cell? ⟨gu, j * 2 + 1, none⟩ = some (.int .i64 ps[j].2) := by
  obtain ⟨a, c, rfl, hc⟩ := h
  obtain ⟨h1, h2⟩ := Prj.flat_at ps j hj
  obtain ⟨k, ha, hk, hcell⟩ := hc _ _ h1
  obtain ⟨k', ha', hk', hcell'⟩ := hc _ _ h2
  rw [ha] at ha'
  injection ha' with e
  injection e with e
  subst e
  exact ⟨k, c, by rw [ha], by rw [hw.cell (p := ⟨k, j * 2, none⟩) (hP k hk)]; exact hcell, by rw [hw.cell (p := ⟨k, j * 2 + 1, none⟩) (hP k hk)]; exact hcell'⟩
set_option maxRecDepth 100000 in
set_option maxHeartbeats 4000000 in
theorem Prj.fn_any (g : Nat) (w0 : World) (P : Nat → Prop) (hP : ∀ k, P k → k < g) (hT : Hid (Prj.Tabs g w0)) (name : ByteArray) (hname : name.size ≤ 15000000) (r : Nat) (hr : r ≤ 10) (ps : List (ByteArray × Int)) (hps : ps.length ≤ 1000) (hp : Hid (∀ p ∈ ps, p.1.size ≤ 15000000 ∧ 1 ≤ p.2 ∧ p.2 ≤ 10))
    (SP : Value) (HS : Hid (Mill.Sl P w0 SP ps.length (ps.flatMap (fun p => [.string p.1, .int .i64 p.2])))) (ba : Option Addr) (bn bc : Nat) (U : List UInt8) (HB : Hid (Prj.BlIs g w0 (.slice ba bn bc) 0 U)) (l : List UInt8) (hl : l.length ≤ 20000000) (w : World) (HW : Hid (Below g w0 w)) (HA : Hid (Prj.At g l w)) :
    Calls Tryz.prog 15 #[.pointer (some ⟨g, 0, none⟩), .agg #[.string name, .int .i64 (r : Int), SP, .slice ba bn bc]] w fun e w' => ∃ l', e = .returned (.tuple #[]) ∧ Prj.At g l' w' ∧ Prj.Adds l (Prj.fnT name (r : Int) ps U) l' ∧ Prj.Fr g w w' := by
  have hgw := HA.out.lt
  have hcells : ∀ w1, Prj.Fr g w w1 → ∀ j (h : j < ps.length), ∃ gu uc, SP = .slice (some ⟨gu, 0, none⟩) ps.length uc ∧ w1.cell? ⟨gu, j * 2, none⟩ = some (.string ps[j].1) ∧ w1.cell? ⟨gu, j * 2 + 1, none⟩ = some (.int .i64 ps[j].2) := by
    exact fun w1 h1 j hj => Prj.sl_pars hP HS.out (HW.out.trans h1.1) j hj
  have hS : ∃ ua uc, SP = .slice ua ps.length uc := by obtain ⟨ua, uc, h, _⟩ := HS.out; exact ⟨ua, uc, h⟩
  obtain ⟨ua, uc, rfl⟩ := hS
  have HC : Hid (∀ w1, Prj.Fr g w w1 → ∀ j (h : j < ps.length), ∃ gu, ua = some ⟨gu, 0, none⟩ ∧ w1.cell? ⟨gu, j * 2, none⟩ = some (.string ps[j].1) ∧ w1.cell? ⟨gu, j * 2 + 1, none⟩ = some (.int .i64 ps[j].2)) := fun w1 h1 j hj => by
    obtain ⟨gu, uc', he, h2, h3⟩ := hcells w1 h1 j hj
    injection he with e1
    exact ⟨gu, e1, h2, h3⟩
  clear hcells HS
  obtain ⟨n, HN⟩ : ∃ n, Hid (ps.length = n) := ⟨ps.length, (rfl : ps.length = _)⟩
  rw [HN.out] at hps
  simp only [HN.out]
  go_enter Tryz.func15, Tryz.ntmps15
  go_wp2_with (first
    | (go_at_call 31; refine (Prj.put3_at g l hl ⟨#[102, 110, 32]⟩ name ⟨#[40]⟩ (by decide) hname (by decide) (w.alloc _) (w.heap.size + 1) (by simp) (HA.out.alloc _)).mono ?_; rintro e w2 ⟨l2, rfl, hA2, hD2, hF2⟩
       have hk2 := hF2.keep (Val.new_at w _) (by omega) (by decide)
       have c1 : w2.cell? ⟨w.heap.size, 2, none⟩ = some (.slice ua n uc) := (by rw [Lib.cell_of_heap hk2]; rfl)
       have hG2 := (Prj.Fr.alloc1 (Prj.Fr.refl g w) hgw _).trans hF2))
  have hG2s := hG2.1.size
  obtain ⟨F0, HF0⟩ : ∃ F0, Hid ([102, 110, 32] ++ name.data.toList ++ [40] = F0) := ⟨_, (rfl : [102, 110, 32] ++ name.data.toList ++ [40] = _)⟩
  have hD2' : Prj.Adds l F0 l2 := hD2.eq HF0.out
  have hTw : Hid (Prj.Tabs g w) := hT.out.below HW.out
  obtain ⟨xs, HXS⟩ : ∃ xs, Hid (ps.map Prj.parT = xs) := ⟨_, (rfl : ps.map Prj.parT = _)⟩
  have hxl : xs.length = n := by rw [← HXS.out, List.length_map, HN.out]
  go_loopw [14] (fun i wr => ∃ (j : Nat) (lj : List UInt8), i = .int .i64 (j : Int) ∧ j ≤ n ∧ Prj.At g lj wr ∧ Prj.Adds l (F0 ++ Pr.joinL (xs.take j)) lj ∧ Prj.Fr g w wr ∧ wr.heap[w.heap.size]? = some (.cells #[.string name, .int .i64 (r : Int), .slice ua n uc, .slice ba bn bc] 60 (0, 0))) (fun i _ => n - (intOf i).toNat)
  case atStart => exact ⟨0, l2, rfl, by omega, hA2, hD2'.eq (by simp [Pr.joinL]), hG2, hk2⟩
  case round =>
    obtain ⟨j, lj, rfl, hj, hA, hD, hF, hkw⟩ := hrel
    have hlj := hD.2.2.2
    clear hD2 hD2' hA2 hk2 c1 hG2 hF2
    have hzr := hF.1.size
    by_cases hjn : j < n
    · have hjk : j < ps.length := by rw [HN.out]; exact hjn
      have hjx : j < xs.length := by omega
      obtain ⟨gu, rfl, q0, q1⟩ := HC.out wr hF j hjk
      have hS := Pr.joinL_snoc (xs.take j) xs[j]
      have e2 : xs.take j ++ [xs[j]] = xs.take (j + 1) := by rw [List.take_add_one, List.getElem?_eq_getElem hjx]; rfl
      rw [e2] at hS
      have hpp := hp.out ps[j] (List.getElem_mem hjk)
      have hxj : xs[j] = Prj.parT ps[j] := by simp [← HXS.out]
      rw [hxj] at hS
      clear e2 hxj
      generalize ps[j] = p at *
      obtain ⟨pn, pty⟩ := p
      simp only at hpp q0 q1
      obtain ⟨pt, rfl⟩ : ∃ pt : Nat, pty = (pt : Int) := ⟨pty.toNat, by omega⟩
      obtain ⟨hpn, hpt1, hpt2⟩ := hpp
      have hpt : 1 ≤ pt ∧ pt ≤ 10 := by omega
      have hpt11 : (pt : Int) < 11 := by omega
      have hparT : (Prj.parT (pn, (pt : Int))).data.toList = pn.data.toList ++ [32] ++ (Mill.typeWord (pt : Int)).data.toList := by simp [Prj.parT]
      rw [hparT] at hS
      obtain ⟨B0, HB0⟩ : ∃ B0, Hid (wr.heap.size = B0) := ⟨_, (rfl : wr.heap.size = _)⟩
      have hkX : (wr.alloc (.cells #[.string pn, .int .i64 (pt : Int)] 85)).heap[B0]? = some (.cells #[.string pn, .int .i64 (pt : Int)] 85 (0, 0)) := by rw [← HB0.out]; exact Val.new_at wr _
      have hkk0 : (wr.alloc (.cells #[.string pn, .int .i64 (pt : Int)] 85)).heap[w.heap.size]? = some (.cells #[.string name, .int .i64 (r : Int), .slice (some ⟨gu, 0, none⟩) n uc, .slice ba bn bc] 60 (0, 0)) := (Prj.new_past wr _ _ (Array.getElem?_eq_some_iff.1 hkw).1).trans hkw
      have hAX := hA.alloc (.cells #[.string pn, .int .i64 (pt : Int)] 85)
      have hFX := hF.alloc1 hgw (.cells #[.string pn, .int .i64 (pt : Int)] 85)
      have hBg : g < B0 := by have := HB0.out; omega
      by_cases hj0 : j = 0
      · subst hj0
        have HD : Hid (Prj.Adds l F0 lj) := hD.eq (by simp [Pr.joinL])
        have HS : Hid (F0 ++ (pn.data.toList ++ [32] ++ (Mill.typeWord (pt : Int)).data.toList) = F0 ++ Pr.joinL (xs.take (0 + 1))) := by rw [Hid, hS]; simp
        clear hD hS HC HXS
        simp only [Nat.zero_mul, Nat.zero_add] at q0 q1
        go_wp2_with fail
        rw [HB0.out]
        generalize wr.alloc (.cells #[.string pn, .int .i64 (pt : Int)] 85) = X at hkX hkk0 hAX hFX ⊢
        have hbX : B0 < X.heap.size := (Array.getElem?_eq_some_iff.1 hkX).1
        have hgX := hAX.lt
        have hkd : (X).drew.heap[B0]? = some (.cells #[.string pn, .int .i64 (pt : Int)] 85 (0, 0)) := hkX
        have d0 : (X).drew.cell? ⟨B0, 0, none⟩ = some (.string pn) := by rw [Lib.cell_of_heap hkd]; rfl
        have d1 : (X).drew.cell? ⟨B0, 1, none⟩ = some (.int .i64 (pt : Int)) := by rw [Lib.cell_of_heap hkd]; rfl
        have d2 := (hTw.out.below (w' := (X).drew) hFX.1.drew).type pt hpt.2
        have hkf : ((X).alloc (.cells #[.string pn, .string ⟨#[32]⟩, .string (Mill.typeWord (pt : Int))] 9)).drew.heap[B0]? = some (.cells #[.string pn, .int .i64 (pt : Int)] 85 (0, 0)) := (Prj.new_past X _ B0 hbX).trans hkX
        have f0 : ((X).alloc (.cells #[.string pn, .string ⟨#[32]⟩, .string (Mill.typeWord (pt : Int))] 9)).drew.cell? ⟨B0, 0, none⟩ = some (.string pn) := by rw [Lib.cell_of_heap hkf]; rfl
        have f1 : ((X).alloc (.cells #[.string pn, .string ⟨#[32]⟩, .string (Mill.typeWord (pt : Int))] 9)).drew.cell? ⟨B0, 1, none⟩ = some (.int .i64 (pt : Int)) := by rw [Lib.cell_of_heap hkf]; rfl
        have f2 := (hTw.out.below (w' := ((X).alloc (.cells #[.string pn, .string ⟨#[32]⟩, .string (Mill.typeWord (pt : Int))] 9)).drew) (hFX.alloc (by omega) _).1.drew).type pt hpt.2
        go_region_held3 (fun w' => w'.cell? ⟨B0, 0, none⟩ = some (.string pn) ∧ w'.cell? ⟨B0, 1, none⟩ = some (.int .i64 (pt : Int)) ∧ w'.cell? ⟨0, pt, none⟩ = some (.string (Mill.typeWord (pt : Int)))) (with_reducible first | exact ⟨d0, d1, d2⟩ | exact ⟨f0, f1, f2⟩ | exact ⟨e0, e1, e2⟩) (first
          | (go_at_call 31; refine (Prj.put3_drew g lj (by assumption) pn ⟨#[32]⟩ (Mill.typeWord (pt : Int)) hpn (by decide) (by have := Pr.typeWord_size (pt : Int); omega) X _ rfl hAX).mono ?_; rintro e w5 ⟨l5, rfl, hA5, hD5, hF5⟩
             have hk5 := hF5.keep hkX (by omega) (by decide)
             have e0 : w5.cell? ⟨B0, 0, none⟩ = some (.string pn) := (by rw [Lib.cell_of_heap hk5]; rfl)
             have e1 : w5.cell? ⟨B0, 1, none⟩ = some (.int .i64 (pt : Int)) := (by rw [Lib.cell_of_heap hk5]; rfl)
             have e2 := (hTw.out.below (hFX.trans hF5).1).type pt hpt.2))
        have hkk := hF5.keep hkk0 (by omega) (by decide)
        go_wp2
        go_roundw
        case rel => exact ⟨0 + 1, l5, by go_num, by omega, hA5, (HD.out.trans hD5).eq HS.out, hFX.trans hF5, hkk⟩
        case measure => simp [intOf]; omega
      · have HS : Hid (F0 ++ Pr.joinL (xs.take j) ++ [44, 32] ++ (pn.data.toList ++ [32] ++ (Mill.typeWord (pt : Int)).data.toList) = F0 ++ Pr.joinL (xs.take (j + 1))) := by
          rw [Hid, hS, if_neg (by
            intro h
            have := congrArg List.length h
            rw [List.length_take] at this
            simp only [List.length_nil] at this
            omega)]
          simp
        have HD : Hid (Prj.Adds l (F0 ++ Pr.joinL (xs.take j)) lj) := hD
        have hj1 : 0 < j := by omega
        clear hD hS HC HXS
        go_wp2_with (go_at_call 31; refine (Prj.put1_at g lj hlj ⟨#[44, 32]⟩ (by decide) (wr.alloc _) (wr.heap.size + 1) (by simp) hAX).mono ?_; rintro e w3 ⟨l3, rfl, hA3, hD3, hF3⟩)
        have hk3 := hF3.keep hkX (by omega) (by decide)
        have hkk3 := hF3.keep hkk0 (by omega) (by decide)
        have hG3 := hFX.trans hF3
        have hl3 := hD3.2.2.2
        rw [HB0.out]
        have hbX : B0 < w3.heap.size := (Array.getElem?_eq_some_iff.1 hk3).1
        have hgX := hA3.lt
        have hkd : (w3).drew.heap[B0]? = some (.cells #[.string pn, .int .i64 (pt : Int)] 85 (0, 0)) := hk3
        have d0 : (w3).drew.cell? ⟨B0, 0, none⟩ = some (.string pn) := by rw [Lib.cell_of_heap hkd]; rfl
        have d1 : (w3).drew.cell? ⟨B0, 1, none⟩ = some (.int .i64 (pt : Int)) := by rw [Lib.cell_of_heap hkd]; rfl
        have d2 := (hTw.out.below (w' := (w3).drew) hG3.1.drew).type pt hpt.2
        have hkf : ((w3).alloc (.cells #[.string pn, .string ⟨#[32]⟩, .string (Mill.typeWord (pt : Int))] 9)).drew.heap[B0]? = some (.cells #[.string pn, .int .i64 (pt : Int)] 85 (0, 0)) := (Prj.new_past w3 _ B0 hbX).trans hk3
        have f0 : ((w3).alloc (.cells #[.string pn, .string ⟨#[32]⟩, .string (Mill.typeWord (pt : Int))] 9)).drew.cell? ⟨B0, 0, none⟩ = some (.string pn) := by rw [Lib.cell_of_heap hkf]; rfl
        have f1 : ((w3).alloc (.cells #[.string pn, .string ⟨#[32]⟩, .string (Mill.typeWord (pt : Int))] 9)).drew.cell? ⟨B0, 1, none⟩ = some (.int .i64 (pt : Int)) := by rw [Lib.cell_of_heap hkf]; rfl
        have f2 := (hTw.out.below (w' := ((w3).alloc (.cells #[.string pn, .string ⟨#[32]⟩, .string (Mill.typeWord (pt : Int))] 9)).drew) (hG3.alloc (by omega) _).1.drew).type pt hpt.2
        go_region_held3 (fun w' => w'.cell? ⟨B0, 0, none⟩ = some (.string pn) ∧ w'.cell? ⟨B0, 1, none⟩ = some (.int .i64 (pt : Int)) ∧ w'.cell? ⟨0, pt, none⟩ = some (.string (Mill.typeWord (pt : Int)))) (with_reducible first | exact ⟨d0, d1, d2⟩ | exact ⟨f0, f1, f2⟩ | exact ⟨e0, e1, e2⟩) (first
          | (go_at_call 31; refine (Prj.put3_drew g l3 (by assumption) pn ⟨#[32]⟩ (Mill.typeWord (pt : Int)) hpn (by decide) (by have := Pr.typeWord_size (pt : Int); omega) w3 _ rfl hA3).mono ?_; rintro e w5 ⟨l5, rfl, hA5, hD5, hF5⟩
             have hk5 := hF5.keep hk3 (by omega) (by decide)
             have e0 : w5.cell? ⟨B0, 0, none⟩ = some (.string pn) := (by rw [Lib.cell_of_heap hk5]; rfl)
             have e1 : w5.cell? ⟨B0, 1, none⟩ = some (.int .i64 (pt : Int)) := (by rw [Lib.cell_of_heap hk5]; rfl)
             have e2 := (hTw.out.below (hG3.trans hF5).1).type pt hpt.2))
        have hkk := hF5.keep hkk3 (by omega) (by decide)
        go_wp2
        go_roundw
        case rel => exact ⟨j + 1, l5, by go_num, by omega, hA5, ((HD.out.trans hD3).trans hD5).eq HS.out, hG3.trans hF5, hkk⟩
        case measure => simp [intOf]; omega
    · have HD : Hid (Prj.Adds l (F0 ++ Pr.joinL xs) lj) := hD.eq (by rw [List.take_of_length_le (by omega)])
      clear hD HC
      have HAj : Hid (Prj.At g lj wr) := hA
      clear hA
      by_cases hr0 : r = 0
      · have HTT : Hid (F0 ++ Pr.joinL xs ++ [41] ++ [32] ++ U ++ [10] = Prj.fnT name (r : Int) ps U) := by
          rw [Hid, Prj.fnT, HXS.out, ← HF0.out, hr0]; simp
        subst hr0
        clear HXS
        go_wp2_with (first
          | (go_at_call 31; refine (Prj.put1_any g lj hlj ⟨#[41]⟩ (by decide) wr HAj.out).mono ?_; rintro e w3 ⟨l3, rfl, hA3, hD3, hF3⟩
             have hk3 := hF3.keep hkw (by omega) (by decide)
             have c3 : w3.cell? ⟨w.heap.size, 1, none⟩ = some (.int .i64 ((0 : Nat) : Int)) := (by rw [Lib.cell_of_heap hk3]; rfl)
             have hG3 := hF.trans hF3
             have HA3 : Hid (Prj.At g l3 w3) := hA3
             clear hA3 HAj)
          | (go_at_call 31; refine (Prj.put1_any g l3 hD3.2.2.2 ⟨#[32]⟩ (by decide) w3 HA3.out).mono ?_; rintro e w4 ⟨l4, rfl, hA4, hD4, hF4⟩
             have hk4 := hF4.keep hk3 (by omega) (by decide)
             have c4 : w4.cell? ⟨w.heap.size, 3, none⟩ = some (.slice ba bn bc) := (by rw [Lib.cell_of_heap hk4]; rfl)
             have hG4 := hG3.trans hF4
             have HA4 : Hid (Prj.At g l4 w4) := hA4
             clear hA4 HA3)
          | (go_at_call 32; refine (HB.out _ l4 (HW.out.trans hG4.1) hD4.2.2.2 HA4.out).mono ?_; rintro e w5 ⟨l5, rfl, hA5, hD5, hF5⟩
             have HA5 : Hid (Prj.At g l5 w5) := hA5
             clear hA5 HA4)
          | (go_at_call 31; refine (Prj.put1_any g l5 hD5.2.2.2 ⟨#[10]⟩ (by decide) w5 HA5.out).mono ?_; rintro e w6 ⟨l6, rfl, hA6, hD6, hF6⟩))
        go_end0
        exact ⟨l6, rfl, hA6, ((((HD.out.trans hD3).trans hD4).trans hD5).trans hD6).eq HTT.out, (hG4.trans hF5).trans hF6⟩
      · have HTT : Hid (F0 ++ Pr.joinL xs ++ [41] ++ ([32, 45, 62, 32] ++ (Mill.typeWord (r : Int)).data.toList) ++ [32] ++ U ++ [10] = Prj.fnT name (r : Int) ps U) := by
          rw [Hid, Prj.fnT, HXS.out, ← HF0.out, if_neg (by omega)]
        have hr1 : ((r : Int) == 0) = false := by simpa using hr0
        have hr2 : ((r : Int) != 0) = true := by simpa using hr0
        have hr11 : (r : Int) < 11 := by omega
        clear HXS
        go_wp2_with (first
          | (go_at_call 31; refine (Prj.put1_any g lj hlj ⟨#[41]⟩ (by decide) wr HAj.out).mono ?_; rintro e w3 ⟨l3, rfl, hA3, hD3, hF3⟩
             have hk3 := hF3.keep hkw (by omega) (by decide)
             have c3 : w3.cell? ⟨w.heap.size, 1, none⟩ = some (.int .i64 (r : Int)) := (by rw [Lib.cell_of_heap hk3]; rfl)
             have hG3 := hF.trans hF3
             have HA3 : Hid (Prj.At g l3 w3) := hA3
             have tw := (hTw.out.below hG3.1).type r hr
             clear hA3 HAj)
          | (go_at_call 31; refine (Prj.put2_any g l3 hD3.2.2.2 ⟨#[32, 45, 62, 32]⟩ (Mill.typeWord (r : Int)) (by decide) (by have := Pr.typeWord_size (r : Int); omega) w3 HA3.out).mono ?_; rintro e w7 ⟨l7, rfl, hA7, hD7, hF7⟩
             have hk7 := hF7.keep hk3 (by omega) (by decide)
             have hG7 := hG3.trans hF7
             have HA7 : Hid (Prj.At g l7 w7) := hA7
             clear hA7 HA3)
          | (go_at_call 31; refine (Prj.put1_any g l7 hD7.2.2.2 ⟨#[32]⟩ (by decide) w7 HA7.out).mono ?_; rintro e w4 ⟨l4, rfl, hA4, hD4, hF4⟩
             have hk4 := hF4.keep hk7 (by omega) (by decide)
             have c4 : w4.cell? ⟨w.heap.size, 3, none⟩ = some (.slice ba bn bc) := (by rw [Lib.cell_of_heap hk4]; rfl)
             have hG4 := hG7.trans hF4
             have HA4 : Hid (Prj.At g l4 w4) := hA4
             clear hA4 HA7)
          | (go_at_call 32; refine (HB.out _ l4 (HW.out.trans hG4.1) hD4.2.2.2 HA4.out).mono ?_; rintro e w5 ⟨l5, rfl, hA5, hD5, hF5⟩
             have HA5 : Hid (Prj.At g l5 w5) := hA5
             clear hA5 HA4)
          | (go_at_call 31; refine (Prj.put1_any g l5 hD5.2.2.2 ⟨#[10]⟩ (by decide) w5 HA5.out).mono ?_; rintro e w6 ⟨l6, rfl, hA6, hD6, hF6⟩))
        go_end0
        exact ⟨l6, rfl, hA6, (((((HD.out.trans hD3).trans hD7).trans hD4).trans hD5).trans hD6).eq HTT.out, (hG4.trans hF5).trans hF6⟩
end Go.Proofs.YtkaoeoeloihigaaGreatDoor

namespace Go.Proofs.YtkaoeoeloihigaaGreatDoor
open Go.RowKit

theorem Prj.parTo_is (out : ByteArray) (l : List Mill.Nd) : ∀ j, j ≤ l.length → (Pr.parTo out l j).data.toList = out.data.toList ++ Pr.joinL ((l.take j).map (fun d => Prj.parT (d.text, d.type)))
  | 0, _ => by simp [Pr.parTo, Pr.joinL]
  | j + 1, h => by
    have ih := Prj.parTo_is out l j (by omega)
    have hj : j < l.length := by omega
    have e1 : l.getD j Pr.noNd = l[j] := by rw [List.getD_eq_getElem?_getD, List.getElem?_eq_getElem hj]; rfl
    have e2 : l.take (j + 1) = l.take j ++ [l[j]] := by rw [List.take_add_one, List.getElem?_eq_getElem hj]; rfl
    rw [Pr.parTo, Pr.par1, e1, e2, List.map_append, List.map_cons, List.map_nil, Pr.joinL_snoc]
    by_cases hj0 : j = 0
    · subst hj0
      simp [Prj.parT, ih, Pr.joinL]
    · have hne : ¬ ((l.take j).map (fun d => Prj.parT (d.text, d.type)) = []) := by
        intro h0
        have := congrArg List.length h0
        rw [List.length_map, List.length_take, List.length_nil] at this
        omega
      rw [if_neg hj0, if_neg hne]
      simp [Prj.parT, ih]
def Prj.FnIs (g : Nat) (w0 : World) (f : Mill.FnR) (T : List UInt8) : Prop :=
  ∀ (w : World) (l : List UInt8), Below g w0 w → l.length ≤ 20000000 → Prj.At g l w → Calls Tryz.prog 15 #[.pointer (some ⟨g, 0, none⟩), .agg #[.string f.name, .int .i64 f.result, f.sp, f.sb]] w fun e w' => ∃ l', e = .returned (.tuple #[]) ∧ Prj.At g l' w' ∧ Prj.Adds l T l' ∧ Prj.Fr g w w'
theorem Prj.fn_tree (g : Nat) (w0 : World) (P : Nat → Prop) (hP : ∀ k, P k → k < g) (hT : Prj.Tabs g w0) (hpow : ∀ w1, Below g w0 w1 → Lib.TabIs Tryz.prog w1 "internal/strconv.uint64pow10" .u64 Lib.pow10Tab)
    (t : Mill.Tr) (f : Mill.FnR) (hg : Pr.Good t) (h23 : t.nd.kind = 23) (hR : Mill.Rep P w0 t (Mill.fnV f)) (hh : t.high ≤ 700) : Prj.FnIs g w0 f (Pr.f t).data.toList := by
  obtain ⟨d, ks⟩ := t
  have h23' : d.kind = 23 := h23
  rw [Pr.Good] at hg
  rw [Mill.Rep] at hR
  obtain ⟨us, ⟨h1, h2, x, hx, hI⟩, hK, h60, hlen, hR⟩ := hR
  have hl := Mill.Reps.len ks us hR
  rw [Mill.Tr.high] at hh
  obtain ⟨ps, SP, SB, rfl, hS, rfl⟩ : ∃ (ps : List (ByteArray × Int)) (SP SB : Value), us = ps.map Mill.prV ++ [Mill.blV SB] ∧ Mill.Sl P w0 SP ps.length (ps.flatMap (fun p => [.string p.1, .int .i64 p.2])) ∧ x = .agg #[.string d.text, .int .i64 d.type, SP, SB] := by
    have := hI; simp only [Mill.Inner, h23'] at this; simpa using this
  have hf : f.name = d.text ∧ f.result = d.type ∧ f.sp = SP ∧ f.sb = SB := by
    unfold Mill.fnV at hx
    injection hx with _ e2
    injection e2 with e3
    have e4 : [Value.string f.name, .int .i64 f.result, f.sp, f.sb] = [.string d.text, .int .i64 d.type, SP, SB] := congrArg Array.toList e3
    injection e4 with a1 e5
    injection e5 with a2 e6
    injection e6 with a3 e7
    injection e7 with a4
    injection a1 with a1
    injection a2 with _ a2
    exact ⟨a1, a2, a3, a4⟩
  obtain ⟨hf1, hf2, hf3, hf4⟩ := hf
  simp only [List.length_append, List.length_map, List.length_cons, List.length_nil] at hl
  obtain ⟨kp, b, rfl, hkp⟩ : ∃ kp b, ks = kp ++ [b] ∧ kp.length = ps.length := by
    refine ⟨ks.dropLast, ks.getLast (by intro h0; rw [h0] at hl; simp at hl), (List.dropLast_concat_getLast _).symm, by rw [List.length_dropLast]; omega⟩
  have hfk := hg.2.1
  rw [h23'] at hfk
  have hfk2 : Mill.fnK ((kp ++ [b]).map (fun t => t.nd.kind)) = true := by simpa [Mill.fits] using hfk
  rw [List.map_append] at hfk2
  simp only [Mill.fnK, List.map_cons, List.map_nil, List.getLast?_append, List.getLast?_singleton, Option.some_or, List.dropLast_concat, Bool.and_eq_true, beq_iff_eq, decide_eq_true_eq, List.length_append, List.length_map, List.length_cons, List.length_nil] at hfk2
  obtain ⟨⟨hb21, hk8⟩, hp22⟩ := hfk2
  have hgk := (Pr.goods_app kp [b]).1 hg.2.2.2
  have hgb : Pr.Good b := Pr.goods_mem [b] hgk.2 b (by simp)
  have hp22' : ∀ t ∈ kp, t.nd.kind = 22 := by
    rw [List.all_map, List.all_eq_true] at hp22
    intro t ht
    simpa using hp22 t ht
  have hpar : ∀ j (h : j < ps.length) (h' : j < kp.length), ps[j] = (kp[j].nd.text, kp[j].nd.type) := by
    intro j h h'
    obtain ⟨u, hu, hr⟩ := Mill.Reps.at (kp ++ [b]) _ hR j (by simp; omega)
    rw [List.getElem?_append_left (by simpa using h), List.getElem?_map, List.getElem?_eq_getElem h] at hu
    have e : (kp ++ [b])[j]'(by simp; omega) = kp[j] := List.getElem_append_left h'
    rw [e] at hr
    have hu2 : Mill.prV ps[j] = u := by simpa using hu
    have k22 := hp22' kp[j] (List.getElem_mem h')
    generalize kp[j] = q at *
    obtain ⟨dq, qs⟩ := q
    have k22' : dq.kind = 22 := k22
    rw [Mill.Rep] at hr
    obtain ⟨us2, ⟨_, _, x2, hx2, hI2⟩, _⟩ := hr
    obtain ⟨_, rfl⟩ : us2 = [] ∧ x2 = .agg #[.string dq.text, .int .i64 dq.type] := by
      have := hI2; simp only [Mill.Inner, k22'] at this; simpa using this
    rw [← hu2] at hx2
    unfold Mill.prV at hx2
    injection hx2 with _ e2
    injection e2 with e3
    have e4 : [Value.string ps[j].1, .int .i64 ps[j].2] = [.string dq.text, .int .i64 dq.type] := congrArg Array.toList e3
    injection e4 with a1 e5
    injection e5 with a2
    injection a1 with a1
    injection a2 with _ a2
    exact Prod.ext a1 a2
  have hps : ps = kp.map (fun t => (t.nd.text, t.nd.type)) := by
    apply List.ext_getElem (by rw [List.length_map]; omega)
    intro j h h'
    rw [List.getElem_map]; exact hpar j h (by omega)
  have hB : Prj.BlIs g w0 SB 0 (Prj.blT b 0) := by
    obtain ⟨u, hu, hr⟩ := Mill.Reps.at (kp ++ [b]) _ hR kp.length (by simp)
    rw [List.getElem?_append_right (by rw [List.length_map]; omega)] at hu
    have hu2 : Mill.blV SB = u := by simpa [hkp] using hu
    have e : (kp ++ [b])[kp.length]'(by simp) = b := by simp
    rw [e, ← hu2] at hr
    have hh2 := Mill.highs_at (kp ++ [b]) kp.length (by simp)
    rw [e] at hh2
    exact (Prj.st_all g w0 P hP hT hpow (b.high + 1)).2 b SB 0 (by omega) hgb hb21 hr (by omega)
  have hu := hg.1
  simp only [Mill.useR, h23'] at hu
  have hu' : Mill.nameOk d.text = true ∧ ((1 ≤ d.type ∧ d.type ≤ 10) ∨ d.type = 0) := by simpa using hu
  have hsz := Prj.nameOk_size hu'.1
  obtain ⟨r, hr⟩ : ∃ r : Nat, d.type = (r : Int) := ⟨d.type.toNat, by omega⟩
  have hE : (Pr.f (.node d (kp ++ [b]))).data.toList = Prj.fnT d.text d.type ps (Prj.blT b 0) := by
    have el : ((kp ++ [b]).getLast?.getD Mill.noTr) = b := by simp
    have ed : (kp ++ [b]).dropLast = kp := by simp
    have hpt := Prj.parTo_is (⟨#[102, 110, 32]⟩ ++ d.text ++ ⟨#[40]⟩) (kp.map Mill.Tr.nd) kp.length (by simp)
    have ep : ((kp.map Mill.Tr.nd).take kp.length).map (fun d => Prj.parT (d.text, d.type)) = ps.map Prj.parT := by
      rw [List.take_of_length_le (by simp), hps, List.map_map, List.map_map]; rfl
    rw [ep] at hpt
    rw [Pr.f, el, ed, Pr.mkF, Pr.headT, Prj.fnT, Prj.blT]
    have e1 : Prj.gapB (0 + 1) = ⟨#[32, 32]⟩ := rfl
    have e0 : (Prj.gapB 0).data.toList = [] := rfl
    rw [e1, e0, List.length_map]
    by_cases h0 : d.type = 0
    · rw [if_pos h0, if_pos h0]
      simp [hpt]
    · rw [if_neg h0, if_neg h0]
      simp [hpt]
  intro w l hw hl2 hA
  rw [hE, hf1, hf2, hf3, hr]
  have hfb : f.sb = .slice f.ba f.bn f.bc := rfl
  rw [hfb]
  rw [← hf4, hfb] at hB
  exact Prj.fn_any g w0 P hP hT d.text (by omega) r (by omega) ps (by omega) (fun p hp => by
    rw [hps] at hp
    obtain ⟨t, ht, rfl⟩ := List.mem_map.1 hp
    have hgt := Pr.goods_mem kp hgk.1 t ht
    have k22 := hp22' t ht
    obtain ⟨dq, qs⟩ := t
    rw [Pr.Good] at hgt
    have k22' : dq.kind = 22 := k22
    have hu := hgt.1
    simp only [Mill.useR, k22'] at hu
    have hu2 : Mill.nameOk dq.text = true ∧ 1 ≤ dq.type ∧ dq.type ≤ 10 := by simpa using hu
    have := Prj.nameOk_size hu2.1
    exact ⟨by show dq.text.size ≤ 15000000; omega, hu2.2.1, hu2.2.2⟩) SP hS f.ba f.bn f.bc _ hB l hl2 w hw hA
end Go.Proofs.YtkaoeoeloihigaaGreatDoor

namespace Go.Proofs.YtkaoeoeloihigaaGreatDoor
open Go.RowKit

theorem Prj.Tabs.up {g g' : Nat} {w : World} (h : Prj.Tabs g w) (hg : g ≤ g') : Prj.Tabs g' w :=
  ⟨h.type, h.un, h.bin, h.built, by have := h.lt; omega⟩
theorem Prj.flat4_at : ∀ (fs : List Mill.FnR) (j : Nat) (h : j < fs.length), (fs.flatMap (fun f => [Value.string f.name, .int .i64 f.result, f.sp, f.sb]))[j * 4]? = some (.string fs[j].name) ∧ (fs.flatMap (fun f => [Value.string f.name, .int .i64 f.result, f.sp, f.sb]))[j * 4 + 1]? = some (.int .i64 fs[j].result) ∧ (fs.flatMap (fun f => [Value.string f.name, .int .i64 f.result, f.sp, f.sb]))[j * 4 + 2]? = some fs[j].sp ∧ (fs.flatMap (fun f => [Value.string f.name, .int .i64 f.result, f.sp, f.sb]))[j * 4 + 3]? = some fs[j].sb
  | f :: r, 0, _ => by simp
  | f :: r, j + 1, h => by
    have ih := Prj.flat4_at r j (by simpa using h)
    have e1 : (j + 1) * 4 = j * 4 + 1 + 1 + 1 + 1 := by omega
    rw [e1]
    have e2 : j * 4 + 1 + 1 + 1 + 1 + 1 = (j * 4 + 1) + 1 + 1 + 1 + 1 := by omega
    have e3 : j * 4 + 1 + 1 + 1 + 1 + 2 = (j * 4 + 2) + 1 + 1 + 1 + 1 := by omega
    have e4 : j * 4 + 1 + 1 + 1 + 1 + 3 = (j * 4 + 3) + 1 + 1 + 1 + 1 := by omega
    rw [e2, e3, e4]
    simp only [List.flatMap_cons, List.cons_append, List.nil_append, List.getElem?_cons_succ, List.getElem_cons_succ]
    exact ih
theorem Prj.sl_fns {P : Nat → Prop} {g : Nat} {w0 w1 : World} {SF : Value} {fs : List Mill.FnR} (hP : ∀ k, P k → k < g) (h : Mill.Sl P w0 SF fs.length (fs.flatMap (fun f => [.string f.name, .int .i64 f.result, f.sp, f.sb]))) (hw : Below g w0 w1) (j : Nat) (hj : j < fs.length) :
    ∃ gu uc, SF = .slice (some ⟨gu, 0, none⟩) fs.length uc ∧ w1.cell? ⟨gu, j * 4, none⟩ = some (.string fs[j].name) ∧ w1.cell? ⟨gu, j * 4 + 1, none⟩ = some (.int .i64 fs[j].result) ∧ w1.cell? ⟨gu, j * 4 + 2, none⟩ = some fs[j].sp ∧ w1.cell? ⟨gu, j * 4 + 3, none⟩ = some fs[j].sb := by
  obtain ⟨a, c, rfl, hc⟩ := h
  obtain ⟨h0, h1, h2, h3⟩ := Prj.flat4_at fs j hj
  obtain ⟨k, ha, hk, hcell⟩ := hc _ _ h0
  have hx : ∀ m u, (fs.flatMap (fun f => [Value.string f.name, .int .i64 f.result, f.sp, f.sb]))[m]? = some u → w1.cell? ⟨k, m, none⟩ = some u := fun m u hm => by
    obtain ⟨k', ha', hk', hcell'⟩ := hc _ _ hm
    rw [ha] at ha'
    injection ha' with e
    injection e with e
    subst e
    rw [hw.cell (p := ⟨k, m, none⟩) (hP k hk)]; exact hcell'
  exact ⟨k, c, by rw [ha], hx _ _ h0, hx _ _ h1, hx _ _ h2, hx _ _ h3⟩
theorem Prj.f_ne (t : Mill.Tr) : (Pr.f t).data.toList ≠ [] := by
  obtain ⟨d, ks⟩ := t
  intro h
  have := congrArg List.length h
  rw [Pr.f, Pr.mkF] at this
  simp at this
def Prj.progTo (t : Mill.Tr) (j : Nat) : List UInt8 := (t.kids.take j).flatMap (fun f => (Pr.f f).data.toList)
theorem Prj.progTo_all (t : Mill.Tr) (n : Nat) (h : t.kids.length ≤ n) : Prj.progTo t n = Pr.progL t := by rw [Prj.progTo, List.take_of_length_le h]; rfl
theorem Prj.progTo_succ (t : Mill.Tr) (j : Nat) (h : j < t.kids.length) : Prj.progTo t (j + 1) = Prj.progTo t j ++ (Pr.f t.kids[j]).data.toList := by
  have e2 : t.kids.take (j + 1) = t.kids.take j ++ [t.kids[j]] := by rw [List.take_add_one, List.getElem?_eq_getElem h]; rfl
  rw [Prj.progTo, e2, List.flatMap_append, Prj.progTo]; simp
set_option maxRecDepth 100000 in
set_option maxHeartbeats 4000000 in
theorem Prj.implPrint_any (ns : List Mill.Nd) (v : Value) (w : World) (hN : Mill.NodesAt w v ns) (HX : Hid (∀ d ∈ ns, d.text.size ≤ 1048576)) (hG : Mill.Greats w) (hW : Mill.Builts w) (HT : Hid (Prj.Tabs w.heap.size w)) (HP : Hid (∀ w1, Below w.heap.size w w1 → Lib.TabIs Tryz.prog w1 "internal/strconv.uint64pow10" .u64 Lib.pow10Tab)) :
    Calls Tryz.prog 7 #[.agg #[v]] w fun e w' => e = .returned (.string (Pr.printL ns)) ∧ Below w.heap.size w w' := by
  have hb0 : ∀ o : Obj, Below w.heap.size w (w.alloc o) := fun o => (Below.refl _ w).alloc (Nat.le_refl _) o
  have hvs : ∃ a c, v = .slice a ns.length c := by obtain ⟨a, c, h, _⟩ := hN; exact ⟨a, c, h⟩
  obtain ⟨a, cap, rfl⟩ := hvs
  have HR : Hid (∀ o, Calls Tryz.prog 14 #[.agg #[.slice a ns.length cap]] (w.alloc o) fun e w' => Mill.RootPost (w.alloc o) ns e w') := fun o => rootOf_any ns _ _ (Mill.nodesAt_below hN (hb0 _)) HX.out (hG.below (hb0 _)) (hW.below (hb0 _))
  clear hN hG hW
  cases hv : Mill.rootOk ns with
  | false =>
    have HV : Hid (Pr.printL ns = ⟨#[]⟩) := by
      rw [Hid, Pr.printL, if_neg (by rw [Mill.valid_root, hv]; decide)]
    revert HR
    generalize ns.length = n
    intro HR
    go_enter Tryz.func7, Tryz.ntmps7
    go_wp2_with (go_at_call 14; (refine (HR.out _).mono ?_; rintro e w1 ⟨⟨ax, nx, cx, rfl, _⟩, hb⟩; rw [World.size_alloc] at hb; rw [hv]))
    go_ret
    have hz := hb.size
    rw [World.size_alloc] at hz
    exact ⟨by rw [HV.out]; rfl, ((hb0 _).trans (hb.mono (Nat.le_succ _))).alloc (by omega) _⟩
  | true =>
    have hval : Mill.valid ns = true := by rw [Mill.valid_root, hv]
    revert HR
    generalize ns.length = nn
    intro HR
    go_enter Tryz.func7, Tryz.ntmps7
    go_wp2_with (go_at_call 14; (refine (HR.out _).mono ?_; rintro e w1 ⟨⟨ax, nx, cx, rfl, hroot⟩, hb⟩; rw [World.size_alloc] at hb; rw [hv]))
    obtain ⟨t, P, hgrow, hP, hrep⟩ := hroot hv
    clear hroot HR
    have hz := hb.size
    rw [World.size_alloc] at hz
    have hbw1 : Below w.heap.size w w1 := (hb0 _).trans (hb.mono (Nat.le_succ _))
    obtain ⟨Z, hZ⟩ : ∃ Z, (w1.alloc (.cells #[.slice ax nx cx] 47)).alloc (.cells #[.pointer none, .slice none 0 0] 54) = Z := ⟨_, rfl⟩
    obtain ⟨g, hg⟩ : ∃ g, w1.heap.size + 1 = g := ⟨_, rfl⟩
    have hbZ : Below w1.heap.size w1 Z := by rw [← hZ]; exact ((Below.refl _ w1).alloc (Nat.le_refl _) _).alloc (by simp) _
    have hwZ : Below w.heap.size w Z := hbw1.trans (hbZ.mono (by omega))
    have hAZ : Prj.At g [] Z := by
      rw [← hZ, ← hg]
      have h := Lib.fresh_isBuilder 54 5 (w1.alloc (.cells #[.slice ax nx cx] 47))
      rw [World.size_alloc] at h
      exact Lib.IsBuilderF.of h
    have hPg : ∀ k, P k → k < g := fun k hk => by have := hP k hk; omega
    have hrepZ : Mill.Rep P Z t (.iface 47 (.agg #[.slice ax nx cx])) := Mill.Rep.below (fun _ h => h) (fun k hk => hbZ.block k (hP k hk)) t _ hrep
    have hTZ : Prj.Tabs g Z := (HT.out.below hwZ).up (by omega)
    have hpZ : ∀ w2, Below g Z w2 → Lib.TabIs Tryz.prog w2 "internal/strconv.uint64pow10" .u64 Lib.pow10Tab := fun w2 h2 => HP.out w2 (hwZ.trans (h2.mono (by omega)))
    have hgood : Pr.Good t := by
      have h := Pr.grow_good ns [] [t] hgrow HX.out (by rw [Pr.Goods]; trivial)
      exact Pr.goods_mem [t] h t (by simp)
    obtain ⟨h24, hhigh⟩ : t.nd.kind = 24 ∧ t.high ≤ 60 := by
      have h := hv
      simp only [Mill.rootOk, hgrow, Bool.and_eq_true, beq_iff_eq, decide_eq_true_eq] at h
      exact h.2
    have hprint : Pr.printL ns = if (Pr.progL t).length ≤ 12000 then ⟨(Pr.progL t).toArray⟩ else ⟨#[]⟩ := by
      rw [Pr.printL, if_pos hval, hgrow]
    obtain ⟨fs, hnx, hcel, hfn, hkl⟩ : ∃ fs : List Mill.FnR, fs.length = nx ∧ (∀ w2, Below g Z w2 → ∀ j (h : j < fs.length), ∃ gu, ax = some ⟨gu, 0, none⟩ ∧ w2.cell? ⟨gu, j * 4, none⟩ = some (.string fs[j].name) ∧ w2.cell? ⟨gu, j * 4 + 1, none⟩ = some (.int .i64 fs[j].result) ∧ w2.cell? ⟨gu, j * 4 + 2, none⟩ = some fs[j].sp ∧ w2.cell? ⟨gu, j * 4 + 3, none⟩ = some fs[j].sb) ∧ (∀ j (h : j < fs.length) (h' : j < t.kids.length), Prj.FnIs g Z fs[j] (Pr.f t.kids[j]).data.toList) ∧ t.kids.length = fs.length ∧ 1 ≤ fs.length ∧ fs.length ≤ 60 := by
      obtain ⟨d, ks⟩ := t
      have h24' : d.kind = 24 := h24
      rw [Pr.Good] at hgood
      rw [Mill.Rep] at hrepZ
      obtain ⟨us, ⟨_, _, x, hx, hI⟩, hK, _, _, hRs⟩ := hrepZ
      have hl := Mill.Reps.len ks us hRs
      obtain ⟨fs, SF, rfl, hS, rfl⟩ : ∃ (fs : List Mill.FnR) (SF : Value), us = fs.map Mill.fnV ∧ Mill.Sl P Z SF fs.length (fs.flatMap (fun f => [.string f.name, .int .i64 f.result, f.sp, f.sb])) ∧ x = .agg #[SF] := by
        have := hI; simp only [Mill.Inner, h24'] at this; simpa using this
      have hSF : SF = .slice ax nx cx := by
        injection hx with _ e2
        injection e2 with e3
        have e4 : [Value.slice ax nx cx] = [SF] := congrArg Array.toList e3
        injection e4 with e5
        exact e5.symm
      subst hSF
      have hnx : fs.length = nx := by
        obtain ⟨a2, c2, he, _⟩ := hS
        injection he with _ e2
        exact e2.symm
      rw [List.length_map] at hl
      have hfit := hgood.2.1
      rw [h24'] at hfit
      have hfit2 : ((∀ t ∈ ks, t.nd.kind = 23) ∧ 1 ≤ ks.length) ∧ ks.length ≤ 60 := by simpa [Mill.fits] using hfit
      rw [Mill.Tr.high] at hhigh
      refine ⟨fs, hnx, fun w2 h2 j hj => ?_, fun j hj hj' => ?_, hl.symm, by omega, by omega⟩
      · obtain ⟨gu, uc, he, h0, h1, h3, h4⟩ := Prj.sl_fns hPg hS h2 j hj
        injection he with e1
        exact ⟨gu, e1, h0, h1, h3, h4⟩
      · have hj2 : j < ks.length := hj'
        obtain ⟨u, hu, hr⟩ := Mill.Reps.at ks _ hRs j hj2
        rw [List.getElem?_map, List.getElem?_eq_getElem hj] at hu
        have hu2 : Mill.fnV fs[j] = u := by simpa using hu
        rw [← hu2] at hr
        have hh2 := Mill.highs_at ks j hj2
        exact Prj.fn_tree g Z P hPg hTZ hpZ ks[j] fs[j] (Pr.goods_mem ks hgood.2.2.2 _ (List.getElem_mem hj2)) (hfit2.1.1 _ (List.getElem_mem hj2)) hr (by omega)
    have HC : Hid (∀ w2, Below g Z w2 → ∀ j (h : j < fs.length), ∃ gu, ax = some ⟨gu, 0, none⟩ ∧ w2.cell? ⟨gu, j * 4, none⟩ = some (.string fs[j].name) ∧ w2.cell? ⟨gu, j * 4 + 1, none⟩ = some (.int .i64 fs[j].result) ∧ w2.cell? ⟨gu, j * 4 + 2, none⟩ = some fs[j].sp ∧ w2.cell? ⟨gu, j * 4 + 3, none⟩ = some fs[j].sb) := hcel
    have HFN : Hid (∀ j (h : j < fs.length) (h' : j < t.kids.length), Prj.FnIs g Z fs[j] (Pr.f t.kids[j]).data.toList) := hfn
    have HNX : Hid (fs.length = nx) := hnx
    have HKL : Hid (t.kids.length = nx) := by rw [Hid, hkl.1, hnx]
    have hnx60 : 1 ≤ nx ∧ nx ≤ 60 := by rw [← hnx]; exact hkl.2
    have HPR : Hid (Pr.printL ns = if (Pr.progL t).length ≤ 12000 then ⟨(Pr.progL t).toArray⟩ else ⟨#[]⟩) := hprint
    have HgZ : Hid (g < Z.heap.size) := hAZ.lt
    clear hrepZ hrep hPg hTZ hpZ hgood hcel hfn hnx hkl hprint hval hP hgrow
    rw [hZ, hg]
    go_loopw [18] (fun i wr => ∃ (j : Nat) (lj : List UInt8), i = .int .i64 (j : Int) ∧ j ≤ nx ∧ Prj.At g lj wr ∧ Prj.Adds [] (Prj.progTo t j) lj ∧ Prj.Fr g Z wr) (fun i _ => nx - (intOf i).toNat)
    case atStart => exact ⟨0, [], rfl, by omega, hAZ, (Prj.Adds.nil (by simp)).eq (by simp [Prj.progTo]), Prj.Fr.refl g Z⟩
    case round =>
      obtain ⟨j, lj, rfl, hj, hA, hD, hF⟩ := hrel
      have hlj := hD.2.2.2
      by_cases hjn : j < nx
      · have hjf : j < fs.length := by rw [HNX.out]; exact hjn
        have hjk : j < t.kids.length := by rw [HKL.out]; exact hjn
        obtain ⟨gu, rfl, q0, q1, q2, q3⟩ := HC.out wr hF.1 j hjf
        have hfj := HFN.out j hjf hjk
        have HD : Hid (Prj.Adds [] (Prj.progTo t j) lj) := hD
        have HS : Hid (Prj.progTo t j ++ (Pr.f t.kids[j]).data.toList = Prj.progTo t (j + 1)) := (Prj.progTo_succ t j hjk).symm
        generalize (Pr.f t.kids[j]).data.toList = T at *
        generalize fs[j] = f at *
        have HFJ : Hid (Prj.FnIs g Z f T) := hfj
        obtain ⟨fname, fres, fsa, fsn, fsc, fba, fbn, fbc⟩ := f
        simp only [Mill.FnR.sp, Mill.FnR.sb] at q0 q1 q2 q3
        have hgr := hA.lt
        have hgz := HgZ.out
        clear hfj hD HC HFN
        go_wp2_with (go_at_call 15; refine (HFJ.out _ lj (hF.alloc (by omega) _).1 hlj (hA.alloc _)).mono ?_; rintro e w3 ⟨l3, rfl, hA3, hD3, hF3⟩)
        go_roundw
        case rel => exact ⟨j + 1, l3, by go_num, by omega, hA3, (HD.out.trans hD3).eq HS.out, (hF.alloc (by omega) _).trans hF3⟩
        case measure => simp [intOf]; omega
      · have HD : Hid (Prj.Adds [] (Pr.progL t) lj) := hD.eq (Prj.progTo_all t j (by rw [HKL.out]; omega))
        have hgz := HgZ.out
        have hfin : Below w.heap.size w wr := hwZ.trans (hF.1.mono (by omega))
        clear hD HC HFN
        by_cases hf : 12000 < lj.length
        · have HV : Hid (Pr.printL ns = ⟨#[]⟩) := by
            rw [Hid, HPR.out, if_neg]
            intro hle
            have := HD.out.2.1 (by simpa using hle)
            rw [this] at hf
            simp at hf
            omega
          go_wp2_with (go_at_call 16; refine (Prj.full_b true g lj (by omega) (decide_eq_true hf) _ hA).mono ?_; rintro e w3 ⟨rfl, rfl⟩)
          go_ret
          exact ⟨by rw [HV.out]; rfl, hfin⟩
        · have hle : (Pr.progL t).length ≤ 12000 := by
            apply Decidable.byContradiction
            intro h
            exact hf (HD.out.2.2.1 (by simp; omega))
          have hlj2 : lj = Pr.progL t := by
            have := HD.out.2.1 (by simpa using hle)
            rw [this]; rfl
          have HV : Hid (Pr.printL ns = ⟨lj.toArray⟩) := by rw [Hid, HPR.out, if_pos hle, hlj2]
          have hne : lj ≠ [] := by
            rw [hlj2]
            intro h0
            have hk : 0 < t.kids.length := by rw [HKL.out]; omega
            have h1 := Prj.f_ne t.kids[0]
            apply h1
            have h2 : (Pr.f t.kids[0]).data.toList ⊆ Pr.progL t := fun c hc => List.mem_flatMap.2 ⟨_, List.getElem_mem hk, hc⟩
            rw [h0] at h2
            exact List.eq_nil_of_subset_nil h2
          clear hlj2 hle HPR
          go_wp2_with (first
            | (go_at_call 16; refine (Prj.full_b false g lj (by omega) (decide_eq_false hf) _ hA).mono ?_; rintro e w3 ⟨rfl, rfl⟩)
            | (go_at_call 17; refine (Prj.stringT 54 g g lj _ hA hne).mono ?_; rintro e w4 ⟨rfl, hb4, _⟩))
          go_ret
          exact ⟨by rw [HV.out]; rfl, hfin.trans (hb4.mono (by omega))⟩
end Go.Proofs.YtkaoeoeloihigaaGreatDoor
