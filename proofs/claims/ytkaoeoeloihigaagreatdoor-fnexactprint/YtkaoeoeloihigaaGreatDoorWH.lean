import Derived.Test.YtkaoeoeloihigaaGreatDoorWG
import Derived.Test.YtkaoeoeloihigaaGreatDoorVTreeZA
import Derived.Deep.RegionHeld3
namespace Go.Proofs.YtkaoeoeloihigaaGreatDoor
open Go.RowKit

/-- value of this branch puts this text. -/
def Prj.ValIs (g : Nat) (w0 : World) (v : Value) (T : List UInt8) : Prop :=
  ∀ (w : World) (l : List UInt8), Below g w0 w → l.length ≤ 20000000 → Prj.At g l w → Calls Tryz.prog 74 #[.pointer (some ⟨g, 0, none⟩), v] w fun e w' => ∃ l', e = .returned (.tuple #[]) ∧ Prj.At g l' w' ∧ Prj.Adds l T l' ∧ Prj.Fr g w w'
def Prj.heldL (k : Int) (T : List UInt8) : List UInt8 := if k = 6 then [40] ++ T ++ [41] else T
theorem Prj.txt1 (g : Nat) (w : World) (x : ByteArray) (hg : g < w.heap.size) : Prj.Txts g (w.alloc (.cells #[.string x] 9)) (.slice (some ⟨w.heap.size, 0, none⟩) 1 1) [x] :=
  Prj.txts_new g w [x] #[.string x] hg (fun j h => by
    have : j = 0 := by simp at h; exact h
    subst this; rfl)
theorem Prj.put1_any (g : Nat) (l : List UInt8) (hl : l.length ≤ 20000000) (x : ByteArray) (hx : x.size ≤ 15000000) (w : World) (hA : Prj.At g l w) :
    Calls Tryz.prog 31 #[.pointer (some ⟨g, 0, none⟩), .slice (some ⟨w.heap.size, 0, none⟩) 1 1] (w.alloc (.cells #[.string x] 9)) fun e w' => ∃ l', e = .returned (.tuple #[]) ∧ Prj.At g l' w' ∧ Prj.Adds l x.data.toList l' ∧ Prj.Fr g w w' := by
  have hg := hA.lt
  refine (Prj.put_adds g l hl [x] (by simp) (by simpa using hx) _ _ (Prj.txt1 g w x hg) (hA.alloc _) (by simp; omega)).mono ?_
  rintro e w' ⟨l', rfl, h1, h2, h3⟩
  exact ⟨l', rfl, h1, h2.eq (by simp), (Prj.Fr.alloc (Prj.Fr.refl g w) (by omega) _).trans h3⟩
set_option maxRecDepth 100000 in
set_option maxHeartbeats 2000000 in
theorem Prj.operand_bin (g : Nat) (w0 : World) (o : Int) (t1 t2 : TypeId) (y1 y2 : Value) (T : List UInt8) (l : List UInt8) (hl : l.length ≤ 20000000) (HV : Hid (Prj.ValIs g w0 (.iface 132 (.agg #[.int .i64 o, .iface t1 y1, .iface t2 y2])) T)) (w : World) (HW : Hid (Below g w0 w)) (HA : Hid (Prj.At g l w)) :
    Calls Tryz.prog 92 #[.pointer (some ⟨g, 0, none⟩), .iface 132 (.agg #[.int .i64 o, .iface t1 y1, .iface t2 y2])] w fun e w' => ∃ l', e = .returned (.tuple #[]) ∧ Prj.At g l' w' ∧ Prj.Adds l ([40] ++ T ++ [41]) l' ∧ Prj.Fr g w w' := by
  have hta := Tryz.ta_binNode 132 (.agg #[.int .i64 o, .iface t1 y1, .iface t2 y2])
  simp only [if_true] at hta
  obtain ⟨U, HU⟩ : ∃ U, Hid ([40] ++ T ++ [41] = U) := ⟨[40] ++ T ++ [41], (rfl : [40] ++ T ++ [41] = _)⟩
  rw [HU.out]
  have hgw := HA.out.lt
  have HA1 : ∀ ob : Obj, Prj.At g l (w.alloc ob) := fun ob => HA.out.alloc ob
  have hF1 : ∀ ob : Obj, Prj.Fr g w (w.alloc ob) := fun ob => Prj.Fr.alloc (Prj.Fr.refl g w) (by omega) ob
  go_enter Tryz.func92, Tryz.ntmps92
  go_upto_region 3 with fail
  generalize hW1 : w.alloc _ = W1
  have hA1 : Prj.At g l W1 := by rw [← hW1]; exact HA1 _
  have hG1 : Prj.Fr g w W1 := by rw [← hW1]; exact hF1 _
  clear hW1 HA1 hF1
  go_upto_region 4 with (first
    | (go_at_call 31; refine (Prj.put1_any g l hl ⟨#[40]⟩ (by decide) _ hA1).mono ?_; rintro e w2 ⟨l2, rfl, hA2, hD2, hF2⟩))
  have hG2 := hG1.trans hF2
  go_upto_region 5 with (first
    | (go_at_call 74; refine (HV.out _ l2 (HW.out.trans hG2.1) hD2.2.2.2 hA2).mono ?_; rintro e w3 ⟨l3, rfl, hA3, hD3, hF3⟩))
  have hG3 := hG2.trans hF3
  go_wp2_with (first
    | (go_at_call 31; refine (Prj.put1_any g l3 hD3.2.2.2 ⟨#[41]⟩ (by decide) _ hA3).mono ?_; rintro e w4 ⟨l4, rfl, hA4, hD4, hF4⟩))
  go_end0
  exact ⟨l4, rfl, hA4, ((hD2.trans hD3).trans hD4).eq (by rw [← HU.out]), hG3.trans hF4⟩
set_option maxRecDepth 100000 in
set_option maxHeartbeats 2000000 in
theorem Prj.operand_other (g : Nat) (w0 : World) (t : TypeId) (ht : t ≠ 132) (x : Value) (T : List UInt8) (l : List UInt8) (hl : l.length ≤ 20000000) (HV : Hid (Prj.ValIs g w0 (.iface t x) T)) (w : World) (HW : Hid (Below g w0 w)) (HA : Hid (Prj.At g l w)) :
    Calls Tryz.prog 92 #[.pointer (some ⟨g, 0, none⟩), .iface t x] w fun e w' => ∃ l', e = .returned (.tuple #[]) ∧ Prj.At g l' w' ∧ Prj.Adds l T l' ∧ Prj.Fr g w w' := by
  have hta := Tryz.ta_binNode t x
  simp only [if_neg ht] at hta
  have hgw := HA.out.lt
  have HA1 : Hid (∀ ob : Obj, Prj.At g l (w.alloc ob)) := fun ob => HA.out.alloc ob
  have HF1 : Hid (∀ ob : Obj, Prj.Fr g w (w.alloc ob)) := fun ob => Prj.Fr.alloc (Prj.Fr.refl g w) (by omega) ob
  go_enter Tryz.func92, Tryz.ntmps92
  go_wp2_with (first
    | (go_at_call 74; refine (HV.out _ l (HW.out.trans (HF1.out _).1) hl (HA1.out _)).mono ?_; rintro e w3 ⟨l3, rfl, hA3, hD3, hF3⟩))
  exact bodyPost_ret (v := .tuple #[]) (by simp [results, Tryz.results92, go_sem]) rfl ⟨l3, rfl, hA3, hD3, (HF1.out _).trans hF3⟩
end Go.Proofs.YtkaoeoeloihigaaGreatDoor

namespace Go.Proofs.YtkaoeoeloihigaaGreatDoor
open Go.RowKit

def Prj.RowSt (g : Nat) (w : World) (v : Value) (us : List Value) : Prop := ∃ ua uc, v = .slice ua us.length uc ∧ ∀ j (h : j < us.length), ∃ gu o, ua = some ⟨gu, o, none⟩ ∧ ∀ w', Prj.Fr g w w' → w'.cell? ⟨gu, o + j, none⟩ = some us[j]
theorem Prj.RowSt.fr {g : Nat} {w w' : World} {v : Value} {us : List Value} (h : Prj.RowSt g w v us) (hf : Prj.Fr g w w') : Prj.RowSt g w' v us := by
  obtain ⟨ua, uc, he, hj⟩ := h
  refine ⟨ua, uc, he, fun j hjl => ?_⟩
  obtain ⟨gu, o, h1, h2⟩ := hj j hjl
  exact ⟨gu, o, h1, fun w2 h3 => h2 w2 (hf.trans h3)⟩
set_option maxRecDepth 100000 in
set_option maxHeartbeats 2000000 in
theorem Prj.values_any (g : Nat) (w0 : World) (v : Value) (us : List Value) (xs : List ByteArray) (hlen : xs.length = us.length) (hn : us.length ≤ 100000) (l : List UInt8) (hl : l.length ≤ 20000000) (w : World) (HR : Hid (Prj.RowSt g w v us))
    (HV : Hid (∀ j (h : j < us.length) (h' : j < xs.length), Prj.ValIs g w0 us[j] xs[j].data.toList)) (HW : Hid (Below g w0 w)) (HA : Hid (Prj.At g l w)) :
    Calls Tryz.prog 94 #[.pointer (some ⟨g, 0, none⟩), v] w fun e w' => ∃ l', e = .returned (.tuple #[]) ∧ Prj.At g l' w' ∧ Prj.Adds l (Pr.joinL xs) l' ∧ Prj.Fr g w w' := by
  obtain ⟨ua, uc, rfl, hj0⟩ := HR.out
  have HJ : Hid (∀ j (h : j < us.length), ∃ gu o, ua = some ⟨gu, o, none⟩ ∧ ∀ w', Prj.Fr g w w' → w'.cell? ⟨gu, o + j, none⟩ = some us[j]) := hj0
  clear hj0 HR
  obtain ⟨n, HN⟩ : ∃ n, Hid (us.length = n) := ⟨us.length, (rfl : us.length = _)⟩
  rw [HN.out] at hn hlen
  simp only [HN.out]
  go_enter Tryz.func94, Tryz.ntmps94
  go_wp2
  go_loopw [8] (fun i wr => ∃ (j : Nat) (lj : List UInt8), i = .int .i64 (j : Int) ∧ j ≤ n ∧ Prj.At g lj wr ∧ Prj.Adds l (Pr.joinL (xs.take j)) lj ∧ Prj.Fr g w wr) (fun i _ => n - (intOf i).toNat)
  case atStart => exact ⟨0, l, rfl, by omega, HA.out, (Prj.Adds.nil hl).eq (by simp [Pr.joinL]), Prj.Fr.refl g w⟩
  case round =>
    obtain ⟨j, lj, rfl, hj, hA, hD, hF⟩ := hrel
    have hlj := hD.2.2.2
    by_cases hjn : j < n
    · have hjk : j < us.length := by rw [HN.out]; exact hjn
      have hjx : j < xs.length := by omega
      obtain ⟨gu, o, rfl, hcell⟩ := HJ.out j hjk
      have c1 := hcell wr hF
      have hE := HV.out j hjk hjx
      have hS := Pr.joinL_snoc (xs.take j) xs[j]
      have e2 : xs.take j ++ [xs[j]] = xs.take (j + 1) := by rw [List.take_add_one, List.getElem?_eq_getElem hjx]; rfl
      rw [e2] at hS
      generalize xs[j] = x at *
      generalize us[j] = u at *
      have HX : Hid (Prj.ValIs g w0 u x.data.toList) := hE
      clear hE hcell e2
      by_cases hj0 : j = 0
      · subst hj0
        simp only [Nat.add_zero] at c1
        have HD : Hid (Prj.Adds l [] lj) := hD.eq (by simp [Pr.joinL])
        have HS : Hid ([] ++ x.data.toList = Pr.joinL (xs.take (0 + 1))) := by rw [Hid, hS]; simp
        clear hD hS
        go_wp2_with (first
          | (go_at_call 74; refine (HX.out _ lj (HW.out.trans hF.1) hlj hA).mono ?_; rintro e w2 ⟨l2, rfl, hA2, hD2, hF2⟩))
        go_roundw
        case rel => exact ⟨0 + 1, l2, by go_num, by omega, hA2, (HD.out.trans hD2).eq HS.out, hF.trans hF2⟩
        case measure => simp [intOf]; omega
      · have HS : Hid (Pr.joinL (xs.take j) ++ [44, 32] ++ x.data.toList = Pr.joinL (xs.take (j + 1))) := by
          rw [Hid, hS, if_neg (by
            intro h
            have := congrArg List.length h
            rw [List.length_take] at this
            simp only [List.length_nil] at this
            omega)]
        have hj1 : 0 < j := by omega
        have HD : Hid (Prj.Adds l (Pr.joinL (xs.take j)) lj) := hD
        clear hD hS
        go_wp2_with (first
          | (go_at_call 31; refine (Prj.put1_any g lj hlj ⟨#[44, 32]⟩ (by decide) _ hA).mono ?_; rintro e w2 ⟨l2, rfl, hA2, hD2, hF2⟩
             have hG2 := hF.trans hF2)
          | (go_at_call 74; refine (HX.out _ l2 (HW.out.trans hG2.1) hD2.2.2.2 hA2).mono ?_; rintro e w3 ⟨l3, rfl, hA3, hD3, hF3⟩))
        go_roundw
        case rel => exact ⟨j + 1, l3, by go_num, by omega, hA3, ((HD.out.trans hD2).trans hD3).eq HS.out, hG2.trans hF3⟩
        case measure => simp [intOf]; omega
    · have HD : Hid (Prj.Adds l (Pr.joinL xs) lj) := hD.eq (by rw [List.take_of_length_le (by omega)])
      go_wp2
      go_end0
      exact ⟨lj, rfl, hA, HD.out, hF⟩
end Go.Proofs.YtkaoeoeloihigaaGreatDoor

namespace Go.Proofs.YtkaoeoeloihigaaGreatDoor
open Go.RowKit

theorem Prj.put2_any (g : Nat) (l : List UInt8) (hl : l.length ≤ 20000000) (x y : ByteArray) (hx : x.size ≤ 15000000) (hy : y.size ≤ 15000000) (w : World) (hA : Prj.At g l w) :
    Calls Tryz.prog 31 #[.pointer (some ⟨g, 0, none⟩), .slice (some ⟨w.heap.size, 0, none⟩) 2 2] (w.alloc (.cells #[.string x, .string y] 9)) fun e w' => ∃ l', e = .returned (.tuple #[]) ∧ Prj.At g l' w' ∧ Prj.Adds l (x.data.toList ++ y.data.toList) l' ∧ Prj.Fr g w w' := by
  have hg := hA.lt
  refine (Prj.put_adds g l hl [x, y] (by simp) (by simp [hx, hy]) _ _ (Prj.txts_new g w [x, y] #[.string x, .string y] hg (fun j h => by
    have : j = 0 ∨ j = 1 := by simp at h; omega
    rcases this with rfl | rfl <;> rfl)) (hA.alloc _) (by simp; omega)).mono ?_
  rintro e w' ⟨l', rfl, h1, h2, h3⟩
  exact ⟨l', rfl, h1, h2.eq (by simp), (Prj.Fr.alloc (Prj.Fr.refl g w) (by omega) _).trans h3⟩
theorem Prj.put3_any (g : Nat) (l : List UInt8) (hl : l.length ≤ 20000000) (x y z : ByteArray) (hx : x.size ≤ 15000000) (hy : y.size ≤ 15000000) (hz : z.size ≤ 15000000) (w : World) (hA : Prj.At g l w) :
    Calls Tryz.prog 31 #[.pointer (some ⟨g, 0, none⟩), .slice (some ⟨w.heap.size, 0, none⟩) 3 3] (w.alloc (.cells #[.string x, .string y, .string z] 9)) fun e w' => ∃ l', e = .returned (.tuple #[]) ∧ Prj.At g l' w' ∧ Prj.Adds l (x.data.toList ++ y.data.toList ++ z.data.toList) l' ∧ Prj.Fr g w w' := by
  have hg := hA.lt
  refine (Prj.put_adds g l hl [x, y, z] (by simp) (by simp [hx, hy, hz]) _ _ (Prj.txts_new g w [x, y, z] #[.string x, .string y, .string z] hg (fun j h => by
    have : j = 0 ∨ j = 1 ∨ j = 2 := by simp at h; omega
    rcases this with rfl | rfl | rfl <;> rfl)) (hA.alloc _) (by simp; omega)).mono ?_
  rintro e w' ⟨l', rfl, h1, h2, h3⟩
  exact ⟨l', rfl, h1, h2.eq (by simp), (Prj.Fr.alloc (Prj.Fr.refl g w) (by omega) _).trans h3⟩
set_option maxRecDepth 100000 in
set_option maxHeartbeats 2000000 in
theorem Prj.called_any (g : Nat) (w0 : World) (word : ByteArray) (hword : word.size ≤ 15000000) (v : Value) (us : List Value) (xs : List ByteArray) (hlen : xs.length = us.length) (hn : us.length ≤ 100000) (l : List UInt8) (hl : l.length ≤ 20000000) (w : World) (HR : Hid (Prj.RowSt g w v us))
    (HV : Hid (∀ j (h : j < us.length) (h' : j < xs.length), Prj.ValIs g w0 us[j] xs[j].data.toList)) (HW : Hid (Below g w0 w)) (HA : Hid (Prj.At g l w)) :
    Calls Tryz.prog 93 #[.pointer (some ⟨g, 0, none⟩), .string word, v] w fun e w' => ∃ l', e = .returned (.tuple #[]) ∧ Prj.At g l' w' ∧ Prj.Adds l (Pr.called word xs).data.toList l' ∧ Prj.Fr g w w' := by
  have HT : Hid (word.data.toList ++ [40] ++ Pr.joinL xs ++ [41] = (Pr.called word xs).data.toList) := by
    rw [Hid, Pr.called, Pr.listT]
    simp [ByteArray.data_append]
  have HA0 := HA.out
  go_enter Tryz.func93, Tryz.ntmps93
  go_upto_region 1 with (first
    | (go_at_call 31; refine (Prj.put2_any g l hl word ⟨#[40]⟩ hword (by decide) _ HA0).mono ?_; rintro e w2 ⟨l2, rfl, hA2, hD2, hF2⟩))
  go_upto_region 2 with (first
    | (go_at_call 94; refine (Prj.values_any g w0 v us xs hlen hn l2 hD2.2.2.2 _ (HR.out.fr hF2) HV (HW.out.trans hF2.1) hA2).mono ?_; rintro e w3 ⟨l3, rfl, hA3, hD3, hF3⟩))
  go_wp2_with (first
    | (go_at_call 31; refine (Prj.put1_any g l3 hD3.2.2.2 ⟨#[41]⟩ (by decide) _ hA3).mono ?_; rintro e w4 ⟨l4, rfl, hA4, hD4, hF4⟩))
  go_end0
  exact ⟨l4, rfl, hA4, ((hD2.trans hD3).trans hD4).eq HT.out, (hF2.trans hF3).trans hF4⟩
end Go.Proofs.YtkaoeoeloihigaaGreatDoor

namespace Go.Proofs.YtkaoeoeloihigaaGreatDoor
open Go.RowKit

structure Prj.Tabs (g : Nat) (w : World) : Prop where
  type : ∀ t : Nat, t ≤ 10 → w.cell? ⟨0, t, none⟩ = some (.string (Mill.typeWord (t : Int)))
  un : ∀ t : Nat, 1 ≤ t → t ≤ 3 → w.cell? ⟨3, t, none⟩ = some (.string (Pr.unMark (t : Int)))
  bin : ∀ t : Nat, 1 ≤ t → t ≤ 18 → w.cell? ⟨4, t * 2, none⟩ = some (.string (Pr.binMark (t : Int)))
  built : ∀ t : Nat, 1 ≤ t → t ≤ 12 → w.cell? ⟨2, t * 2, none⟩ = some (.string (Mill.builtWord (t : Int)))
  lt : 0 < g ∧ 3 < g ∧ 4 < g ∧ 2 < g
theorem Prj.Tabs.below {g : Nat} {w w' : World} (h : Prj.Tabs g w) (hb : Below g w w') : Prj.Tabs g w' :=
  ⟨fun t ht => (hb.cell (p := ⟨0, t, none⟩) h.lt.1).trans (h.type t ht), fun t h1 ht => (hb.cell (p := ⟨3, t, none⟩) h.lt.2.1).trans (h.un t h1 ht), fun t h1 ht => (hb.cell (p := ⟨4, t * 2, none⟩) h.lt.2.2.1).trans (h.bin t h1 ht), fun t h1 ht => (hb.cell (p := ⟨2, t * 2, none⟩) h.lt.2.2.2).trans (h.built t h1 ht), h.lt⟩
theorem Prj.put1_at (g : Nat) (l : List UInt8) (hl : l.length ≤ 20000000) (x : ByteArray) (hx : x.size ≤ 15000000) (w : World) (b : Nat) (hb : w.heap.size = b) (hA : Prj.At g l w) :
    Calls Tryz.prog 31 #[.pointer (some ⟨g, 0, none⟩), .slice (some ⟨b, 0, none⟩) 1 1] (w.alloc (.cells #[.string x] 9)) fun e w' => ∃ l', e = .returned (.tuple #[]) ∧ Prj.At g l' w' ∧ Prj.Adds l x.data.toList l' ∧ Prj.Fr g w w' := by
  subst hb; exact Prj.put1_any g l hl x hx w hA
theorem Prj.Fr.alloc1 {g : Nat} {w w' : World} (h : Prj.Fr g w w') (hg : g < w.heap.size) (o : Obj) : Prj.Fr g w (w'.alloc o) := h.alloc (by omega) o
set_option maxRecDepth 100000 in
set_option maxHeartbeats 1000000 in
theorem Prj.value_full (g : Nat) (v : Value) (T : List UInt8) (l : List UInt8) (hl : l.length ≤ 20000000) (hf : 12000 < l.length) (w : World) (hA : Prj.At g l w) :
    Calls Tryz.prog 74 #[.pointer (some ⟨g, 0, none⟩), v] w fun e w' => ∃ l', e = .returned (.tuple #[]) ∧ Prj.At g l' w' ∧ Prj.Adds l T l' ∧ Prj.Fr g w w' := by
  go_enter Tryz.func74, Tryz.ntmps74
  go_wp2_with (go_at_call 16; refine (Prj.full_b true g l (by omega) (decide_eq_true hf) _ hA).mono ?_; rintro e w1 ⟨rfl, rfl⟩)
  exact bodyPost_ret (v := .tuple #[]) (by simp [results, Tryz.results74, go_sem]) rfl ⟨l, rfl, hA, Prj.Adds.full hl hf, Prj.Fr.refl g w⟩
set_option maxRecDepth 100000 in
set_option maxHeartbeats 2000000 in
theorem Prj.value_nameNode (g : Nat) (l : List UInt8) (hl : l.length ≤ 20000000) (hf : ¬ 12000 < l.length) (x : ByteArray) (hx : x.size ≤ 15000000) (w : World) (HA : Hid (Prj.At g l w)) :
    Calls Tryz.prog 74 #[.pointer (some ⟨g, 0, none⟩), .iface 128 (.agg #[.string x])] w fun e w' => ∃ l', e = .returned (.tuple #[]) ∧ Prj.At g l' w' ∧ Prj.Adds l (x.data.toList) l' ∧ Prj.Fr g w w' := by
  have hgw := HA.out.lt
  have hA0 := HA.out
  have ta0 : ∀ ww : World, _ := Tryz.ta_intNode 128 (.agg #[.string x])
  simp only [if_neg (show ¬ (128 = 122) by decide)] at ta0
  have ta1 : ∀ ww : World, _ := Tryz.ta_textNode 128 (.agg #[.string x])
  simp only [if_neg (show ¬ (128 = 124) by decide)] at ta1
  have ta2 : ∀ ww : World, _ := Tryz.ta_boolNode 128 (.agg #[.string x])
  simp only [if_neg (show ¬ (128 = 126) by decide)] at ta2
  have ta3 : ∀ ww : World, _ := Tryz.ta_nameNode 128 (.agg #[.string x])
  simp only [if_true] at ta3
  go_enter Tryz.func74, Tryz.ntmps74
  go_wp2_with (first
    | (go_at_call 16; refine (Prj.full_b false g l (by omega) (decide_eq_false hf) _ hA0).mono ?_; rintro e w1 ⟨rfl, rfl⟩)
    | (go_at_call 31; refine (Prj.put1_at g l hl x hx (w.alloc _) (w.heap.size + 1) (by simp) (HA.out.alloc _)).mono ?_; rintro e w2 ⟨l2, rfl, hA2, hD2, hF2⟩))
  go_end0
  exact ⟨l2, rfl, hA2, hD2, (Prj.Fr.alloc1 (Prj.Fr.refl g w) hgw _).trans hF2⟩
end Go.Proofs.YtkaoeoeloihigaaGreatDoor

namespace Go.Proofs.YtkaoeoeloihigaaGreatDoor
open Go.RowKit

theorem Prj.At.below {g : Nat} {l : List UInt8} {w w' : World} (h : Prj.At g l w) (hb : Below w.heap.size w w') : Prj.At g l w' := by
  have key : ∀ p, Lib.BuilderAtF 54 5 g g p (Lib.byteCells l) w → Lib.BuilderAtF 54 5 g g p (Lib.byteCells l) w' := by
    rintro p ⟨hB, v, hbk, hown, hne⟩
    refine ⟨hB, v, (hb.block g (Array.getElem?_eq_some_iff.1 hbk).1).trans hbk, ⟨hown.1, ?_⟩, hne⟩
    rcases hown.2 with hn | ⟨k, cap, cur, fz, hv, hg, hgg, rest⟩
    · exact .inl hn
    · exact .inr ⟨k, cap, cur, fz, hv, hg, (hb.block k (Array.getElem?_eq_some_iff.1 hgg).1).trans hgg, rest⟩
  rcases h with h | h
  · exact .inl (key _ h)
  · exact .inr (key _ h)
theorem Prj.Fr.below {g : Nat} {w w1 w2 : World} (h : Prj.Fr g w w1) (hg : g ≤ w.heap.size) (hb : Below w1.heap.size w1 w2) : Prj.Fr g w w2 :=
  ⟨h.1.trans (hb.mono (Nat.le_trans hg h.1.size)), fun k o hk hkb ho => (hb.block k (Array.getElem?_eq_some_iff.1 (h.2 k o hk hkb ho)).1).trans (h.2 k o hk hkb ho)⟩
theorem Prj.Fr.keep {g k : Nat} {W w2 : World} {cs : Array Value} {T : TypeId} (h : Prj.Fr g W w2) (hk : W.heap[k]? = some (.cells cs T (0, 0))) (hne : k ≠ g) (hT : T ≠ 5) : w2.heap[k]? = some (.cells cs T (0, 0)) :=
  h.2 k _ hk (by simpa using hne) (fun c fz hcc => by injection hcc with _ h2; exact hT h2)
set_option maxRecDepth 100000 in
set_option maxHeartbeats 2000000 in
theorem Prj.value_textNode (g : Nat) (l : List UInt8) (hl : l.length ≤ 20000000) (hf : ¬ 12000 < l.length) (x : ByteArray) (hx : x.size ≤ 1048576) (w : World) (HA : Hid (Prj.At g l w)) :
    Calls Tryz.prog 74 #[.pointer (some ⟨g, 0, none⟩), .iface 124 (.agg #[.string x])] w fun e w' => ∃ l', e = .returned (.tuple #[]) ∧ Prj.At g l' w' ∧ Prj.Adds l ((Pr.quote x).data.toList) l' ∧ Prj.Fr g w w' := by
  have hgw := HA.out.lt
  have hA0 := HA.out
  have ta0 : ∀ ww : World, _ := Tryz.ta_intNode 124 (.agg #[.string x])
  simp only [if_neg (show ¬ (124 = 122) by decide)] at ta0
  have ta1 : ∀ ww : World, _ := Tryz.ta_textNode 124 (.agg #[.string x])
  simp only [if_true] at ta1
  go_enter Tryz.func74, Tryz.ntmps74
  have hqs : (Pr.quote x).size ≤ 15000000 := by have := Pr.quote_size x; omega
  go_wp2_with (first
    | (go_at_call 16; refine (Prj.full_b false g l (by omega) (decide_eq_false hf) _ hA0).mono ?_; rintro e w1 ⟨rfl, rfl⟩)
    | (go_at_call 90; refine (Prj.quoted_any x hx _).mono ?_; rintro e w3 ⟨rfl, hb3⟩
       have hA3 : Prj.At g l w3 := (HA.out.alloc _).below hb3
       have hF3 : Prj.Fr g w w3 := (Prj.Fr.alloc1 (Prj.Fr.refl g w) hgw _).below (by omega) hb3)
    | (go_at_call 31; refine (Prj.put1_at g l hl _ hqs w3 _ rfl hA3).mono ?_; rintro e w2 ⟨l2, rfl, hA2, hD2, hF2⟩))
  go_end0
  exact ⟨l2, rfl, hA2, hD2, hF3.trans hF2⟩
set_option maxRecDepth 100000 in
set_option maxHeartbeats 2000000 in
theorem Prj.value_callNode (g : Nat) (l : List UInt8) (hl : l.length ≤ 20000000) (hf : ¬ 12000 < l.length) (w : World) (x : ByteArray) (_hx : x.size ≤ 15000000) (sa : Option Addr) (sn sc : Nat) (T : List UInt8) (HC : Hid (∀ w1 : World, Prj.Fr g w w1 → Prj.At g l w1 → Calls Tryz.prog 93 #[.pointer (some ⟨g, 0, none⟩), .string x, .slice sa sn sc] w1 fun e w' => ∃ l', e = .returned (.tuple #[]) ∧ Prj.At g l' w' ∧ Prj.Adds l T l' ∧ Prj.Fr g w1 w')) (HA : Hid (Prj.At g l w)) :
    Calls Tryz.prog 74 #[.pointer (some ⟨g, 0, none⟩), .iface 134 (.agg #[.string x, .slice sa sn sc])] w fun e w' => ∃ l', e = .returned (.tuple #[]) ∧ Prj.At g l' w' ∧ Prj.Adds l (T) l' ∧ Prj.Fr g w w' := by
  have hgw := HA.out.lt
  have hA0 := HA.out
  have ta0 : ∀ ww : World, _ := Tryz.ta_intNode 134 (.agg #[.string x, .slice sa sn sc])
  simp only [if_neg (show ¬ (134 = 122) by decide)] at ta0
  have ta1 : ∀ ww : World, _ := Tryz.ta_textNode 134 (.agg #[.string x, .slice sa sn sc])
  simp only [if_neg (show ¬ (134 = 124) by decide)] at ta1
  have ta2 : ∀ ww : World, _ := Tryz.ta_boolNode 134 (.agg #[.string x, .slice sa sn sc])
  simp only [if_neg (show ¬ (134 = 126) by decide)] at ta2
  have ta3 : ∀ ww : World, _ := Tryz.ta_nameNode 134 (.agg #[.string x, .slice sa sn sc])
  simp only [if_neg (show ¬ (134 = 128) by decide)] at ta3
  have ta4 : ∀ ww : World, _ := Tryz.ta_unNode 134 (.agg #[.string x, .slice sa sn sc])
  simp only [if_neg (show ¬ (134 = 130) by decide)] at ta4
  have ta5 : ∀ ww : World, _ := Tryz.ta_binNode 134 (.agg #[.string x, .slice sa sn sc])
  simp only [if_neg (show ¬ (134 = 132) by decide)] at ta5
  have ta6 : ∀ ww : World, _ := Tryz.ta_callNode 134 (.agg #[.string x, .slice sa sn sc])
  simp only [if_true] at ta6
  go_enter Tryz.func74, Tryz.ntmps74
  go_wp2_with (first
    | (go_at_call 16; refine (Prj.full_b false g l (by omega) (decide_eq_false hf) _ hA0).mono ?_; rintro e w1 ⟨rfl, rfl⟩)
    | (go_at_call 93; refine (HC.out _ (Prj.Fr.alloc1 (Prj.Fr.refl g w) hgw _) (HA.out.alloc _)).mono ?_; rintro e w2 ⟨l2, rfl, hA2, hD2, hF2⟩))
  go_end0
  exact ⟨l2, rfl, hA2, hD2, (Prj.Fr.alloc1 (Prj.Fr.refl g w) hgw _).trans hF2⟩
end Go.Proofs.YtkaoeoeloihigaaGreatDoor

namespace Go.Proofs.YtkaoeoeloihigaaGreatDoor
open Go.RowKit

def Prj.OpIs (g : Nat) (w0 : World) (v : Value) (T : List UInt8) : Prop :=
  ∀ (w : World) (l : List UInt8), Below g w0 w → l.length ≤ 20000000 → Prj.At g l w → Calls Tryz.prog 92 #[.pointer (some ⟨g, 0, none⟩), v] w fun e w' => ∃ l', e = .returned (.tuple #[]) ∧ Prj.At g l' w' ∧ Prj.Adds l T l' ∧ Prj.Fr g w w'
set_option maxRecDepth 100000 in
set_option maxHeartbeats 2000000 in
theorem Prj.value_unNode (g : Nat) (l : List UInt8) (hl : l.length ≤ 20000000) (hf : ¬ 12000 < l.length) (w : World) (m : Nat) (hm : 1 ≤ m ∧ m ≤ 3) (kt : TypeId) (ky : Value) (T : List UInt8) (HTb : Hid (Prj.Tabs g w)) (HK : Hid (Prj.OpIs g w (.iface kt ky) T)) (HA : Hid (Prj.At g l w)) :
    Calls Tryz.prog 74 #[.pointer (some ⟨g, 0, none⟩), .iface 130 (.agg #[.int .i64 (m : Int), .iface kt ky])] w fun e w' => ∃ l', e = .returned (.tuple #[]) ∧ Prj.At g l' w' ∧ Prj.Adds l ((Pr.unMark (m : Int)).data.toList ++ T) l' ∧ Prj.Fr g w w' := by
  have hgw := HA.out.lt
  have hA0 := HA.out
  have ta0 : ∀ ww : World, _ := Tryz.ta_intNode 130 (.agg #[.int .i64 (m : Int), .iface kt ky])
  simp only [if_neg (show ¬ (130 = 122) by decide)] at ta0
  have ta1 : ∀ ww : World, _ := Tryz.ta_textNode 130 (.agg #[.int .i64 (m : Int), .iface kt ky])
  simp only [if_neg (show ¬ (130 = 124) by decide)] at ta1
  have ta2 : ∀ ww : World, _ := Tryz.ta_boolNode 130 (.agg #[.int .i64 (m : Int), .iface kt ky])
  simp only [if_neg (show ¬ (130 = 126) by decide)] at ta2
  have ta3 : ∀ ww : World, _ := Tryz.ta_nameNode 130 (.agg #[.int .i64 (m : Int), .iface kt ky])
  simp only [if_neg (show ¬ (130 = 128) by decide)] at ta3
  have ta4 : ∀ ww : World, _ := Tryz.ta_unNode 130 (.agg #[.int .i64 (m : Int), .iface kt ky])
  simp only [if_true] at ta4
  have hz1 := Pr.unMark_size (m : Int)
  have hW1 : ∀ ob : Obj, Below g w (w.alloc ob) := fun ob => (Below.refl _ w).alloc (by omega) ob
  have hcu : ∀ ob : Obj, (w.alloc ob).cell? ⟨3, m, none⟩ = some (.string (Pr.unMark (m : Int))) := fun ob => (HTb.out.below (hW1 ob)).un m hm.1 hm.2
  have hb1 : (m : Int) < 4 := by omega
  go_enter Tryz.func74, Tryz.ntmps74
  go_wp2_with (first
    | (go_at_call 16; refine (Prj.full_b false g l (by omega) (decide_eq_false hf) _ hA0).mono ?_; rintro e w1 ⟨rfl, rfl⟩)
    | (go_at_call 31; refine (Prj.put1_at g l hl _ (by omega) (w.alloc _) (w.heap.size + 1) (by simp) (HA.out.alloc _)).mono ?_; rintro e w2 ⟨l2, rfl, hA2, hD2, hF2⟩
       have hk2 := hF2.keep (Val.new_at w _) (by omega) (by decide)
       have c1 : w2.cell? ⟨w.heap.size, 1, none⟩ = some (.iface kt ky) := (by rw [Lib.cell_of_heap hk2]; rfl)
       have hG2 := (Prj.Fr.alloc1 (Prj.Fr.refl g w) hgw _).trans hF2)
    | (go_at_call 92; refine (HK.out _ l2 hG2.1 hD2.2.2.2 hA2).mono ?_; rintro e w3 ⟨l3, rfl, hA3, hD3, hF3⟩))
  go_end0
  exact ⟨l3, rfl, hA3, hD2.trans hD3, hG2.trans hF3⟩
end Go.Proofs.YtkaoeoeloihigaaGreatDoor
