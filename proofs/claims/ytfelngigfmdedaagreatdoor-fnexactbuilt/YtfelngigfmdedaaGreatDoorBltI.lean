import Derived.Test.YtfelngigfmdedaaGreatDoorBltM
import Derived.Test.YtfelngigfmdedaaGreatDoorBltS
import Derived.Test.YtfelngigfmdedaaGreatDoorWalD
import Derived.Test.YtfelngigfmdedaaGreatDoorWalE
import Derived.Lib.LaidTab
import Derived.Lib.AppendIntMem
import Derived.Lib.AtoiErrMem
namespace Go.Proofs.YtfelngigfmdedaaGreatDoor
open Go.RowKit

theorem Val.clone_any (s : ByteArray) (w : World) (hs : s.size ≤ 1048576) :
    Calls Tryz.prog 26 #[.string s] w fun e w' => e = .returned (.string s) ∧ Below w.heap.size w w' := by
  go_enter Tryz.func26, Tryz.ntmps26
  go_wp2_with (go_at_call 37; refine (Tryz.stringslite_Clone _ _ (by omega)).mono ?_; rintro e w1 ⟨rfl, hb⟩)
  go_ret
  exact ⟨rfl, hb⟩
set_option maxRecDepth 100000 in
set_option maxHeartbeats 1000000 in
theorem Val.told_val (t n : Int) (x : ByteArray) (hx : x.size ≤ 1048576) (w : World) :
    Calls Tryz.prog 19 #[.agg #[.int .i64 t, .int .i64 n, .string x], .nilIface] w fun e w' => e = .returned (.tuple #[.agg #[.int .i64 t, .int .i64 n, .string x], .string ⟨#[]⟩]) ∧ Below w.heap.size w w' := by
  go_enter Tryz.func19, Tryz.ntmps19
  go_wp2_with (go_at_call 26; (refine (Val.clone_any x _ hx).mono ?_; rintro e w1 ⟨rfl, hb1⟩; simp only [World.size_alloc] at hb1; obtain ⟨⟨⟨a0, a1, a2⟩, f0, f1, f2⟩, ⟨b0, b1, b2⟩, k0, k1, k2⟩ := Val.spill2 hb1))
  exact bodyPost_ret (v := .tuple #[.agg #[.int .i64 t, .int .i64 n, .string x], .string ⟨#[]⟩]) (by simp [results, Tryz.results19, go_sem, b0, b1, b2]) rfl ⟨rfl, Val.set3 ((Val.alloc2 hb1).setCell (p := ⟨w.heap.size, 2, none⟩) (Nat.le_refl _) _) _ _ _⟩
set_option maxRecDepth 100000 in
set_option maxHeartbeats 1000000 in
theorem Val.textValue_any (x : ByteArray) (w : World) :
    Calls Tryz.prog 32 #[.string x] w fun e w' => e = .returned (.agg #[.int .i64 2, .int .i64 0, .string x]) ∧ Below w.heap.size w w' := by
  go_enter Tryz.func32, Tryz.ntmps32
  go_wp2
  exact bodyPost_ret (v := .agg #[.int .i64 2, .int .i64 0, .string x]) (by simp [results, Tryz.results32, go_sem]) rfl ⟨rfl, (Below.refl _ w).alloc (Nat.le_refl _) _⟩
theorem Val.gPow : Tryz.prog.globalNamed "internal/strconv.uint64pow10" = some 6 := by kernel_rfl
theorem Val.gSyn : Tryz.prog.globalNamed "strconv.ErrSyntax" = some 7 := by kernel_rfl
theorem Val.gRng : Tryz.prog.globalNamed "strconv.ErrRange" = some 8 := by kernel_rfl
theorem Val.var_lt {W : World} {n : String} {g : Nat} {cs : Array Value} (hg : Tryz.prog.globalNamed n = some g) (h : W.var? Tryz.prog n = some cs) : g < W.heap.size := by
  unfold World.var? at h
  rw [hg] at h
  simp only [Option.bind_some] at h
  split at h
  · rename_i hb; exact (Array.getElem?_eq_some_iff.1 hb).1
  · cases h
theorem Val.var_below {W W' : World} {n : String} {g : Nat} {cs : Array Value} (hg : Tryz.prog.globalNamed n = some g) (h : W.var? Tryz.prog n = some cs) (hb : Below W.heap.size W W') : W'.var? Tryz.prog n = some cs := by
  have hlt := Val.var_lt hg h
  unfold World.var? at h ⊢
  rw [hg] at h ⊢
  simp only [Option.bind_some] at h ⊢
  rw [hb.block g hlt]
  exact h
def Val.kidsN (op : Nat) : Int := ([0, 1, 1, 1, 2, 0, 1, 2, 3, 2, 1, 1, 1] : List Int).getD op 0
def Val.tyN (k : Nat) : Int := ([0, 0, 0, 0, 2, 0, 0, 2, 2, 0, 0, 1, 2, 0, 0, 2, 2, 2, 0, 2, 0, 0, 0, 2, 2, 0, 0, 10, 2, 10, 0, 3, 2, 10, 10, 2, 2, 2, 0, 10, 3, 0, 0, 2, 11, 0, 0, 2, 2, 0, 0, 10] : List Int).getD k 0
structure Val.GB (w : World) : Prop where
  eT : Val.Err 0 Val.typeW w
  eR : Val.Err 3 Val.rangeW w
  eN : Val.Err 4 Val.numberW w
  pow : Lib.TabIs Tryz.prog w "internal/strconv.uint64pow10" .u64 Lib.pow10Tab
  syn : ∃ tp p, w.var? Tryz.prog "strconv.ErrSyntax" = some #[.iface tp p]
  rng : ∃ tp p, w.var? Tryz.prog "strconv.ErrRange" = some #[.iface tp p]
  maxL : ∃ m, w.cell? ⟨5, 0, none⟩ = some (.int .i64 m)
  maxG : 5 < w.heap.size
  words : ∀ op, op ≤ 12 → w.cell? ⟨1, op * 2 + 1, none⟩ = some (.int .i64 (Val.kidsN op))
  wordsG : 1 < w.heap.size
  types : ∀ k, k < 52 → w.cell? ⟨2, k, none⟩ = some (.int .i64 (Val.tyN k))
  typesG : 2 < w.heap.size
theorem Val.GB.next {w w' : World} (h : Val.GB w) (hb : Below w.heap.size w w') : Val.GB w' where
  eT := h.eT.next hb
  eR := h.eR.next hb
  eN := h.eN.next hb
  pow := Val.var_below Val.gPow h.pow hb
  syn := by obtain ⟨tp, p, e⟩ := h.syn; exact ⟨tp, p, Val.var_below Val.gSyn e hb⟩
  rng := by obtain ⟨tp, p, e⟩ := h.rng; exact ⟨tp, p, Val.var_below Val.gRng e hb⟩
  maxL := by obtain ⟨m, e⟩ := h.maxL; exact ⟨m, by rw [hb.cell (p := ⟨5, 0, none⟩) h.maxG]; exact e⟩
  maxG := Nat.lt_of_lt_of_le h.maxG hb.size
  words := fun op ho => by rw [hb.cell (p := ⟨1, op * 2 + 1, none⟩) h.wordsG]; exact h.words op ho
  wordsG := Nat.lt_of_lt_of_le h.wordsG hb.size
  types := fun k hk => by rw [hb.cell (p := ⟨2, k, none⟩) h.typesG]; exact h.types k hk
  typesG := Nat.lt_of_lt_of_le h.typesG hb.size
theorem Val.index_any (s x : ByteArray) (hs : s.size ≤ 1048576) (w : World) (hG : Val.GB w) :
    Calls Tryz.prog 31 #[.string s, .string x] w fun e w' => e = .returned (.int .i64 (Lib.index s.data.toList x.data.toList)) ∧ w' = w := by
  obtain ⟨m, hm⟩ := hG.maxL
  exact Tryz.strings_Index s x m w (by omega) hm
theorem Val.formatInt_any (n : Int) (hn : -9223372036854775808 ≤ n ∧ n ≤ 9223372036854775807) (w : World) (hG : Val.GB w) :
    Calls Tryz.prog 43 #[.int .i64 n, .int .i64 10] w fun e w' => e = .returned (.string ⟨(Lib.itoa n).toArray⟩) ∧ Below w.heap.size w w' := by
  refine (Tryz.strconv_FormatInt_10 n hn.1 hn.2 w hG.pow).mono ?_
  rintro e w' ⟨rfl, k, os, rfl⟩
  exact ⟨rfl, Lib.below_grow _ w (Nat.le_refl _) k os⟩
set_option maxHeartbeats 6400000 in
set_option maxRecDepth 100000 in
theorem Val.intFormatUint_any (u : Nat) (hu64 : u < 18446744073709551616) (w : World) (htab : Lib.TabIs Tryz.prog w "internal/strconv.uint64pow10" .u64 Lib.pow10Tab) :
    Calls Tryz.prog 50 #[.int .u64 (u : Int), .int .i64 10] w fun e w' => e = .returned (.string ⟨(Lib.decDigits u).toArray⟩) ∧ Below w.heap.size w w' := by
  by_cases hs : u < 100
  · go_enter Tryz.func50, Tryz.ntmps50
    go_wp2_with (go_at_call 56; refine (Tryz.internal_strconv_small u hs _).mono ?_; rintro e w' ⟨rfl, rfl⟩)
    go_ret
    exact ⟨rfl, Below.refl _ _⟩
  · have hu1 : 1 ≤ u := by omega
    have hnd20 : Lib.nDigits u ≤ 20 := by have := Lib.numDigits_eq u hu1 hu64; split at this <;> omega
    have hb3 : Lib.nDigits u ≤ 23 := by omega
    have hal : Tryz.prog.arrayLen 100 = 24 := by simp [Program.arrayLen, Tryz.underlying100]
    have hsl1 : ∀ W, (Instr.sliceAt 100 (.pointer (some ⟨w.heap.size, 0, none⟩)) none (some (.int .i64 (Lib.nDigits u : Int))) none).run Tryz.prog W = .ok (.slice (some ⟨w.heap.size, 0, none⟩) (Lib.nDigits u) 24) W := fun W => by
      rw [run_sliceAt_array_h W 100 ⟨w.heap.size, 0, none⟩ (by simp [Program.arrayLen, Program.elem, Tryz.underlying100]) .i64 (Lib.nDigits u : Int) (by omega) (by rw [hal]; omega)]
      go_simp
    have hH0 := Lib.holds_zero0 w 100 (Lib.nDigits u) (by omega)
    have hfmt := Tryz.internal_strconv_formatBase10 w.heap.size 0 24 u (Array.replicate (Lib.nDigits u) 0) (w.alloc (.cells Lib.zeros24 100)) hH0 (by rw [Array.size_replicate]; exact Lib.lt_pow_nDigits u) hu64 (by rw [Array.size_replicate]; omega)
    rw [Array.size_replicate] at hfmt
    have HH0 := Lib.hid hH0
    clear hH0 hal
    go_enter Tryz.func50, Tryz.ntmps50
    go_wp2_with (first | (go_at_call 57; refine (Tryz.internal_strconv_numDigits u hu1 hu64 _ (Lib.tabIs_alloc htab _)).mono ?_; rintro e w' ⟨rfl, rfl⟩))
    go_at_call 58
    refine hfmt.mono ?_
    rintro e w' ⟨rfl, k, v', dk, rfl, hF⟩
    have hcv : (Go.convert 41 9 (.slice (some ⟨w.heap.size, 0, none⟩) (Lib.nDigits u) 24)).run Tryz.prog ((Sort.putRow (fun (b : UInt8) => Value.int .u8 (b.toNat : Int)) (w.alloc (.cells Lib.zeros24 100)) w.heap.size 0 dk).drewN k) = .ok (.string ⟨(Lib.decDigits u).toArray⟩) ((Sort.putRow (fun (b : UInt8) => Value.int .u8 (b.toNat : Int)) (w.alloc (.cells Lib.zeros24 100)) w.heap.size 0 dk).drewN k) := by
      have h := run_convert_bytes_back (P := Tryz.prog) ((Sort.putRow (fun (b : UInt8) => Value.int .u8 (b.toNat : Int)) (w.alloc (.cells Lib.zeros24 100)) w.heap.size 0 dk).drewN k) 41 9 5 ⟨w.heap.size, 0, none⟩ 24 (Lib.decDigits u) Tryz.underlying41 Tryz.underlying5 Tryz.underlying9 (fun j hj => by
        rw [Lib.add_plain, Lib.row_is_numeral hF j hj, World.cell?_drewN]
        exact Sort.cell?_putRow (fun (b : UInt8) => Value.int .u8 (b.toNat : Int)) _ w.heap.size 0 _ dk HH0.out (by rw [hF.size, Array.size_replicate]) j (by rw [hF.size]; rw [Lib.decDigits_length] at hj; exact hj))
      rw [Lib.decDigits_length] at h
      exact h
    go_wp2
    go_ret
    obtain ⟨os, eo⟩ := Lib.fin_at w (.cells Lib.zeros24 100) dk k 0
    refine ⟨rfl, ?_⟩
    show Below w.heap.size w ((Sort.putRow (fun (b : UInt8) => Value.int .u8 (b.toNat : Int)) (w.alloc (.cells Lib.zeros24 100)) w.heap.size 0 dk).drewN k)
    rw [eo]
    exact Lib.below_grow _ w (Nat.le_refl _) k os
theorem Val.formatUint_any (x : Int) (h0 : 0 ≤ x) (h1 : x < 18446744073709551616) (w : World) (hG : Val.GB w) :
    Calls Tryz.prog 42 #[.int .u64 x, .int .i64 10] w fun e w' => e = .returned (.string ⟨(Lib.decDigits x.toNat).toArray⟩) ∧ Below w.heap.size w w' := by
  have HC : Hid (Calls Tryz.prog 50 #[.int .u64 x, .int .i64 10] w fun e w' => e = .returned (.string ⟨(Lib.decDigits x.toNat).toArray⟩) ∧ Below w.heap.size w w') := by
    have := Val.intFormatUint_any x.toNat (by omega) w hG.pow
    rw [show ((x.toNat : Nat) : Int) = x by omega] at this
    exact this
  go_enter Tryz.func42, Tryz.ntmps42
  go_wp2_with (go_at_call 50; refine HC.out.mono ?_; rintro e w' ⟨rfl, hb⟩)
  go_ret
  exact ⟨rfl, hb⟩
end Go.Proofs.YtfelngigfmdedaaGreatDoor
