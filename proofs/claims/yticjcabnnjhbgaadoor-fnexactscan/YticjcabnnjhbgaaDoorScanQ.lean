import Derived.Test.YticjcabnnjhbgaaDoorScanP
import Derived.Lib.OthersKept
import Derived.Laws.RangeAny
namespace Go.Proofs.YticjcabnnjhbgaaDoor
open Go.RowKit

theorem Mill.high_no (r : Int) (h : 128 ≤ r) : Mill.letter r = false ∧ Mill.digit r = false ∧ (r != 95) = true := by
  refine ⟨?_, ?_, ?_⟩
  · simp [Mill.letter]; omega
  · simp [Mill.digit]; omega
  · simp; omega
theorem Mill.tail_no (r : Int) (h : Mill.tail r = false) : Mill.letter r = false ∧ Mill.digit r = false ∧ (r != 95) = true := by
  simp [Mill.tail] at h; simp [h]

set_option maxRecDepth 100000 in
set_option maxHeartbeats 1000000 in
theorem wordSize_any (s : ByteArray) (w : World) (hs : s.size ≤ 1048576) :
    Calls Tryd.prog 38 #[.string s] w fun e w' => e = .returned (.int .i64 (Mill.wlen s 0 : Int)) ∧ Below w.heap.size w w' := by
  have hwl := Mill.wlen_le s 0
  go_enter Tryd.func38, Tryd.ntmps38
  go_wp2
  go_loopw [3, 4] (fun _ _ wr => ∃ pos : Nat, pos ≤ s.size ∧ pos - 0 ≤ Mill.wlen s 0 ∧ wr.heap[w.heap.size]? = some (.stringIter s pos) ∧ Below w.heap.size w wr) (fun _ _ wr => s.size - wr.iterPos w.heap.size)
  case atStart => exact ⟨0, by omega, by omega, World.iter_heap w s 0, (Below.refl _ _).alloc (Nat.le_refl _) _⟩
  case round =>
    obtain ⟨pos, hp0, hp1, hit, hbw⟩ := hrel
    have hpos0 := iterPos_of hit
    by_cases hp : pos < s.size
    · by_cases ha : s[pos].toNat < 128
      · have hnx : ∀ ty, (Instr.next (.pointer (some ⟨w.heap.size, 0, none⟩)) true ty).run Tryd.prog wr = _ := fun ty => Lib.run_next_ascii_at wr w.heap.size s pos ty hit hp ha
        have hit2 := Lib.iterAt_heap wr w.heap.size s pos (pos + 1) hit
        have hbw2 := Lib.below_iterAt hbw (k := w.heap.size) (Nat.le_refl _) s (pos + 1)
        cases ht : Mill.tail (s[pos].toNat : Int) with
        | true =>
          have hp2 := Mill.tail_step s 0 pos hp (by omega) hp1 ht
          obtain ⟨W1, hW1⟩ : ∃ W1, W1 = wr.iterAt w.heap.size s (pos + 1) := ⟨_, rfl⟩
          rw [← hW1] at hnx hit2 hbw2
          clear hW1 hit hbw
          have ht2 := ht
          simp only [Mill.tail] at ht2
          cases h1 : Mill.letter (s[pos].toNat : Int) <;> cases h2 : Mill.digit (s[pos].toNat : Int) <;> cases h3 : ((s[pos].toNat : Int) != 95)
          all_goals try (exfalso; rw [h1, h2] at ht2; simp at ht2 h3; omega)
          all_goals
            clear ht2
            go_wp2_with (first
              | (go_at_call 24; refine (isLetter_any _ _).mono ?_; rintro e w' ⟨rfl, rfl⟩; rw [h1])
              | (go_at_call 26; refine (isDigit_any _ _).mono ?_; rintro e w' ⟨rfl, rfl⟩; rw [h2]))
            go_roundw
            case rel => exact ⟨pos + 1, by omega, hp2, hit2, hbw2⟩
            case measure => rw [iterPos_of hit2, hpos0]; omega
        | false =>
          have hst := Mill.tail_stop s 0 pos (by omega) hp1 (fun _ => ht)
          obtain ⟨h1, h2, h3⟩ := Mill.tail_no _ ht
          have HW : Hid ((pos : Int) = (Mill.wlen s 0 : Int)) := by rw [Hid]; omega
          clear hst hp1 hwl
          obtain ⟨W1, hW1⟩ : ∃ W1, W1 = wr.iterAt w.heap.size s (pos + 1) := ⟨_, rfl⟩
          rw [← hW1] at hnx hit2 hbw2
          clear hW1 hit hbw
          go_wp2_with (first
            | (go_at_call 24; refine (isLetter_any _ _).mono ?_; rintro e w' ⟨rfl, rfl⟩; rw [h1])
            | (go_at_call 26; refine (isDigit_any _ _).mono ?_; rintro e w' ⟨rfl, rfl⟩; rw [h2]))
          go_ret
          exact ⟨Mill.ret_int HW.out, hbw2⟩
      · have hnx : ∀ ty, (Instr.next (.pointer (some ⟨w.heap.size, 0, none⟩)) true ty).run Tryd.prog wr = _ := fun ty => Lib.run_next_any_at wr w.heap.size s pos ty hit hp
        have hdh := decode_high s pos hp (by omega)
        have hit2 := Lib.iterAt_heap wr w.heap.size s pos (pos + (Utf8.decode s pos).2) hit
        have hbw2 := Lib.below_iterAt hbw (k := w.heap.size) (Nat.le_refl _) s (pos + (Utf8.decode s pos).2)
        have htf : Mill.tail (s[pos].toNat : Int) = false := by simp [Mill.tail, Mill.letter, Mill.digit]; omega
        have hst := Mill.tail_stop s 0 pos (by omega) hp1 (fun _ => htf)
        obtain ⟨h1, h2, h3⟩ := Mill.high_no ((Utf8.decode s pos).1 : Int) (by omega)
        have HW : Hid ((pos : Int) = (Mill.wlen s 0 : Int)) := by rw [Hid]; omega
        clear hst hp1 hwl htf hdh
        obtain ⟨W1, hW1⟩ : ∃ W1, W1 = wr.iterAt w.heap.size s (pos + (Utf8.decode s pos).2) := ⟨_, rfl⟩
        rw [← hW1] at hnx hit2 hbw2
        clear hW1 hit hbw
        generalize ((Utf8.decode s pos).1 : Int) = r at *
        go_wp2_with (first
          | (go_at_call 24; refine (isLetter_any _ _).mono ?_; rintro e w' ⟨rfl, rfl⟩; rw [h1])
          | (go_at_call 26; refine (isDigit_any _ _).mono ?_; rintro e w' ⟨rfl, rfl⟩; rw [h2]))
        go_ret
        exact ⟨Mill.ret_int HW.out, hbw2⟩
    · have hnx : ∀ ty, (Instr.next (.pointer (some ⟨w.heap.size, 0, none⟩)) true ty).run Tryd.prog wr = _ := fun ty => Lib.run_next_end_at wr w.heap.size s pos ty hit hp
      have hst := Mill.tail_stop s 0 pos (by omega) hp1 (fun h => absurd h hp)
      have HW : Hid ((s.size : Int) = (Mill.wlen s 0 : Int)) := by rw [Hid]; omega
      clear hst hp1 hwl
      go_wp2
      go_ret
      exact ⟨Mill.ret_int HW.out, hbw⟩

set_option maxRecDepth 100000 in
set_option maxHeartbeats 1000000 in
theorem digitsSize_any (s : ByteArray) (w : World) (hs : s.size ≤ 1048576) :
    Calls Tryd.prog 40 #[.string s] w fun e w' => e = .returned (.int .i64 (Mill.digLen s.data.toList : Int)) ∧ Below w.heap.size w w' := by
  have hwl := Mill.digLen_le s
  go_enter Tryd.func40, Tryd.ntmps40
  go_wp2
  go_loopw [3, 4] (fun _ _ wr => ∃ pos : Nat, pos ≤ s.size ∧ pos ≤ Mill.digLen s.data.toList ∧ wr.heap[w.heap.size]? = some (.stringIter s pos) ∧ Below w.heap.size w wr) (fun _ _ wr => s.size - wr.iterPos w.heap.size)
  case atStart => exact ⟨0, by omega, by omega, World.iter_heap w s 0, (Below.refl _ _).alloc (Nat.le_refl _) _⟩
  case round =>
    obtain ⟨pos, hp0, hp1, hit, hbw⟩ := hrel
    have hpos0 := iterPos_of hit
    by_cases hp : pos < s.size
    · by_cases ha : s[pos].toNat < 128
      · have hnx : ∀ ty, (Instr.next (.pointer (some ⟨w.heap.size, 0, none⟩)) true ty).run Tryd.prog wr = _ := fun ty => Lib.run_next_ascii_at wr w.heap.size s pos ty hit hp ha
        have hit2 := Lib.iterAt_heap wr w.heap.size s pos (pos + 1) hit
        have hbw2 := Lib.below_iterAt hbw (k := w.heap.size) (Nat.le_refl _) s (pos + 1)
        cases ht : Mill.digit (s[pos].toNat : Int) with
        | true =>
          have hp2 := Mill.dig_step s pos hp hp1 ht
          obtain ⟨W1, hW1⟩ : ∃ W1, W1 = wr.iterAt w.heap.size s (pos + 1) := ⟨_, rfl⟩
          rw [← hW1] at hnx hit2 hbw2
          clear hW1 hit hbw
          go_wp2_with (go_at_call 26; refine (isDigit_any _ _).mono ?_; rintro e w' ⟨rfl, rfl⟩; rw [ht])
          go_roundw
          case rel => exact ⟨pos + 1, by omega, hp2, hit2, hbw2⟩
          case measure => rw [iterPos_of hit2, hpos0]; omega
        | false =>
          have hst := Mill.dig_stop s pos hp1 (fun _ => ht)
          have h2 := ht
          have HW : Hid ((pos : Int) = (Mill.digLen s.data.toList : Int)) := by rw [Hid]; omega
          clear hst hp1 hwl
          obtain ⟨W1, hW1⟩ : ∃ W1, W1 = wr.iterAt w.heap.size s (pos + 1) := ⟨_, rfl⟩
          rw [← hW1] at hnx hit2 hbw2
          clear hW1 hit hbw
          go_wp2_with (go_at_call 26; refine (isDigit_any _ _).mono ?_; rintro e w' ⟨rfl, rfl⟩; rw [h2])
          go_ret
          exact ⟨Mill.ret_int HW.out, hbw2⟩
      · have hnx : ∀ ty, (Instr.next (.pointer (some ⟨w.heap.size, 0, none⟩)) true ty).run Tryd.prog wr = _ := fun ty => Lib.run_next_any_at wr w.heap.size s pos ty hit hp
        have hdh := decode_high s pos hp (by omega)
        have hit2 := Lib.iterAt_heap wr w.heap.size s pos (pos + (Utf8.decode s pos).2) hit
        have hbw2 := Lib.below_iterAt hbw (k := w.heap.size) (Nat.le_refl _) s (pos + (Utf8.decode s pos).2)
        have htf : Mill.digit (s[pos].toNat : Int) = false := by simp [Mill.digit]; omega
        have hst := Mill.dig_stop s pos hp1 (fun _ => htf)
        obtain ⟨_, h2, _⟩ := Mill.high_no ((Utf8.decode s pos).1 : Int) (by omega)
        have HW : Hid ((pos : Int) = (Mill.digLen s.data.toList : Int)) := by rw [Hid]; omega
        clear hst hp1 hwl htf hdh
        obtain ⟨W1, hW1⟩ : ∃ W1, W1 = wr.iterAt w.heap.size s (pos + (Utf8.decode s pos).2) := ⟨_, rfl⟩
        rw [← hW1] at hnx hit2 hbw2
        clear hW1 hit hbw
        generalize ((Utf8.decode s pos).1 : Int) = r at *
        go_wp2_with (go_at_call 26; refine (isDigit_any _ _).mono ?_; rintro e w' ⟨rfl, rfl⟩; rw [h2])
        go_ret
        exact ⟨Mill.ret_int HW.out, hbw2⟩
    · have hnx : ∀ ty, (Instr.next (.pointer (some ⟨w.heap.size, 0, none⟩)) true ty).run Tryd.prog wr = _ := fun ty => Lib.run_next_end_at wr w.heap.size s pos ty hit hp
      have hst := Mill.dig_stop s pos hp1 (fun h => absurd h hp)
      have HW : Hid ((s.size : Int) = (Mill.digLen s.data.toList : Int)) := by rw [Hid]; omega
      clear hst hp1 hwl
      go_wp2
      go_ret
      exact ⟨Mill.ret_int HW.out, hbw⟩

end Go.Proofs.YticjcabnnjhbgaaDoor
