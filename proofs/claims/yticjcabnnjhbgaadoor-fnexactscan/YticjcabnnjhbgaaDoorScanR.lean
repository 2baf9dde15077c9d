import Derived.Test.YticjcabnnjhbgaaDoorScanQ
import Derived.Test.YticjcabnnjhbgaaDoorShelf
namespace Go.Proofs.YticjcabnnjhbgaaDoor
open Go.RowKit

def Mill.hexB (b : Int) : Int := if 0 ≤ Mill.hex b then Mill.hex b else 0
theorem Mill.ret_hex {b x : Int} {ok : Bool} (h : x = Mill.hexB b ∧ ok = decide (0 ≤ Mill.hex b)) : Ending.returned (.tuple #[.int .u8 x, .bool ok]) = .returned (.tuple #[.int .u8 (Mill.hexB b), .bool (decide (0 ≤ Mill.hex b))]) := by rw [h.1, h.2]
theorem Mill.hex_dig {b : Int} (h1 : 48 ≤ b) (h2 : b ≤ 57) : b - 48 = Mill.hexB b ∧ true = decide (0 ≤ Mill.hex b) := by
  have : Mill.hex b = b - 48 := by unfold Mill.hex; rw [if_pos ⟨h1, h2⟩]
  rw [Mill.hexB, this, if_pos (by omega)]; simp; omega
theorem Mill.hex_let {b : Int} (h1 : 97 ≤ b) (h2 : b ≤ 102) : b - 97 + 10 = Mill.hexB b ∧ true = decide (0 ≤ Mill.hex b) := by
  have : Mill.hex b = b - 97 + 10 := by unfold Mill.hex; rw [if_neg (by omega), if_pos ⟨h1, h2⟩]
  rw [Mill.hexB, this, if_pos (by omega)]; simp; omega
theorem Mill.hex_no {b : Int} (h1 : ¬ (48 ≤ b ∧ b ≤ 57)) (h2 : ¬ (97 ≤ b ∧ b ≤ 102)) : 0 = Mill.hexB b ∧ false = decide (0 ≤ Mill.hex b) := by
  have : Mill.hex b = -1 := by unfold Mill.hex; rw [if_neg h1, if_neg h2]
  rw [Mill.hexB, this]; simp
set_option maxHeartbeats 400000 in
theorem hexDigit_any (b : Int) (h0 : 0 ≤ b) (h1 : b ≤ 255) (w : World) :
    Calls Tryd.prog 60 #[.int .u8 b] w fun e w' => e = .returned (.tuple #[.int .u8 (Mill.hexB b), .bool (decide (0 ≤ Mill.hex b))]) ∧ w = w' := by
  go_enter Tryd.func60, Tryd.ntmps60
  go_wp2
  all_goals go_ret2
  · exact ⟨Mill.ret_hex (Mill.hex_dig (by assumption) (by assumption)), rfl⟩
  · exact ⟨Mill.ret_hex (Mill.hex_let (by assumption) (by assumption)), rfl⟩
  all_goals exact ⟨Mill.ret_hex (Mill.hex_no (by omega) (by omega)), rfl⟩
theorem hexDigit_byte (c : UInt8) (w : World) :
    Calls Tryd.prog 60 #[.int .u8 (c.toNat : Int)] w fun e w' => e = .returned (.tuple #[.int .u8 (Mill.hexB (c.toNat : Int)), .bool (decide (0 ≤ Mill.hexOf c))]) ∧ w = w' :=
  hexDigit_any _ (by omega) (by have := c.toNat_lt; omega) w

def Mill.rbOk (s : ByteArray) : Bool := match s.data.toList with
  | a :: b :: _ => decide (0 ≤ Mill.hexOf a) && decide (0 ≤ Mill.hexOf b)
  | _ => false
def Mill.rbVal (s : ByteArray) : Int := match s.data.toList with
  | a :: b :: _ => 16 * Mill.hexOf a + Mill.hexOf b
  | _ => 0
set_option maxRecDepth 100000 in
set_option maxHeartbeats 1000000 in
theorem readByte_no (s : ByteArray) (w : World) (h : Mill.rbOk s = false) :
    Calls Tryd.prog 52 #[.string s] w fun e w' => e = .returned (.tuple #[.int .u8 0, .bool false]) ∧ w = w' := by
  by_cases h2 : 2 ≤ s.size
  · have hd0 := Mill.drop_cons s 0 (by omega)
    have hd1 := Mill.drop_cons s 1 (by omega)
    simp only [List.drop_zero, Nat.zero_add] at hd0
    rw [hd1] at hd0
    rw [Mill.rbOk, hd0] at h
    simp only at h
    cases hA : decide ((0 : Int) ≤ Mill.hexOf s[0]) <;> cases hB : decide ((0 : Int) ≤ Mill.hexOf s[1])
    all_goals try (exfalso; simp [hA, hB] at h; done)
    all_goals
      clear h hd0 hd1
      go_enter Tryd.func52, Tryd.ntmps52
      go_wp2_with (go_at_call 60; refine (hexDigit_byte _ _).mono ?_; rintro e w' ⟨rfl, rfl⟩; first | rw [hA] | rw [hB])
      go_ret2
      exact ⟨rfl, rfl⟩
  · clear h
    go_enter Tryd.func52, Tryd.ntmps52
    go_wp2
    go_ret2
    exact ⟨rfl, rfl⟩

theorem or_hex (a b : Int) (ha : 0 ≤ a) (ha2 : a ≤ 15) (hb : 0 ≤ b) (hb2 : b ≤ 15) : bits BinOp.or IntKind.u8 (a * 16) b = 16 * a + b := by
  obtain ⟨m, rfl⟩ := Int.eq_ofNat_of_zero_le ha
  obtain ⟨n, rfl⟩ := Int.eq_ofNat_of_zero_le hb
  have h : ∀ m : Fin 16, ∀ n : Fin 16, bits BinOp.or IntKind.u8 ((m.val : Int) * 16) (n.val : Int) = 16 * (m.val : Int) + (n.val : Int) := by decide +kernel
  exact h ⟨m, by omega⟩ ⟨n, by omega⟩
theorem Mill.ret_rb {x y : Int} (h : x = y) : Ending.returned (.tuple #[.int .u8 x, .bool true]) = .returned (.tuple #[.int .u8 y, .bool true]) := by rw [h]
set_option maxRecDepth 100000 in
set_option maxHeartbeats 1000000 in
theorem readByte_yes (s : ByteArray) (w : World) (h : Mill.rbOk s = true) :
    Calls Tryd.prog 52 #[.string s] w fun e w' => e = .returned (.tuple #[.int .u8 (Mill.rbVal s), .bool true]) ∧ w = w' := by
  have h2 : 2 ≤ s.size := by
    rw [Mill.rbOk] at h
    split at h
    · rename_i a b r hl
      have : s.data.toList.length = (a :: b :: r).length := by rw [hl]
      simp at this; omega
    · simp at h
  have hd0 := Mill.drop_cons s 0 (by omega)
  have hd1 := Mill.drop_cons s 1 (by omega)
  simp only [List.drop_zero, Nat.zero_add] at hd0
  rw [hd1] at hd0
  rw [Mill.rbOk, hd0] at h
  simp only at h
  have HV : Hid ((16 : Int) * Mill.hexOf s[0] + Mill.hexOf s[1] = Mill.rbVal s) := by rw [Hid, Mill.rbVal, hd0]
  rw [Bool.and_eq_true] at h
  obtain ⟨hA, hB⟩ := h
  have a0 := of_decide_eq_true hA
  have b0 := of_decide_eq_true hB
  have a1 : Mill.hexOf s[0] ≤ 15 := (Mill.hex_bd (s[0].toNat : Int)).2
  have b1 : Mill.hexOf s[1] ≤ 15 := (Mill.hex_bd (s[1].toNat : Int)).2
  have eA : Mill.hexB (s[0].toNat : Int) = Mill.hexOf s[0] := by rw [Mill.hexB, if_pos (show (0 : Int) ≤ Mill.hex (s[0].toNat : Int) from a0)]; rfl
  have eB : Mill.hexB (s[1].toNat : Int) = Mill.hexOf s[1] := by rw [Mill.hexB, if_pos (show (0 : Int) ≤ Mill.hex (s[1].toNat : Int) from b0)]; rfl
  have HA : Hid (Mill.hexB (s[0].toNat : Int) = Mill.hexOf s[0]) := eA
  have HB : Hid (Mill.hexB (s[1].toNat : Int) = Mill.hexOf s[1]) := eB
  clear hd0 hd1 eA eB
  go_enter Tryd.func52, Tryd.ntmps52
  go_wp2_with (go_at_call 60; refine (hexDigit_byte _ _).mono ?_; rintro e w' ⟨rfl, rfl⟩; first | (rw [hA, HA.out]) | (rw [hB, HB.out]))
  go_ret2
  exact ⟨Mill.ret_rb ((or_hex _ _ a0 a1 b0 b1).trans HV.out), rfl⟩

def Mill.pieceV (p : Mill.Piece) : Value := .agg #[.int .i64 p.kind, .string (Mill.ba p.text), .int .i64 p.type, .int .i64 p.n, .int .i64 0, .int .i64 (p.size : Int), .int .i64 p.code]
theorem Clone_any (s : ByteArray) (w : World) (hs : s.size ≤ 1048576) :
    Calls Tryd.prog 39 #[.string s] w fun e w' => e = .returned (.string s) ∧ Below w.heap.size w w' := by
  go_enter Tryd.func39, Tryd.ntmps39
  go_wp2_with (go_at_call 48; refine (Tryd.stringslite_Clone _ _ (by omega)).mono ?_; rintro e w1 ⟨rfl, hb⟩)
  go_ret
  exact ⟨rfl, hb⟩

end Go.Proofs.YticjcabnnjhbgaaDoor
