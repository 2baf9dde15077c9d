import Derived.Test.YtdapajkckocmbaaProg
import Derived.WalkKit
import Derived.ProofKit
namespace Go.Proofs.Ytdapajkckocmbaa
open Go.RowKit

def Rp.sz (x : ByteArray) (l : Int) : Int := if l - (x.size : Int) < 0 then -1 else l - (x.size : Int)
set_option maxRecDepth 100000 in
set_option maxHeartbeats 1000000 in
theorem Rp.szReply_any (t : Int) (x : ByteArray) (l : Int) (hx : x.size ≤ 9223372036854775807) (h0 : 0 ≤ l) (h1 : l ≤ 1048576) (w : World) :
    Calls Try.prog 60 #[.agg #[.int .i64 t, .string x], .int .i64 l] w fun e w' => e = .returned (.int .i64 (Rp.sz x l)) ∧ Below w.heap.size w w' := by
  unfold Rp.sz
  by_cases h : l - (x.size : Int) < 0
  · rw [if_pos h]
    go_enter Try.func60, Try.ntmps60
    go_wp2
    go_ret
    exact ⟨rfl, (Below.refl _ w).alloc (Nat.le_refl _) _⟩
  · rw [if_neg h]
    go_enter Try.func60, Try.ntmps60
    go_wp2
    go_ret
    exact ⟨rfl, (Below.refl _ w).alloc (Nat.le_refl _) _⟩
set_option maxRecDepth 100000 in
set_option maxHeartbeats 1000000 in
theorem Rp.toReply_any (t : Int) (x : ByteArray) (w : World) :
    Calls Try.prog 61 #[.agg #[.int .i64 t, .string x]] w fun e w' => e = .returned (.agg #[.int .i64 t, .string x]) ∧ Below w.heap.size w w' := by
  go_enter Try.func61, Try.ntmps61
  go_wp2
  exact bodyPost_ret (v := .agg #[.int .i64 t, .string x]) (by simp [results, Try.results61, go_sem]) rfl ⟨rfl, (((Below.refl _ w).alloc (Nat.le_refl _) _).alloc (by simp) _).alloc (by simp only [World.size_alloc]; omega) _⟩
def Rp.ok (t : Int) (x : ByteArray) : Bool := if t = 0 then decide ((x.size : Int) ≤ 3000) else ((t == 4 || t == 5) && x.toList.isEmpty)
theorem Rp.row2 {w w1 : World} {a0 a1 : Value} {t : TypeId} (hb : Below (w.heap.size + 1) (w.alloc (.cells #[a0, a1] t)) w1) :
    w1.cell? ⟨w.heap.size, 0, none⟩ = some a0 ∧ w1.cell? ⟨w.heap.size, 1, none⟩ = some a1 := by
  have h1 := hb.block w.heap.size (by omega)
  rw [(MapKept.heap_alloc w _).1] at h1
  simp [World.cell?, h1]
theorem Rp.row2n {w1 w2 : World} {g : Nat} {a0 a1 : Value} (h : w1.cell? ⟨g, 0, none⟩ = some a0 ∧ w1.cell? ⟨g, 1, none⟩ = some a1) (hg : g < w1.heap.size) (hb : Below w1.heap.size w1 w2) :
    w2.cell? ⟨g, 0, none⟩ = some a0 ∧ w2.cell? ⟨g, 1, none⟩ = some a1 :=
  ⟨by rw [hb.cell (p := ⟨g, 0, none⟩) hg]; exact h.1, by rw [hb.cell (p := ⟨g, 1, none⟩) hg]; exact h.2⟩
end Go.Proofs.Ytdapajkckocmbaa
