import Derived.Test.YtgoigbegahlfaaaDoorWalE
import Derived.Deep.RegionHeld3
namespace Go.Proofs.YtgoigbegahlfaaaDoor
open Go.RowKit

theorem Val.set3c {w : World} {g h : Nat} {v x y z : Value} (hgh : g < h) (hv : w.cell? ⟨g, 0, none⟩ = some v) :
    (((w.setCell ⟨h, 0, none⟩ x).setCell ⟨h, 1, none⟩ y).setCell ⟨h, 2, none⟩ z).cell? ⟨g, 0, none⟩ = some v := by
  have hb : Below (g + 1) w (((w.setCell ⟨h, 0, none⟩ x).setCell ⟨h, 1, none⟩ y).setCell ⟨h, 2, none⟩ z) :=
    (((Below.refl _ w).setCell (p := ⟨h, 0, none⟩) hgh _).setCell (p := ⟨h, 1, none⟩) hgh _).setCell (p := ⟨h, 2, none⟩) hgh _
  rw [hb.cell (p := ⟨g, 0, none⟩) (Nat.lt_succ_self g)]; exact hv
set_option maxRecDepth 100000 in
set_option maxHeartbeats 1000000 in
theorem Val.converted_inv (t n : Int) (x : ByteArray) (hn : -9223372036854775808 ≤ n ∧ n ≤ 9223372036854775807) (to : Int) (b o : Nat) (w : World) (hG : w.cell? ⟨0, 0, none⟩ = some (.iface 66 (.pointer (some ⟨b, o, none⟩)))) (hg : 0 < w.heap.size) (HV : Hid (Val.valid ⟨t, n, x⟩ = false)) :
    Calls Tryd.prog 19 #[.agg #[.int .i64 t, .int .i64 n, .string x], .int .i64 to] w fun e w' => e = .returned (.tuple #[.agg #[.int .i64 0, .int .i64 0, .string ⟨#[]⟩], .iface 66 (.pointer (some ⟨b, o, none⟩))]) ∧ Below w.heap.size w w' := by
  go_enter Tryd.func19, Tryd.ntmps19
  go_wp2_with (go_at_call 22; (refine (Val.implValid_is false t n x hn HV _).mono ?_; rintro e w1 ⟨rfl, hb1⟩; simp only [World.size_alloc] at hb1; obtain ⟨⟨⟨a0, a1, a2⟩, f0, f1, f2⟩, ⟨b0, b1, b2⟩, k0, k1, k2⟩ := Val.spill2 hb1; have hc1 := (Val.alloc2 hb1).cell (p := ⟨0, 0, none⟩) hg; rw [hG] at hc1))
  go_region_held3 (fun w' => w'.cell? ⟨0, 0, none⟩ = some (.iface 66 (.pointer (some ⟨b, o, none⟩)))) (first | exact hc1 | exact Val.set3c (by omega) hc1) (fail)
  go_wp2
  exact bodyPost_ret (v := .tuple #[.agg #[.int .i64 0, .int .i64 0, .string ⟨#[]⟩], .iface 66 (.pointer (some ⟨b, o, none⟩))]) (by simp [results, Tryd.results19, go_sem, b0, b1, b2]) rfl ⟨rfl, (Val.set3 (Val.alloc2 hb1) _ _ _).drew⟩
end Go.Proofs.YtgoigbegahlfaaaDoor
