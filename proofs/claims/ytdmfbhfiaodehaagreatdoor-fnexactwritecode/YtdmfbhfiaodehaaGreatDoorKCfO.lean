import Derived.Test.YtdmfbhfiaodehaaGreatDoorKCdN
import Derived.Test.YtdmfbhfiaodehaaGreatDoorKCdT
namespace Go.Proofs.YtdmfbhfiaodehaaGreatDoor
open Go.RowKit

theorem Cd.wp_append_at {P : Program} {w : World} {ops : Array Oper} {rest : List Oper} {o : Oper} {a : Act} {Q : Exit → Act → World → Prop} (hgd : o.guard = none) (s x : Operand) (t : TypeId)
    (ho : o.op = .call { callee := .builtin .append, args := #[s, x], argTypes := #[t, t] }) (base : Nat) (e : TypeId) (i : TypeInfo) (z : Value) (ht : P.underlying t = some (.slice e)) (hi : P.info? e = some i) (hz : i.zero = some z) (hsize : i.size = 1) (hby : i.bytes = 8) (hzs : z.cells.size = 1)
    (v : Value) (n : Nat) (xs : List Int) (hs : a.eval s = v) (hown : w.ownsRow base e 1 v n (Cd.ints xs)) (C : Nat) (src : Value) (hx : a.eval x = src) (y : Int) (hsrc : Cd.IntsAt C w src [y]) (hsmall : n + 1 ≤ 1048576) (hbase : base ≤ w.heap.size)
    (h : ∀ v' w', w'.ownsRow base e 1 v' (n + 1) (Cd.ints (xs ++ [y])) → w.grownBy w' v.ownBlock → (v'.ownBlock = v.ownBlock ∨ v'.ownBlock = some w.heap.size) → wpList P ops Q rest (a.put o.dst v') w') :
    wpList P ops Q (o :: rest) a w := by
  refine wpList_plain hgd fun K hK => ?_
  obtain ⟨ao, c, rfl, hc⟩ := hsrc
  obtain ⟨g, off, rfl, _, hcell⟩ := hc 0 (by simp)
  obtain ⟨v', w', hr, h2, h3, _, h5⟩ := run_append_own_at (P := P) (w := w) base t o.type e i z 1 8 ht hi hz hsize hby hzs (by decide) v n (Cd.ints xs) hown ⟨g, off, none⟩ [y].length c (Cd.ints [y]) (by simp [Cd.ints]) (fun j u hu => by
      have hj : j = 0 := by have := List.getElem?_eq_some_iff.1 hu; obtain ⟨h, _⟩ := this; simpa [Cd.ints] using h
      subst hj
      have hu2 : u = .int .i64 y := by simpa [Cd.ints] using hu.symm
      rw [hu2]; simpa [Addr.add] using hcell) Cd.ints_one (by unfold maxLen; simp only [List.length_cons, List.length_nil]; omega) (by simp only [List.length_cons, List.length_nil]; omega) hbase
  rw [← Cd.ints_app] at h2
  unfold Oper.wp execOp
  simp only [ho, resolve, invoke, builtin, Sem.run_bind, Sem.run_pure, Result.andThen_ok, List.map_toArray, List.map_cons, List.map_nil, hs, hx, hr]
  exact hK _ _ (h v' w' h2 h3 h5)
def Cd.InsertPost (B : Nat) (l' : List Int) (row : Option Nat) (w : World) (e : Ending) (w' : World) : Prop := ∃ a' cap', e = .returned (.slice a' l'.length cap') ∧ w'.ownsRow B 3 1 (.slice a' l'.length cap') l'.length (Cd.ints l') ∧ w.grownBy w' row ∧ ((Value.slice a' l'.length cap').ownBlock = row ∨ (Value.slice a' l'.length cap').ownBlock = some w.heap.size)
set_option maxRecDepth 100000 in
set_option maxHeartbeats 2000000 in
theorem Cd.insert_end (B : Nat) (l : List Int) (n : Nat) (hn : l.length = n) (x : Int) (a : Option Addr) (cap vb : Nat) (w : World) (hl : n ≤ 1000000) (hB : B ≤ w.heap.size) (hown : w.ownsRow B 3 1 (.slice a n cap) n (Cd.ints l)) (hsrc : Cd.IntsAt w.heap.size w (.slice (some ⟨vb, 0, none⟩) 1 1) [x]) :
    Calls Tryz.prog 89 #[.slice a n cap, .int .i64 (n : Int), .slice (some ⟨vb, 0, none⟩) 1 1] w (Cd.InsertPost B (l ++ [x]) (Value.slice a n cap).ownBlock w) := by
  have hnc : n ≤ cap := by
    rcases hown.2 with ⟨h, h0⟩ | ⟨g, c2, cur, h, _, _, h3, _⟩
    · omega
    · injection h with _ _ e; omega
  have HO : Hid (w.ownsRow B 3 1 (.slice a n cap) n (Cd.ints l)) := hown
  have HSR : Hid (Cd.IntsAt w.heap.size w (.slice (some ⟨vb, 0, none⟩) 1 1) [x]) := hsrc
  have HLN : Hid ((l ++ [x]).length = n + 1) := by rw [Hid, List.length_append, hn]; rfl
  clear hown hsrc hn
  obtain ⟨i0, hi0, hz0, hz1, hz2⟩ := Cd.int_info
  have hncI : (n : Int) ≤ (cap : Int) := by omega
  obtain ⟨sa, hsa⟩ : ∃ sa, (if cap = n then a else a.map (fun p => p.add n)) = sa := ⟨_, rfl⟩
  go_enter Tryz.func89, Tryz.ntmps89
  go_wp2_with (first | (at_builtin; refine Cd.wp_append_at rfl _ _ 50 rfl B 3 i0 (.int .i64 0) Tryz.underlying50 hi0 hz0 hz1 hz2 rfl (.slice a n cap) n l rfl HO.out w.heap.size (.slice (some ⟨vb, 0, none⟩) 1 1) rfl x HSR.out (by omega) hB ?_; intro v1 w9 hown9 hg9 hfr9; obtain ⟨a1, cap1, hv1⟩ := Cd.rowLen hown9; subst hv1))
  go_ret
  refine ⟨a1, cap1, ?_, ?_, hg9, ?_⟩
  · rw [HLN.out]; rfl
  · rw [HLN.out]; exact hown9
  · rw [HLN.out]; exact hfr9
end Go.Proofs.YtdmfbhfiaodehaaGreatDoor
