import Derived.Test.YtfelngigfmdedaaGreatDoorBltI
import Derived.Deep.RegionHeld3
import Derived.Lib.ParseIntBTie
namespace Go.Proofs.YtfelngigfmdedaaGreatDoor
open Go.RowKit

theorem Val.GB.al {w : World} (h : Val.GB w) (o : Obj) : Val.GB (w.alloc o) := h.next ((Below.refl _ w).alloc (Nat.le_refl _) o)
def Val.decI (t n : Int) : List UInt8 := if t = 6 then Lib.decDigits (Val.u n).toNat else Lib.itoa n
set_option maxRecDepth 100000 in
set_option maxHeartbeats 1000000 in
theorem Val.decimal_any (t n : Int) (x : ByteArray) (hn : -9223372036854775808 ≤ n ∧ n ≤ 9223372036854775807) (w : World) (hG : Val.GB w) :
    Calls Tryz.prog 33 #[.agg #[.int .i64 t, .int .i64 n, .string x]] w fun e w' => e = .returned (.string ⟨(Val.decI t n).toArray⟩) ∧ Below w.heap.size w w' := by
  have HG : Hid (∀ o, Val.GB (w.alloc o)) := fun o => hG.al o
  clear hG
  by_cases h6 : t = 6
  · subst h6
    have HD : Hid (Val.decI 6 n = Lib.decDigits (Val.u n).toNat) := (rfl : Val.decI 6 n = _)
    have hu := Val.u_bd n
    have huw : IntKind.u64.wrap n = Val.u n := rfl
    rw [HD.out]
    go_enter Tryz.func33, Tryz.ntmps33
    go_wp2_with (go_at_call 42; (refine (Val.formatUint_any (Val.u n) hu.1 hu.2 _ (HG.out _)).mono ?_; rintro e w1 ⟨rfl, hb1⟩; simp only [World.size_alloc] at hb1))
    go_ret
    exact ⟨rfl, Val.alloc1 hb1⟩
  · have HD : Hid (Val.decI t n = Lib.itoa n) := by rw [Hid, Val.decI, if_neg h6]
    rw [HD.out]
    go_enter Tryz.func33, Tryz.ntmps33
    go_wp2_with (go_at_call 43; (refine (Val.formatInt_any n hn _ (HG.out _)).mono ?_; rintro e w1 ⟨rfl, hb1⟩; simp only [World.size_alloc] at hb1))
    go_ret
    exact ⟨rfl, Val.alloc1 hb1⟩
theorem Val.wrapS (c : UInt8) : wrap64 (c.toNat : Int) = (c.toNat : Int) := by
  have := c.toNat_lt
  rw [Val.wrap_i]; omega
theorem Val.set3e {w : World} {g h : Nat} {v x y z : Value} (hgh : g < h) (hv : w.cell? ⟨g, 0, none⟩ = some v) :
    (((w.setCell ⟨h, 0, none⟩ x).setCell ⟨h, 1, none⟩ y).setCell ⟨h, 2, none⟩ z).cell? ⟨g, 0, none⟩ = some v := Val.set3o (by omega) hv
set_option maxRecDepth 100000 in
set_option maxHeartbeats 1000000 in
theorem Val.byteAt_no (s : ByteArray) (i : Int) (h : ¬ (0 ≤ i ∧ i < (s.size : Int))) (b o : Nat) (w : World) (hg : 3 < w.heap.size) (hE : w.cell? ⟨3, 0, none⟩ = some (.iface 121 (.pointer (some ⟨b, o, none⟩)))) :
    Calls Tryz.prog 29 #[.string s, .int .i64 i] w fun e w' => e = .returned (.tuple #[.agg #[.int .i64 0, .int .i64 0, .string ⟨#[]⟩], .iface 121 (.pointer (some ⟨b, o, none⟩))]) ∧ Below w.heap.size w w' := by
  have hE2 : ∀ ob : Obj, (w.alloc ob).cell? ⟨3, 0, none⟩ = some (.iface 121 (.pointer (some ⟨b, o, none⟩))) := fun ob => by rw [((Below.refl w.heap.size w).alloc (Nat.le_refl _) ob).cell (p := ⟨3, 0, none⟩) hg]; exact hE
  have HE2 : Hid (∀ ob : Obj, (w.alloc ob).cell? ⟨3, 0, none⟩ = some (.iface 121 (.pointer (some ⟨b, o, none⟩)))) := hE2
  have h3 : i < 0 ∨ (0 ≤ i ∧ (s.size : Int) ≤ i) := by omega
  rcases h3 with h3 | ⟨h3, h4⟩
  all_goals
    go_enter Tryz.func29, Tryz.ntmps29
    go_wp2_with fail
    go_region_held3 (fun w' => w'.cell? ⟨3, 0, none⟩ = some (.iface 121 (.pointer (some ⟨b, o, none⟩)))) (first | exact HE2.out _ | exact Val.set3e (by omega) (HE2.out _)) (fail)
    go_wp2
    exact bodyPost_ret (v := .tuple #[.agg #[.int .i64 0, .int .i64 0, .string ⟨#[]⟩], .iface 121 (.pointer (some ⟨b, o, none⟩))]) (by simp [results, Tryz.results29, go_sem]) rfl ⟨rfl, by first | exact (Below.refl _ w).alloc (Nat.le_refl _) _ | exact ((Below.refl _ w).alloc (Nat.le_refl _) _).drew | exact (Val.set3w ((Below.refl _ w).alloc (Nat.le_refl _) _) _ _ _).drew | exact Val.set3w (((Below.refl _ w).alloc (Nat.le_refl _) _).drew) _ _ _⟩
set_option maxRecDepth 100000 in
set_option maxHeartbeats 1000000 in
theorem Val.byteAt_yes (s : ByteArray) (i : Nat) (h : i < s.size) (w : World) :
    Calls Tryz.prog 29 #[.string s, .int .i64 (i : Int)] w fun e w' => e = .returned (.tuple #[.agg #[.int .i64 3, .int .i64 ((s[i]).toNat : Int), .string ⟨#[]⟩], .nilIface]) ∧ Below w.heap.size w w' := by
  go_enter Tryz.func29, Tryz.ntmps29
  go_wp2
  exact bodyPost_ret (v := .tuple #[.agg #[.int .i64 3, .int .i64 ((s[i]).toNat : Int), .string ⟨#[]⟩], .nilIface]) (by simp [results, Tryz.results29, go_sem, Val.wrapS]) rfl ⟨rfl, by first | exact (Below.refl _ w).alloc (Nat.le_refl _) _ | exact ((Below.refl _ w).alloc (Nat.le_refl _) _).drew | exact (Val.set3w ((Below.refl _ w).alloc (Nat.le_refl _) _) _ _ _).drew | exact Val.set3w (((Below.refl _ w).alloc (Nat.le_refl _) _).drew) _ _ _⟩
set_option maxRecDepth 100000 in
set_option maxHeartbeats 1000000 in
theorem Val.cut_no (s : ByteArray) (i j : Int) (h : ¬ (0 ≤ i ∧ i ≤ j ∧ j ≤ (s.size : Int))) (b o : Nat) (w : World) (hg : 3 < w.heap.size) (hE : w.cell? ⟨3, 0, none⟩ = some (.iface 121 (.pointer (some ⟨b, o, none⟩)))) :
    Calls Tryz.prog 30 #[.string s, .int .i64 i, .int .i64 j] w fun e w' => e = .returned (.tuple #[.agg #[.int .i64 0, .int .i64 0, .string ⟨#[]⟩], .iface 121 (.pointer (some ⟨b, o, none⟩))]) ∧ Below w.heap.size w w' := by
  have HE2 : Hid (∀ ob : Obj, (w.alloc ob).cell? ⟨3, 0, none⟩ = some (.iface 121 (.pointer (some ⟨b, o, none⟩)))) := fun ob => by rw [((Below.refl w.heap.size w).alloc (Nat.le_refl _) ob).cell (p := ⟨3, 0, none⟩) hg]; exact hE
  have hE2 := HE2.out
  have h3 : i < 0 ∨ (0 ≤ i ∧ j < i) ∨ (0 ≤ i ∧ i ≤ j ∧ (s.size : Int) < j) := by omega
  rcases h3 with h1 | ⟨h1, h2⟩ | ⟨h1, h2, h3⟩
  all_goals
    go_enter Tryz.func30, Tryz.ntmps30
    go_wp2_with fail
    go_region_held3 (fun w' => w'.cell? ⟨3, 0, none⟩ = some (.iface 121 (.pointer (some ⟨b, o, none⟩)))) (first | exact HE2.out _ | exact Val.set3e (by omega) (HE2.out _)) (fail)
    go_wp2
    exact bodyPost_ret (v := .tuple #[.agg #[.int .i64 0, .int .i64 0, .string ⟨#[]⟩], .iface 121 (.pointer (some ⟨b, o, none⟩))]) (by simp [results, Tryz.results30, go_sem]) rfl ⟨rfl, by first | exact (Below.refl _ w).alloc (Nat.le_refl _) _ | exact ((Below.refl _ w).alloc (Nat.le_refl _) _).drew | exact (Val.set3w ((Below.refl _ w).alloc (Nat.le_refl _) _) _ _ _).drew | exact Val.set3w (((Below.refl _ w).alloc (Nat.le_refl _) _).drew) _ _ _⟩
set_option maxRecDepth 100000 in
set_option maxHeartbeats 1000000 in
theorem Val.cut_yes (s : ByteArray) (i j : Nat) (h1 : i ≤ j) (h2 : j ≤ s.size) (w : World) :
    Calls Tryz.prog 30 #[.string s, .int .i64 (i : Int), .int .i64 (j : Int)] w fun e w' => e = .returned (.tuple #[.agg #[.int .i64 2, .int .i64 0, .string (s.extract i j)], .nilIface]) ∧ Below w.heap.size w w' := by
  go_enter Tryz.func30, Tryz.ntmps30
  go_wp2_with (go_at_call 32; (refine (Val.textValue_any _ _).mono ?_; rintro e w1 ⟨rfl, hb1⟩; simp only [World.size_alloc] at hb1; obtain ⟨⟨a0, a1, a2⟩, f0, f1, f2⟩ := Val.row3' hb1))
  exact bodyPost_ret (v := .tuple #[.agg #[.int .i64 2, .int .i64 0, .string (s.extract i j)], .nilIface]) (by simp [results, Tryz.results30, go_sem, a0, a1, a2]) rfl ⟨rfl, Val.set3w (Val.alloc1 hb1) _ _ _⟩
theorem Val.GB.al2 {w : World} (h : Val.GB w) (o o' : Obj) : Val.GB ((w.alloc o).alloc o') := (h.al o).al o'
set_option maxRecDepth 100000 in
set_option maxHeartbeats 1000000 in
theorem Val.number_yes (s : ByteArray) (hs : s.size ≤ 1048576) (v : Int) (h : Val.parse s = (v, true)) (w : World) (hG : Val.GB w) :
    Calls Tryz.prog 34 #[.string s] w fun e w' => e = .returned (.tuple #[.agg #[.int .i64 10, .int .i64 v, .string ⟨#[]⟩], .nilIface]) ∧ Below w.heap.size w w' := by
  obtain ⟨h1, h2, h3⟩ := Val.num_yes s v h
  have HP : Hid (∀ w : World, Calls Tryz.prog 44 #[.string s, .int .i64 10, .int .i64 64] w fun e w' => e = .returned (.tuple #[.int .i64 v, .nilIface]) ∧ Below w.heap.size w w') := fun w => by
    refine (Tryz.strconv_ParseInt_10_at64_ok s (by omega) v h1 w).mono ?_
    rintro e w' ⟨rfl, h⟩
    refine ⟨rfl, ?_⟩
    rcases h with rfl | ⟨t, rfl⟩
    · exact Below.refl _ _
    · exact Lib.bytesWorld_below _ _ _
  have HE : Hid ((⟨(Val.decI 10 v).toArray⟩ : ByteArray) = s) := by
    apply ByteArray.ext
    apply Array.toList_inj.1
    rw [← h2]; rfl
  have hne : (s.toList != s.toList) = false := by simp
  clear h h1 h2
  have HG : Hid (Val.GB w) := hG
  clear hG
  go_enter Tryz.func34, Tryz.ntmps34
  go_wp2_with (first | (go_at_call 44; (refine (HP.out _).mono ?_; rintro e w1 ⟨rfl, hb1⟩; simp only [World.size_alloc] at hb1; have HG1 : Hid (∀ ob, Val.GB (w1.alloc ob)) := (fun ob => (HG.out.next (Val.alloc1 hb1)).al ob); obtain ⟨⟨r0, r1, r2⟩, k0, k1, k2⟩ := Val.row3' hb1; have hww := hb1.size; simp only [World.size_alloc] at hww)) | (go_at_call 33; (refine (Val.decimal_any 10 v ⟨#[]⟩ h3 _ (HG1.out _)).mono ?_; rintro e w2 ⟨rfl, hb2⟩; rw [HE.out]; simp only [World.size_alloc] at hb2; have hb2' : Below (w1.heap.size + 1) (w1.alloc (.cells #[.int .i64 10, .int .i64 v, .string ⟨#[]⟩] 25)) w2 := hb2; obtain ⟨⟨d0, d1, d2⟩, _, _, _⟩ := Val.row3' hb2'; have hb3 : Below (w.heap.size + 1) (w.alloc (.cells #[.int .i64 0, .int .i64 0, .string ⟨#[]⟩] 25)) w2 := ((hb1.alloc hww _).trans (hb2'.mono (by omega))); obtain ⟨⟨t0, t1, t2⟩, m0, m1, m2⟩ := Val.row3' hb3)))
  exact bodyPost_ret (v := .tuple #[.agg #[.int .i64 10, .int .i64 v, .string ⟨#[]⟩], .nilIface]) (by simp [results, Tryz.results34, go_sem, t0, t1, t2]) rfl ⟨rfl, Val.set3w (Val.alloc1 hb3) _ _ _⟩
set_option maxRecDepth 100000 in
set_option maxHeartbeats 1000000 in
theorem Val.number_err (s : ByteArray) (n : Int) (N : World → Nat → Prop) (b o : Nat) (w : World) (HG : Hid (Val.GB w)) (hg : 4 < w.heap.size) (hE : w.cell? ⟨4, 0, none⟩ = some (.iface 121 (.pointer (some ⟨b, o, none⟩))))
    (HP : Hid (∀ w : World, Val.GB w → Calls Tryz.prog 44 #[.string s, .int .i64 10, .int .i64 64] w fun e w' => (∃ k, e = .returned (.tuple #[.int .i64 n, .iface 108 (.pointer (some ⟨k, 0, none⟩))]) ∧ N w' k) ∧ Below w.heap.size w w')) :
    Calls Tryz.prog 34 #[.string s] w fun e w' => e = .returned (.tuple #[.agg #[.int .i64 0, .int .i64 0, .string ⟨#[]⟩], .iface 121 (.pointer (some ⟨b, o, none⟩))]) ∧ Below w.heap.size w w' := by
  have HG0 : Hid (∀ ob, Val.GB (w.alloc ob)) := fun ob => HG.out.al ob
  go_enter Tryz.func34, Tryz.ntmps34
  go_wp2_with (first | (go_at_call 44; (refine (HP.out _ (HG0.out _)).mono ?_; rintro e w1 ⟨⟨k, rfl, _⟩, hb1⟩; simp only [World.size_alloc] at hb1; have HG1 : Hid (∀ ob, Val.GB (w1.alloc ob)) := (fun ob => (HG.out.next (Val.alloc1 hb1)).al ob); obtain ⟨⟨r0, r1, r2⟩, k0, k1, k2⟩ := Val.row3' hb1; have hww := hb1.size; simp only [World.size_alloc] at hww; have hbo : ∀ ob : Obj, Below (w.heap.size + 1) (w.alloc (.cells #[.int .i64 0, .int .i64 0, .string ⟨#[]⟩] 25)) (w1.alloc ob) := (fun ob => hb1.alloc hww ob); have s0 := (fun ob => (Val.row3' (hbo ob)).1.1); have s1 := (fun ob => (Val.row3' (hbo ob)).1.2.1); have s2 := (fun ob => (Val.row3' (hbo ob)).1.2.2); have l0 := (fun ob => (Val.row3' (hbo ob)).2.1); have l1 := (fun ob => (Val.row3' (hbo ob)).2.2.1); have l2 := (fun ob => (Val.row3' (hbo ob)).2.2.2); have HBO : Hid (∀ ob : Obj, Below (w.heap.size + 1) (w.alloc (.cells #[.int .i64 0, .int .i64 0, .string ⟨#[]⟩] 25)) (w1.alloc ob)) := hbo; have HEO : Hid (∀ ob : Obj, (w1.alloc ob).cell? ⟨4, 0, none⟩ = some (.iface 121 (.pointer (some ⟨b, o, none⟩)))) := (fun ob => by rw [(Val.alloc1 (hbo ob)).cell (p := ⟨4, 0, none⟩) hg]; exact hE); clear hbo)))
  have hE2 := HEO.out
  go_region_held3 (fun w' => w'.cell? ⟨4, 0, none⟩ = some (.iface 121 (.pointer (some ⟨b, o, none⟩)))) (first | exact HEO.out _ | exact Val.set3e (by omega) (HEO.out _)) (fail)
  go_wp2
  exact bodyPost_ret (v := .tuple #[.agg #[.int .i64 0, .int .i64 0, .string ⟨#[]⟩], .iface 121 (.pointer (some ⟨b, o, none⟩))]) (by simp [results, Tryz.results34, go_sem, s0, s1, s2]) rfl ⟨rfl, by first | exact (Val.set3w (Val.alloc1 (HBO.out _)) _ _ _).drew | exact Val.set3w ((Val.alloc1 (HBO.out _)).drew) _ _ _⟩
set_option maxRecDepth 100000 in
set_option maxHeartbeats 1000000 in
theorem Val.number_other (s : ByteArray) (v : Int) (h3 : -9223372036854775808 ≤ v ∧ v ≤ 9223372036854775807) (hne : Lib.itoa v ≠ s.data.toList) (b o : Nat) (w : World) (HG : Hid (Val.GB w)) (hg : 4 < w.heap.size) (hE : w.cell? ⟨4, 0, none⟩ = some (.iface 121 (.pointer (some ⟨b, o, none⟩))))
    (HP : Hid (∀ w : World, Calls Tryz.prog 44 #[.string s, .int .i64 10, .int .i64 64] w fun e w' => e = .returned (.tuple #[.int .i64 v, .nilIface]) ∧ Below w.heap.size w w')) :
    Calls Tryz.prog 34 #[.string s] w fun e w' => e = .returned (.tuple #[.agg #[.int .i64 0, .int .i64 0, .string ⟨#[]⟩], .iface 121 (.pointer (some ⟨b, o, none⟩))]) ∧ Below w.heap.size w w' := by
  obtain ⟨ds, HE⟩ : ∃ ds : ByteArray, Hid ((⟨(Val.decI 10 v).toArray⟩ : ByteArray) = ds) := ⟨_, (rfl : _ = _)⟩
  have hne2 : (ds.toList != s.toList) = true := by
    rw [← HE.out, ByteArray.toList_eq, ByteArray.toList_eq, bne_iff_ne]
    exact hne
  have hne3 : (ds.toList == s.toList) = false := by simpa using hne2
  go_enter Tryz.func34, Tryz.ntmps34
  go_wp2_with (first | (go_at_call 44; (refine (HP.out _).mono ?_; rintro e w1 ⟨rfl, hb1⟩; simp only [World.size_alloc] at hb1; have HG1 : Hid (∀ ob, Val.GB (w1.alloc ob)) := (fun ob => (HG.out.next (Val.alloc1 hb1)).al ob); obtain ⟨⟨r0, r1, r2⟩, k0, k1, k2⟩ := Val.row3' hb1; have hww := hb1.size; simp only [World.size_alloc] at hww; have hbo : ∀ ob : Obj, Below (w.heap.size + 1) (w.alloc (.cells #[.int .i64 0, .int .i64 0, .string ⟨#[]⟩] 25)) (w1.alloc ob) := (fun ob => hb1.alloc hww ob); have s0 := (fun ob => (Val.row3' (hbo ob)).1.1); have s1 := (fun ob => (Val.row3' (hbo ob)).1.2.1); have s2 := (fun ob => (Val.row3' (hbo ob)).1.2.2); have l0 := (fun ob => (Val.row3' (hbo ob)).2.1); have l1 := (fun ob => (Val.row3' (hbo ob)).2.2.1); have l2 := (fun ob => (Val.row3' (hbo ob)).2.2.2); have HBO : Hid (∀ ob : Obj, Below (w.heap.size + 1) (w.alloc (.cells #[.int .i64 0, .int .i64 0, .string ⟨#[]⟩] 25)) (w1.alloc ob)) := hbo; have HEO : Hid (∀ ob : Obj, (w1.alloc ob).cell? ⟨4, 0, none⟩ = some (.iface 121 (.pointer (some ⟨b, o, none⟩)))) := (fun ob => by rw [(Val.alloc1 (hbo ob)).cell (p := ⟨4, 0, none⟩) hg]; exact hE); clear hbo)) | (go_at_call 33; (refine (Val.decimal_any 10 v ⟨#[]⟩ h3 _ (HG1.out _)).mono ?_; rintro e w2 ⟨rfl, hb2⟩; rw [HE.out]; simp only [World.size_alloc] at hb2; have hb2' : Below (w1.heap.size + 1) (w1.alloc (.cells #[.int .i64 10, .int .i64 v, .string ⟨#[]⟩] 25)) w2 := hb2; have hb3 : Below (w.heap.size + 1) (w.alloc (.cells #[.int .i64 0, .int .i64 0, .string ⟨#[]⟩] 25)) w2 := ((HBO.out _).trans (hb2'.mono (by omega))); obtain ⟨⟨t0, t1, t2⟩, m0, m1, m2⟩ := Val.row3' hb3; have hE2 : w2.cell? ⟨4, 0, none⟩ = some (.iface 121 (.pointer (some ⟨b, o, none⟩))) := (by rw [(Val.alloc1 hb3).cell (p := ⟨4, 0, none⟩) hg]; exact hE))))
  go_region_held3 (fun w' => w'.cell? ⟨4, 0, none⟩ = some (.iface 121 (.pointer (some ⟨b, o, none⟩)))) (first | exact hE2 | exact Val.set3e (by omega) hE2) (fail)
  go_wp2
  exact bodyPost_ret (v := .tuple #[.agg #[.int .i64 0, .int .i64 0, .string ⟨#[]⟩], .iface 121 (.pointer (some ⟨b, o, none⟩))]) (by simp [results, Tryz.results34, go_sem, t0, t1, t2]) rfl ⟨rfl, by first | exact (Val.set3w (Val.alloc1 hb3) _ _ _).drew | exact Val.set3w ((Val.alloc1 hb3).drew) _ _ _⟩
theorem Val.number_no (s : ByteArray) (hs : s.size ≤ 1048576) (h : (Val.parse s).2 = false) (b o : Nat) (w : World) (hG : Val.GB w) (hE : w.cell? ⟨4, 0, none⟩ = some (.iface 121 (.pointer (some ⟨b, o, none⟩)))) (hg : 4 < w.heap.size) :
    Calls Tryz.prog 34 #[.string s] w fun e w' => e = .returned (.tuple #[.agg #[.int .i64 0, .int .i64 0, .string ⟨#[]⟩], .iface 121 (.pointer (some ⟨b, o, none⟩))]) ∧ Below w.heap.size w w' := by
  cases hp : Lib.parseIntB 64 s.data.toList with
  | ok v =>
    have hv : -9223372036854775808 ≤ v ∧ v ≤ 9223372036854775807 := by
      have := Lib.parseIntB_bounds hp
      have e : ((2 ^ (64 - 1) : Nat) : Int) = 9223372036854775808 := by decide
      rw [e] at this; omega
    exact Val.number_other s v hv (Val.num_no s h v hv) b o w hG hg hE (fun w => by
      refine (Tryz.strconv_ParseInt_10_at64_ok s (by omega) v hp w).mono ?_
      rintro e w' ⟨rfl, h⟩
      refine ⟨rfl, ?_⟩
      rcases h with rfl | ⟨t, rfl⟩
      · exact Below.refl _ _
      · exact Lib.bytesWorld_below _ _ _)
  | «syntax» =>
    exact Val.number_err s _ (fun _ _ => True) b o w hG hg hE (fun w hG => by
      obtain ⟨tp, p, hv⟩ := hG.syn
      refine (Tryz.strconv_ParseInt_10_at64_syntax_var s (by omega) hp tp p w hv).mono ?_
      rintro e w' ⟨k, rfl, _, _, hb⟩
      exact ⟨⟨k, rfl, trivial⟩, hb⟩)
  | range =>
    exact Val.number_err s _ (fun _ _ => True) b o w hG hg hE (fun w hG => by
      obtain ⟨tp, p, hv⟩ := hG.rng
      refine (Tryz.strconv_ParseInt_10_at64_range_var s (by omega) hp tp p w hv).mono ?_
      rintro e w' ⟨k, rfl, _, _, hb⟩
      exact ⟨⟨k, rfl, trivial⟩, hb⟩)
end Go.Proofs.YtfelngigfmdedaaGreatDoor
