import Derived.Test.YtkaoeoeloihigaaGreatDoorVScanA
import Derived.Deep.RegionHeld3
import Derived.Lib.UnsafeStr
import Derived.Laws.IdiomStrings
import Derived.Laws.BytesArg
import Derived.Lib.ItoaNum
import Derived.Lib.Index
import Derived.Lib.ItoaMem
import Derived.OwnWalk
import Derived.MapKept
import Derived.Test.YtkaoeoeloihigaaGreatDoorVScanF
import Derived.Deep.RegionLaw
import Derived.Test.YtkaoeoeloihigaaGreatDoorVTreeA
import Derived.Lib.AppendStr
import Derived.Deep.QuietTactic
namespace Go.Proofs.YtkaoeoeloihigaaGreatDoor
open Go.RowKit

def Pr.unMark (op : Int) : ByteArray := if op = 1 then ⟨#[45]⟩ else if op = 2 then ⟨#[33]⟩ else ⟨#[126]⟩
def Pr.binMark (op : Int) : ByteArray := if op = 1 then ⟨#[124, 124]⟩ else if op = 2 then ⟨#[38, 38]⟩ else if op = 3 then ⟨#[61, 61]⟩ else if op = 4 then ⟨#[33, 61]⟩ else if op = 5 then ⟨#[60]⟩ else if op = 6 then ⟨#[60, 61]⟩ else if op = 7 then ⟨#[62]⟩ else if op = 8 then ⟨#[62, 61]⟩ else if op = 9 then ⟨#[43]⟩ else if op = 10 then ⟨#[45]⟩ else if op = 11 then ⟨#[124]⟩ else if op = 12 then ⟨#[94]⟩ else if op = 13 then ⟨#[42]⟩ else if op = 14 then ⟨#[47]⟩ else if op = 15 then ⟨#[37]⟩ else if op = 16 then ⟨#[38]⟩ else if op = 17 then ⟨#[60, 60]⟩ else ⟨#[62, 62]⟩
def Pr.binRank (op : Int) : Int := if op = 1 then 1 else if op = 2 then 2 else if op ≤ 8 then 3 else if op ≤ 12 then 4 else 5
theorem Pr.l2UnMark_any (op : Int) (w : World) :
    Calls Tryz.prog 81 #[.int .i64 op] w fun e w' => e = .returned (.string (Pr.unMark op)) ∧ w = w' := by
  go_enter Tryz.func81, Tryz.ntmps81
  go_wp2
  all_goals go_ret
  all_goals exact ⟨by simp_all [Pr.unMark], rfl⟩
theorem Pr.l2Mark_any (op : Int) (h : 1 ≤ op ∧ op ≤ 18) (w : World) :
    Calls Tryz.prog 83 #[.int .i64 op] w fun e w' => e = .returned (.tuple #[.string (Pr.binMark op), .int .i64 (Pr.binRank op)]) ∧ w = w' := by
  have h18 : op = 1 ∨ op = 2 ∨ op = 3 ∨ op = 4 ∨ op = 5 ∨ op = 6 ∨ op = 7 ∨ op = 8 ∨ op = 9 ∨ op = 10 ∨ op = 11 ∨ op = 12 ∨ op = 13 ∨ op = 14 ∨ op = 15 ∨ op = 16 ∨ op = 17 ∨ op = 18 := by omega
  rcases h18 with rfl | rfl | rfl | rfl | rfl | rfl | rfl | rfl | rfl | rfl | rfl | rfl | rfl | rfl | rfl | rfl | rfl | rfl
  all_goals
    go_enter Tryz.func83, Tryz.ntmps83
    go_wp2
    go_ret2
    exact ⟨rfl, rfl⟩
end Go.Proofs.YtkaoeoeloihigaaGreatDoor

namespace Go.Proofs.YtkaoeoeloihigaaGreatDoor
open Go.RowKit

theorem Val.wrap_u (x : Int) : IntKind.u64.wrap x = x % 18446744073709551616 := by rfl
theorem Val.new_at (w : World) (o : Obj) : (w.alloc o).heap[w.heap.size]? = some o := (MapKept.heap_alloc w o).1
theorem Val.own_next {W W' : World} {B e size n : Nat} {v : Value} {xs : List Value} (h : W.ownsRow B e size v n xs) (hb : Below W.heap.size W W') : W'.ownsRow B e size v n xs := by
  refine ⟨h.1, ?_⟩
  rcases h.2 with hn | ⟨g, cap, cur, hv, hg, hgg, rest⟩
  · exact .inl hn
  · exact .inr ⟨g, cap, cur, hv, hg, by rw [hb.block g (Array.getElem?_eq_some_iff.1 hgg).1]; exact hgg, rest⟩
theorem Val.conv_own {P : Program} {w : World} {src dst e : TypeId} (hs : P.underlying src = some (.slice e)) (he : P.underlying e = some (.int .u8)) (hd : P.underlying dst = some .string) {B : Nat} {v : Value} {acc : List UInt8}
    (h : w.ownsRow B e 1 v acc.length (Lib.byteCells acc)) : (convert src dst v).run P w = .ok (.string ⟨acc.toArray⟩) w := by
  have hcells := fun g => h.cells (g := g)
  obtain ⟨h1, h2⟩ := h
  rcases h2 with ⟨rfl, h0⟩ | ⟨g, cap, cur, rfl, hg, hh, hn, hcap, hsz, htake⟩
  · have : acc = [] := List.eq_nil_of_length_eq_zero h0
    subst this
    exact run_convert_bytes_nil (P := P) (w := w) src e hs he 0 0 dst hd
  · refine run_convert_bytes_back w src dst e ⟨g, 0, none⟩ cap acc hs he hd ?_
    intro j hj
    exact hcells g rfl j _ (by simp [Lib.byteCells, hj])
theorem Val.ofNat_toNat (x : Int) (h0 : 0 ≤ x) (h1 : x ≤ 255) : ((UInt8.ofNat x.toNat).toNat : Int) = x := by
  simp; omega
theorem Val.own_one (w : World) (c : Int) (h0 : 0 ≤ c) (h1 : c ≤ 255) : (w.alloc (.cells #[.int .u8 c] 5)).ownsRow w.heap.size 5 1 (.slice (some ⟨w.heap.size, 0, none⟩) 1 1) 1 (Lib.byteCells [UInt8.ofNat c.toNat]) := by
  have h : (w.alloc (.cells #[.int .u8 c] 5)).ownsRow w.heap.size 5 1 (.slice (some ⟨w.heap.size, 0, none⟩) 1 1) 1 [.int .u8 c] := ⟨rfl, .inr ⟨w.heap.size, 1, #[.int .u8 c], rfl, Nat.le_refl _, Val.new_at w _, Nat.le_refl _, by decide, rfl, rfl⟩⟩
  simp only [Lib.byteCells, List.map_cons, List.map_nil, Val.ofNat_toNat c h0 h1]; exact h
theorem Val.conv_of {w : World} {B : Nat} {v : Value} {acc : List UInt8} (h : w.ownsRow B 5 1 v acc.length (Lib.byteCells acc)) : (convert 41 9 v).run Tryz.prog w = .ok (.string ⟨acc.toArray⟩) w :=
  Val.conv_own Tryz.underlying41 Tryz.underlying5 Tryz.underlying9 h
theorem Val.conv_one (w : World) (c : Int) (h0 : 0 ≤ c) (h1 : c ≤ 255) : (convert 41 9 (.slice (some ⟨w.heap.size, 0, none⟩) 1 1)).run Tryz.prog (w.alloc (.cells #[.int .u8 c] 5)) = .ok (.string ⟨#[UInt8.ofNat c.toNat]⟩) (w.alloc (.cells #[.int .u8 c] 5)) :=
  Val.conv_of (acc := [UInt8.ofNat c.toNat]) (Val.own_one w c h0 h1)
theorem Val.conv_on {w w' : World} (c : Int) (h0 : 0 ≤ c) (h1 : c ≤ 255) (hb : Below (w.alloc (.cells #[.int .u8 c] 5)).heap.size (w.alloc (.cells #[.int .u8 c] 5)) w') : (convert 41 9 (.slice (some ⟨w.heap.size, 0, none⟩) 1 1)).run Tryz.prog w' = .ok (.string ⟨#[UInt8.ofNat c.toNat]⟩) w' :=
  Val.conv_of (acc := [UInt8.ofNat c.toNat]) (Val.own_next (Val.own_one w c h0 h1) hb)
set_option maxRecDepth 100000 in
set_option maxHeartbeats 1000000 in
theorem Val.l1Decimal_one (n : Nat) (w : World) (h : n < 10) :
    Calls Tryz.prog 79 #[.int .u64 (n : Int)] w fun e w' => e = .returned (.string ⟨(Lib.decDigits n).toArray⟩) ∧ Below w.heap.size w w' := by
  rw [Lib.decDigits_one h]
  have hcv := Val.conv_one w (48 + (n : Int)) (by omega) (by omega)
  rw [show (48 + (n : Int)).toNat = 48 + n by omega] at hcv
  generalize UInt8.ofNat (48 + n) = b at *
  go_enter Tryz.func79, Tryz.ntmps79
  go_wp2
  go_ret
  exact ⟨rfl, (Below.refl _ w).alloc (Nat.le_refl _) _⟩
theorem Val.keepB {w w0 w1 : World} (h : Below w.heap.size w w0) (hb : Below w0.heap.size w0 w1) : Below w.heap.size w w1 := h.trans (hb.mono h.size)
set_option maxRecDepth 100000 in
set_option maxHeartbeats 2000000 in
theorem Val.l1Decimal_step (n : Nat) (w : World) (h : ¬ n < 10) (hn : n < 18446744073709551616) (ds : ByteArray) (hds : ds.size ≤ 30) (b : UInt8) (HB : Hid (UInt8.ofNat (48 + n % 10) = b))
    (ih : Hid (∀ w : World, Calls Tryz.prog 79 #[.int .u64 ((n : Int) / 10)] w fun e w' => e = .returned (.string ds) ∧ Below w.heap.size w w')) :
    Calls Tryz.prog 79 #[.int .u64 (n : Int)] w fun e w' => e = .returned (.string (ds ++ ⟨#[UInt8.ofNat (48 + n % 10)]⟩)) ∧ Below w.heap.size w w' := by
  have hc0 : 0 ≤ 48 + (n : Int) % 10 := by omega
  have hc1 : 48 + (n : Int) % 10 ≤ 255 := by omega
  have e1 : (48 + (n : Int) % 10).toNat = 48 + n % 10 := by omega
  go_enter Tryz.func79, Tryz.ntmps79
  have hds2 : ds.size ≤ 9223372036854775806 := by omega
  rw [HB.out]
  have q1 : IntKind.u64.wrap ((n : Int) / 10) = (n : Int) / 10 := by rw [Val.wrap_u]; omega
  have q2 : (n : Int).tmod 10 = (n : Int) % 10 := Int.tmod_eq_emod_of_nonneg (by omega)
  have q3 : IntKind.u64.wrap (48 + (n : Int) % 10) = 48 + (n : Int) % 10 := by rw [Val.wrap_u]; omega
  have q4 : IntKind.u8.wrap (48 + (n : Int) % 10) = 48 + (n : Int) % 10 := by show _ % 256 = _; omega
  have q5 : (48 + (n : Int) % 10) % 256 = 48 + (n : Int) % 10 := by omega
  have q6 : (48 + (n : Int) % 10) % 18446744073709551616 = 48 + (n : Int) % 10 := by omega
  have q7 : (n : Int) / 10 % 18446744073709551616 = (n : Int) / 10 := by omega
  have hcv0 := Val.conv_one w.drew _ hc0 hc1
  rw [e1, HB.out] at hcv0
  have hcv1 : (convert 41 9 (.slice (some ⟨w.heap.size, 0, none⟩) 1 1)).run Tryz.prog (w.alloc (.cells #[.int .u8 (48 + (n : Int) % 10)] 5)).drew = .ok (.string ⟨#[b]⟩) (w.alloc (.cells #[.int .u8 (48 + (n : Int) % 10)] 5)).drew := hcv0
  go_wp2_with fail
  refine wp_region_held_drew (S := fun _ => True) (by kernel_rfl) trivial (fun hHeld => ?_)
  refine wpAnyH_take (i := 0) (v := .int .u64 (n : Int)) rfl (by kernel_rfl) (by kernel_rfl) (by kernel_rfl) (fun _ _ _ h => h) (Or.inl ⟨by rfl, by intro w hSw; go_simp⟩) (by assumption) ?_
  try dsimp only [Act.put]
  refine wpAnyH_take (i := 1) (v := .int .u64 ((n : Int) / 10)) rfl (by kernel_rfl) (by kernel_rfl) (by kernel_rfl) (fun _ _ _ h => h) (Or.inl ⟨by rfl, by intro w hSw; go_simp⟩) (by assumption) ?_
  try dsimp only [Act.put]
  refine wpAnyH_take (i := 3) (v := .int .u64 (n : Int)) rfl (by kernel_rfl) (by kernel_rfl) (by kernel_rfl) (fun _ _ _ h => h) (Or.inl ⟨by rfl, by intro w hSw; go_simp⟩) (by assumption) ?_
  try dsimp only [Act.put]
  refine wpAnyH_take (i := 4) (v := .int .u64 ((n : Int) % 10)) rfl (by kernel_rfl) (by kernel_rfl) (by kernel_rfl) (fun _ _ _ h => h) (Or.inl ⟨by rfl, by intro w hSw; go_simp⟩) (by assumption) ?_
  try dsimp only [Act.put]
  refine wpAnyH_take (i := 5) (v := .int .u64 (48 + (n : Int) % 10)) rfl (by kernel_rfl) (by kernel_rfl) (by kernel_rfl) (fun _ _ _ h => h) (Or.inl ⟨by rfl, by intro w hSw; go_simp⟩) (by assumption) ?_
  try dsimp only [Act.put]
  refine wpAnyH_take (i := 6) (v := .int .u8 (48 + (n : Int) % 10)) rfl (by kernel_rfl) (by kernel_rfl) (by kernel_rfl) (fun _ _ _ h => h) (Or.inl ⟨by rfl, by intro w hSw; go_simp⟩) (by assumption) ?_
  try dsimp only [Act.put]
  refine wpAnyH_ready (rs := [2, 7]) (by kernel_rfl) (by simp) ?_
  refine AllReadyH.cons rfl (fun K hK => ?_) (AllReadyH.cons rfl (fun K hK => ?_) AllReadyH.nil)
  · go_simp
    (go_at_call 79; (refine (ih.out _).mono ?_; rintro e w1 ⟨rfl, hb1⟩))
    have hcv2 := Val.conv_one w1 _ hc0 hc1
    rw [e1, HB.out] at hcv2
    go_wp2
    refine hK.out _ _ trivial (fun hHeld => ?_)
    clear hK
    try dsimp only [Act.put]
    refine wpAnyH_ready (rs := [7]) (by kernel_rfl) (by simp) ?_
    refine AllReadyH.cons rfl (fun K hK => ?_) AllReadyH.nil
    go_simp
    refine hK.out _ _ trivial (fun hHeld => ?_)
    clear hK
    try dsimp only [Act.put]
    refine wpAnyH_ready (rs := [8]) (by kernel_rfl) (by simp) ?_
    refine AllReadyH.cons rfl (fun K hK => ?_) AllReadyH.nil
    go_simp
    refine hK.out _ _ trivial (fun hHeld => ?_)
    clear hK
    try dsimp only [Act.put]
    refine wpAnyH_take (i := 9) (v := .string (ds ++ ⟨#[b]⟩)) rfl (by kernel_rfl) (by kernel_rfl) (by kernel_rfl) (fun _ _ _ h => h) (Or.inl ⟨by rfl, by intro w hSw; go_simp⟩) (by assumption) ?_
    simp [Act.put]
    refine wpAnyH_take (i := 10) (v := .string (ds ++ ⟨#[b]⟩)) rfl (by kernel_rfl) (by kernel_rfl) (by kernel_rfl) (fun _ _ _ h => h) (Or.inl ⟨by rfl, by intro w hSw; go_simp⟩) (by assumption) ?_
    simp [Act.put]
    refine wpAnyH_done (by kernel_rfl) ?_ _
    go_wp2
    go_ret
    exact ⟨rfl, (Val.keepB (Below.refl _ _).drew hb1).alloc (by have := hb1.size; simpa using this) _⟩
  · go_simp
    refine hK.out _ _ trivial (fun hHeld => ?_)
    clear hK
    try dsimp only [Act.put]
    refine wpAnyH_ready (rs := [2, 8]) (by kernel_rfl) (by simp) ?_
    refine AllReadyH.cons rfl (fun K hK => ?_) (AllReadyH.cons rfl (fun K hK => ?_) AllReadyH.nil)
    · go_simp
      (go_at_call 79; (refine (ih.out _).mono ?_; rintro e w1 ⟨rfl, hb1⟩))
      have hcv4 := Val.conv_on (w := w.drew) _ hc0 hc1 hb1
      rw [e1, HB.out] at hcv4
      have hcv3 : (convert 41 9 (.slice (some ⟨w.heap.size, 0, none⟩) 1 1)).run Tryz.prog w1 = .ok (.string ⟨#[b]⟩) w1 := hcv4
      go_wp2
      refine hK.out _ _ trivial (fun hHeld => ?_)
      clear hK
      try dsimp only [Act.put]
      refine wpAnyH_ready (rs := [8]) (by kernel_rfl) (by simp) ?_
      refine AllReadyH.cons rfl (fun K hK => ?_) AllReadyH.nil
      go_simp
      refine hK.out _ _ trivial (fun hHeld => ?_)
      clear hK
      try dsimp only [Act.put]
      refine wpAnyH_take (i := 9) (v := .string (ds ++ ⟨#[b]⟩)) rfl (by kernel_rfl) (by kernel_rfl) (by kernel_rfl) (fun _ _ _ h => h) (Or.inl ⟨by rfl, by intro w hSw; go_simp⟩) (by assumption) ?_
      simp [Act.put]
      refine wpAnyH_take (i := 10) (v := .string (ds ++ ⟨#[b]⟩)) rfl (by kernel_rfl) (by kernel_rfl) (by kernel_rfl) (fun _ _ _ h => h) (Or.inl ⟨by rfl, by intro w hSw; go_simp⟩) (by assumption) ?_
      simp [Act.put]
      refine wpAnyH_done (by kernel_rfl) ?_ _
      go_wp2
      go_ret
      exact ⟨rfl, Val.keepB ((Below.refl _ _).drew.alloc (Nat.le_refl _) _) hb1⟩
    · go_simp
      refine hK.out _ _ trivial (fun hHeld => ?_)
      clear hK
      try dsimp only [Act.put]
      refine wpAnyH_ready (rs := [2]) (by kernel_rfl) (by simp) ?_
      refine AllReadyH.cons rfl (fun K hK => ?_) AllReadyH.nil
      go_simp
      (go_at_call 79; (refine (ih.out _).mono ?_; rintro e w1 ⟨rfl, hb1⟩))
      go_wp2
      refine hK.out _ _ trivial (fun hHeld => ?_)
      clear hK
      try dsimp only [Act.put]
      refine wpAnyH_take (i := 9) (v := .string (ds ++ ⟨#[b]⟩)) rfl (by kernel_rfl) (by kernel_rfl) (by kernel_rfl) (fun _ _ _ h => h) (Or.inl ⟨by rfl, by intro w hSw; go_simp⟩) (by assumption) ?_
      simp [Act.put]
      refine wpAnyH_take (i := 10) (v := .string (ds ++ ⟨#[b]⟩)) rfl (by kernel_rfl) (by kernel_rfl) (by kernel_rfl) (fun _ _ _ h => h) (Or.inl ⟨by rfl, by intro w hSw; go_simp⟩) (by assumption) ?_
      simp [Act.put]
      refine wpAnyH_done (by kernel_rfl) ?_ _
      go_wp2
      go_ret
      exact ⟨rfl, Val.keepB ((Below.refl _ _).drew.alloc (Nat.le_refl _) _) hb1⟩
theorem Val.decLen : ∀ (d n : Nat), n < 10 ^ (d + 1) → (Lib.decDigits n).length ≤ d + 1
  | 0, n, h => by rw [Lib.decDigits_one (by simpa using h)]; simp
  | d + 1, n, h => by
    by_cases h1 : n < 10
    · rw [Lib.decDigits_one h1]; simp
    · rw [Lib.decDigits, dif_neg h1]
      have := Val.decLen d (n / 10) (by rw [Nat.pow_succ] at h; omega)
      simp; omega
theorem Val.decLen20 (n : Nat) (h : n < 18446744073709551616) : (Lib.decDigits n).length ≤ 20 := Val.decLen 19 n (by omega)
theorem Val.arr_app (l : List UInt8) (b : UInt8) : (⟨l.toArray⟩ : ByteArray) ++ ⟨#[b]⟩ = ⟨(l ++ [b]).toArray⟩ := by
  apply ByteArray.ext
  simp
theorem Val.l1Decimal_any : ∀ (n : Nat) (_ : n < 18446744073709551616) (w : World),
    Calls Tryz.prog 79 #[.int .u64 (n : Int)] w fun e w' => e = .returned (.string ⟨(Lib.decDigits n).toArray⟩) ∧ Below w.heap.size w w' := by
  intro n
  induction n using Nat.strongRecOn with
  | _ n ih =>
    intro hn w
    by_cases h : n < 10
    · exact Val.l1Decimal_one n w h
    · have := Val.l1Decimal_step n w h hn ⟨(Lib.decDigits (n / 10)).toArray⟩ (by have := Val.decLen20 (n / 10) (by omega); simp [ByteArray.size]; omega) _ rfl (fun w => by have := ih (n / 10) (by omega) (by omega) w; simpa using this)
      rw [Lib.decDigits, dif_neg h, ← Val.arr_app]
      exact this
theorem Val.l1Decimal_i (x : Int) (h0 : 0 ≤ x) (h1 : x < 18446744073709551616) (w : World) :
    Calls Tryz.prog 79 #[.int .u64 x] w fun e w' => e = .returned (.string ⟨(Lib.decDigits x.toNat).toArray⟩) ∧ Below w.heap.size w w' := by
  have := Val.l1Decimal_any x.toNat (by omega) w
  rwa [show ((x.toNat : Nat) : Int) = x by omega] at this
end Go.Proofs.YtkaoeoeloihigaaGreatDoor

namespace Go.Proofs.YtkaoeoeloihigaaGreatDoor
open Go.RowKit

def Pr.hexD (n : Nat) : UInt8 := if n < 10 then UInt8.ofNat (48 + n) else UInt8.ofNat (87 + n)
def Pr.q1 (b : UInt8) : List UInt8 := if Mill.bare (b.toNat : Int) = true then [b] else [92, Pr.hexD (b.toNat / 16), Pr.hexD (b.toNat % 16)]
def Pr.qs (l : List UInt8) : List UInt8 := l.flatMap Pr.q1
def Pr.quote (s : ByteArray) : ByteArray := ⟨(34 :: Pr.qs s.data.toList ++ [34]).toArray⟩
theorem Pr.q1_len (b : UInt8) : (Pr.q1 b).length ≤ 3 := by unfold Pr.q1; split <;> simp
theorem Pr.qs_len : ∀ l : List UInt8, (Pr.qs l).length ≤ 3 * l.length
  | [] => by simp [Pr.qs]
  | b :: r => by
    have h1 := Pr.q1_len b
    have h2 := Pr.qs_len r
    simp only [Pr.qs, List.flatMap_cons, List.length_append, List.length_cons] at h2 ⊢
    omega
theorem Pr.qs_snoc (s : ByteArray) (i : Nat) (h : i < s.size) : Pr.qs (s.data.toList.take (i + 1)) = Pr.qs (s.data.toList.take i) ++ Pr.q1 s[i] := by
  have e : s.data.toList.take (i + 1) = s.data.toList.take i ++ [s[i]] := by
    have h' : i < s.data.toList.length := by simpa using h
    rw [List.take_add_one, List.getElem?_eq_getElem h']
    simp [ByteArray.getElem_eq_getElem_data]
  rw [e]
  simp [Pr.qs]
theorem Pr.dig (n : Nat) (hn : n < 16) (h : n < (⟨#[48, 49, 50, 51, 52, 53, 54, 55, 56, 57, 97, 98, 99, 100, 101, 102]⟩ : ByteArray).size) : (⟨#[48, 49, 50, 51, 52, 53, 54, 55, 56, 57, 97, 98, 99, 100, 101, 102]⟩ : ByteArray)[n]'h = Pr.hexD n := by
  have : n = 0 ∨ n = 1 ∨ n = 2 ∨ n = 3 ∨ n = 4 ∨ n = 5 ∨ n = 6 ∨ n = 7 ∨ n = 8 ∨ n = 9 ∨ n = 10 ∨ n = 11 ∨ n = 12 ∨ n = 13 ∨ n = 14 ∨ n = 15 := by omega
  rcases this with rfl | rfl | rfl | rfl | rfl | rfl | rfl | rfl | rfl | rfl | rfl | rfl | rfl | rfl | rfl | rfl <;> rfl
theorem Pr.cell3 (w : World) (a b c : Value) (t : TypeId) (k : Nat) (u : Value) (hu : [a, b, c][k]? = some u) : (w.alloc (.cells #[a, b, c] t)).cell? ((⟨w.heap.size, 0, none⟩ : Addr).add k) = some u := by
  have e : (w.alloc (.cells #[a, b, c] t)).heap[w.heap.size]? = some (.cells #[a, b, c] t (0, 0)) := Val.new_at w _
  have hk : (⟨w.heap.size, 0, none⟩ : Addr).add k = ⟨w.heap.size, k, none⟩ := by unfold Addr.add; split <;> simp_all
  rw [hk]
  have h2 : (#[a, b, c] : Array Value)[k]? = some u := by rw [← Array.getElem?_toList]; exact hu
  simp only [World.cell?, e]
  simpa using h2
theorem Pr.byteCells_app (a b : List UInt8) : Lib.byteCells (a ++ b) = Lib.byteCells a ++ Lib.byteCells b := by simp [Lib.byteCells]
set_option maxRecDepth 100000 in
set_option maxHeartbeats 4000000 in
theorem Pr.l1Quote_any (s : ByteArray) (hs : s.size ≤ 1048576) (w : World) :
    Calls Tryz.prog 80 #[.string s] w fun e w' => e = .returned (.string (Pr.quote s)) ∧ Below w.heap.size w w' := by
  obtain ⟨i0, hi, hz0, hz1, hz2⟩ := info_parts Tryz.infoByte
  go_enter Tryz.func80, Tryz.ntmps80
  go_wp2
  go_loopw [3, 5] (fun o i wr => ∃ (j : Nat) (acc : List UInt8), i = .int .i64 (j : Int) ∧ j ≤ s.size ∧ acc = 34 :: Pr.qs (s.data.toList.take j) ∧ wr.ownsRow w.heap.size 5 1 o acc.length (Lib.byteCells acc) ∧ Below w.heap.size w wr) (fun _ i _ => s.size - (intOf i).toNat)
  case atStart =>
    refine ⟨0, [34], rfl, by omega, by simp [Pr.qs], ?_, (Below.refl _ w).alloc (Nat.le_refl _) _⟩
    exact Val.own_one w 34 (by omega) (by omega)
  case round =>
    obtain ⟨j, acc, rfl, hj, hacc, hown, hbw⟩ := hrel
    have hsz := hbw.size
    have hlen : acc.length ≤ 3145729 := by
      have := Pr.qs_len (s.data.toList.take j)
      rw [hacc]; simp at this ⊢; omega
    by_cases hjs : j < s.size
    · cases hb : Mill.bare (s[j].toNat : Int) with
      | true =>
        have HU : Hid (acc ++ [s[j]] = 34 :: Pr.qs (s.data.toList.take (j + 1))) := by rw [Hid, Pr.qs_snoc s j hjs, hacc, Pr.q1, if_pos hb]; rfl
        clear hacc
        go_wp2_with (first
          | (go_at_call 95; refine (l1Bare_any _ _).mono ?_; rintro e w' ⟨rfl, rfl⟩; rw [hb])
          | (at_builtin; refine wpList_append_own _ rfl _ _ 41 rfl w.heap.size 5 i0 (.int .u8 0) 1 1 Tryz.underlying41 hi hz0 hz1 hz2 rfl (by decide) _ _ _ rfl (hown.alloc _) ⟨wr.heap.size, 0, none⟩ 1 1 [.int .u8 (s[j].toNat : Int)] rfl rfl (cell_one_new _ _ _) (fun x hx => by simp at hx; subst hx; rfl) (by unfold maxLen; omega) (by omega) (by simp; omega) ?_; intro v' w3 hown' hgrow3 hnil3))
        have hb3 : Below w.heap.size w w3 := Below.grown (hbw.alloc hsz _) hgrow3 (by simp; omega) (fun j hj => (hown.lt _ hj).1)
        go_roundw
        case rel => exact ⟨j + 1, acc ++ [s[j]], by go_num, by omega, HU.out, by rw [Mill.byteCells_snoc]; simpa using hown', hb3⟩
        case measure => simp [intOf]; omega
      | false =>
        go_wp2_with (first
          | (go_at_call 95; refine (l1Bare_any _ _).mono ?_; rintro e w' ⟨rfl, rfl⟩; rw [hb]))
        have hc0 : s[j].toNat < 256 := UInt8.toNat_lt _
        have hd1 : IntKind.u8.wrap ((s[j].toNat : Int) / 16) = (s[j].toNat : Int) / 16 := by rw [IntKind.wrap_u8]; omega
        have hd2 : IntKind.u8.wrap ((s[j].toNat : Int) % 16) = (s[j].toNat : Int) % 16 := by rw [IntKind.wrap_u8]; omega
        have hd3 : ((s[j].toNat : Int) / 16) % 256 = (s[j].toNat : Int) / 16 := by omega
        have hd4 : ((s[j].toNat : Int) % 16) % 256 = (s[j].toNat : Int) % 16 := by omega
        have hd5 : (s[j].toNat : Int).tmod 16 = (s[j].toNat : Int) % 16 := Int.tmod_eq_emod_of_nonneg (by omega)
        have hd6 : (s[j].toNat : Int).tdiv 16 = (s[j].toNat : Int) / 16 := Int.tdiv_eq_ediv_of_nonneg (by omega)
        have hq1 : (0 : Int) ≤ (s[j].toNat : Int) / 16 := by omega
        have hq2 : (s[j].toNat : Int) / 16 < 16 := by omega
        have hq3 : (0 : Int) ≤ (s[j].toNat : Int) % 16 := by omega
        have hq4 : (s[j].toNat : Int) % 16 < 16 := by omega
        have hq5 : ((s[j].toNat : Int) / 16).toNat = s[j].toNat / 16 := by omega
        have hq6 : ((s[j].toNat : Int) % 16).toNat = s[j].toNat % 16 := by omega
        have hx1 : ∀ (h : s[j].toNat / 16 < (⟨#[48, 49, 50, 51, 52, 53, 54, 55, 56, 57, 97, 98, 99, 100, 101, 102]⟩ : ByteArray).size), (⟨#[48, 49, 50, 51, 52, 53, 54, 55, 56, 57, 97, 98, 99, 100, 101, 102]⟩ : ByteArray)[s[j].toNat / 16]'h = Pr.hexD (s[j].toNat / 16) := fun h => Pr.dig _ (by omega) h
        have hx2 : ∀ (h : s[j].toNat % 16 < (⟨#[48, 49, 50, 51, 52, 53, 54, 55, 56, 57, 97, 98, 99, 100, 101, 102]⟩ : ByteArray).size), (⟨#[48, 49, 50, 51, 52, 53, 54, 55, 56, 57, 97, 98, 99, 100, 101, 102]⟩ : ByteArray)[s[j].toNat % 16]'h = Pr.hexD (s[j].toNat % 16) := fun h => Pr.dig _ (by omega) h
        have HU : Hid (acc ++ [92, Pr.hexD (s[j].toNat / 16), Pr.hexD (s[j].toNat % 16)] = 34 :: Pr.qs (s.data.toList.take (j + 1))) := by rw [Hid, Pr.qs_snoc s j hjs, hacc, Pr.q1, if_neg (by rw [hb]; decide)]; rfl
        clear hacc
        go_region_law (first
          | (refine Mill.step_append_own rfl (.tmp 23) (.tmp 36) 41 rfl w.heap.size 5 i0 (.int .u8 0) 1 1 Tryz.underlying41 hi hz0 hz1 hz2 rfl (by decide) _ _ _ rfl (by repeat (first | exact hown | apply World.ownsRow.drew | apply World.ownsRow.alloc)) ⟨wr.heap.size, 0, none⟩ 3 3 [.int .u8 92, .int .u8 ((Pr.hexD (s[j].toNat / 16)).toNat : Int), .int .u8 ((Pr.hexD (s[j].toNat % 16)).toNat : Int)] rfl rfl (by intro k u hu; exact Pr.cell3 _ _ _ _ _ k u hu) (fun x hx => by simp at hx; rcases hx with rfl | rfl | rfl <;> rfl) (by unfold maxLen; omega) (by omega) (by simp; omega) ?_; intro v' w3 hown' hgrow3))
        all_goals
          have hb3 : Below w.heap.size w w3 := Below.grown (by repeat (first | exact hbw | apply Below.drew | (refine Below.alloc ?_ (by simpa using hsz) _))) hgrow3 (by simp; omega) (fun j hj => (hown.lt _ hj).1)
          have HO : Hid (w3.ownsRow w.heap.size 5 1 v' (acc ++ [92, Pr.hexD (s[j].toNat / 16), Pr.hexD (s[j].toNat % 16)]).length (Lib.byteCells (acc ++ [92, Pr.hexD (s[j].toNat / 16), Pr.hexD (s[j].toNat % 16)]))) := by
            rw [Hid, Pr.byteCells_app]; simpa [Lib.byteCells] using hown'
          clear hown' hgrow3
          go_wp2
          go_roundw
          case rel => exact ⟨j + 1, _, by go_num, by omega, HU.out, HO.out, hb3⟩
          case measure => simp [intOf]; omega
    · have HU : Hid (acc ++ [34] = 34 :: Pr.qs s.data.toList ++ [34]) := by
        rw [Hid, hacc, List.take_of_length_le (by simp; omega)]
      clear hacc
      go_wp2_with (first
        | (at_builtin; refine wpList_append_own _ rfl _ _ 41 rfl w.heap.size 5 i0 (.int .u8 0) 1 1 Tryz.underlying41 hi hz0 hz1 hz2 rfl (by decide) _ _ _ rfl (hown.alloc _) ⟨wr.heap.size, 0, none⟩ 1 1 [.int .u8 34] rfl rfl (cell_one_new _ _ _) (fun x hx => by simp at hx; subst hx; rfl) (by unfold maxLen; omega) (by omega) (by simp; omega) ?_; intro v' w3 hown' hgrow3 hnil3
           have own3 : w3.ownsRow w.heap.size 5 1 v' (acc ++ [34]).length (Lib.byteCells (acc ++ [34])) := by rw [Mill.byteCells_snoc]; simpa using hown'
           have hcv := Mill.conv_own (P := Tryz.prog) (src := 41) (dst := 9) Tryz.underlying41 Tryz.underlying5 Tryz.underlying9 own3))
      have hb3 : Below w.heap.size w w3 := Below.grown (hbw.alloc hsz _) hgrow3 (by simp; omega) (fun j hj => (hown.lt _ hj).1)
      go_ret
      exact ⟨by rw [Pr.quote, ← HU.out]; rfl, hb3⟩
end Go.Proofs.YtkaoeoeloihigaaGreatDoor

namespace Go.Proofs.YtkaoeoeloihigaaGreatDoor
open Go.RowKit

/-- A pen in memory: its nodes and its rows. -/
def Pr.PenAt (w : World) (g : Nat) (ns : List Mill.Nd) (K : List (List Nat)) : Prop :=
  g < w.heap.size ∧ ∃ gn cn gk ck, w.cell? ⟨g, 0, none⟩ = some (.slice (some ⟨gn, 0, none⟩) ns.length cn) ∧ w.cell? ⟨g, 1, none⟩ = some (.slice (some ⟨gk, 0, none⟩) K.length ck) ∧ gn < w.heap.size ∧ gk < w.heap.size ∧
    (∀ i (h : i < ns.length) j, j < 6 → w.cell? ⟨gn, i * 6 + j, none⟩ = (Mill.ndC ns[i])[j]?) ∧
    (∀ i, i < K.length → ∃ ua uc, w.cell? ⟨gk, i, none⟩ = some (.slice ua (K.getD i []).length uc) ∧ ∀ j (h : j < (K.getD i []).length), ∃ gu, ua = some ⟨gu, 0, none⟩ ∧ gu < w.heap.size ∧ w.cell? ⟨gu, j, none⟩ = some (.int .i64 ((K.getD i [])[j] : Int)))
theorem Pr.PenAt.below {w w' : World} {g : Nat} {ns : List Mill.Nd} {K : List (List Nat)} (h : Pr.PenAt w g ns K) (hb : Below w.heap.size w w') : Pr.PenAt w' g ns K := by
  obtain ⟨hg, gn, cn, gk, ck, h0, h1, hgn, hgk, hN, hK⟩ := h
  have hz := hb.size
  refine ⟨by omega, gn, cn, gk, ck, (hb.cell (p := ⟨g, 0, none⟩) hg).trans h0, (hb.cell (p := ⟨g, 1, none⟩) hg).trans h1, by omega, by omega, fun i hi j hj => (hb.cell (p := ⟨gn, i * 6 + j, none⟩) hgn).trans (hN i hi j hj), fun i hi => ?_⟩
  obtain ⟨ua, uc, hu, hj⟩ := hK i hi
  refine ⟨ua, uc, (hb.cell (p := ⟨gk, i, none⟩) hgk).trans hu, fun j hjl => ?_⟩
  obtain ⟨gu, he, hgu, hc⟩ := hj j hjl
  exact ⟨gu, he, by omega, (hb.cell (p := ⟨gu, j, none⟩) hgu).trans hc⟩
theorem Pr.PenAt.drew {w : World} {g : Nat} {ns : List Mill.Nd} {K : List (List Nat)} (h : Pr.PenAt w g ns K) : Pr.PenAt w.drew g ns K := h.below (Below.refl _ w).drew
/-- A row of kids as a slice in memory. -/
def Pr.RowAt (w : World) (v : Value) (ks : List Nat) : Prop := ∃ ua uc, v = .slice ua ks.length uc ∧ ∀ j (h : j < ks.length), ∃ gu, ua = some ⟨gu, 0, none⟩ ∧ gu < w.heap.size ∧ w.cell? ⟨gu, j, none⟩ = some (.int .i64 (ks[j] : Int))
theorem Pr.RowAt.below {w w' : World} {v : Value} {ks : List Nat} (h : Pr.RowAt w v ks) (hb : Below w.heap.size w w') : Pr.RowAt w' v ks := by
  obtain ⟨ua, uc, he, hj⟩ := h
  refine ⟨ua, uc, he, fun j hjl => ?_⟩
  obtain ⟨gu, he, hgu, hc⟩ := hj j hjl
  exact ⟨gu, he, by have := hb.size; omega, (hb.cell (p := ⟨gu, j, none⟩) hgu).trans hc⟩
def Pr.held (k : Int) (x : ByteArray) : ByteArray := if k = 6 then ⟨#[40]⟩ ++ x ++ ⟨#[41]⟩ else x
/-- expr at a node gives this text, wherever the pen lies. -/
def Pr.ExprIs (g : Nat) (ns : List Mill.Nd) (K : List (List Nat)) (k : Nat) (x : ByteArray) : Prop :=
  ∀ w : World, Pr.PenAt w g ns K → Calls Tryz.prog 63 #[.pointer (some ⟨g, 0, none⟩), .int .i64 (k : Int)] w fun e w' => e = .returned (.string x) ∧ Below w.heap.size w w'
set_option maxRecDepth 100000 in
set_option maxHeartbeats 1000000 in
theorem Pr.held_any (g : Nat) (ns : List Mill.Nd) (K : List (List Nat)) (k : Nat) (x : ByteArray) (hk : k < ns.length) (_hl : ns.length ≤ 12001) (hx : x.size ≤ 100000000) (HE : Hid (Pr.ExprIs g ns K k x)) (w : World) (HP : Hid (Pr.PenAt w g ns K)) :
    Calls Tryz.prog 82 #[.pointer (some ⟨g, 0, none⟩), .int .i64 (k : Int)] w fun e w' => e = .returned (.string (Pr.held ns[k].kind x)) ∧ Below w.heap.size w w' := by
  obtain ⟨hg, gn, cn, gk, ck, h0, h1, hgn, hgk, hN, _⟩ := HP.out
  have n0 := hN k hk 0 (by omega)
  simp only [Mill.ndC, List.getElem?_cons_zero, Nat.add_zero] at n0
  clear hN
  by_cases h6 : ns[k].kind = 6
  · rw [Pr.held, if_pos h6]
    rw [h6] at n0
    go_enter Tryz.func82, Tryz.ntmps82
    go_wp2_with (go_at_call 63; refine (HE.out _ HP.out).mono ?_; rintro e w1 ⟨rfl, hb1⟩)
    go_ret
    exact ⟨rfl, hb1⟩
  · rw [Pr.held, if_neg h6]
    have h6' : (ns[k].kind == 6) = false := by simpa using h6
    go_enter Tryz.func82, Tryz.ntmps82
    go_wp2_with (go_at_call 63; refine (HE.out _ HP.out).mono ?_; rintro e w1 ⟨rfl, hb1⟩)
    go_ret
    exact ⟨rfl, hb1⟩
end Go.Proofs.YtkaoeoeloihigaaGreatDoor

namespace Go.Proofs.YtkaoeoeloihigaaGreatDoor
open Go.RowKit

def Pr.joinL : List ByteArray → List UInt8
  | [] => []
  | x :: r => x.data.toList ++ r.flatMap (fun y => [44, 32] ++ y.data.toList)
def Pr.listT (xs : List ByteArray) : ByteArray := ⟨(Pr.joinL xs).toArray⟩
theorem Pr.joinL_snoc (xs : List ByteArray) (y : ByteArray) : Pr.joinL (xs ++ [y]) = (if xs = [] then [] else Pr.joinL xs ++ [44, 32]) ++ y.data.toList := by
  cases xs with
  | nil => simp [Pr.joinL]
  | cons x r => simp [Pr.joinL]
def Pr.total (xs : List ByteArray) : Nat := (xs.map (fun x => x.size + 2)).sum
theorem Pr.joinL_len : ∀ xs : List ByteArray, (Pr.joinL xs).length ≤ Pr.total xs
  | [] => by simp [Pr.joinL]
  | x :: r => by
    have h : ∀ l : List ByteArray, (l.flatMap (fun y => [44, 32] ++ y.data.toList)).length ≤ Pr.total l := by
      intro l
      induction l with
      | nil => simp
      | cons y l ih => simp only [List.flatMap_cons, List.length_append, Pr.total, List.map_cons, List.sum_cons, List.length_cons, List.length_nil] at ih ⊢; have e2 : y.data.toList.length = y.size := (by simp); omega
    have := h r
    simp only [Pr.joinL, List.length_append, Pr.total, List.map_cons, List.sum_cons] at this ⊢
    have e : x.data.toList.length = x.size := by simp
    omega
theorem Pr.total_app (a b : List ByteArray) : Pr.total (a ++ b) = Pr.total a + Pr.total b := by simp [Pr.total]
theorem Pr.total_take (xs : List ByteArray) (j : Nat) : Pr.total (xs.take j) ≤ Pr.total xs := by
  have h := Pr.total_app (xs.take j) (xs.drop j)
  rw [List.take_append_drop] at h
  omega
theorem Pr.strCells_eq (x : ByteArray) : Lib.strCells x = Lib.byteCells x.data.toList := by
  first | rfl | simp [Lib.strCells, Lib.byteCells]
theorem Pr.own_app {w : World} {B e : Nat} {v : Value} (acc : List UInt8) (x : ByteArray) (h : w.ownsRow B e 1 v (acc.length + x.size) (Lib.byteCells acc ++ Lib.strCells x)) : w.ownsRow B e 1 v (acc ++ x.data.toList).length (Lib.byteCells (acc ++ x.data.toList)) := by
  rw [Pr.byteCells_app, ← Pr.strCells_eq, List.length_append]
  have e : x.data.toList.length = x.size := by simp
  rw [e]; exact h
theorem Pr.own_sep {w : World} {B e : Nat} {v : Value} (acc : List UInt8) (h : w.ownsRow B e 1 v (acc.length + (⟨#[44, 32]⟩ : ByteArray).size) (Lib.byteCells acc ++ Lib.strCells ⟨#[44, 32]⟩)) : w.ownsRow B e 1 v (acc ++ [44, 32]).length (Lib.byteCells (acc ++ [44, 32])) := Pr.own_app acc ⟨#[44, 32]⟩ h
set_option maxRecDepth 100000 in
set_option maxHeartbeats 4000000 in
theorem Pr.list_any (g : Nat) (ns : List Mill.Nd) (K : List (List Nat)) (v : Value) (ks : List Nat) (xs : List ByteArray) (hlen : xs.length = ks.length) (hl : ks.length ≤ 12001) (ht : Pr.total xs ≤ 100000000)
    (HE : Hid (∀ j (h : j < ks.length) (h' : j < xs.length), Pr.ExprIs g ns K ks[j] xs[j])) (w : World) (HP : Hid (Pr.PenAt w g ns K)) (HR : Hid (Pr.RowAt w v ks)) :
    Calls Tryz.prog 64 #[.pointer (some ⟨g, 0, none⟩), v] w fun e w' => e = .returned (.string (Pr.listT xs)) ∧ Below w.heap.size w w' := by
  obtain ⟨i0, hi, hz0, hz1, hz2⟩ := info_parts Tryz.infoByte
  obtain ⟨ua, uc, rfl, hj0⟩ := HR.out
  have HJ : Hid (∀ j (h : j < ks.length), ∃ gu, ua = some ⟨gu, 0, none⟩ ∧ gu < w.heap.size ∧ w.cell? ⟨gu, j, none⟩ = some (.int .i64 (ks[j] : Int))) := hj0
  clear hj0 HR
  obtain ⟨n, HN⟩ : ∃ n, Hid (ks.length = n) := ⟨_, (rfl : ks.length = _)⟩
  rw [HN.out] at hl hlen
  simp only [HN.out]
  go_enter Tryz.func64, Tryz.ntmps64
  go_wp2
  go_loopw [5, 6] (fun o i wr => ∃ (j : Nat) (acc : List UInt8), i = .int .i64 (j : Int) ∧ j ≤ n ∧ acc = Pr.joinL (xs.take j) ∧ wr.ownsRow w.heap.size 5 1 o acc.length (Lib.byteCells acc) ∧ Below w.heap.size w wr) (fun _ i _ => n - (intOf i).toNat)
  case atStart =>
    refine ⟨0, [], rfl, by omega, by simp [Pr.joinL], ?_, (Below.refl _ w).alloc (Nat.le_refl _) _⟩
    exact World.ownsRow_made (base := w.heap.size) (e := 5) (size := 1) w #[] 0 (Nat.le_refl _) (by decide) rfl
  case round =>
    obtain ⟨j, acc, rfl, hj, hacc, hown, hbw⟩ := hrel
    have hsz := hbw.size
    have hlen2 : acc.length ≤ 100000000 := by
      have h1 := Pr.joinL_len (xs.take j)
      have h2 := Pr.total_take xs j
      rw [hacc]; omega
    by_cases hjn : j < n
    · have hjk : j < ks.length := by rw [HN.out]; exact hjn
      have hjx : j < xs.length := by omega
      obtain ⟨gu, rfl, hgu, hcell⟩ := HJ.out j hjk
      have hE := HE.out j hjk hjx
      have hxs : xs[j].size ≤ 100000000 := by
        have h1 := Pr.total_take xs (j + 1)
        have e : Pr.total (xs.take (j + 1)) = Pr.total (xs.take j) + (xs[j].size + 2) := by
          have e2 : xs.take j ++ [xs[j]] = xs.take (j + 1) := by rw [List.take_add_one, List.getElem?_eq_getElem hjx]; rfl
          rw [← e2, Pr.total_app]; simp [Pr.total]
        omega
      have hS := Pr.joinL_snoc (xs.take j) xs[j]
      have e2 : xs.take j ++ [xs[j]] = xs.take (j + 1) := by rw [List.take_add_one, List.getElem?_eq_getElem hjx]; rfl
      rw [e2] at hS
      generalize xs[j] = x at *
      generalize ks[j] = k at *
      have HX : Hid (Pr.ExprIs g ns K k x) := hE
      clear hE
      have c1 : wr.cell? ⟨gu, j, none⟩ = some (.int .i64 (k : Int)) := (hbw.cell (p := ⟨gu, j, none⟩) hgu).trans hcell
      have HPr : Hid (Pr.PenAt wr g ns K) := HP.out.below hbw
      by_cases hj0 : j = 0
      · subst hj0
        have HU : Hid (acc ++ x.data.toList = Pr.joinL (xs.take (0 + 1))) := by rw [Hid, hS, hacc]; simp [Pr.joinL]
        clear hS hacc e2
        go_wp2_with (first
          | (go_at_call 63; refine (HX.out _ HPr.out).mono ?_; rintro e w2 ⟨rfl, hb2⟩
             have own2 := Val.own_next hown hb2
             have hbw2 := hbw.trans (hb2.mono hsz))
          | (at_builtin; refine Lib.wpList_append_own_string _ rfl _ _ 41 9 rfl w.heap.size 5 i0 Tryz.underlying41 Tryz.underlying9 hi hz0 hz1 hz2 _ _ _ rfl own2 x rfl (by unfold maxLen; omega) (by omega) hbw2.size ?_; intro v' w3 hown' hgrow3 hnil3))
        have hb3 : Below w.heap.size w w3 := Below.grown hbw2 hgrow3 hbw2.size (fun j hj => (own2.lt _ hj).1)
        have HO : Hid (w3.ownsRow w.heap.size 5 1 v' (acc ++ x.data.toList).length (Lib.byteCells (acc ++ x.data.toList))) := by
          rw [Hid, Pr.byteCells_app, ← Pr.strCells_eq, List.length_append]; simpa using hown'
        clear hown' hgrow3
        go_wp2
        go_roundw
        case rel => exact ⟨0 + 1, _, by go_num, by omega, HU.out, HO.out, hb3⟩
        case measure => simp [intOf]; omega
      · have HU : Hid ((acc ++ [44, 32]) ++ x.data.toList = Pr.joinL (xs.take (j + 1))) := by
          rw [Hid, hS, if_neg (by
            intro h
            have := congrArg List.length h
            rw [List.length_take] at this
            simp only [List.length_nil] at this
            omega), hacc]
        clear hS hacc e2
        have hj1 : 0 < j := by omega
        have hm2 : acc.length + (⟨#[44, 32]⟩ : ByteArray).size ≤ 140737488355328 := by
          have : (⟨#[44, 32]⟩ : ByteArray).size = 2 := rfl
          omega
        have hm1 : acc.length + (⟨#[44, 32]⟩ : ByteArray).size ≤ maxLen := by
          have : (⟨#[44, 32]⟩ : ByteArray).size = 2 := rfl
          unfold maxLen; omega
        go_wp2_with (first
          | (go_at_call 63; refine (HX.out _ (HP.out.below hbc)).mono ?_; rintro e w2 ⟨rfl, hb2⟩
             have own2 := Val.own_next ownc hb2
             have hbw2 := hbc.trans (hb2.mono hbc.size))
          | (at_builtin; refine Lib.wpList_append_own_string _ rfl _ _ 41 9 rfl w.heap.size 5 i0 Tryz.underlying41 Tryz.underlying9 hi hz0 hz1 hz2 _ _ _ rfl own2 x rfl (by unfold maxLen; simp only [List.length_append, List.length_cons, List.length_nil]; omega) (by simp only [List.length_append, List.length_cons, List.length_nil]; omega) hbw2.size ?_; intro v' w3 hown' hgrow3 hnil3)
          | (at_builtin; refine Lib.wpList_append_own_string _ rfl _ _ 41 9 rfl w.heap.size 5 i0 Tryz.underlying41 Tryz.underlying9 hi hz0 hz1 hz2 _ _ _ rfl hown ⟨#[44, 32]⟩ rfl hm1 hm2 hsz ?_; intro vc wc0 hownc hgrowc hnilc
             have hbc : Below w.heap.size w wc0 := Below.grown hbw hgrowc hsz (fun j hj => (hown.lt _ hj).1)
             have ownc : wc0.ownsRow w.heap.size 5 1 vc (acc ++ [44, 32]).length (Lib.byteCells (acc ++ [44, 32])) := Pr.own_sep acc hownc
             have cc : wc0.cell? ⟨gu, j, none⟩ = some (.int .i64 (k : Int)) := (hbc.cell (p := ⟨gu, j, none⟩) hgu).trans hcell))
        have hb3 : Below w.heap.size w w3 := Below.grown hbw2 hgrow3 hbw2.size (fun j hj => (own2.lt _ hj).1)
        have HO : Hid (w3.ownsRow w.heap.size 5 1 v' ((acc ++ [44, 32]) ++ x.data.toList).length (Lib.byteCells ((acc ++ [44, 32]) ++ x.data.toList))) := by
          rw [Hid, Pr.byteCells_app, ← Pr.strCells_eq, List.length_append]; simpa using hown'
        clear hown' hgrow3
        go_wp2
        go_roundw
        case rel => exact ⟨j + 1, _, by go_num, by omega, HU.out, HO.out, hb3⟩
        case measure => simp [intOf]; omega
    · have HU : Hid (acc = Pr.joinL xs) := by rw [Hid, hacc, List.take_of_length_le (by omega)]
      have hcv := Mill.conv_own (P := Tryz.prog) (src := 41) (dst := 9) Tryz.underlying41 Tryz.underlying5 Tryz.underlying9 hown
      clear hacc
      go_wp2
      go_ret
      exact ⟨by rw [Pr.listT, ← HU.out]; rfl, hbw⟩
end Go.Proofs.YtkaoeoeloihigaaGreatDoor
