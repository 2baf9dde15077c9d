import Derived.Test.YtkaoeoeloihigaaGreatDoorWE
namespace Go.Proofs.YtkaoeoeloihigaaGreatDoor
open Go.RowKit

def Pr.catL (gap : ByteArray) (xs : List ByteArray) : List UInt8 := xs.flatMap (fun x => gap.data.toList ++ x.data.toList)
def Pr.catB (gap : ByteArray) (xs : List ByteArray) : ByteArray := ⟨(Pr.catL gap xs).toArray⟩
def Pr.totalG (n : Nat) (xs : List ByteArray) : Nat := (xs.map (fun x => x.size + n)).sum
theorem Pr.totalG_app (n : Nat) (a b : List ByteArray) : Pr.totalG n (a ++ b) = Pr.totalG n a + Pr.totalG n b := by simp [Pr.totalG]
theorem Pr.totalG_take (n : Nat) (xs : List ByteArray) (j : Nat) : Pr.totalG n (xs.take j) ≤ Pr.totalG n xs := by
  have h := Pr.totalG_app n (xs.take j) (xs.drop j)
  rw [List.take_append_drop] at h
  omega
theorem Pr.catL_len (gap : ByteArray) : ∀ xs : List ByteArray, (Pr.catL gap xs).length = Pr.totalG gap.size xs
  | [] => by simp [Pr.catL, Pr.totalG]
  | x :: r => by
    have h := Pr.catL_len gap r
    have e1 : x.data.toList.length = x.size := by simp
    have e2 : gap.data.toList.length = gap.size := by simp
    simp only [Pr.catL, Pr.totalG, List.flatMap_cons, List.length_append, List.map_cons, List.sum_cons] at h ⊢
    omega
/-- statement at a node gives this text with this gap. -/
def Pr.StatIs (g : Nat) (ns : List Mill.Nd) (K : List (List Nat)) (k : Nat) (gap x : ByteArray) : Prop :=
  ∀ w : World, Pr.PenAt w g ns K → Calls Tryz.prog 44 #[.pointer (some ⟨g, 0, none⟩), .int .i64 (k : Int), .string gap] w fun e w' => e = .returned (.string x) ∧ Below w.heap.size w w'
def Pr.BlockIs (g : Nat) (ns : List Mill.Nd) (K : List (List Nat)) (k : Nat) (gap x : ByteArray) : Prop :=
  ∀ w : World, Pr.PenAt w g ns K → Calls Tryz.prog 23 #[.pointer (some ⟨g, 0, none⟩), .int .i64 (k : Int), .string gap] w fun e w' => e = .returned (.string x) ∧ Below w.heap.size w w'
set_option maxRecDepth 100000 in
set_option maxHeartbeats 4000000 in
theorem Pr.block_any (g : Nat) (ns : List Mill.Nd) (K : List (List Nat)) (k : Nat) (hlt : k < ns.length) (hrows : K.length = ns.length) (_hlen0 : ns.length ≤ 12001) (gap : ByteArray) (hgap : gap.size ≤ 400) (xs : List ByteArray) (hlen : xs.length = (K.getD k []).length) (hl : (K.getD k []).length ≤ 12001) (ht : Pr.totalG gap.size xs ≤ 100000000)
    (HE : Hid (∀ j (h : j < (K.getD k []).length) (h' : j < xs.length), Pr.StatIs g ns K (K.getD k [])[j] gap xs[j])) (w : World) (HP : Hid (Pr.PenAt w g ns K)) :
    Calls Tryz.prog 23 #[.pointer (some ⟨g, 0, none⟩), .int .i64 (k : Int), .string gap] w fun e w' => e = .returned (.string (Pr.catB gap xs)) ∧ Below w.heap.size w w' := by
  obtain ⟨i0, hi, hz0, hz1, hz2⟩ := info_parts Tryz.infoByte
  obtain ⟨gn, cn, gk, ck, v, ⟨hg, hgn, hgk⟩, p0, p1, _, hv, hrow0⟩ := Pr.pen_node HP.out k hlt hrows
  have p1a : ∀ ob : Obj, (w.alloc ob).cell? ⟨g, 1, none⟩ = _ := fun ob => (((Below.refl _ w).alloc (Nat.le_refl _) ob).cell (p := ⟨g, 1, none⟩) hg).trans p1
  have hva : ∀ ob : Obj, (w.alloc ob).cell? ⟨gk, k, none⟩ = _ := fun ob => (((Below.refl _ w).alloc (Nat.le_refl _) ob).cell (p := ⟨gk, k, none⟩) hgk).trans hv
  generalize K.getD k [] = ks at *
  obtain ⟨ua, uc, rfl, hj0⟩ := hrow0
  have HJ : Hid (∀ j (h : j < ks.length), ∃ gu, ua = some ⟨gu, 0, none⟩ ∧ gu < w.heap.size ∧ w.cell? ⟨gu, j, none⟩ = some (.int .i64 (ks[j] : Int))) := hj0
  clear hj0
  obtain ⟨n, HN⟩ : ∃ n, Hid (ks.length = n) := ⟨_, (rfl : ks.length = _)⟩
  rw [HN.out] at hl hlen hv
  simp only [HN.out] at hva
  go_enter Tryz.func23, Tryz.ntmps23
  go_wp2
  have he2 : gap.data.toList.length = gap.size := by simp
  go_loopw [7, 9] (fun o i wr => ∃ (j : Nat) (acc : List UInt8), i = .int .i64 (j : Int) ∧ j ≤ n ∧ acc = Pr.catL gap (xs.take j) ∧ wr.ownsRow w.heap.size 5 1 o acc.length (Lib.byteCells acc) ∧ Below w.heap.size w wr) (fun _ i _ => n - (intOf i).toNat)
  case atStart =>
    refine ⟨0, [], rfl, by omega, by simp [Pr.catL], ?_, (Below.refl _ w).alloc (Nat.le_refl _) _⟩
    exact World.ownsRow_made (base := w.heap.size) (e := 5) (size := 1) w #[] 0 (Nat.le_refl _) (by decide) rfl
  case round =>
    obtain ⟨j, acc, rfl, hj, hacc, hown, hbw⟩ := hrel
    have hsz := hbw.size
    have hlen2 : acc.length ≤ 100000000 := by
      have h1 := Pr.catL_len gap (xs.take j)
      have h2 := Pr.totalG_take gap.size xs j
      rw [hacc]; omega
    by_cases hjn : j < n
    · have hjk : j < ks.length := by rw [HN.out]; exact hjn
      have hjx : j < xs.length := by omega
      obtain ⟨gu, rfl, hgu, hcell⟩ := HJ.out j hjk
      have hE := HE.out j hjk hjx
      have e2 : xs.take j ++ [xs[j]] = xs.take (j + 1) := by rw [List.take_add_one, List.getElem?_eq_getElem hjx]; rfl
      have hxs : xs[j].size ≤ 100000000 := by
        have h1 := Pr.totalG_take gap.size xs (j + 1)
        have e : Pr.totalG gap.size (xs.take (j + 1)) = Pr.totalG gap.size (xs.take j) + (xs[j].size + gap.size) := by
          rw [← e2, Pr.totalG_app]; simp [Pr.totalG]
        omega
      have HU : Hid ((acc ++ gap.data.toList) ++ xs[j].data.toList = Pr.catL gap (xs.take (j + 1))) := by
        rw [Hid, ← e2, hacc, Pr.catL, Pr.catL, List.flatMap_append]
        simp only [List.flatMap_cons, List.flatMap_nil, List.append_nil, List.append_assoc]
      generalize xs[j] = x at *
      generalize ks[j] = c at *
      have HX : Hid (Pr.StatIs g ns K c gap x) := hE
      clear hE e2 hacc
      have c1 : wr.cell? ⟨gu, j, none⟩ = some (.int .i64 (c : Int)) := (hbw.cell (p := ⟨gu, j, none⟩) hgu).trans hcell
      have hm1 : acc.length + gap.size ≤ maxLen := by unfold maxLen; omega
      have hm2 : acc.length + gap.size ≤ 140737488355328 := by omega
      have hm3 : (acc ++ gap.data.toList).length + x.size ≤ maxLen := by rw [List.length_append, he2]; unfold maxLen; omega
      have hm4 : (acc ++ gap.data.toList).length + x.size ≤ 140737488355328 := by rw [List.length_append, he2]; omega
      go_wp2_with (first
        | (go_at_call 44; refine (HX.out _ (HP.out.below hbc)).mono ?_; rintro e w2 ⟨rfl, hb2⟩
           have own2 := Val.own_next ownc hb2
           have hbw2 := hbc.trans (hb2.mono hbc.size))
        | (at_builtin; refine Lib.wpList_append_own_string _ rfl _ _ 41 9 rfl w.heap.size 5 i0 Tryz.underlying41 Tryz.underlying9 hi hz0 hz1 hz2 _ _ _ rfl own2 x rfl hm3 hm4 hbw2.size ?_; intro v' w3 hown' hgrow3 hnil3)
        | (at_builtin; refine Lib.wpList_append_own_string _ rfl _ _ 41 9 rfl w.heap.size 5 i0 Tryz.underlying41 Tryz.underlying9 hi hz0 hz1 hz2 _ _ _ rfl hown gap rfl hm1 hm2 hsz ?_; intro vc wc0 hownc hgrowc hnilc
           have hbc : Below w.heap.size w wc0 := Below.grown hbw hgrowc hsz (fun j hj => (hown.lt _ hj).1)
           have ownc : wc0.ownsRow w.heap.size 5 1 vc (acc ++ gap.data.toList).length (Lib.byteCells (acc ++ gap.data.toList)) := Pr.own_app acc gap hownc
           have cc : wc0.cell? ⟨gu, j, none⟩ = some (.int .i64 (c : Int)) := (hbc.cell (p := ⟨gu, j, none⟩) hgu).trans hcell))
      have hb3 : Below w.heap.size w w3 := Below.grown hbw2 hgrow3 hbw2.size (fun j hj => (own2.lt _ hj).1)
      have HO : Hid (w3.ownsRow w.heap.size 5 1 v' ((acc ++ gap.data.toList) ++ x.data.toList).length (Lib.byteCells ((acc ++ gap.data.toList) ++ x.data.toList))) := Pr.own_app _ x hown'
      clear hown' hgrow3
      go_wp2
      go_roundw
      case rel => exact ⟨j + 1, _, by go_num, by omega, HU.out, HO.out, hb3⟩
      case measure => simp [intOf]; omega
    · have HU : Hid (acc = Pr.catL gap xs) := by rw [Hid, hacc, List.take_of_length_le (by omega)]
      have hcv := Mill.conv_own (P := Tryz.prog) (src := 41) (dst := 9) Tryz.underlying41 Tryz.underlying5 Tryz.underlying9 hown
      clear hacc
      go_wp2
      go_ret
      exact ⟨by rw [Pr.catB, ← HU.out]; rfl, hbw⟩
end Go.Proofs.YtkaoeoeloihigaaGreatDoor

namespace Go.Proofs.YtkaoeoeloihigaaGreatDoor
open Go.RowKit

mutual
def Pr.s : Mill.Tr → ByteArray → ByteArray
  | .node d ks, gap => Pr.mkS d gap (ks.map (fun t => t.nd.kind)) (Pr.es ks) (Pr.ss ks gap) (Pr.bs ks (gap ++ ⟨#[32, 32]⟩))
def Pr.b : Mill.Tr → ByteArray → ByteArray
  | .node _ ks, gap => Pr.catB gap (Pr.ss ks gap)
def Pr.ss : List Mill.Tr → ByteArray → List ByteArray
  | [], _ => []
  | t :: r, gap => Pr.s t gap :: Pr.ss r gap
def Pr.bs : List Mill.Tr → ByteArray → List ByteArray
  | [], _ => []
  | t :: r, gap => Pr.b t gap :: Pr.bs r gap
end
theorem Pr.ss_map (gap : ByteArray) : ∀ l : List Mill.Tr, Pr.ss l gap = l.map (fun t => Pr.s t gap)
  | [] => by rw [Pr.ss]; rfl
  | t :: r => by rw [Pr.ss, Pr.ss_map gap r]; rfl
theorem Pr.bs_map (gap : ByteArray) : ∀ l : List Mill.Tr, Pr.bs l gap = l.map (fun t => Pr.b t gap)
  | [] => by rw [Pr.bs]; rfl
  | t :: r => by rw [Pr.bs, Pr.bs_map gap r]; rfl
theorem Pr.gap2 (gap : ByteArray) : (gap ++ ⟨#[32, 32]⟩).size = gap.size + 2 := by rw [ByteArray.size_append]; rfl
theorem Pr.mkS_size (d : Mill.Nd) (gap : ByteArray) (kd : List Int) (es ss bs : List ByteArray) (M : Nat) (h1 : (es.getD 0 ⟨#[]⟩).size + (bs.getD 1 ⟨#[]⟩).size + (bs.getD 2 ⟨#[]⟩).size ≤ M) (h2 : (es.getD 0 ⟨#[]⟩).size + (bs.getD 1 ⟨#[]⟩).size + (ss.getD 2 ⟨#[]⟩).size ≤ M) (h3 : Pr.total es ≤ M) :
    (Pr.mkS d gap kd es ss bs).size ≤ 3 * d.text.size + 2 * gap.size + 60 + M := by
  have h4 := Pr.listT_size es
  have l0 : (⟨#[10]⟩ : ByteArray).size = 1 := rfl
  have l1 : (⟨#[102, 97, 105, 108, 32]⟩ : ByteArray).size = 5 := rfl
  have l2 : (⟨#[105, 102, 32]⟩ : ByteArray).size = 3 := rfl
  have l3 : (⟨#[108, 101, 116, 32]⟩ : ByteArray).size = 4 := rfl
  have l4 : (⟨#[114, 101, 116, 117, 114, 110, 32]⟩ : ByteArray).size = 7 := rfl
  have l5 : (⟨#[114, 101, 116, 117, 114, 110, 59, 10]⟩ : ByteArray).size = 8 := rfl
  have l6 : (⟨#[115, 97, 121, 32]⟩ : ByteArray).size = 4 := rfl
  have l7 : (⟨#[119, 104, 105, 108, 101, 32]⟩ : ByteArray).size = 6 := rfl
  have l8 : (⟨#[119, 114, 105, 116, 101, 32]⟩ : ByteArray).size = 6 := rfl
  have l9 : (⟨#[125]⟩ : ByteArray).size = 1 := rfl
  have l10 : (⟨#[125, 10]⟩ : ByteArray).size = 2 := rfl
  have l11 : (⟨#[32, 101, 108, 115, 101, 32]⟩ : ByteArray).size = 6 := rfl
  have l12 : (⟨#[32, 101, 108, 115, 101, 32, 123, 10]⟩ : ByteArray).size = 8 := rfl
  have l13 : (⟨#[32, 123, 10]⟩ : ByteArray).size = 3 := rfl
  have l14 : (⟨#[32, 61, 32]⟩ : ByteArray).size = 3 := rfl
  have l15 : (⟨#[59, 10]⟩ : ByteArray).size = 2 := rfl
  have l16 : (⟨#[98, 114, 101, 97, 107, 59, 10]⟩ : ByteArray).size = 7 := rfl
  have l17 : (⟨#[99, 111, 110, 116, 105, 110, 117, 101, 59, 10]⟩ : ByteArray).size = 10 := rfl
  unfold Pr.mkS
  repeat' apply Pr.ite_size
  all_goals
    (try simp only [ByteArray.size_append])
    omega
theorem Pr.highs_cons (t : Mill.Tr) (r : List Mill.Tr) : Mill.Tr.highs (t :: r) = max (t.high + 1) (Mill.Tr.highs r) := by rw [Mill.Tr.highs]
mutual
set_option maxHeartbeats 4000000
theorem Pr.s_size : ∀ (t : Mill.Tr) (gap : ByteArray), gap.size + 2 * t.high ≤ 400 → (Pr.s t gap).size + gap.size + 2 ≤ Pr.w t
  | .node d ks, gap, h => by
    rw [Mill.Tr.high] at h
    have h1 := Pr.es_total ks
    have h2 := Pr.three_size ks gap (by omega)
    have h3 := Pr.mkS_size d gap (ks.map (fun t => t.nd.kind)) (Pr.es ks) (Pr.ss ks gap) (Pr.bs ks (gap ++ ⟨#[32, 32]⟩)) (Pr.ws ks) h2.1 h2.2 h1
    rw [Pr.s, Pr.w]
    omega
theorem Pr.b_size : ∀ (t : Mill.Tr) (gap : ByteArray), gap.size + 2 * t.high ≤ 402 → (Pr.b t gap).size + 2 ≤ Pr.w t
  | .node d ks, gap, h => by
    rw [Mill.Tr.high] at h
    have h1 := Pr.ss_size ks gap h
    have h2 := Pr.catL_len gap (Pr.ss ks gap)
    rw [Pr.b, Pr.w]
    have e : (Pr.catB gap (Pr.ss ks gap)).size = (Pr.catL gap (Pr.ss ks gap)).length := by simp [Pr.catB, ByteArray.size]
    omega
theorem Pr.ss_size : ∀ (l : List Mill.Tr) (gap : ByteArray), gap.size + 2 * Mill.Tr.highs l ≤ 402 → Pr.totalG gap.size (Pr.ss l gap) ≤ Pr.ws l
  | [], gap, _ => by rw [Pr.ss, Pr.ws]; simp [Pr.totalG]
  | t :: r, gap, h => by
    rw [Pr.highs_cons] at h
    have h1 := Pr.s_size t gap (by omega)
    have h2 := Pr.ss_size r gap (by omega)
    rw [Pr.ss, Pr.ws]
    simp only [Pr.totalG, List.map_cons, List.sum_cons] at h2 ⊢
    omega
theorem Pr.three_size : ∀ (l : List Mill.Tr) (gap : ByteArray), gap.size + 2 * Mill.Tr.highs l ≤ 400 →
    ((Pr.es l).getD 0 ⟨#[]⟩).size + ((Pr.bs l (gap ++ ⟨#[32, 32]⟩)).getD 1 ⟨#[]⟩).size + ((Pr.bs l (gap ++ ⟨#[32, 32]⟩)).getD 2 ⟨#[]⟩).size ≤ Pr.ws l ∧ ((Pr.es l).getD 0 ⟨#[]⟩).size + ((Pr.bs l (gap ++ ⟨#[32, 32]⟩)).getD 1 ⟨#[]⟩).size + ((Pr.ss l gap).getD 2 ⟨#[]⟩).size ≤ Pr.ws l
  | [], gap, _ => by
    have e : (⟨#[]⟩ : ByteArray).size = 0 := rfl
    rw [Pr.es, Pr.bs, Pr.ss, Pr.ws]; simp [e]
  | [a], gap, h => by
    have e : (⟨#[]⟩ : ByteArray).size = 0 := rfl
    have h1 := Pr.e_size a
    simp only [Pr.es, Pr.bs, Pr.ss, Pr.ws, List.getD_cons_zero, List.getD_cons_succ, List.getD_nil, e]
    omega
  | [a, b], gap, h => by
    have e : (⟨#[]⟩ : ByteArray).size = 0 := rfl
    rw [Pr.highs_cons, Pr.highs_cons] at h
    have h1 := Pr.e_size a
    have h2 := Pr.b_size b (gap ++ ⟨#[32, 32]⟩) (by rw [Pr.gap2]; omega)
    simp only [Pr.es, Pr.bs, Pr.ss, Pr.ws, List.getD_cons_zero, List.getD_cons_succ, List.getD_nil, e]
    omega
  | a :: b :: c :: r, gap, h => by
    rw [Pr.highs_cons, Pr.highs_cons, Pr.highs_cons] at h
    have h1 := Pr.e_size a
    have h2 := Pr.b_size b (gap ++ ⟨#[32, 32]⟩) (by rw [Pr.gap2]; omega)
    have h3 := Pr.b_size c (gap ++ ⟨#[32, 32]⟩) (by rw [Pr.gap2]; omega)
    have h4 := Pr.s_size c gap (by omega)
    simp only [Pr.es, Pr.bs, Pr.ss, Pr.ws, List.getD_cons_zero, List.getD_cons_succ]
    omega
end
end Go.Proofs.YtkaoeoeloihigaaGreatDoor

namespace Go.Proofs.YtkaoeoeloihigaaGreatDoor
open Go.RowKit

theorem Pr.len3 {l : List Nat} (h : l.length = 3) : ∃ a b c, l = [a, b, c] := by
  match l, h with
  | [a, b, c], _ => exact ⟨a, b, c, rfl⟩
theorem Pr.oneE_of {ks : List Int} (h : Mill.oneE ks = true) : ks.all Mill.isE = true ∧ ks.length = 1 := by
  match ks, h with
  | [a], hl => exact ⟨by simpa [Mill.oneE] using hl, rfl⟩
theorem Pr.doK_of {ks : List Int} (h : Mill.doK ks = true) : ks.all Mill.isE = true ∧ ks.length = 1 := by
  match ks, h with
  | [a], hl =>
    have : a = 7 := by simpa [Mill.doK] using hl
    subst this
    exact ⟨by decide, rfl⟩
theorem Pr.whileK_of {ks : List Int} (h : Mill.whileK ks = true) : ∃ a, ks = [a, 21] ∧ Mill.isE a = true := by
  match ks, h with
  | [a, b], hl =>
    have : Mill.isE a = true ∧ b = 21 := by simpa [Mill.whileK] using hl
    obtain ⟨h1, rfl⟩ := this
    exact ⟨a, rfl, h1⟩
theorem Pr.ifK_of {ks : List Int} (h : Mill.ifK ks = true) : ∃ a, Mill.isE a = true ∧ (ks = [a, 21] ∨ ks = [a, 21, 21] ∨ ks = [a, 21, 12]) := by
  match ks, h with
  | [a, b], hl =>
    have : Mill.isE a = true ∧ b = 21 := by simpa [Mill.ifK] using hl
    obtain ⟨h1, rfl⟩ := this
    exact ⟨a, h1, .inl rfl⟩
  | [a, b, c], hl =>
    have : (Mill.isE a = true ∧ b = 21) ∧ (c = 21 ∨ c = 12) := by simpa [Mill.ifK] using hl
    obtain ⟨⟨h1, rfl⟩, h3⟩ := this
    rcases h3 with rfl | rfl
    · exact ⟨a, h1, .inr (.inl rfl)⟩
    · exact ⟨a, h1, .inr (.inr rfl)⟩
/-- statement and block of every node that has such a kind. -/
theorem Pr.stat_any (g : Nat) (ns : List Mill.Nd) (K : List (List Nat)) (ts : List Mill.Tr) (hL : Mill.Linked ns K ts) (hlen : ns.length ≤ 12001) (htext : ∀ d ∈ ns, d.text.size ≤ 1048576) (hrowL : ∀ k, (K.getD k []).length ≤ 12001) :
    ∀ k (hk : k < ns.length), Pr.w (Mill.trAt ts k) ≤ 50000000 →
      (Mill.isS ns[k].kind = true → ∀ gap : ByteArray, gap.size + 2 * (Mill.trAt ts k).high ≤ 400 → Pr.StatIs g ns K k gap (Pr.s (Mill.trAt ts k) gap)) ∧
      (ns[k].kind = 21 → ∀ gap : ByteArray, gap.size + 2 * (Mill.trAt ts k).high ≤ 402 → gap.size ≤ 400 → Pr.BlockIs g ns K k gap (Pr.b (Mill.trAt ts k) gap)) := by
  intro k
  induction k using Nat.strongRecOn with
  | _ k ih =>
    intro hk hw
    obtain ⟨q1, q2, q3, q4⟩ := hL.2.2 k hk
    have hkind : ∀ c ∈ K.getD k [], c < ns.length := fun c hc => Nat.lt_trans (q1 c hc) hk
    have htx := htext _ (List.getElem_mem hk)
    rw [q2, Pr.w] at hw
    have hwc : ∀ c (hc : c ∈ K.getD k []), Pr.w (Mill.trAt ts c) ≤ 50000000 := fun c hc => by
      have := Pr.ws_mem (List.mem_map.2 ⟨c, hc, rfl⟩ : Mill.trAt ts c ∈ (K.getD k []).map (Mill.trAt ts))
      omega
    have hhc : ∀ c (hc : c ∈ K.getD k []), (Mill.trAt ts c).high + 1 ≤ Mill.Tr.highs ((K.getD k []).map (Mill.trAt ts)) := fun c hc => Mill.highs_mem _ _ (List.mem_map.2 ⟨c, hc, rfl⟩)
    have hE : ∀ c (hc : c ∈ K.getD k []), Mill.isE (Mill.trAt ts c).nd.kind = true → Pr.ExprIs g ns K c (Pr.e (Mill.trAt ts c)) := fun c hc he =>
      Pr.expr_any g ns K ts hL hlen htext c (hkind c hc) (by rw [← Pr.kind_at hL c (hkind c hc)]; exact he) (hwc c hc)
    have hEs : ∀ c (hc : c ∈ K.getD k []), (Pr.e (Mill.trAt ts c)).size ≤ 100000000 := fun c hc => by
      have := Pr.e_size (Mill.trAt ts c)
      have := hwc c hc
      omega
    rw [q2, Mill.Tr.high]
    constructor
    · intro hS gap hgap
      have hB : ∀ c (hc : c ∈ K.getD k []), (Mill.trAt ts c).nd.kind = 21 → Hid (∀ w1 : World, Pr.PenAt w1 g ns K → Calls Tryz.prog 23 #[.pointer (some ⟨g, 0, none⟩), .int .i64 (c : Int), .string (gap ++ ⟨#[32, 32]⟩)] w1 fun e w' => e = .returned (.string (Pr.b (Mill.trAt ts c) (gap ++ ⟨#[32, 32]⟩))) ∧ Below w1.heap.size w1 w') := fun c hc h21 => by
        have h1 := hhc c hc
        exact (ih c (q1 c hc) (hkind c hc) (hwc c hc)).2 (by rw [← Pr.kind_at hL c (hkind c hc)]; exact h21) _ (by rw [Pr.gap2]; omega) (by rw [Pr.gap2]; omega)
      have hBs : ∀ c (hc : c ∈ K.getD k []), (Pr.b (Mill.trAt ts c) (gap ++ ⟨#[32, 32]⟩)).size ≤ 100000000 := fun c hc => by
        have h1 := hhc c hc
        have := Pr.b_size (Mill.trAt ts c) (gap ++ ⟨#[32, 32]⟩) (by rw [Pr.gap2]; omega)
        have := hwc c hc
        omega
      have hg4 : gap.size ≤ 400 := by omega
      intro w hP
      rw [Pr.s]
      have hxs : Pr.es ((K.getD k []).map (Mill.trAt ts)) = (K.getD k []).map (fun c => Pr.e (Mill.trAt ts c)) := by rw [Pr.es_map, List.map_map]; rfl
      have hkd : ((K.getD k []).map (Mill.trAt ts)).map (fun t => t.nd.kind) = (K.getD k []).map (fun x => (Mill.trAt ts x).nd.kind) := by rw [List.map_map]; rfl
      rw [hkd]
      have h11 : ns[k].kind = 10 ∨ ns[k].kind = 11 ∨ ns[k].kind = 12 ∨ ns[k].kind = 13 ∨ ns[k].kind = 14 ∨ ns[k].kind = 15 ∨ ns[k].kind = 16 ∨ ns[k].kind = 17 ∨ ns[k].kind = 18 ∨ ns[k].kind = 19 ∨ ns[k].kind = 20 := by simp [Mill.isS] at hS; omega
      rcases h11 with h | h | h | h | h | h | h | h | h | h | h
      · have hf := Pr.oneE_of (ks := (K.getD k []).map (fun x => (Mill.trAt ts x).nd.kind)) (by rw [h] at q3; simpa [Mill.fits] using q3)
        rw [List.length_map] at hf
        obtain ⟨c, hc⟩ := Pr.len1 hf.2
        have hcm : c ∈ K.getD k [] := by rw [hc]; simp
        have hcE : Mill.isE (Mill.trAt ts c).nd.kind = true := List.all_eq_true.1 hf.1 _ (List.mem_map.2 ⟨c, hcm, rfl⟩)
        have he : (Pr.es ((K.getD k []).map (Mill.trAt ts))).getD 0 ⟨#[]⟩ = Pr.e (Mill.trAt ts c) := by rw [hxs, hc]; rfl
        rw [Pr.mkS, if_pos h, he]
        exact Pr.st_let g ns K k hk hlen hL.2.1 _ rfl h htx gap hg4 c _ (hEs c hcm) (hE c hcm hcE) hc w hP
      · have hf := Pr.oneE_of (ks := (K.getD k []).map (fun x => (Mill.trAt ts x).nd.kind)) (by rw [h] at q3; simpa [Mill.fits] using q3)
        rw [List.length_map] at hf
        obtain ⟨c, hc⟩ := Pr.len1 hf.2
        have hcm : c ∈ K.getD k [] := by rw [hc]; simp
        have hcE : Mill.isE (Mill.trAt ts c).nd.kind = true := List.all_eq_true.1 hf.1 _ (List.mem_map.2 ⟨c, hcm, rfl⟩)
        have he : (Pr.es ((K.getD k []).map (Mill.trAt ts))).getD 0 ⟨#[]⟩ = Pr.e (Mill.trAt ts c) := by rw [hxs, hc]; rfl
        rw [Pr.mkS, if_neg (by omega), if_pos h, he]
        exact Pr.st_set g ns K k hk hlen hL.2.1 _ rfl h htx gap hg4 c _ (hEs c hcm) (hE c hcm hcE) hc w hP
      · have hf := Pr.ifK_of (ks := (K.getD k []).map (fun x => (Mill.trAt ts x).nd.kind)) (by rw [h] at q3; simpa [Mill.fits] using q3)
        obtain ⟨ka, hka, hsh⟩ := hf
        have len : (K.getD k []).length = ((K.getD k []).map (fun x => (Mill.trAt ts x).nd.kind)).length := by simp
        rcases hsh with hsh | hsh | hsh
        · rw [hsh] at len
          obtain ⟨c, b, hc⟩ := Pr.len2 len
          have hcm : c ∈ K.getD k [] := by rw [hc]; simp
          have hbm : b ∈ K.getD k [] := by rw [hc]; simp
          rw [hc] at hsh
          simp only [List.map_cons, List.map_nil, List.cons.injEq, and_true] at hsh
          have he : (Pr.es ((K.getD k []).map (Mill.trAt ts))).getD 0 ⟨#[]⟩ = Pr.e (Mill.trAt ts c) := by rw [hxs, hc]; rfl
          have hb1 : (Pr.bs ((K.getD k []).map (Mill.trAt ts)) (gap ++ ⟨#[32, 32]⟩)).getD 1 ⟨#[]⟩ = Pr.b (Mill.trAt ts b) (gap ++ ⟨#[32, 32]⟩) := by rw [Pr.bs_map, hc]; rfl
          rw [Pr.mkS, if_neg (by omega), if_neg (by omega), if_pos h, if_pos (by rw [hc]; simp), he, hb1]
          exact Pr.st_if2 g ns K k hk hlen hL.2.1 _ rfl h htx gap hg4 c _ (hEs c hcm) (hE c hcm (by rw [hsh.1]; exact hka)) b _ (hBs b hbm) (hB b hbm hsh.2) hc w hP
        · rw [hsh] at len
          obtain ⟨c, b, f, hc⟩ := Pr.len3 len
          have hcm : c ∈ K.getD k [] := by rw [hc]; simp
          have hbm : b ∈ K.getD k [] := by rw [hc]; simp
          have hfm : f ∈ K.getD k [] := by rw [hc]; simp
          rw [hc] at hsh
          simp only [List.map_cons, List.map_nil, List.cons.injEq, and_true] at hsh
          have he : (Pr.es ((K.getD k []).map (Mill.trAt ts))).getD 0 ⟨#[]⟩ = Pr.e (Mill.trAt ts c) := by rw [hxs, hc]; rfl
          have hb1 : (Pr.bs ((K.getD k []).map (Mill.trAt ts)) (gap ++ ⟨#[32, 32]⟩)).getD 1 ⟨#[]⟩ = Pr.b (Mill.trAt ts b) (gap ++ ⟨#[32, 32]⟩) := by rw [Pr.bs_map, hc]; rfl
          have hb2 : (Pr.bs ((K.getD k []).map (Mill.trAt ts)) (gap ++ ⟨#[32, 32]⟩)).getD 2 ⟨#[]⟩ = Pr.b (Mill.trAt ts f) (gap ++ ⟨#[32, 32]⟩) := by rw [Pr.bs_map, hc]; rfl
          have hk2 : ((K.getD k []).map (fun x => (Mill.trAt ts x).nd.kind)).getD 2 0 = 21 := by rw [hc]; exact hsh.2.2
          rw [Pr.mkS, if_neg (by omega), if_neg (by omega), if_pos h, if_neg (by rw [hc]; simp), if_neg (by rw [hk2]; decide), he, hb1, hb2]
          exact Pr.st_ifelse g ns K k hk hlen hL.2.1 _ rfl h htx gap hg4 c _ (hEs c hcm) (hE c hcm (by rw [hsh.1]; exact hka)) b _ (hBs b hbm) (hB b hbm hsh.2.1) f (hkind f hfm) _ (hBs f hfm) (hB f hfm hsh.2.2) hc (by rw [← Pr.kind_at hL f (hkind f hfm), hsh.2.2]; decide) w hP
        · rw [hsh] at len
          obtain ⟨c, b, f, hc⟩ := Pr.len3 len
          have hcm : c ∈ K.getD k [] := by rw [hc]; simp
          have hbm : b ∈ K.getD k [] := by rw [hc]; simp
          have hfm : f ∈ K.getD k [] := by rw [hc]; simp
          rw [hc] at hsh
          simp only [List.map_cons, List.map_nil, List.cons.injEq, and_true] at hsh
          have he : (Pr.es ((K.getD k []).map (Mill.trAt ts))).getD 0 ⟨#[]⟩ = Pr.e (Mill.trAt ts c) := by rw [hxs, hc]; rfl
          have hb1 : (Pr.bs ((K.getD k []).map (Mill.trAt ts)) (gap ++ ⟨#[32, 32]⟩)).getD 1 ⟨#[]⟩ = Pr.b (Mill.trAt ts b) (gap ++ ⟨#[32, 32]⟩) := by rw [Pr.bs_map, hc]; rfl
          have hs2 : (Pr.ss ((K.getD k []).map (Mill.trAt ts)) gap).getD 2 ⟨#[]⟩ = Pr.s (Mill.trAt ts f) gap := by rw [Pr.ss_map, hc]; rfl
          have hk2 : ((K.getD k []).map (fun x => (Mill.trAt ts x).nd.kind)).getD 2 0 = 12 := by rw [hc]; exact hsh.2.2
          have hk12 : (ns[f]'(hkind f hfm)).kind = 12 := by rw [← Pr.kind_at hL f (hkind f hfm)]; exact hsh.2.2
          have h1 := hhc f hfm
          have hz : (Pr.s (Mill.trAt ts f) gap).size ≤ 100000000 := by
            have := Pr.s_size (Mill.trAt ts f) gap (by omega)
            have := hwc f hfm
            omega
          rw [Pr.mkS, if_neg (by omega), if_neg (by omega), if_pos h, if_neg (by rw [hc]; simp), if_pos hk2, he, hb1, hs2]
          exact Pr.st_ifif g ns K k hk hlen hL.2.1 _ rfl h htx gap hg4 c _ (hEs c hcm) (hE c hcm (by rw [hsh.1]; exact hka)) b _ (hBs b hbm) (hB b hbm hsh.2.1) f _ (hkind f hfm) hz ((ih f (q1 f hfm) (hkind f hfm) (hwc f hfm)).1 (by rw [hk12]; decide) gap (by omega)) hc hk12 w hP
      · have hf := Pr.whileK_of (ks := (K.getD k []).map (fun x => (Mill.trAt ts x).nd.kind)) (by rw [h] at q3; simpa [Mill.fits] using q3)
        obtain ⟨ka, hsh, hka⟩ := hf
        have len : (K.getD k []).length = ((K.getD k []).map (fun x => (Mill.trAt ts x).nd.kind)).length := by simp
        rw [hsh] at len
        obtain ⟨c, b, hc⟩ := Pr.len2 len
        have hcm : c ∈ K.getD k [] := by rw [hc]; simp
        have hbm : b ∈ K.getD k [] := by rw [hc]; simp
        rw [hc] at hsh
        simp only [List.map_cons, List.map_nil, List.cons.injEq, and_true] at hsh
        have he : (Pr.es ((K.getD k []).map (Mill.trAt ts))).getD 0 ⟨#[]⟩ = Pr.e (Mill.trAt ts c) := by rw [hxs, hc]; rfl
        have hb1 : (Pr.bs ((K.getD k []).map (Mill.trAt ts)) (gap ++ ⟨#[32, 32]⟩)).getD 1 ⟨#[]⟩ = Pr.b (Mill.trAt ts b) (gap ++ ⟨#[32, 32]⟩) := by rw [Pr.bs_map, hc]; rfl
        rw [Pr.mkS, if_neg (by omega), if_neg (by omega), if_neg (by omega), if_pos h, he, hb1]
        exact Pr.st_while g ns K k hk hlen hL.2.1 _ rfl h htx gap hg4 c _ (hEs c hcm) (hE c hcm (by rw [hsh.1]; exact hka)) b _ (hBs b hbm) (hB b hbm hsh.2) hc w hP
      · rw [Pr.mkS, if_neg (by omega), if_neg (by omega), if_neg (by omega), if_neg (by omega), if_pos h]
        exact Pr.st_break g ns K k hk hlen hL.2.1 _ rfl h htx gap hg4 w hP
      · rw [Pr.mkS, if_neg (by omega), if_neg (by omega), if_neg (by omega), if_neg (by omega), if_neg (by omega), if_pos h]
        exact Pr.st_continue g ns K k hk hlen hL.2.1 _ rfl h htx gap hg4 w hP
      · have hf : ((K.getD k []).map (fun x => (Mill.trAt ts x).nd.kind)).length ≤ 1 ∧ ((K.getD k []).map (fun x => (Mill.trAt ts x).nd.kind)).all Mill.isE = true := by
          rw [h] at q3
          have : decide (((K.getD k []).map (fun x => (Mill.trAt ts x).nd.kind)).length ≤ 1) && ((K.getD k []).map (fun x => (Mill.trAt ts x).nd.kind)).all Mill.isE := by simpa [Mill.fits] using q3
          simpa only [Bool.and_eq_true, decide_eq_true_eq] using this
        by_cases h0 : (K.getD k []).length = 0
        · have hc : K.getD k [] = [] := List.eq_nil_of_length_eq_zero h0
          rw [Pr.mkS, if_neg (by omega), if_neg (by omega), if_neg (by omega), if_neg (by omega), if_neg (by omega), if_neg (by omega), if_pos h, if_pos (by rw [hc]; rfl)]
          exact Pr.st_ret0 g ns K k hk hlen hL.2.1 _ rfl h htx gap hg4 hc w hP
        · have hf1 := hf.1
          rw [List.length_map] at hf1
          obtain ⟨c, hc⟩ := Pr.len1 (show (K.getD k []).length = 1 by omega)
          have hcm : c ∈ K.getD k [] := by rw [hc]; simp
          have hcE : Mill.isE (Mill.trAt ts c).nd.kind = true := List.all_eq_true.1 hf.2 _ (List.mem_map.2 ⟨c, hcm, rfl⟩)
          have he : (Pr.es ((K.getD k []).map (Mill.trAt ts))).getD 0 ⟨#[]⟩ = Pr.e (Mill.trAt ts c) := by rw [hxs, hc]; rfl
          rw [Pr.mkS, if_neg (by omega), if_neg (by omega), if_neg (by omega), if_neg (by omega), if_neg (by omega), if_neg (by omega), if_pos h, if_neg (by rw [List.length_map]; exact h0), he]
          exact Pr.st_ret1 g ns K k hk hlen hL.2.1 _ rfl h htx gap hg4 c _ (hEs c hcm) (hE c hcm hcE) hc w hP
      · have hf := Pr.oneE_of (ks := (K.getD k []).map (fun x => (Mill.trAt ts x).nd.kind)) (by rw [h] at q3; simpa [Mill.fits] using q3)
        rw [List.length_map] at hf
        obtain ⟨c, hc⟩ := Pr.len1 hf.2
        have hcm : c ∈ K.getD k [] := by rw [hc]; simp
        have hcE : Mill.isE (Mill.trAt ts c).nd.kind = true := List.all_eq_true.1 hf.1 _ (List.mem_map.2 ⟨c, hcm, rfl⟩)
        have he : (Pr.es ((K.getD k []).map (Mill.trAt ts))).getD 0 ⟨#[]⟩ = Pr.e (Mill.trAt ts c) := by rw [hxs, hc]; rfl
        rw [Pr.mkS, if_neg (by omega), if_neg (by omega), if_neg (by omega), if_neg (by omega), if_neg (by omega), if_neg (by omega), if_neg (by omega), if_pos h, he]
        exact Pr.st_fail g ns K k hk hlen hL.2.1 _ rfl h htx gap hg4 c _ (hEs c hcm) (hE c hcm hcE) hc w hP
      · have hf : ((K.getD k []).map (fun x => (Mill.trAt ts x).nd.kind)).length = 2 ∧ ((K.getD k []).map (fun x => (Mill.trAt ts x).nd.kind)).all Mill.isE = true := by
          rw [h] at q3
          have : decide (((K.getD k []).map (fun x => (Mill.trAt ts x).nd.kind)).length = 2) && ((K.getD k []).map (fun x => (Mill.trAt ts x).nd.kind)).all Mill.isE := by simpa [Mill.fits] using q3
          simpa only [Bool.and_eq_true, decide_eq_true_eq] using this
        have htot := Pr.es_total ((K.getD k []).map (Mill.trAt ts))
        rw [Pr.mkS, if_neg (by omega), if_neg (by omega), if_neg (by omega), if_neg (by omega), if_neg (by omega), if_neg (by omega), if_neg (by omega), if_neg (by omega), if_pos h]
        rw [hxs] at htot ⊢
        exact Pr.st_write g ns K k hk hlen hL.2.1 _ rfl h htx gap hg4 _ (by simp) (hrowL k) (by omega) (fun j hj hj' => by simp only [List.getElem_map]; exact hE _ (List.getElem_mem hj) (List.all_eq_true.1 hf.2 _ (List.mem_map.2 ⟨_, List.getElem_mem hj, rfl⟩))) w hP
      · have hf := Pr.oneE_of (ks := (K.getD k []).map (fun x => (Mill.trAt ts x).nd.kind)) (by rw [h] at q3; simpa [Mill.fits] using q3)
        rw [List.length_map] at hf
        obtain ⟨c, hc⟩ := Pr.len1 hf.2
        have hcm : c ∈ K.getD k [] := by rw [hc]; simp
        have hcE : Mill.isE (Mill.trAt ts c).nd.kind = true := List.all_eq_true.1 hf.1 _ (List.mem_map.2 ⟨c, hcm, rfl⟩)
        have he : (Pr.es ((K.getD k []).map (Mill.trAt ts))).getD 0 ⟨#[]⟩ = Pr.e (Mill.trAt ts c) := by rw [hxs, hc]; rfl
        rw [Pr.mkS, if_neg (by omega), if_neg (by omega), if_neg (by omega), if_neg (by omega), if_neg (by omega), if_neg (by omega), if_neg (by omega), if_neg (by omega), if_neg (by omega), if_pos h, he]
        exact Pr.st_say g ns K k hk hlen hL.2.1 _ rfl h htx gap hg4 c _ (hEs c hcm) (hE c hcm hcE) hc w hP
      · have hf := Pr.doK_of (ks := (K.getD k []).map (fun x => (Mill.trAt ts x).nd.kind)) (by rw [h] at q3; simpa [Mill.fits] using q3)
        rw [List.length_map] at hf
        obtain ⟨c, hc⟩ := Pr.len1 hf.2
        have hcm : c ∈ K.getD k [] := by rw [hc]; simp
        have hcE : Mill.isE (Mill.trAt ts c).nd.kind = true := List.all_eq_true.1 hf.1 _ (List.mem_map.2 ⟨c, hcm, rfl⟩)
        have he : (Pr.es ((K.getD k []).map (Mill.trAt ts))).getD 0 ⟨#[]⟩ = Pr.e (Mill.trAt ts c) := by rw [hxs, hc]; rfl
        rw [Pr.mkS, if_neg (by omega), if_neg (by omega), if_neg (by omega), if_neg (by omega), if_neg (by omega), if_neg (by omega), if_neg (by omega), if_neg (by omega), if_neg (by omega), if_neg (by omega), he]
        exact Pr.st_do g ns K k hk hlen hL.2.1 _ rfl h htx gap hg4 c _ (hEs c hcm) (hE c hcm hcE) hc w hP
    · intro h21 gap hgap hg4
      have hf : ((K.getD k []).map (fun x => (Mill.trAt ts x).nd.kind)).all Mill.isS = true := by rw [h21] at q3; simpa [Mill.fits] using q3
      have hss : Pr.ss ((K.getD k []).map (Mill.trAt ts)) gap = (K.getD k []).map (fun c => Pr.s (Mill.trAt ts c) gap) := by rw [Pr.ss_map, List.map_map]; rfl
      have hsz := Pr.ss_size ((K.getD k []).map (Mill.trAt ts)) gap hgap
      intro w hP
      rw [Pr.b]
      rw [hss] at hsz ⊢
      exact Pr.block_any g ns K k hk hL.2.1 hlen gap hg4 _ (by simp) (hrowL k) (by omega) (fun j hj hj' => by
        simp only [List.getElem_map]
        have hm := List.getElem_mem hj
        have h1 := hhc _ hm
        exact (ih _ (q1 _ hm) (hkind _ hm) (hwc _ hm)).1 (by rw [← Pr.kind_at hL _ (hkind _ hm)]; exact List.all_eq_true.1 hf _ (List.mem_map.2 ⟨_, hm, rfl⟩)) gap (by omega)) w hP
end Go.Proofs.YtkaoeoeloihigaaGreatDoor

namespace Go.Proofs.YtkaoeoeloihigaaGreatDoor
open Go.RowKit

def Pr.noNd : Mill.Nd := ⟨0, 0, 0, 0, ⟨#[]⟩, 0⟩
def Pr.par1 (j : Nat) (out : ByteArray) (d : Mill.Nd) : ByteArray := (if j = 0 then out else out ++ ⟨#[44, 32]⟩) ++ d.text ++ ⟨#[32]⟩ ++ Mill.typeWord d.type
def Pr.parTo (out : ByteArray) (l : List Mill.Nd) : Nat → ByteArray
  | 0 => out
  | j + 1 => Pr.par1 j (Pr.parTo out l j) (l.getD j Pr.noNd)
def Pr.headT (d : Mill.Nd) (l : List Mill.Nd) : ByteArray :=
  if d.type = 0 then Pr.parTo (⟨#[102, 110, 32]⟩ ++ d.text ++ ⟨#[40]⟩) l l.length ++ ⟨#[41, 32]⟩
  else Pr.parTo (⟨#[102, 110, 32]⟩ ++ d.text ++ ⟨#[40]⟩) l l.length ++ ⟨#[41, 32]⟩ ++ ⟨#[45, 62, 32]⟩ ++ Mill.typeWord d.type ++ ⟨#[32]⟩
def Pr.mkF (d : Mill.Nd) (l : List Mill.Nd) (b : ByteArray) : ByteArray := Pr.headT d l ++ ⟨#[123, 10]⟩ ++ b ++ ⟨#[125, 10]⟩
theorem Pr.parTo_size (out : ByteArray) (l : List Mill.Nd) (ht : ∀ d ∈ l, d.text.size ≤ 1048576) : ∀ j, (Pr.parTo out l j).size ≤ out.size + j * 1048590
  | 0 => by simp [Pr.parTo]
  | j + 1 => by
    have h := Pr.parTo_size out l ht j
    have hd : (l.getD j Pr.noNd).text.size ≤ 1048576 := by
      by_cases hj : j < l.length
      · rw [List.getD_eq_getElem?_getD, List.getElem?_eq_getElem hj]; exact ht _ (List.getElem_mem hj)
      · rw [List.getD_eq_getElem?_getD, List.getElem?_eq_none (by omega)]; decide
    have h2 := Pr.typeWord_size (l.getD j Pr.noNd).type
    have e1 : (⟨#[44, 32]⟩ : ByteArray).size = 2 := rfl
    have e2 : (⟨#[32]⟩ : ByteArray).size = 1 := rfl
    rw [Pr.parTo, Pr.par1]
    split <;> simp only [ByteArray.size_append] <;> omega
theorem Pr.below_drew1 {B : Nat} {a w : World} (h : Below B a w) : Below B a w.drew := h.drew
theorem Pr.quiet {P : Program} {f : FuncId} {args : Array Value} {w : World} {n : Nat} {v : Value}
    (h : Calls P f args (w.drewN n) fun e w' => e = .returned v ∧ w.drewN n = w') : Calls P f args (w.drewN n) fun e w'' => e = .returned v ∧ ∃ m, w'' = w.drewN m :=
  h.mono fun _ _ ⟨he, hm⟩ => ⟨he, n, hm.symm⟩
set_option maxRecDepth 100000 in
set_option maxHeartbeats 4000000 in
theorem Pr.fn_any (g : Nat) (ns : List Mill.Nd) (K : List (List Nat)) (k : Nat) (hlt : k < ns.length) (_hlen : ns.length ≤ 12001) (hrows : K.length = ns.length) (d : Mill.Nd) (hnd : ns[k] = d) (htext : d.text.size ≤ 1048576) (ps : List Nat) (b : Nat) (y : ByteArray) (hys : y.size ≤ 100000000)
    (hrow : K.getD k [] = ps ++ [b]) (hps : ps.length ≤ 8) (l : List Mill.Nd) (hl : l.length = ps.length) (hlt0 : ∀ x ∈ l, x.text.size ≤ 1048576) (HL : Hid (∀ j (h : j < ps.length), ∃ h2 : ps[j] < ns.length, ns[ps[j]] = l.getD j Pr.noNd))
    (Hy : Hid (Pr.BlockIs g ns K b ⟨#[32, 32]⟩ y)) (w : World) (HP : Hid (Pr.PenAt w g ns K)) :
    Calls Tryz.prog 12 #[.pointer (some ⟨g, 0, none⟩), .int .i64 (k : Int)] w fun e w' => e = .returned (.string (Pr.mkF d l y)) ∧ Below w.heap.size w w' := by
  obtain ⟨gn, cn, gk, ck, v, ⟨hg, hgn, hgk⟩, p0, p1, ⟨n0, n1, n2, n3, n4, n5⟩, hv, hrow0⟩ := Pr.pen_node HP.out k hlt hrows
  have p1a : ∀ ob : Obj, (w.alloc ob).cell? ⟨g, 1, none⟩ = _ := fun ob => (((Below.refl _ w).alloc (Nat.le_refl _) ob).cell (p := ⟨g, 1, none⟩) hg).trans p1
  have hva : ∀ ob : Obj, (w.alloc ob).cell? ⟨gk, k, none⟩ = _ := fun ob => (((Below.refl _ w).alloc (Nat.le_refl _) ob).cell (p := ⟨gk, k, none⟩) hgk).trans hv
  rw [hnd] at n0 n1 n2 n3 n4 n5
  clear hnd
  rw [hrow] at hrow0
  obtain ⟨ua, uc, rfl, hj⟩ := hrow0
  have hbl : ps.length < (ps ++ [b]).length := by simp
  obtain ⟨gu, rfl, hgu, rb⟩ := hj ps.length hbl
  simp only [List.getElem_append_right (Nat.le_refl ps.length), Nat.sub_self, List.getElem_cons_zero] at rb
  have HJ : Hid (∀ j (h : j < ps.length), w.cell? ⟨gu, j, none⟩ = some (.int .i64 (ps[j] : Int))) := fun j h => by
    obtain ⟨gu', he, _, hc⟩ := hj j (by simp; omega)
    cases he
    rw [List.getElem_append_left h] at hc
    exact hc
  clear hj
  have hlen1 : (ps ++ [b]).length = ps.length + 1 := by simp
  rw [hlen1] at hv
  simp only [hlen1] at hva
  obtain ⟨m, HM⟩ : ∃ m, Hid (ps.length = m) := ⟨_, (rfl : ps.length = _)⟩
  rw [HM.out] at hv rb hps hl
  simp only [HM.out] at hva
  have hw1 : IntKind.i64.wrap ((m : Int) + 1) = (m : Int) + 1 := wrap_small _ (by omega) (by omega)
  have hw2 : IntKind.i64.wrap ((m : Int) + 1 - 1) = (m : Int) := by rw [wrap_small _ (by omega) (by omega)]; omega
  have ht1 : ¬ (9223372036854775807 < 3 + d.text.size) := by omega
  have ht2 : ¬ (9223372036854775807 < 3 + d.text.size + 1) := by omega
  have ht3 : ¬ (9223372036854775806 < 3 + d.text.size) := by omega
  go_enter Tryz.func12, Tryz.ntmps12
  go_wp2
  obtain ⟨S0, HS⟩ : ∃ S0 : ByteArray, Hid ((⟨#[102, 110, 32]⟩ ++ d.text ++ ⟨#[40]⟩ : ByteArray) = S0) := ⟨_, rfl⟩
  have hS0 : S0.size ≤ 1048580 := by
    rw [← HS.out, ByteArray.size_append, ByteArray.size_append]
    have e1 : (⟨#[102, 110, 32]⟩ : ByteArray).size = 3 := rfl
    have e2 : (⟨#[40]⟩ : ByteArray).size = 1 := rfl
    omega
  rw [HS.out]
  have hbc0 := Below.refl (w.heap.size + 1) (w.alloc (.cells #[.int .i64 d.kind, .int .i64 d.op, .int .i64 d.type, .int .i64 d.n, .string d.text, .int .i64 d.kids] 68))
  go_loopw [8, 9] (fun ov i wr => ∃ (j : Nat) (x : ByteArray), i = .int .i64 (j : Int) ∧ j ≤ m ∧ ov = .string x ∧ x = Pr.parTo S0 l j ∧ Below (w.heap.size + 1) (w.alloc (.cells #[.int .i64 d.kind, .int .i64 d.op, .int .i64 d.type, .int .i64 d.n, .string d.text, .int .i64 d.kids] 68)) wr) (fun _ i _ => m - (intOf i).toNat)
  case atStart => exact ⟨0, S0, rfl, by omega, rfl, rfl, by first | exact hbc0 | exact hbc0.drew | exact Pr.below_drewN _ hbc0⟩
  case round =>
    obtain ⟨j, x, rfl, hj, rfl, hx, hbc⟩ := hrel
    obtain ⟨c0, c1, c2, c3, c4, c5⟩ := Pr.six hbc
    have hxz : x.size ≤ 10000000 := by
      have := Pr.parTo_size S0 l hlt0 j
      rw [hx]
      have : j * 1048590 ≤ 8 * 1048590 := Nat.mul_le_mul_right _ (by omega)
      omega
    have pc := ((Pr.on1 hbc).cell (p := ⟨g, 0, none⟩) hg).trans p0
    by_cases hjm : j < m
    · have hjp : j < ps.length := by rw [HM.out]; exact hjm
      obtain ⟨hq, hnq⟩ := HL.out j hjp
      have rj := ((Pr.on1 hbc).cell (p := ⟨gu, j, none⟩) hgu).trans (HJ.out j hjp)
      obtain ⟨gn', cn', _, _, _, _, q0, _, ⟨m0, m1, m2, m3, m4, m5⟩, _⟩ := Pr.pen_node HP.out ps[j] hq hrows
      rw [p0] at q0
      cases q0
      rw [hnq] at m2 m4
      have hT : (l.getD j Pr.noNd).text.size ≤ 1048576 := by
        rw [List.getD_eq_getElem?_getD, List.getElem?_eq_getElem (by omega)]; exact hlt0 _ (List.getElem_mem (by omega))
      have HX : Hid (Pr.par1 j x (l.getD j Pr.noNd) = Pr.parTo S0 l (j + 1)) := by rw [Hid, hx, Pr.parTo]
      generalize l.getD j Pr.noNd = e at *
      generalize ps[j] = q at *
      have mc2 := ((Pr.on1 hbc).cell (p := ⟨gn, q * 6 + 2, none⟩) hgn).trans m2
      have mc4 := ((Pr.on1 hbc).cell (p := ⟨gn, q * 6 + 4, none⟩) hgn).trans m4
      have zt := Pr.typeWord_size e.type
      have hjm1 : (j : Int) < (m : Int) + 1 := by omega
      clear hx
      by_cases hj0 : j = 0
      · subst hj0
        have a1 : ¬ (9223372036854775807 < x.size + e.text.size) := by omega
        have a2 : ¬ (9223372036854775806 < x.size + e.text.size) := by omega
        have a3 : ¬ (9223372036854775807 < x.size + e.text.size + 1) := by omega
        have a4 : ¬ (9223372036854775807 < x.size + e.text.size + 1 + (Mill.typeWord e.type).size) := by omega
        go_wp2_with fail
        go_quiet (first | (go_at_call 22; refine Pr.quiet (l1TypeWord_any _ _)))
        go_wp2
        go_roundw
        case rel => exact ⟨0 + 1, _, by go_num, by omega, rfl, HX.out, Pr.below_drewN _ hbc⟩
        case measure => simp [intOf]; omega
      · have HX2 : Hid (x ++ ⟨#[44, 32]⟩ ++ e.text ++ ⟨#[32]⟩ ++ Mill.typeWord e.type = Pr.parTo S0 l (j + 1)) := by
          have := HX.out
          rw [Pr.par1, if_neg hj0] at this
          exact this
        have hj1 : 0 < j := by omega
        have b1 : ¬ (9223372036854775805 < x.size) := by omega
        have b2 : ¬ (9223372036854775807 < x.size + 2) := by omega
        have a1 : ¬ (9223372036854775807 < x.size + 2 + e.text.size) := by omega
        have a2 : ¬ (9223372036854775806 < x.size + 2 + e.text.size) := by omega
        have a3 : ¬ (9223372036854775807 < x.size + 2 + e.text.size + 1) := by omega
        have a4 : ¬ (9223372036854775807 < x.size + 2 + e.text.size + 1 + (Mill.typeWord e.type).size) := by omega
        go_wp2_with fail
        go_quiet (first | (go_at_call 22; refine Pr.quiet (l1TypeWord_any _ _)))
        go_wp2
        go_roundw
        case rel => exact ⟨j + 1, _, by go_num, by omega, rfl, HX2.out, Pr.below_drewN _ hbc⟩
        case measure => simp [intOf]; omega
    · have hjm2 : j = m := by omega
      subst hjm2
      have HXE : Hid (x = Pr.parTo S0 l l.length) := by rw [Hid, hx, hl]
      clear hx
      have rb2 := ((Pr.on1 hbc).cell (p := ⟨gu, j, none⟩) hgu).trans rb
      have zt := Pr.typeWord_size d.type
      have b1 : ¬ (9223372036854775805 < x.size) := by omega
      have b2 : ¬ (9223372036854775807 < x.size + 2) := by omega
      by_cases ht0 : d.type = 0
      · have HF : Hid (x ++ ⟨#[41, 32]⟩ ++ ⟨#[123, 10]⟩ ++ y ++ ⟨#[125, 10]⟩ = Pr.mkF d l y) := by
          rw [Hid, Pr.mkF, Pr.headT, if_pos ht0, HS.out, ← HXE.out]
        rw [ht0] at c2
        have a1 : ¬ (9223372036854775805 < x.size + 2) := by omega
        have a2 : ¬ (9223372036854775807 < x.size + 2 + 2) := by omega
        have a3 : ¬ (9223372036854775807 < x.size + 2 + 2 + y.size) := by omega
        have a4 : ¬ (9223372036854775805 < x.size + 2 + 2 + y.size) := by omega
        have a5 : ¬ (9223372036854775807 < x.size + 2 + 2 + y.size + 2) := by omega
        go_wp2_with (first
          | (go_at_call 23; refine (Hy.out _ (HP.out.below (Pr.on1 hbc))).mono ?_; rintro ee w1 ⟨rfl, hb1⟩; have hbd := Pr.next1 hbc hb1))
        go_ret
        exact ⟨by rw [← HF.out]; rfl, Pr.on1 hbd⟩
      · have hte : (d.type != 0) = true := by simpa using ht0
        have HF : Hid (x ++ ⟨#[41, 32]⟩ ++ ⟨#[45, 62, 32]⟩ ++ Mill.typeWord d.type ++ ⟨#[32]⟩ ++ ⟨#[123, 10]⟩ ++ y ++ ⟨#[125, 10]⟩ = Pr.mkF d l y) := by
          rw [Hid, Pr.mkF, Pr.headT, if_neg ht0, HS.out, ← HXE.out]
        go_wp2_with (first
          | (go_at_call 22; refine (l1TypeWord_any _ _).mono ?_; rintro ee w2 ⟨rfl, rfl⟩)
          | (go_at_call 23; refine (Hy.out _ (HP.out.below (Pr.on1 hbc))).mono ?_; rintro ee w1 ⟨rfl, hb1⟩; have hbd := Pr.next1 hbc hb1))
        go_ret
        exact ⟨by rw [← HF.out]; rfl, Pr.on1 hbd⟩
end Go.Proofs.YtkaoeoeloihigaaGreatDoor

namespace Go.Proofs.YtkaoeoeloihigaaGreatDoor
open Go.RowKit

def Pr.f : Mill.Tr → ByteArray
  | .node d ks => Pr.mkF d (ks.dropLast.map Mill.Tr.nd) (Pr.b (ks.getLast?.getD Mill.noTr) ⟨#[32, 32]⟩)
def Pr.progL (t : Mill.Tr) : List UInt8 := t.kids.flatMap (fun f => (Pr.f f).data.toList)
def Pr.FnIs (g : Nat) (ns : List Mill.Nd) (K : List (List Nat)) (k : Nat) (x : ByteArray) : Prop :=
  ∀ w : World, Pr.PenAt w g ns K → Calls Tryz.prog 12 #[.pointer (some ⟨g, 0, none⟩), .int .i64 (k : Int)] w fun e w' => e = .returned (.string x) ∧ Below w.heap.size w w'
theorem Pr.fnK_of {ks : List Int} (h : Mill.fnK ks = true) : ∃ r : List Int, ks = r ++ [21] ∧ r.length ≤ 8 := by
  unfold Mill.fnK at h
  split at h
  · cases h
  · rename_i a hl
    simp only [Bool.and_eq_true, beq_iff_eq, decide_eq_true_eq] at h
    obtain ⟨⟨rfl, h2⟩, _⟩ := h
    have hne : ks ≠ [] := by intro h0; rw [h0] at hl; cases hl
    have e := List.dropLast_concat_getLast hne
    have e2 : ks.getLast hne = 21 := by rw [List.getLast?_eq_some_getLast hne] at hl; exact Option.some.inj hl
    refine ⟨ks.dropLast, by rw [← e2]; exact e.symm, by rw [List.length_dropLast]; omega⟩
theorem Pr.snoc_of {l : List Nat} {n : Nat} (h : l.length = n + 1) : ∃ r b, l = r ++ [b] ∧ r.length = n := by
  have hne : l ≠ [] := by intro h0; rw [h0] at h; simp at h
  exact ⟨l.dropLast, l.getLast hne, (List.dropLast_concat_getLast hne).symm, by rw [List.length_dropLast]; omega⟩
theorem Pr.mkF_size (d : Mill.Nd) (l : List Mill.Nd) (y : ByteArray) (h1 : d.text.size ≤ 1048576) (h2 : ∀ x ∈ l, x.text.size ≤ 1048576) (h3 : l.length ≤ 8) (h4 : y.size ≤ 50000000) : (Pr.mkF d l y).size ≤ 70000000 := by
  have hp := Pr.parTo_size (⟨#[102, 110, 32]⟩ ++ d.text ++ ⟨#[40]⟩) l h2 l.length
  have ht := Pr.typeWord_size d.type
  have hm : l.length * 1048590 ≤ 8 * 1048590 := Nat.mul_le_mul_right _ h3
  have e1 : (⟨#[102, 110, 32]⟩ : ByteArray).size = 3 := rfl
  have e2 : (⟨#[40]⟩ : ByteArray).size = 1 := rfl
  have e3 : (⟨#[41, 32]⟩ : ByteArray).size = 2 := rfl
  have e4 : (⟨#[45, 62, 32]⟩ : ByteArray).size = 3 := rfl
  have e5 : (⟨#[32]⟩ : ByteArray).size = 1 := rfl
  have e6 : (⟨#[123, 10]⟩ : ByteArray).size = 2 := rfl
  have e7 : (⟨#[125, 10]⟩ : ByteArray).size = 2 := rfl
  have hh : (Pr.headT d l).size ≤ 15000000 := by
    simp only [ByteArray.size_append] at hp
    unfold Pr.headT
    apply Pr.ite_size
    · simp only [ByteArray.size_append]; omega
    · simp only [ByteArray.size_append]; omega
  unfold Pr.mkF
  simp only [ByteArray.size_append]
  omega
theorem Pr.fn_is (g : Nat) (ns : List Mill.Nd) (K : List (List Nat)) (ts : List Mill.Tr) (hL : Mill.Linked ns K ts) (hlen : ns.length ≤ 12001) (htext : ∀ d ∈ ns, d.text.size ≤ 1048576) (hrowL : ∀ k, (K.getD k []).length ≤ 12001)
    (k : Nat) (hk : k < ns.length) (hw : Pr.w (Mill.trAt ts k) ≤ 50000000) (h23 : ns[k].kind = 23) (hh : (Mill.trAt ts k).high ≤ 60) : Pr.FnIs g ns K k (Pr.f (Mill.trAt ts k)) ∧ (Pr.f (Mill.trAt ts k)).size ≤ 70000000 := by
  obtain ⟨q1, q2, q3, q4⟩ := hL.2.2 k hk
  have hkind : ∀ c ∈ K.getD k [], c < ns.length := fun c hc => Nat.lt_trans (q1 c hc) hk
  have hf : Mill.fnK ((K.getD k []).map (fun x => (Mill.trAt ts x).nd.kind)) = true := by rw [h23] at q3; simpa [Mill.fits] using q3
  obtain ⟨r, hr, hr8⟩ := Pr.fnK_of hf
  have hln := congrArg List.length hr
  rw [List.length_map, List.length_append, List.length_singleton] at hln
  obtain ⟨ps, b, hrow, hpl⟩ := Pr.snoc_of hln
  have hbm : b ∈ K.getD k [] := by rw [hrow]; simp
  rw [hrow, List.map_append, List.map_cons, List.map_nil] at hr
  have hb21 : (Mill.trAt ts b).nd.kind = 21 := by
    have := List.append_inj_right' hr (by simp)
    simpa using this
  rw [q2, Pr.w] at hw
  have hwb := Pr.ws_mem (List.mem_map.2 ⟨b, hbm, rfl⟩ : Mill.trAt ts b ∈ (K.getD k []).map (Mill.trAt ts))
  have hhb := Mill.highs_mem _ _ (List.mem_map.2 ⟨b, hbm, rfl⟩ : Mill.trAt ts b ∈ (K.getD k []).map (Mill.trAt ts))
  rw [q2, Mill.Tr.high] at hh
  have e2 : (⟨#[32, 32]⟩ : ByteArray).size = 2 := rfl
  have hB : Pr.BlockIs g ns K b ⟨#[32, 32]⟩ (Pr.b (Mill.trAt ts b) ⟨#[32, 32]⟩) := (Pr.stat_any g ns K ts hL hlen htext hrowL b (hkind b hbm) (by omega)).2 (by rw [← Pr.kind_at hL b (hkind b hbm)]; exact hb21) _ (by omega) (by omega)
  have hbs := Pr.b_size (Mill.trAt ts b) ⟨#[32, 32]⟩ (by omega)
  have hps : ∀ j (h : j < ps.length), ps[j] ∈ K.getD k [] := fun j h => by rw [hrow]; exact List.mem_append_left _ (List.getElem_mem h)
  have ef : Pr.f (Mill.trAt ts k) = Pr.mkF ns[k] (ps.map (fun x => (Mill.trAt ts x).nd)) (Pr.b (Mill.trAt ts b) ⟨#[32, 32]⟩) := by
    rw [q2, Pr.f, hrow, List.map_append, List.map_cons, List.map_nil, List.dropLast_concat, List.map_map]
    simp
    rfl
  have hnd : ∀ c (hc : c < ns.length), (Mill.trAt ts c).nd = ns[c] := fun c hc => by rw [(hL.2.2 c hc).2.1]; rfl
  have hxt : ∀ x ∈ ps.map (fun x => (Mill.trAt ts x).nd), x.text.size ≤ 1048576 := by
    intro x hx
    obtain ⟨c, hc, rfl⟩ := List.mem_map.1 hx
    obtain ⟨j, hj, rfl⟩ := List.getElem_of_mem hc
    rw [hnd _ (hkind _ (hps j hj))]
    exact htext _ (List.getElem_mem _)
  rw [ef]
  refine ⟨?_, Pr.mkF_size _ _ _ (htext _ (List.getElem_mem hk)) hxt (by simp; omega) (by omega)⟩
  · intro w hP
    refine Pr.fn_any g ns K k hk hlen hL.2.1 _ rfl (htext _ (List.getElem_mem hk)) ps b _ (by omega) hrow (by omega) _ (by simp) hxt ?_ hB w hP
    intro j hj
    refine ⟨hkind _ (hps j hj), ?_⟩
    rw [List.getD_eq_getElem?_getD, List.getElem?_map, List.getElem?_eq_getElem hj]
    exact (hnd _ (hkind _ (hps j hj))).symm
end Go.Proofs.YtkaoeoeloihigaaGreatDoor

namespace Go.Proofs.YtkaoeoeloihigaaGreatDoor
open Go.RowKit

theorem Pr.ws_app : ∀ a b : List Mill.Tr, Pr.ws (a ++ b) = Pr.ws a + Pr.ws b
  | [], b => by rw [Pr.ws]; simp
  | t :: r, b => by rw [List.cons_append, Pr.ws, Pr.ws, Pr.ws_app r b]; omega
def Pr.nw (ns : List Mill.Nd) : Nat := (ns.map (fun d => 3 * d.text.size + 2000)).sum
theorem Pr.grow_w : ∀ (ns : List Mill.Nd) (st st' : List Mill.Tr), Mill.growT ns st = some st' → Pr.ws st' = Pr.ws st + Pr.nw ns
  | [], st, st', h => by
    rw [Mill.growT] at h
    cases h
    simp [Pr.nw]
  | d :: r, st, st', h => by
    rw [Mill.growT] at h
    split at h
    · have := Pr.grow_w r _ st' h
      rw [this, Pr.ws_app, Pr.ws, Pr.ws, Pr.w]
      have e := Pr.ws_app (st.take (st.length - d.kids.toNat)) (st.drop (st.length - d.kids.toNat))
      rw [List.take_append_drop] at e
      simp only [Pr.nw, List.map_cons, List.sum_cons]
      omega
    · cases h
def Pr.tx (ns : List Mill.Nd) : Nat := (ns.map (fun d => d.text.size)).sum
theorem Pr.nw_eq : ∀ ns : List Mill.Nd, Pr.nw ns = 3 * Pr.tx ns + 2000 * ns.length
  | [] => by simp [Pr.nw, Pr.tx]
  | d :: r => by
    have := Pr.nw_eq r
    simp only [Pr.nw, Pr.tx, List.map_cons, List.sum_cons, List.length_cons] at this ⊢
    omega
theorem Mill.kidsOf_len (N : Nat) : ∀ (cs : List Int) (i : Nat) (opn : List Nat) (out K : List (List Nat)) (o : List Nat), opn.length ≤ i → (∀ r ∈ out, r.length ≤ N) → i + cs.length ≤ N → Mill.kidsOf cs i opn out = some (K, o) → ∀ r ∈ K, r.length ≤ N
  | [], i, opn, out, K, o, _, h2, _, h => by
    simp only [Mill.kidsOf, Option.some.injEq, Prod.mk.injEq] at h
    rw [← h.1]; exact h2
  | c :: cs, i, opn, out, K, o, h1, h2, h3, h => by
    rw [Mill.kidsOf] at h
    split at h
    · rename_i hc
      simp only [List.length_cons] at h3
      refine Mill.kidsOf_len N cs (i + 1) _ _ K o ?_ ?_ (by omega) h
      · simp; omega
      · intro r hr
        rcases List.mem_append.1 hr with hr | hr
        · exact h2 r hr
        · rw [List.mem_singleton] at hr
          subst hr
          simp; omega
    · cases h
/-- What a valid list of nodes gives to one who prints it. -/
theorem Pr.valid_gives (ns : List Mill.Nd) (h : Mill.valid ns = true) : ∃ K o t ts, Mill.kidsR ns = some (K, o) ∧ o.length = 1 ∧ Mill.growT ns [] = some [t] ∧ Mill.Linked ns K ts ∧ 1 ≤ ns.length ∧ ns.length ≤ 12001 ∧ Mill.trAt ts (ns.length - 1) = t ∧ t.nd.kind = 24 ∧ t.high ≤ 60 ∧ Pr.w t = Pr.nw ns ∧ (∀ k, (K.getD k []).length ≤ 12001) := by
  have hr := h
  rw [Mill.valid_root] at hr
  simp only [Mill.rootOk, Bool.and_eq_true, decide_eq_true_eq] at hr
  obtain ⟨hl, hr2⟩ := hr
  split at hr2
  · rename_i t ht
    simp only [Bool.and_eq_true, beq_iff_eq, decide_eq_true_eq] at hr2
    have h1 : 1 ≤ ns.length := by
      cases ns with
      | nil => rw [Mill.growT] at ht; cases ht
      | cons d r => simp
    have hkr : Mill.kidsR ns = Mill.kidsOf (ns.map (·.kids)) 0 [] [] := by rw [Mill.kidsR, if_pos ⟨h1, hl⟩]
    rcases Mill.grow_kids ns ns 0 [] [] [] (by simp) rfl (by simp) (by simp) (by intro t ht; cases ht) with ⟨K, o, ts, a1, a2, a3, _, _, _, _, a8⟩ | ⟨a1, _⟩
    · simp only [List.nil_append, List.map_nil] at a1 a2
      rw [ht] at a1
      obtain ⟨ts', b1, b2⟩ := Mill.linked_of ns K o t a2 ht
      obtain ⟨q, hq⟩ := a8 (by intro h0; rw [h0] at h1; simp at h1)
      have ho : o.length = 1 := by
        have := congrArg List.length b2
        simpa using this
      have hq0 : q = [] := by
        rw [hq] at ho
        simp at ho
        exact ho
      rw [hq0] at hq
      have hlast : o = [ns.length - 1] := by simpa using hq
      refine ⟨K, o, t, ts', by rw [hkr]; exact a2, ho, ht, b1, h1, hl, ?_, hr2.1, hr2.2, ?_, ?_⟩
      · rw [hlast] at b2
        simpa using b2
      · have := Pr.grow_w ns [] [t] ht
        simpa [Pr.ws] using this
      · intro k
        by_cases hk : k < K.length
        · rw [List.getD_eq_getElem?_getD, List.getElem?_eq_getElem hk]
          exact Mill.kidsOf_len 12001 (ns.map (·.kids)) 0 [] [] K o (by simp) (by simp) (by simp; omega) a2 _ (List.getElem_mem hk)
        · rw [List.getD_eq_getElem?_getD, List.getElem?_eq_none (by omega)]; simp
    · simp only [List.map_nil] at a1
      rw [ht] at a1
      cases a1
  · cases hr2
end Go.Proofs.YtkaoeoeloihigaaGreatDoor

namespace Go.Proofs.YtkaoeoeloihigaaGreatDoor
open Go.RowKit

theorem Pr.hadd (b o k : Nat) : (Addr.add ⟨b, o, none⟩ k) = ⟨b, o + k, none⟩ := by unfold Addr.add; split <;> simp_all
theorem Pr.own_open {w : World} {B e : Nat} {v : Value} {n : Nat} {xs : List Value} (h : w.ownsRow B e 1 v n xs) : ∃ ua uc, v = .slice ua n uc ∧ ∀ j u, xs[j]? = some u → ∃ gu, ua = some ⟨gu, 0, none⟩ ∧ gu < w.heap.size ∧ w.cell? ⟨gu, j, none⟩ = some u := by
  have hc := fun g => h.cells (g := g)
  have hlt := h.lt
  obtain ⟨h1, h2⟩ := h
  rcases h2 with ⟨rfl, h0⟩ | ⟨g, cap, cur, rfl, hg, hh, _⟩
  · subst h0
    refine ⟨none, 0, rfl, fun j u hu => ?_⟩
    have : xs = [] := List.eq_nil_of_length_eq_zero (by simpa using h1)
    rw [this] at hu; simp at hu
  · refine ⟨some ⟨g, 0, none⟩, cap, rfl, fun j u hu => ⟨g, rfl, (hlt g rfl).2, ?_⟩⟩
    have := hc g rfl j u hu
    rw [Pr.hadd, Nat.zero_add] at this
    exact this
theorem Pr.two_cells {W : World} {g : Nat} {a b : Value} {T : TypeId} (h : W.heap[g]? = some (.cells #[a, b] T (0, 0))) : W.cell? ⟨g, 0, none⟩ = some a ∧ W.cell? ⟨g, 1, none⟩ = some b := by simp [World.cell?, h]
theorem Pr.pen_make {w0 w1 : World} {B : Nat} {v vo : Value} {ns : List Mill.Nd} {K : List (List Nat)} {vs : List Value} {T : TypeId} (hN : Mill.NodesAt w0 v ns) (hb : Below w0.heap.size w0 w1) (hT : Mill.TabIs w1 B vo K vs) (hK : K.length = ns.length) (h1 : 1 ≤ ns.length) :
    Pr.PenAt (w1.alloc (.cells #[v, vo] T)) w1.heap.size ns K := by
  have hz := hb.size
  have hal := (Below.refl w1.heap.size w1).alloc (Nat.le_refl _) (.cells #[v, vo] T)
  have hnew : (w1.alloc (.cells #[v, vo] T)).heap[w1.heap.size]? = some (.cells #[v, vo] T (0, 0)) := Val.new_at w1 _
  obtain ⟨a, cap, rfl, hc⟩ := hN
  obtain ⟨gn, rfl, hgn, _⟩ := hc 0 h1
  obtain ⟨ha, hr⟩ := hT
  obtain ⟨ka, kc, rfl, hk⟩ := Pr.own_open ha
  obtain ⟨u0, hu0, _⟩ := hr 0 (by omega)
  obtain ⟨gk, rfl, hgk, _⟩ := hk 0 u0 hu0
  refine ⟨by simp, gn, cap, gk, kc, (Pr.two_cells hnew).1, (Pr.two_cells hnew).2, by simp; omega, by simp; omega, fun i hi j hj => ?_, fun i hi => ?_⟩
  · obtain ⟨g', he, hg', hcell⟩ := hc i hi
    cases he
    rw [hal.cell (p := ⟨gn, i * 6 + j, none⟩) (by simp only; omega), hb.cell (p := ⟨gn, i * 6 + j, none⟩) hgn]
    exact hcell j hj
  · obtain ⟨u, hu, hown⟩ := hr i hi
    obtain ⟨gk', he, _, hcu⟩ := hk i u hu
    cases he
    obtain ⟨ua, uc, rfl, hue⟩ := Pr.own_open hown
    have hgd : K.getD i [] = K[i] := by rw [List.getD_eq_getElem?_getD, List.getElem?_eq_getElem hi]; rfl
    rw [hgd]
    refine ⟨ua, uc, by rw [hal.cell (p := ⟨gk, i, none⟩) (by simp only; omega)]; exact hcu, fun j hj => ?_⟩
    obtain ⟨gu, he, hgu, hcell⟩ := hue j (.int .i64 (K[i][j] : Int)) (by simp [Mill.nats, hj])
    exact ⟨gu, he, by simp; omega, by rw [hal.cell (p := ⟨gu, j, none⟩) hgu]; exact hcell⟩
theorem Pr.tx_mem {ns : List Mill.Nd} {d : Mill.Nd} (h : d ∈ ns) : d.text.size ≤ Pr.tx ns := by
  induction ns with
  | nil => cases h
  | cons a r ih =>
    simp only [Pr.tx, List.map_cons, List.sum_cons] at ih ⊢
    rcases List.mem_cons.1 h with rfl | h
    · omega
    · have := ih h; omega
theorem Pr.nodes_below {w w' : World} {v : Value} {ns : List Mill.Nd} (h : Mill.NodesAt w v ns) (hb : Below w.heap.size w w') : Mill.NodesAt w' v ns := by
  obtain ⟨a, cap, he, hc⟩ := h
  refine ⟨a, cap, he, fun i hi => ?_⟩
  obtain ⟨g, hg, hlt, hcell⟩ := hc i hi
  exact ⟨g, hg, by have := hb.size; omega, fun j hj => (hb.cell (p := ⟨g, i * 6 + j, none⟩) hlt).trans (hcell j hj)⟩
theorem Pr.kids_k (ns : List Mill.Nd) (v : Value) (K : List (List Nat)) (o : List Nat) (hk : Mill.kidsR ns = some (K, o)) (hK : 1 ≤ K.length) (w : World) (hN : Mill.NodesAt w v ns) :
    Calls Tryz.prog 11 #[.agg #[v]] w fun e w' => ∃ gk kc ok vs, e = .returned (.tuple #[.slice (some ⟨gk, 0, none⟩) K.length kc, .bool ok]) ∧ Below w.heap.size w w' ∧ Mill.TabIs w' w.heap.size (.slice (some ⟨gk, 0, none⟩) K.length kc) K vs := by
  refine (l2Kids_any ns v w hN).mono ?_
  rintro e w' ⟨vo, ok, rfl, hb, h⟩
  rw [hk] at h
  obtain ⟨_, vs, ht⟩ := h
  obtain ⟨ka, kc, rfl, hc⟩ := Pr.own_open ht.1
  obtain ⟨u0, hu0, _⟩ := ht.2 0 (by omega)
  obtain ⟨gk, rfl, _, _⟩ := hc 0 u0 hu0
  exact ⟨gk, kc, ok, vs, rfl, hb, ht⟩
def Pr.printL (ns : List Mill.Nd) : ByteArray :=
  if Mill.valid ns = true then (match Mill.growT ns [] with | some [t] => (if (Pr.progL t).length ≤ 12000 then ⟨(Pr.progL t).toArray⟩ else ⟨#[]⟩) | _ => ⟨#[]⟩) else ⟨#[]⟩
theorem Pr.valid_b (b : Bool) (ns : List Mill.Nd) (h : Hid (Mill.valid ns = b)) (v : Value) (w : World) (hN : Mill.NodesAt w v ns) :
    Calls Tryz.prog 10 #[.agg #[v]] w fun e w' => e = .returned (.bool b) ∧ Below w.heap.size w w' := by
  rw [← h.out]; exact specValidTree_any ns v w hN
set_option maxRecDepth 100000 in
set_option maxHeartbeats 4000000 in
theorem Pr.specPrint_any (ns : List Mill.Nd) (v : Value) (w : World) (HN : Hid (Mill.NodesAt w v ns)) (htext : Pr.tx ns ≤ 1048576) :
    Calls Tryz.prog 5 #[.agg #[v]] w fun e w' => e = .returned (.string (Pr.printL ns)) ∧ Below w.heap.size w w' := by
  obtain ⟨i0, hi, hz0, hz1, hz2⟩ := info_parts Tryz.infoByte
  obtain ⟨r, HR⟩ : ∃ r, Hid (Pr.printL ns = r) := ⟨_, rfl⟩
  rw [HR.out]
  have HNA : Hid (∀ ob : Obj, Mill.NodesAt (w.alloc ob) v ns) := fun ob => Pr.nodes_below HN.out ((Below.refl _ w).alloc (Nat.le_refl _) ob)
  cases hv : Mill.valid ns with
  | false =>
    have HV : Hid (Mill.valid ns = false) := hv
    have HR2 : Hid (⟨#[]⟩ = r) := by rw [Hid, ← HR.out, Pr.printL, if_neg (by rw [hv]; decide)]
    clear hv
    go_enter Tryz.func5, Tryz.ntmps5
    go_wp2_with (go_at_call 10; refine (Pr.valid_b false ns HV v _ (HNA.out _)).mono ?_; rintro e w1 ⟨rfl, hb1⟩)
    go_ret
    exact ⟨by rw [← HR2.out]; rfl, ((Below.refl _ w).alloc (Nat.le_refl _) _).trans (hb1.mono (by simp))⟩
  | true =>
    obtain ⟨K, o, t, ts, k1, k2, k3, k4, k5, k6, k7, k8, k9, k10, k11⟩ := Pr.valid_gives ns hv
    have HV : Hid (Mill.valid ns = true) := hv
    have HR2 : Hid ((if (Pr.progL t).length ≤ 12000 then ⟨(Pr.progL t).toArray⟩ else ⟨#[]⟩) = r) := by rw [Hid, ← HR.out, Pr.printL, if_pos hv, k3]
    clear hv
    have HKR : Hid (Mill.kidsR ns = some (K, o)) := k1
    have hKl : K.length = ns.length := k4.2.1
    have hi1 : ((ns.length : Int) - 1).toNat = ns.length - 1 := by omega
    have hi2 : (0 : Int) ≤ (ns.length : Int) - 1 := by omega
    have hi3 : (ns.length : Int) - 1 < (ns.length : Int) := by omega
    have hi4 : IntKind.i64.wrap ((ns.length : Int) - 1) = (ns.length : Int) - 1 := wrap_small _ (by omega) (by omega)
    go_enter Tryz.func5, Tryz.ntmps5
    go_wp2_with (first
      | (go_at_call 10; refine (Pr.valid_b true ns HV v _ (HNA.out _)).mono ?_; rintro e w1 ⟨rfl, hb1⟩
         have hbw : Below (w.heap.size + 1) (w.alloc (.cells #[v] 29)) w1 := hb1.mono (by simp)
         have hc1 : w1.cell? ⟨w.heap.size, 0, none⟩ = some v := (hbw.cell (p := ⟨w.heap.size, 0, none⟩) (by simp only; omega)).trans (by simp)
         have hw1 : Below w.heap.size w w1 := Pr.on1 hbw)
      | (go_at_call 11; refine (Pr.kids_k ns v K o HKR.out (by omega) _ (Pr.nodes_below HN.out hw1)).mono ?_; rintro e w2 ⟨gk, kc, ok, vs, rfl, hb2, hT⟩
         have hw2 : Below w.heap.size w w2 := hw1.trans (hb2.mono hw1.size)
         have hc2 : w2.cell? ⟨w.heap.size, 0, none⟩ = some v := (hb2.cell (p := ⟨w.heap.size, 0, none⟩) (by have := hbw.size; simp at this; simp only; omega)).trans hc1
         obtain ⟨ul, hul, hown⟩ := hT.2 (ns.length - 1) (by omega)
         obtain ⟨_, _, hkk, hkc⟩ := Pr.own_open hT.1
         obtain ⟨gk', hgk', hgklt, hcl⟩ := hkc (ns.length - 1) ul hul
         injection hkk with hk1 hk2 hk3
         clear hk2 hk3
         subst hk1
         cases hgk'
         have hcl2 : ∀ o1 o2 : Obj, ((w2.alloc o1).alloc o2).cell? ⟨gk, ns.length - 1, none⟩ = some ul := fun o1 o2 => by
           have hx1 := ((Below.refl w2.heap.size w2).alloc (Nat.le_refl _) o1).alloc (by simp) o2
           rw [hx1.cell (p := ⟨gk, ns.length - 1, none⟩) hgklt]; exact hcl
         have hPen : Pr.PenAt (w2.alloc (.cells #[v, .slice (some ⟨gk, 0, none⟩) ns.length kc] 40)) w2.heap.size ns K := (by have hpm := Pr.pen_make (T := 40) HN.out hw2 hT hKl k5; rw [hKl] at hpm; exact hpm)))
    obtain ⟨ua, uc, rfl, hue⟩ := Pr.own_open hown
    have hgd : K.getD (ns.length - 1) [] = K[ns.length - 1] := by rw [List.getD_eq_getElem?_getD, List.getElem?_eq_getElem (by omega)]; rfl
    rw [← hgd] at hue hcl2 ⊢
    have hw3 : Below w.heap.size w (w2.alloc (.cells #[v, .slice (some ⟨gk, 0, none⟩) ns.length kc] 40)) := hw2.alloc hw2.size _
    have HJ : Hid (∀ j (h : j < (K.getD (ns.length - 1) []).length), ∃ gu, ua = some ⟨gu, 0, none⟩ ∧ gu < (w2.alloc (.cells #[v, .slice (some ⟨gk, 0, none⟩) ns.length kc] 40)).heap.size ∧ (w2.alloc (.cells #[v, .slice (some ⟨gk, 0, none⟩) ns.length kc] 40)).cell? ⟨gu, j, none⟩ = some (.int .i64 ((K.getD (ns.length - 1) [])[j] : Int))) := fun j h => by
      obtain ⟨gu, he, hgu, hc⟩ := hue j (.int .i64 ((K.getD (ns.length - 1) [])[j] : Int)) (by rw [Mill.nats, List.getElem?_map, List.getElem?_eq_getElem h]; rfl)
      exact ⟨gu, he, by simp; omega, (((Below.refl w2.heap.size w2).alloc (Nat.le_refl _) _).cell (p := ⟨gu, j, none⟩) hgu).trans hc⟩
    obtain ⟨q1, q2, q3, q4⟩ := k4.2.2 (ns.length - 1) (by omega)
    have HF : Hid (∀ c ∈ K.getD (ns.length - 1) [], Pr.FnIs w2.heap.size ns K c (Pr.f (Mill.trAt ts c)) ∧ (Pr.f (Mill.trAt ts c)).size ≤ 70000000) := fun c hc => by
      have hcl3 : c < ns.length := by have := q1 c hc; omega
      have ht2 : t = .node (ns[ns.length - 1]'(by omega)) ((K.getD (ns.length - 1) []).map (Mill.trAt ts)) := by rw [← k7]; exact q2
      have e24 : (ns[ns.length - 1]'(by omega)).kind = 24 := by rw [ht2] at k8; exact k8
      have hf : ((K.getD (ns.length - 1) []).map (fun x => (Mill.trAt ts x).nd.kind)).all (fun k => k == 23) = true := by
        rw [e24] at q3
        have : (((K.getD (ns.length - 1) []).map (fun x => (Mill.trAt ts x).nd.kind)).all (fun k => k == 23) && decide (1 ≤ ((K.getD (ns.length - 1) []).map (fun x => (Mill.trAt ts x).nd.kind)).length) && decide (((K.getD (ns.length - 1) []).map (fun x => (Mill.trAt ts x).nd.kind)).length ≤ 60)) = true := by simpa [Mill.fits] using q3
        simp only [Bool.and_eq_true] at this
        exact this.1.1
      have h23 : (ns[c]'hcl3).kind = 23 := by
        rw [← Pr.kind_at k4 c hcl3]
        have := List.all_eq_true.1 hf _ (List.mem_map.2 ⟨c, hc, rfl⟩)
        simpa using this
      have hwc := Pr.ws_mem (List.mem_map.2 ⟨c, hc, rfl⟩ : Mill.trAt ts c ∈ (K.getD (ns.length - 1) []).map (Mill.trAt ts))
      have hhc := Mill.highs_mem _ _ (List.mem_map.2 ⟨c, hc, rfl⟩ : Mill.trAt ts c ∈ (K.getD (ns.length - 1) []).map (Mill.trAt ts))
      have hnw := Pr.nw_eq ns
      rw [ht2, Pr.w] at k10
      rw [ht2, Mill.Tr.high] at k9
      exact Pr.fn_is w2.heap.size ns K ts k4 k6 (fun d hd => by have := Pr.tx_mem hd; omega) k11 c hcl3 (by omega) h23 (by omega)
    have hRl : (K.getD (ns.length - 1) []).length ≤ 12001 := k11 _
    have HT : Hid (Pr.progL t = (K.getD (ns.length - 1) []).flatMap (fun c => (Pr.f (Mill.trAt ts c)).data.toList)) := by
      have ht2 : t = .node (ns[ns.length - 1]'(by omega)) ((K.getD (ns.length - 1) []).map (Mill.trAt ts)) := by rw [← k7]; exact q2
      rw [Hid, ht2, Pr.progL, Mill.Tr.kids, List.flatMap_map]
    clear hcl2 hcl hul hown hue hT hc1 hc2 hbw hw1 hb1 hb2 q1 q2 q3 q4 hgd
    generalize hW3 : w2.alloc (.cells #[v, .slice (some ⟨gk, 0, none⟩) ns.length kc] 40) = W3 at *
    generalize K.getD (ns.length - 1) [] = R at *
    obtain ⟨n, HNN⟩ : ∃ n, Hid (R.length = n) := ⟨_, rfl⟩
    rw [HNN.out] at hRl ⊢
    have h3 : w2.heap.size + 1 = W3.heap.size := by rw [← hW3]; simp
    simp only [h3]
    clear hW3
    go_loopw [6, 8] (fun o i wr => ∃ (j : Nat) (acc : List UInt8), i = .int .i64 (j : Int) ∧ j ≤ n ∧ acc = (R.take j).flatMap (fun c => (Pr.f (Mill.trAt ts c)).data.toList) ∧ acc.length ≤ j * 70000000 ∧ wr.ownsRow W3.heap.size 5 1 o acc.length (Lib.byteCells acc) ∧ Below W3.heap.size W3 wr) (fun _ i _ => n - (intOf i).toNat)
    case atStart =>
      refine ⟨0, [], rfl, by omega, by simp, by simp, ?_, (Below.refl _ W3).alloc (Nat.le_refl _) _⟩
      exact World.ownsRow_made (base := W3.heap.size) (e := 5) (size := 1) W3 #[] 0 (Nat.le_refl _) (by decide) rfl
    case round =>
      obtain ⟨j, acc, rfl, hj, hacc, hal, hown, hbw⟩ := hrel
      have hsz := hbw.size
      have hj7 : j * 70000000 ≤ 12001 * 70000000 := Nat.mul_le_mul_right _ (by omega)
      by_cases hjn : j < n
      · have hjk : j < R.length := by rw [HNN.out]; exact hjn
        obtain ⟨gu, rfl, hgu, hcell⟩ := HJ.out j hjk
        obtain ⟨hE, hxs⟩ := HF.out R[j] (List.getElem_mem hjk)
        have e2 : R.take j ++ [R[j]] = R.take (j + 1) := by rw [List.take_add_one, List.getElem?_eq_getElem hjk]; rfl
        have HU : Hid (acc ++ (Pr.f (Mill.trAt ts R[j])).data.toList = (R.take (j + 1)).flatMap (fun c => (Pr.f (Mill.trAt ts c)).data.toList)) := by
          rw [Hid, ← e2, hacc, List.flatMap_append]
          simp only [List.flatMap_cons, List.flatMap_nil, List.append_nil]
        generalize Pr.f (Mill.trAt ts R[j]) = x at *
        generalize R[j] = c at *
        have HX : Hid (Pr.FnIs w2.heap.size ns K c x) := hE
        clear hE e2 hacc
        have c1 : wr.cell? ⟨gu, j, none⟩ = some (.int .i64 (c : Int)) := (hbw.cell (p := ⟨gu, j, none⟩) hgu).trans hcell
        have HPr : Hid (Pr.PenAt wr w2.heap.size ns K) := hPen.below hbw
        have hm1 : acc.length + x.size ≤ maxLen := by unfold maxLen; omega
        have hm2 : acc.length + x.size ≤ 140737488355328 := by omega
        go_wp2_with (first
          | (go_at_call 12; refine (HX.out _ HPr.out).mono ?_; rintro e w4 ⟨rfl, hb4⟩
             have own2 := Val.own_next hown hb4
             have hbw2 := hbw.trans (hb4.mono hsz))
          | (at_builtin; refine Lib.wpList_append_own_string _ rfl _ _ 41 9 rfl W3.heap.size 5 i0 Tryz.underlying41 Tryz.underlying9 hi hz0 hz1 hz2 _ _ _ rfl own2 x rfl hm1 hm2 hbw2.size ?_; intro v' w5 hown' hgrow5 hnil5))
        have hb5 : Below W3.heap.size W3 w5 := Below.grown hbw2 hgrow5 hbw2.size (fun j hj => (own2.lt _ hj).1)
        have HO : Hid (w5.ownsRow W3.heap.size 5 1 v' (acc ++ x.data.toList).length (Lib.byteCells (acc ++ x.data.toList))) := Pr.own_app acc x hown'
        have hz : (acc ++ x.data.toList).length ≤ (j + 1) * 70000000 := by
          rw [List.length_append]
          have e : x.data.toList.length = x.size := by simp
          omega
        clear hown' hgrow5
        go_wp2
        go_roundw
        case rel => exact ⟨j + 1, _, by go_num, by omega, HU.out, hz, HO.out, hb5⟩
        case measure => simp [intOf]; omega
      · have HU : Hid (acc = Pr.progL t) := by rw [Hid, hacc, HT.out, List.take_of_length_le (by rw [HNN.out]; omega)]
        have hcv := Mill.conv_own (P := Tryz.prog) (src := 41) (dst := 9) Tryz.underlying41 Tryz.underlying5 Tryz.underlying9 hown
        have hlen2 : acc.length ≤ 900000000000 := by omega
        have hbe : Below w.heap.size w wr := hw3.trans (hbw.mono hw3.size)
        clear hacc
        obtain ⟨oa, oc, rfl, _⟩ := Pr.own_open hown
        by_cases h12 : acc.length ≤ 12000
        · have HR3 : Hid (⟨acc.toArray⟩ = r) := by rw [Hid, ← HR2.out, ← HU.out, if_pos h12]
          have hd : decide (12000 < (acc.length : Int)) = false := decide_eq_false (by omega)
          go_wp2
          go_ret
          exact ⟨by rw [← HR3.out]; rfl, hbe⟩
        · have HR3 : Hid (⟨#[]⟩ = r) := by rw [Hid, ← HR2.out, ← HU.out, if_neg h12]
          have hd : decide (12000 < (acc.length : Int)) = true := decide_eq_true (by omega)
          go_wp2
          go_ret
          exact ⟨by rw [← HR3.out]; rfl, hbe⟩
end Go.Proofs.YtkaoeoeloihigaaGreatDoor
