import Derived.Test.YticjcabnnjhbgaaDoorScanE
import Derived.Lib.UnsafeStr
import Derived.Laws.IdiomStrings
import Derived.Laws.BytesArg
import Derived.Deep.RegionLaw
namespace Go.Proofs.YticjcabnnjhbgaaDoor
open Go.RowKit

theorem Mill.step_append_own {P : Program} {ops : Array Oper} {o : Oper} {a : Act} {w : World} {K : Act → World → Prop} {Q : Exit → Act → World → Prop} {E : Prop}
    (hg : o.guard = none) (s x : Operand) (t : TypeId) (hop : o.op = Op.call { callee := Callee.builtin Builtin.append, args := #[s, x], argTypes := #[t, t] })
    (base : Nat) (e : TypeId) (i : TypeInfo) (z : Value) (size bytes : Nat) (h1 : P.underlying t = some (.slice e)) (h2 : P.info? e = some i) (h3 : i.zero = some z) (h4 : i.size = size) (h5 : i.bytes = bytes) (h6 : z.cells.size = size) (h7 : 0 < size)
    (v : Value) (n : Nat) (xs : List Value) (hs : a.eval s = v) (hown : w.ownsRow base e size v n xs)
    (ad : Addr) (m c : Nat) (news : List Value) (hx : a.eval x = .slice (some ad) m c) (hn : news.length = m * size) (hc : ∀ j u, news[j]? = some u → w.cell? (ad.add j) = some u) (h1c : ∀ u ∈ news, u.oneCell' = true)
    (b1 : n + m ≤ maxLen) (b2 : (n + m) * bytes ≤ 140737488355328) (hbase : base ≤ w.heap.size)
    (hK : ∀ v' w', w'.ownsRow base e size v' (n + m) (xs ++ news) → w.grownBy w' v.ownBlock → K (a.put o.dst v') w') :
    if Region.wanted o (yielded ops a.tmps) = true then Oper.wp P o a w K Q else E := by
  have hw : Region.wanted o (yielded ops a.tmps) = true := by simp [Region.wanted, hg]
  rw [if_pos hw]
  obtain ⟨v', w', hrun, r1, r2, _⟩ := run_append_own (P := P) w base t o.type e i z size bytes h1 h2 h3 h4 h5 h6 h7 v n xs hown ad m c news hn hc h1c b1 b2 hbase
  unfold Oper.wp
  simp [execOp, hop, resolve, invoke, builtin, hs, hx, hrun, Result.andThen]
  exact hK v' w' r1 r2

def Mill.isBare (c : UInt8) : Bool := Mill.bare (c.toNat : Int)
def Mill.hexOf (c : UInt8) : Int := Mill.hex (c.toNat : Int)
def Mill.unq : List UInt8 → List UInt8 → Option (List UInt8 × List UInt8)
  | [], _ => none
  | c :: r, acc => if c = 34 then some (acc, r) else if Mill.isBare c = true then Mill.unq r (acc ++ [c]) else if c = 92 then
      match r with
      | a :: b :: r2 => if 0 ≤ Mill.hexOf a ∧ 0 ≤ Mill.hexOf b then Mill.unq r2 (acc ++ [UInt8.ofNat (16 * Mill.hexOf a + Mill.hexOf b).toNat]) else none
      | _ => none
    else none
def Mill.unqVal (s : ByteArray) (at' : Nat) : Value := match Mill.unq (s.data.toList.drop (at' + 1)) [] with
  | none => .tuple #[.string ⟨#[]⟩, .int .i64 (at' : Int), .bool false]
  | some (t, r) => .tuple #[.string ⟨t.toArray⟩, .int .i64 ((s.size - r.length : Nat) : Int), .bool true]

theorem Mill.conv_own {P : Program} {w : World} {src dst e : TypeId} (hs : P.underlying src = some (.slice e)) (he : P.underlying e = some (.int .u8)) (hd : P.underlying dst = some .string) {B : Nat} {v : Value} {acc : List UInt8}
    (h : w.ownsRow B e 1 v acc.length (Lib.byteCells acc)) : (convert src dst v).run P w = .ok (.string ⟨acc.toArray⟩) w := by
  have hcells := fun g => h.cells (g := g)
  obtain ⟨h1, h2⟩ := h
  rcases h2 with ⟨rfl, h0⟩ | ⟨g, cap, cur, rfl, hg, hh, hn, hcap, hsz, htake⟩
  · have : acc = [] := List.eq_nil_of_length_eq_zero h0
    subst this
    exact run_convert_bytes_nil (P := P) (w := w) src e hs he 0 0 dst hd
  · refine run_convert_bytes_back w src dst e ⟨g, 0, none⟩ cap acc hs he hd ?_
    intro j hj
    exact hcells g rfl j _ (by simp [Lib.byteCells, hj])

theorem Mill.unq_def (c : UInt8) (r acc : List UInt8) : Mill.unq (c :: r) acc = if c = 34 then some (acc, r) else if Mill.isBare c = true then Mill.unq r (acc ++ [c]) else if c = 92 then
      match r with
      | a :: b :: r2 => if 0 ≤ Mill.hexOf a ∧ 0 ≤ Mill.hexOf b then Mill.unq r2 (acc ++ [UInt8.ofNat (16 * Mill.hexOf a + Mill.hexOf b).toNat]) else none
      | _ => none
    else none := by rw [Mill.unq.eq_def]
theorem Mill.unq_quote (r acc : List UInt8) : Mill.unq (34 :: r) acc = some (acc, r) := by rw [Mill.unq_def, if_pos rfl]
theorem Mill.unq_bare (c : UInt8) (r acc : List UInt8) (h : c ≠ 34) (hb : Mill.isBare c = true) : Mill.unq (c :: r) acc = Mill.unq r (acc ++ [c]) := by rw [Mill.unq_def, if_neg h, if_pos hb]
theorem Mill.unq_bad (c : UInt8) (r acc : List UInt8) (h : c ≠ 34) (hb : Mill.isBare c = false) (h9 : c ≠ 92) : Mill.unq (c :: r) acc = none := by rw [Mill.unq_def, if_neg h, if_neg (by simp [hb]), if_neg h9]
theorem Mill.unq_short (r acc : List UInt8) (h : r.length < 2) : Mill.unq (92 :: r) acc = none := by
  rw [Mill.unq_def, if_neg (by decide), if_neg (by decide), if_pos rfl]
  match r, h with
  | [], _ => rfl
  | [a], _ => rfl
theorem Mill.unq_hex (a b : UInt8) (r acc : List UInt8) : Mill.unq (92 :: a :: b :: r) acc = if 0 ≤ Mill.hexOf a ∧ 0 ≤ Mill.hexOf b then Mill.unq r (acc ++ [UInt8.ofNat (16 * Mill.hexOf a + Mill.hexOf b).toNat]) else none := by
  rw [Mill.unq_def, if_neg (by decide), if_neg (by decide), if_pos rfl]
theorem Mill.ret_val {v u : Value} (h : v = u) : Ending.returned v = .returned u := by rw [h]
theorem Mill.hex_bd (b : Int) : -1 ≤ Mill.hex b ∧ Mill.hex b ≤ 15 := by unfold Mill.hex; split <;> (try split) <;> omega
theorem Mill.drop_cons (s : ByteArray) (i : Nat) (h : i < s.size) : s.data.toList.drop i = s[i] :: s.data.toList.drop (i + 1) := by
  rw [List.drop_eq_getElem_cons (by simpa using h)]; rfl
theorem Mill.byte_ne (c d : UInt8) (h : ((c.toNat : Int) == (d.toNat : Int)) = false) : c ≠ d := by
  intro e; subst e; simp at h
theorem Mill.byte_eq (c d : UInt8) (h : ((c.toNat : Int) == (d.toNat : Int)) = true) : c = d := by
  simp at h; exact UInt8.toNat_inj.1 (by omega)
theorem Mill.byteCells_snoc (acc : List UInt8) (c : UInt8) : Lib.byteCells (acc ++ [c]) = Lib.byteCells acc ++ [.int .u8 (c.toNat : Int)] := by simp [Lib.byteCells]

theorem Mill.ofNat_toNat (x : Int) (h0 : 0 ≤ x) (h1 : x ≤ 255) : ((UInt8.ofNat x.toNat).toNat : Int) = x := by
  simp; omega

theorem Tryd.infoByte : (Tryd.prog.info? 5).map (fun i => (i.zero, i.size, i.bytes)) = some (some (.int .u8 0), 1, 1) := by kernel_rfl

theorem l1Hex_byte (c : UInt8) (w : World) :
    Calls Tryd.prog 36 #[.int .u8 (c.toNat : Int)] w fun e w' => e = .returned (.int .i64 (Mill.hexOf c)) ∧ w = w' :=
  l1Hex_any _ (by omega) (by have := c.toNat_lt; omega) w

set_option maxRecDepth 100000 in
set_option maxHeartbeats 1000000 in
theorem l1Unquote_any (s : ByteArray) (at' : Nat) (w : World) (hat : at' < s.size) (hs : s.size ≤ 1048576) :
    Calls Tryd.prog 19 #[.string s, .int .i64 (at' : Int)] w fun e w' => e = .returned (Mill.unqVal s at') ∧ Below w.heap.size w w' := by
  obtain ⟨i0, hi, hz0, hz1, hz2⟩ := info_parts Tryd.infoByte
  go_enter Tryd.func19, Tryd.ntmps19
  go_wp2
  go_loopw [7, 8] (fun v t wr => ∃ (i : Nat) (acc : List UInt8), at' < i ∧ i ≤ s.size ∧ acc.length ≤ i ∧ t = .int .i64 (i : Int) ∧ wr.ownsRow w.heap.size 5 1 v acc.length (Lib.byteCells acc) ∧ Below w.heap.size w wr ∧ Mill.unq (s.data.toList.drop i) acc = Mill.unq (s.data.toList.drop (at' + 1)) []) (fun _ t _ => s.size - (intOf t).toNat)
  case atStart => exact ⟨at' + 1, [], by omega, by omega, by simp, by go_num, World.ownsRow_made w #[] 0 (Nat.le_refl _) (by decide) rfl, (Below.refl _ _).alloc (Nat.le_refl _) _, rfl⟩
  case round =>
    obtain ⟨i, acc, hi1, hi2, hacc, rfl, hown, hbw, hu⟩ := hrel
    by_cases hlt : i < s.size
    · rw [Mill.drop_cons s i hlt] at hu
      cases h34 : ((s[i].toNat : Int) == 34) with
      | true =>
        have e34 : s[i] = 34 := Mill.byte_eq _ 34 h34
        have HV : Hid (Mill.unqVal s at' = .tuple #[.string ⟨acc.toArray⟩, .int .i64 ((i : Int) + 1), .bool true]) := by
          rw [e34, Mill.unq_quote] at hu
          rw [Hid, Mill.unqVal, ← hu]
          have : s.size - (s.data.toList.drop (i + 1)).length = i + 1 := by simp; omega
          simp only [this]; rfl
        have hcv := Mill.conv_own (P := Tryd.prog) (src := 56) (dst := 9) Tryd.underlying56 Tryd.underlying5 Tryd.underlying9 hown
        clear hu e34
        go_wp2
        go_ret3
        exact ⟨Mill.ret_val HV.out.symm, hbw⟩
      | false =>
        have n34 : s[i] ≠ 34 := Mill.byte_ne _ 34 h34
        cases hb : Mill.bare (s[i].toNat : Int) with
        | true =>
          have HU : Hid (Mill.unq (s.data.toList.drop (i + 1)) (acc ++ [s[i]]) = Mill.unq (s.data.toList.drop (at' + 1)) []) := by
            rw [Mill.unq_bare _ _ _ n34 hb] at hu; exact hu
          clear hu n34
          have hsz := hbw.size
          go_wp2_with (first
            | (go_at_call 35; refine (l1Bare_any _ _).mono ?_; rintro e w' ⟨rfl, rfl⟩; rw [hb])
            | (at_builtin; refine wpList_append_own _ rfl _ _ 56 rfl w.heap.size 5 i0 (.int .u8 0) 1 1 Tryd.underlying56 hi hz0 hz1 hz2 rfl (by decide) _ _ _ rfl (hown.alloc _) ⟨wr.heap.size, 0, none⟩ 1 1 [.int .u8 (s[i].toNat : Int)] rfl rfl (cell_one_new _ _ _) (fun x hx => by simp at hx; subst hx; rfl) (by unfold maxLen; omega) (by omega) (by simp; omega) ?_; intro v' w3 hown' hgrow3 hnil3))
          have hb3 : Below w.heap.size w w3 := Below.grown (hbw.alloc hsz _) hgrow3 (by simp; omega) (fun j hj => (hown.lt _ hj).1)
          go_roundw
          case rel => exact ⟨i + 1, acc ++ [s[i]], by omega, by omega, by simp; omega, by go_num, by rw [Mill.byteCells_snoc]; simpa using hown', hb3, HU.out⟩
          case measure => simp [intOf]; omega
        | false =>
          cases h92 : ((s[i].toNat : Int) != 92) with
          | true =>
            have HV : Hid (Mill.unqVal s at' = .tuple #[.string ⟨#[]⟩, .int .i64 (at' : Int), .bool false]) := by
              rw [Mill.unq_bad _ _ _ n34 hb (Mill.byte_ne _ 92 (by simpa [bne] using h92))] at hu
              rw [Hid, Mill.unqVal, ← hu]
            clear hu n34
            go_wp2_with (go_at_call 35; refine (l1Bare_any _ _).mono ?_; rintro e w' ⟨rfl, rfl⟩; rw [hb])
            go_ret3
            exact ⟨Mill.ret_val HV.out.symm, hbw⟩
          | false =>
            have e92 : s[i] = 92 := Mill.byte_eq _ 92 (by simpa [bne] using h92)
            rw [e92] at hu
            by_cases h2 : i + 2 < s.size
            · rw [Mill.drop_cons s (i + 1) (by omega), Mill.drop_cons s (i + 1 + 1) (by omega), Mill.unq_hex] at hu
              have hA : -1 ≤ Mill.hexOf s[i + 1] ∧ Mill.hexOf s[i + 1] ≤ 15 := Mill.hex_bd (s[i + 1].toNat : Int)
              have hB : -1 ≤ Mill.hexOf s[i + 2] ∧ Mill.hexOf s[i + 2] ≤ 15 := Mill.hex_bd (s[i + 2].toNat : Int)
              obtain ⟨hA1, hA2⟩ := hA
              obtain ⟨hB1, hB2⟩ := hB
              by_cases hA0 : 0 ≤ Mill.hexOf s[i + 1]
              · by_cases hB0 : 0 ≤ Mill.hexOf s[i + 2]
                · have HU : Hid (Mill.unq (s.data.toList.drop (i + 3)) (acc ++ [UInt8.ofNat (16 * Mill.hexOf s[i + 1] + Mill.hexOf s[i + 2]).toNat]) = Mill.unq (s.data.toList.drop (at' + 1)) []) := by
                    rw [if_pos ⟨hA0, hB0⟩] at hu; exact hu
                  clear hu n34 e92
                  have hsz := hbw.size
                  go_wp2_with (first
                    | (go_at_call 35; refine (l1Bare_any _ _).mono ?_; rintro e w' ⟨rfl, rfl⟩; rw [hb])
                    | (go_at_call 36; refine (l1Hex_byte _ _).mono ?_; rintro e w' ⟨rfl, rfl⟩))
                  have hw1 : IntKind.i64.wrap ((i : Int) + 1) = (i : Int) + 1 := wrap_small _ (by omega) (by omega)
                  have hw2 : IntKind.i64.wrap ((i : Int) + 2) = (i : Int) + 2 := wrap_small _ (by omega) (by omega)
                  have hw3 : IntKind.i64.wrap (16 * Mill.hexOf s[i + 1]) = 16 * Mill.hexOf s[i + 1] := wrap_small _ (by omega) (by omega)
                  have hw4 : IntKind.i64.wrap (16 * Mill.hexOf s[i + 1] + Mill.hexOf s[i + 2]) = 16 * Mill.hexOf s[i + 1] + Mill.hexOf s[i + 2] := wrap_small _ (by omega) (by omega)
                  have hw5 : IntKind.u8.wrap (16 * Mill.hexOf s[i + 1] + Mill.hexOf s[i + 2]) = 16 * Mill.hexOf s[i + 1] + Mill.hexOf s[i + 2] := by rw [IntKind.wrap_u8]; omega
                  have hq1 : (0 : Int) ≤ (i : Int) + 1 := by omega
                  have hq2 : (0 : Int) ≤ (i : Int) + 2 := by omega
                  have hq3 : (i : Int) + 1 < (s.size : Int) := by omega
                  have hq4 : (i : Int) + 2 < (s.size : Int) := by omega
                  have hn1 : ((i : Int) + 1).toNat = i + 1 := by omega
                  have hn2 : ((i : Int) + 2).toNat = i + 2 := by omega
                  go_region_law (first
                    | (refine Mill.step_append_own rfl (.tmp 64) (.tmp 78) 56 rfl w.heap.size 5 i0 (.int .u8 0) 1 1 Tryd.underlying56 hi hz0 hz1 hz2 rfl (by decide) _ _ _ rfl (by repeat (first | exact hown | apply World.ownsRow.drew | apply World.ownsRow.alloc)) ⟨wr.heap.size, 0, none⟩ 1 1 [.int .u8 (16 * Mill.hexOf s[i + 1] + Mill.hexOf s[i + 2])] rfl rfl (by intro j u hu; exact cell_one_new _ _ _ j u hu) (fun x hx => by simp at hx; subst hx; rfl) (by unfold maxLen; omega) (by omega) (by simp; omega) ?_; intro v' w3 hown' hgrow3)
                    | (go_simp; go_at_call 36; refine (l1Hex_byte _ _).mono ?_; rintro e w' ⟨rfl, rfl⟩))
                  all_goals
                    have hb3 : Below w.heap.size w w3 := Below.grown (by repeat (first | exact hbw | apply Below.drew | (refine Below.alloc ?_ (by simpa using hsz) _))) hgrow3 (by simp; omega) (fun j hj => (hown.lt _ hj).1)
                    have HO : Hid (w3.ownsRow w.heap.size 5 1 v' (acc ++ [UInt8.ofNat (16 * Mill.hexOf s[i + 1] + Mill.hexOf s[i + 2]).toNat]).length (Lib.byteCells (acc ++ [UInt8.ofNat (16 * Mill.hexOf s[i + 1] + Mill.hexOf s[i + 2]).toNat]))) := by
                      rw [Hid, Mill.byteCells_snoc, Mill.ofNat_toNat _ (by omega) (by omega)]; simpa using hown'
                    clear hown' hgrow3
                    go_wp2
                    go_roundw
                    case rel => exact ⟨i + 3, _, by omega, by omega, by simp; omega, by go_num, HO.out, hb3, HU.out⟩
                    case measure => simp [intOf]; omega
                · have HV : Hid (Mill.unqVal s at' = .tuple #[.string ⟨#[]⟩, .int .i64 (at' : Int), .bool false]) := by
                    rw [if_neg (by intro h; exact hB0 h.2)] at hu
                    rw [Hid, Mill.unqVal, ← hu]
                  clear hu n34 e92
                  go_wp2_with (first
                    | (go_at_call 35; refine (l1Bare_any _ _).mono ?_; rintro e w' ⟨rfl, rfl⟩; rw [hb])
                    | (go_at_call 36; refine (l1Hex_byte _ _).mono ?_; rintro e w' ⟨rfl, rfl⟩))
                  go_ret3
                  exact ⟨Mill.ret_val HV.out.symm, hbw⟩
              · have HV : Hid (Mill.unqVal s at' = .tuple #[.string ⟨#[]⟩, .int .i64 (at' : Int), .bool false]) := by
                  rw [if_neg (by intro h; exact hA0 h.1)] at hu
                  rw [Hid, Mill.unqVal, ← hu]
                clear hu n34 e92
                go_wp2_with (first
                  | (go_at_call 35; refine (l1Bare_any _ _).mono ?_; rintro e w' ⟨rfl, rfl⟩; rw [hb])
                  | (go_at_call 36; refine (l1Hex_byte _ _).mono ?_; rintro e w' ⟨rfl, rfl⟩))
                go_ret3
                exact ⟨Mill.ret_val HV.out.symm, hbw⟩
            · have HV : Hid (Mill.unqVal s at' = .tuple #[.string ⟨#[]⟩, .int .i64 (at' : Int), .bool false]) := by
                rw [Mill.unq_short _ _ (by simp; omega)] at hu
                rw [Hid, Mill.unqVal, ← hu]
              clear hu n34 e92
              go_wp2_with (go_at_call 35; refine (l1Bare_any _ _).mono ?_; rintro e w' ⟨rfl, rfl⟩; rw [hb])
              go_ret3
              exact ⟨Mill.ret_val HV.out.symm, hbw⟩
    · have HV : Hid (Mill.unqVal s at' = .tuple #[.string ⟨#[]⟩, .int .i64 (at' : Int), .bool false]) := by
        rw [List.drop_of_length_le (by simp; omega)] at hu
        rw [Hid, Mill.unqVal, ← hu]; rfl
      clear hu
      go_wp2
      go_ret3
      exact ⟨Mill.ret_val HV.out.symm, hbw⟩

end Go.Proofs.YticjcabnnjhbgaaDoor
