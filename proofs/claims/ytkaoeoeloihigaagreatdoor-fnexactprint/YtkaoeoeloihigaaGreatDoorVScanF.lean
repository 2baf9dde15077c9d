import Derived.Test.YtkaoeoeloihigaaGreatDoorVScanE
import Derived.Lib.UnsafeStr
import Derived.Laws.IdiomStrings
import Derived.Laws.BytesArg
import Derived.Deep.RegionLaw
namespace Go.Proofs.YtkaoeoeloihigaaGreatDoor
open Go.RowKit

theorem Mill.step_append_own {P : Program} {ops : Array Oper} {o : Oper} {a : Act} {w : World} {K : Act → World → Prop} {Q : Exit → Act → World → Prop} {E : Prop}
    (hg : o.guard = none) (s x : Operand) (t : TypeId) (hop : o.op = Op.call { callee := Callee.builtin Builtin.append, args := #[s, x], argTypes := #[t, t] })
    (base : Nat) (e : TypeId) (i : TypeInfo) (z : Value) (size bytes : Nat) (h1 : P.underlying t = some (.slice e)) (h2 : P.info? e = some i) (h3 : i.zero = some z) (h4 : i.size = size) (h5 : i.bytes = bytes) (h6 : z.cells.size = size) (h7 : 0 < size)
    (v : Value) (n : Nat) (xs : List Value) (hs : a.eval s = v) (hown : w.ownsRow base e size v n xs)
    (ad : Addr) (m c : Nat) (news : List Value) (hx : a.eval x = .slice (some ad) m c) (hn : news.length = m * size) (hc : ∀ j u, news[j]? = some u → w.cell? (ad.add j) = some u) (h1c : ∀ u ∈ news, u.oneCell' = true)
    (b1 : n + m ≤ maxLen) (b2 : (n + m) * bytes ≤ 140737488355328) (hbase : base ≤ w.heap.size)
    (hK : ∀ v' w', w'.ownsRow base e size v' (n + m) (xs ++ news) → w.grownBy w' v.ownBlock → K (a.put o.dst v') w') :
    if Region.wanted o (yielded ops a.tmps) = true then Oper.wp P o a w K Q else E := by
  have hw : Region.wanted o (yielded ops a.tmps) = true := by simp [Region.wanted, hg]
  rw [if_pos hw]
  obtain ⟨v', w', hrun, r1, r2, _⟩ := run_append_own (P := P) w base t o.type e i z size bytes h1 h2 h3 h4 h5 h6 h7 v n xs hown ad m c news hn hc h1c b1 b2 hbase
  unfold Oper.wp
  simp [execOp, hop, resolve, invoke, builtin, hs, hx, hrun, Result.andThen]
  exact hK v' w' r1 r2

def Mill.isBare (c : UInt8) : Bool := Mill.bare (c.toNat : Int)
def Mill.hexOf (c : UInt8) : Int := Mill.hex (c.toNat : Int)
def Mill.unq : List UInt8 → List UInt8 → Option (List UInt8 × List UInt8)
  | [], _ => none
  | c :: r, acc => if c = 34 then some (acc, r) else if Mill.isBare c = true then Mill.unq r (acc ++ [c]) else if c = 92 then
      match r with
      | a :: b :: r2 => if 0 ≤ Mill.hexOf a ∧ 0 ≤ Mill.hexOf b then Mill.unq r2 (acc ++ [UInt8.ofNat (16 * Mill.hexOf a + Mill.hexOf b).toNat]) else none
      | _ => none
    else none
def Mill.unqVal (s : ByteArray) (at' : Nat) : Value := match Mill.unq (s.data.toList.drop (at' + 1)) [] with
  | none => .tuple #[.string ⟨#[]⟩, .int .i64 (at' : Int), .bool false]
  | some (t, r) => .tuple #[.string ⟨t.toArray⟩, .int .i64 ((s.size - r.length : Nat) : Int), .bool true]

theorem Mill.conv_own {P : Program} {w : World} {src dst e : TypeId} (hs : P.underlying src = some (.slice e)) (he : P.underlying e = some (.int .u8)) (hd : P.underlying dst = some .string) {B : Nat} {v : Value} {acc : List UInt8}
    (h : w.ownsRow B e 1 v acc.length (Lib.byteCells acc)) : (convert src dst v).run P w = .ok (.string ⟨acc.toArray⟩) w := by
  have hcells := fun g => h.cells (g := g)
  obtain ⟨h1, h2⟩ := h
  rcases h2 with ⟨rfl, h0⟩ | ⟨g, cap, cur, rfl, hg, hh, hn, hcap, hsz, htake⟩
  · have : acc = [] := List.eq_nil_of_length_eq_zero h0
    subst this
    exact run_convert_bytes_nil (P := P) (w := w) src e hs he 0 0 dst hd
  · refine run_convert_bytes_back w src dst e ⟨g, 0, none⟩ cap acc hs he hd ?_
    intro j hj
    exact hcells g rfl j _ (by simp [Lib.byteCells, hj])

theorem Mill.unq_def (c : UInt8) (r acc : List UInt8) : Mill.unq (c :: r) acc = if c = 34 then some (acc, r) else if Mill.isBare c = true then Mill.unq r (acc ++ [c]) else if c = 92 then
      match r with
      | a :: b :: r2 => if 0 ≤ Mill.hexOf a ∧ 0 ≤ Mill.hexOf b then Mill.unq r2 (acc ++ [UInt8.ofNat (16 * Mill.hexOf a + Mill.hexOf b).toNat]) else none
      | _ => none
    else none := by rw [Mill.unq.eq_def]
theorem Mill.unq_quote (r acc : List UInt8) : Mill.unq (34 :: r) acc = some (acc, r) := by rw [Mill.unq_def, if_pos rfl]
theorem Mill.unq_bare (c : UInt8) (r acc : List UInt8) (h : c ≠ 34) (hb : Mill.isBare c = true) : Mill.unq (c :: r) acc = Mill.unq r (acc ++ [c]) := by rw [Mill.unq_def, if_neg h, if_pos hb]
theorem Mill.unq_bad (c : UInt8) (r acc : List UInt8) (h : c ≠ 34) (hb : Mill.isBare c = false) (h9 : c ≠ 92) : Mill.unq (c :: r) acc = none := by rw [Mill.unq_def, if_neg h, if_neg (by simp [hb]), if_neg h9]
theorem Mill.unq_short (r acc : List UInt8) (h : r.length < 2) : Mill.unq (92 :: r) acc = none := by
  rw [Mill.unq_def, if_neg (by decide), if_neg (by decide), if_pos rfl]
  match r, h with
  | [], _ => rfl
  | [a], _ => rfl
theorem Mill.unq_hex (a b : UInt8) (r acc : List UInt8) : Mill.unq (92 :: a :: b :: r) acc = if 0 ≤ Mill.hexOf a ∧ 0 ≤ Mill.hexOf b then Mill.unq r (acc ++ [UInt8.ofNat (16 * Mill.hexOf a + Mill.hexOf b).toNat]) else none := by
  rw [Mill.unq_def, if_neg (by decide), if_neg (by decide), if_pos rfl]
theorem Mill.ret_val {v u : Value} (h : v = u) : Ending.returned v = .returned u := by rw [h]
theorem Mill.hex_bd (b : Int) : -1 ≤ Mill.hex b ∧ Mill.hex b ≤ 15 := by unfold Mill.hex; split <;> (try split) <;> omega
theorem Mill.drop_cons (s : ByteArray) (i : Nat) (h : i < s.size) : s.data.toList.drop i = s[i] :: s.data.toList.drop (i + 1) := by
  rw [List.drop_eq_getElem_cons (by simpa using h)]; rfl
theorem Mill.byte_ne (c d : UInt8) (h : ((c.toNat : Int) == (d.toNat : Int)) = false) : c ≠ d := by
  intro e; subst e; simp at h
theorem Mill.byte_eq (c d : UInt8) (h : ((c.toNat : Int) == (d.toNat : Int)) = true) : c = d := by
  simp at h; exact UInt8.toNat_inj.1 (by omega)
theorem Mill.byteCells_snoc (acc : List UInt8) (c : UInt8) : Lib.byteCells (acc ++ [c]) = Lib.byteCells acc ++ [.int .u8 (c.toNat : Int)] := by simp [Lib.byteCells]

theorem Mill.ofNat_toNat (x : Int) (h0 : 0 ≤ x) (h1 : x ≤ 255) : ((UInt8.ofNat x.toNat).toNat : Int) = x := by
  simp; omega

theorem Tryz.infoByte : (Tryz.prog.info? 5).map (fun i => (i.zero, i.size, i.bytes)) = some (some (.int .u8 0), 1, 1) := by kernel_rfl

end Go.Proofs.YtkaoeoeloihigaaGreatDoor
