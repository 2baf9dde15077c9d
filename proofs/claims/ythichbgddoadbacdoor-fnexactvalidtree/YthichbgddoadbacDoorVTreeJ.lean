import Derived.Test.YthichbgddoadbacDoorVTreeI
namespace Go.Proofs.YthichbgddoadbacDoor
open Go.RowKit

inductive Mill.Tr where
  | node : Mill.Nd → List Mill.Tr → Mill.Tr
def Mill.Tr.nd : Mill.Tr → Mill.Nd
  | .node d _ => d
def Mill.Tr.kids : Mill.Tr → List Mill.Tr
  | .node _ ks => ks
mutual
def Mill.Tr.high : Mill.Tr → Nat
  | .node _ ks => Mill.Tr.highs ks
def Mill.Tr.highs : List Mill.Tr → Nat
  | [] => 0
  | t :: r => max (Mill.Tr.high t + 1) (Mill.Tr.highs r)
end
def Mill.ty (k : Int) : TypeId := if k = 1 then 137 else if k = 2 then 139 else if k = 3 then 141 else if k = 4 then 143 else if k = 5 then 145 else if k = 6 then 147 else if k = 7 then 149 else if k = 8 then 154 else if k = 9 then 156 else if k = 10 then 158 else if k = 11 then 159 else if k = 12 then 171 else if k = 13 then 173 else if k = 14 then 161 else if k = 15 then 162 else if k = 16 then 164 else if k = 17 then 166 else if k = 18 then 168 else if k = 19 then 169 else if k = 20 then 175 else if k = 21 then 126 else if k = 22 then 128 else if k = 23 then 179 else 63

theorem Mill.kind24 (k : Int) (h1 : 1 ≤ k) (h2 : k ≤ 24) : k = 1 ∨ k = 2 ∨ k = 3 ∨ k = 4 ∨ k = 5 ∨ k = 6 ∨ k = 7 ∨ k = 8 ∨ k = 9 ∨ k = 10 ∨ k = 11 ∨ k = 12 ∨ k = 13 ∨ k = 14 ∨ k = 15 ∨ k = 16 ∨ k = 17 ∨ k = 18 ∨ k = 19 ∨ k = 20 ∨ k = 21 ∨ k = 22 ∨ k = 23 ∨ k = 24 := by omega

theorem Tryd.ta_intNode (t : TypeId) (x : Value) (w : World) : (Instr.typeAssert (.iface t x) 98 137 true).run Tryd.prog w = .ok (if t = 137 then .tuple #[x, .bool true] else .tuple #[.agg #[.int .i64 0, .int .i64 0], .bool false]) w := by
  have z : (do pure (Value.tuple #[← zeroValue 137, .bool false]) : Sem Value).run Tryd.prog w = .ok (.tuple #[.agg #[.int .i64 0, .int .i64 0], .bool false]) w := by kernel_rfl
  have e : (Instr.typeAssert (.iface t x) 98 137 true).run Tryd.prog w = (if t = 137 then (pure (Value.tuple #[x, .bool true]) : Sem Value) else (do pure (Value.tuple #[← zeroValue 137, .bool false]))).run Tryd.prog w := by kernel_rfl
  rw [e]
  by_cases h : t = 137
  · rw [if_pos h, if_pos h]; rfl
  · rw [if_neg h, if_neg h]; exact z
theorem Tryd.ta_textNode (t : TypeId) (x : Value) (w : World) : (Instr.typeAssert (.iface t x) 98 139 true).run Tryd.prog w = .ok (if t = 139 then .tuple #[x, .bool true] else .tuple #[.agg #[.string ByteArray.empty], .bool false]) w := by
  have z : (do pure (Value.tuple #[← zeroValue 139, .bool false]) : Sem Value).run Tryd.prog w = .ok (.tuple #[.agg #[.string ByteArray.empty], .bool false]) w := by kernel_rfl
  have e : (Instr.typeAssert (.iface t x) 98 139 true).run Tryd.prog w = (if t = 139 then (pure (Value.tuple #[x, .bool true]) : Sem Value) else (do pure (Value.tuple #[← zeroValue 139, .bool false]))).run Tryd.prog w := by kernel_rfl
  rw [e]
  by_cases h : t = 139
  · rw [if_pos h, if_pos h]; rfl
  · rw [if_neg h, if_neg h]; exact z
theorem Tryd.ta_boolNode (t : TypeId) (x : Value) (w : World) : (Instr.typeAssert (.iface t x) 98 141 true).run Tryd.prog w = .ok (if t = 141 then .tuple #[x, .bool true] else .tuple #[.agg #[.bool false], .bool false]) w := by
  have z : (do pure (Value.tuple #[← zeroValue 141, .bool false]) : Sem Value).run Tryd.prog w = .ok (.tuple #[.agg #[.bool false], .bool false]) w := by kernel_rfl
  have e : (Instr.typeAssert (.iface t x) 98 141 true).run Tryd.prog w = (if t = 141 then (pure (Value.tuple #[x, .bool true]) : Sem Value) else (do pure (Value.tuple #[← zeroValue 141, .bool false]))).run Tryd.prog w := by kernel_rfl
  rw [e]
  by_cases h : t = 141
  · rw [if_pos h, if_pos h]; rfl
  · rw [if_neg h, if_neg h]; exact z
theorem Tryd.ta_nameNode (t : TypeId) (x : Value) (w : World) : (Instr.typeAssert (.iface t x) 98 143 true).run Tryd.prog w = .ok (if t = 143 then .tuple #[x, .bool true] else .tuple #[.agg #[.string ByteArray.empty], .bool false]) w := by
  have z : (do pure (Value.tuple #[← zeroValue 143, .bool false]) : Sem Value).run Tryd.prog w = .ok (.tuple #[.agg #[.string ByteArray.empty], .bool false]) w := by kernel_rfl
  have e : (Instr.typeAssert (.iface t x) 98 143 true).run Tryd.prog w = (if t = 143 then (pure (Value.tuple #[x, .bool true]) : Sem Value) else (do pure (Value.tuple #[← zeroValue 143, .bool false]))).run Tryd.prog w := by kernel_rfl
  rw [e]
  by_cases h : t = 143
  · rw [if_pos h, if_pos h]; rfl
  · rw [if_neg h, if_neg h]; exact z
theorem Tryd.ta_unNode (t : TypeId) (x : Value) (w : World) : (Instr.typeAssert (.iface t x) 98 145 true).run Tryd.prog w = .ok (if t = 145 then .tuple #[x, .bool true] else .tuple #[.agg #[.int .i64 0, .nilIface], .bool false]) w := by
  have z : (do pure (Value.tuple #[← zeroValue 145, .bool false]) : Sem Value).run Tryd.prog w = .ok (.tuple #[.agg #[.int .i64 0, .nilIface], .bool false]) w := by kernel_rfl
  have e : (Instr.typeAssert (.iface t x) 98 145 true).run Tryd.prog w = (if t = 145 then (pure (Value.tuple #[x, .bool true]) : Sem Value) else (do pure (Value.tuple #[← zeroValue 145, .bool false]))).run Tryd.prog w := by kernel_rfl
  rw [e]
  by_cases h : t = 145
  · rw [if_pos h, if_pos h]; rfl
  · rw [if_neg h, if_neg h]; exact z
theorem Tryd.ta_binNode (t : TypeId) (x : Value) (w : World) : (Instr.typeAssert (.iface t x) 98 147 true).run Tryd.prog w = .ok (if t = 147 then .tuple #[x, .bool true] else .tuple #[.agg #[.int .i64 0, .nilIface, .nilIface], .bool false]) w := by
  have z : (do pure (Value.tuple #[← zeroValue 147, .bool false]) : Sem Value).run Tryd.prog w = .ok (.tuple #[.agg #[.int .i64 0, .nilIface, .nilIface], .bool false]) w := by kernel_rfl
  have e : (Instr.typeAssert (.iface t x) 98 147 true).run Tryd.prog w = (if t = 147 then (pure (Value.tuple #[x, .bool true]) : Sem Value) else (do pure (Value.tuple #[← zeroValue 147, .bool false]))).run Tryd.prog w := by kernel_rfl
  rw [e]
  by_cases h : t = 147
  · rw [if_pos h, if_pos h]; rfl
  · rw [if_neg h, if_neg h]; exact z
theorem Tryd.ta_callNode (t : TypeId) (x : Value) (w : World) : (Instr.typeAssert (.iface t x) 98 149 true).run Tryd.prog w = .ok (if t = 149 then .tuple #[x, .bool true] else .tuple #[.agg #[.string ByteArray.empty, .slice none 0 0], .bool false]) w := by
  have z : (do pure (Value.tuple #[← zeroValue 149, .bool false]) : Sem Value).run Tryd.prog w = .ok (.tuple #[.agg #[.string ByteArray.empty, .slice none 0 0], .bool false]) w := by kernel_rfl
  have e : (Instr.typeAssert (.iface t x) 98 149 true).run Tryd.prog w = (if t = 149 then (pure (Value.tuple #[x, .bool true]) : Sem Value) else (do pure (Value.tuple #[← zeroValue 149, .bool false]))).run Tryd.prog w := by kernel_rfl
  rw [e]
  by_cases h : t = 149
  · rw [if_pos h, if_pos h]; rfl
  · rw [if_neg h, if_neg h]; exact z
theorem Tryd.ta_builtNode (t : TypeId) (x : Value) (w : World) : (Instr.typeAssert (.iface t x) 98 154 true).run Tryd.prog w = .ok (if t = 154 then .tuple #[x, .bool true] else .tuple #[.agg #[.int .i64 0, .slice none 0 0], .bool false]) w := by
  have z : (do pure (Value.tuple #[← zeroValue 154, .bool false]) : Sem Value).run Tryd.prog w = .ok (.tuple #[.agg #[.int .i64 0, .slice none 0 0], .bool false]) w := by kernel_rfl
  have e : (Instr.typeAssert (.iface t x) 98 154 true).run Tryd.prog w = (if t = 154 then (pure (Value.tuple #[x, .bool true]) : Sem Value) else (do pure (Value.tuple #[← zeroValue 154, .bool false]))).run Tryd.prog w := by kernel_rfl
  rw [e]
  by_cases h : t = 154
  · rw [if_pos h, if_pos h]; rfl
  · rw [if_neg h, if_neg h]; exact z
theorem Tryd.ta_convNode (t : TypeId) (x : Value) (w : World) : (Instr.typeAssert (.iface t x) 98 156 true).run Tryd.prog w = .ok (if t = 156 then .tuple #[x, .bool true] else .tuple #[.agg #[.int .i64 0, .nilIface], .bool false]) w := by
  have z : (do pure (Value.tuple #[← zeroValue 156, .bool false]) : Sem Value).run Tryd.prog w = .ok (.tuple #[.agg #[.int .i64 0, .nilIface], .bool false]) w := by kernel_rfl
  have e : (Instr.typeAssert (.iface t x) 98 156 true).run Tryd.prog w = (if t = 156 then (pure (Value.tuple #[x, .bool true]) : Sem Value) else (do pure (Value.tuple #[← zeroValue 156, .bool false]))).run Tryd.prog w := by kernel_rfl
  rw [e]
  by_cases h : t = 156
  · rw [if_pos h, if_pos h]; rfl
  · rw [if_neg h, if_neg h]; exact z
theorem Tryd.ta_letNode (t : TypeId) (x : Value) (w : World) : (Instr.typeAssert (.iface t x) 98 158 true).run Tryd.prog w = .ok (if t = 158 then .tuple #[x, .bool true] else .tuple #[.agg #[.string ByteArray.empty, .nilIface], .bool false]) w := by
  have z : (do pure (Value.tuple #[← zeroValue 158, .bool false]) : Sem Value).run Tryd.prog w = .ok (.tuple #[.agg #[.string ByteArray.empty, .nilIface], .bool false]) w := by kernel_rfl
  have e : (Instr.typeAssert (.iface t x) 98 158 true).run Tryd.prog w = (if t = 158 then (pure (Value.tuple #[x, .bool true]) : Sem Value) else (do pure (Value.tuple #[← zeroValue 158, .bool false]))).run Tryd.prog w := by kernel_rfl
  rw [e]
  by_cases h : t = 158
  · rw [if_pos h, if_pos h]; rfl
  · rw [if_neg h, if_neg h]; exact z
theorem Tryd.ta_setNode (t : TypeId) (x : Value) (w : World) : (Instr.typeAssert (.iface t x) 98 159 true).run Tryd.prog w = .ok (if t = 159 then .tuple #[x, .bool true] else .tuple #[.agg #[.string ByteArray.empty, .nilIface], .bool false]) w := by
  have z : (do pure (Value.tuple #[← zeroValue 159, .bool false]) : Sem Value).run Tryd.prog w = .ok (.tuple #[.agg #[.string ByteArray.empty, .nilIface], .bool false]) w := by kernel_rfl
  have e : (Instr.typeAssert (.iface t x) 98 159 true).run Tryd.prog w = (if t = 159 then (pure (Value.tuple #[x, .bool true]) : Sem Value) else (do pure (Value.tuple #[← zeroValue 159, .bool false]))).run Tryd.prog w := by kernel_rfl
  rw [e]
  by_cases h : t = 159
  · rw [if_pos h, if_pos h]; rfl
  · rw [if_neg h, if_neg h]; exact z
theorem Tryd.ta_ifNode (t : TypeId) (x : Value) (w : World) : (Instr.typeAssert (.iface t x) 98 171 true).run Tryd.prog w = .ok (if t = 171 then .tuple #[x, .bool true] else .tuple #[.agg #[.nilIface, .slice none 0 0, .nilIface], .bool false]) w := by
  have z : (do pure (Value.tuple #[← zeroValue 171, .bool false]) : Sem Value).run Tryd.prog w = .ok (.tuple #[.agg #[.nilIface, .slice none 0 0, .nilIface], .bool false]) w := by kernel_rfl
  have e : (Instr.typeAssert (.iface t x) 98 171 true).run Tryd.prog w = (if t = 171 then (pure (Value.tuple #[x, .bool true]) : Sem Value) else (do pure (Value.tuple #[← zeroValue 171, .bool false]))).run Tryd.prog w := by kernel_rfl
  rw [e]
  by_cases h : t = 171
  · rw [if_pos h, if_pos h]; rfl
  · rw [if_neg h, if_neg h]; exact z
theorem Tryd.ta_whileNode (t : TypeId) (x : Value) (w : World) : (Instr.typeAssert (.iface t x) 98 173 true).run Tryd.prog w = .ok (if t = 173 then .tuple #[x, .bool true] else .tuple #[.agg #[.nilIface, .slice none 0 0], .bool false]) w := by
  have z : (do pure (Value.tuple #[← zeroValue 173, .bool false]) : Sem Value).run Tryd.prog w = .ok (.tuple #[.agg #[.nilIface, .slice none 0 0], .bool false]) w := by kernel_rfl
  have e : (Instr.typeAssert (.iface t x) 98 173 true).run Tryd.prog w = (if t = 173 then (pure (Value.tuple #[x, .bool true]) : Sem Value) else (do pure (Value.tuple #[← zeroValue 173, .bool false]))).run Tryd.prog w := by kernel_rfl
  rw [e]
  by_cases h : t = 173
  · rw [if_pos h, if_pos h]; rfl
  · rw [if_neg h, if_neg h]; exact z
theorem Tryd.ta_breakNode (t : TypeId) (x : Value) (w : World) : (Instr.typeAssert (.iface t x) 98 161 true).run Tryd.prog w = .ok (if t = 161 then .tuple #[x, .bool true] else .tuple #[.agg #[], .bool false]) w := by
  have z : (do pure (Value.tuple #[← zeroValue 161, .bool false]) : Sem Value).run Tryd.prog w = .ok (.tuple #[.agg #[], .bool false]) w := by kernel_rfl
  have e : (Instr.typeAssert (.iface t x) 98 161 true).run Tryd.prog w = (if t = 161 then (pure (Value.tuple #[x, .bool true]) : Sem Value) else (do pure (Value.tuple #[← zeroValue 161, .bool false]))).run Tryd.prog w := by kernel_rfl
  rw [e]
  by_cases h : t = 161
  · rw [if_pos h, if_pos h]; rfl
  · rw [if_neg h, if_neg h]; exact z
theorem Tryd.ta_continueNode (t : TypeId) (x : Value) (w : World) : (Instr.typeAssert (.iface t x) 98 162 true).run Tryd.prog w = .ok (if t = 162 then .tuple #[x, .bool true] else .tuple #[.agg #[], .bool false]) w := by
  have z : (do pure (Value.tuple #[← zeroValue 162, .bool false]) : Sem Value).run Tryd.prog w = .ok (.tuple #[.agg #[], .bool false]) w := by kernel_rfl
  have e : (Instr.typeAssert (.iface t x) 98 162 true).run Tryd.prog w = (if t = 162 then (pure (Value.tuple #[x, .bool true]) : Sem Value) else (do pure (Value.tuple #[← zeroValue 162, .bool false]))).run Tryd.prog w := by kernel_rfl
  rw [e]
  by_cases h : t = 162
  · rw [if_pos h, if_pos h]; rfl
  · rw [if_neg h, if_neg h]; exact z
theorem Tryd.ta_returnNode (t : TypeId) (x : Value) (w : World) : (Instr.typeAssert (.iface t x) 98 164 true).run Tryd.prog w = .ok (if t = 164 then .tuple #[x, .bool true] else .tuple #[.agg #[.nilIface], .bool false]) w := by
  have z : (do pure (Value.tuple #[← zeroValue 164, .bool false]) : Sem Value).run Tryd.prog w = .ok (.tuple #[.agg #[.nilIface], .bool false]) w := by kernel_rfl
  have e : (Instr.typeAssert (.iface t x) 98 164 true).run Tryd.prog w = (if t = 164 then (pure (Value.tuple #[x, .bool true]) : Sem Value) else (do pure (Value.tuple #[← zeroValue 164, .bool false]))).run Tryd.prog w := by kernel_rfl
  rw [e]
  by_cases h : t = 164
  · rw [if_pos h, if_pos h]; rfl
  · rw [if_neg h, if_neg h]; exact z
theorem Tryd.ta_failNode (t : TypeId) (x : Value) (w : World) : (Instr.typeAssert (.iface t x) 98 166 true).run Tryd.prog w = .ok (if t = 166 then .tuple #[x, .bool true] else .tuple #[.agg #[.nilIface], .bool false]) w := by
  have z : (do pure (Value.tuple #[← zeroValue 166, .bool false]) : Sem Value).run Tryd.prog w = .ok (.tuple #[.agg #[.nilIface], .bool false]) w := by kernel_rfl
  have e : (Instr.typeAssert (.iface t x) 98 166 true).run Tryd.prog w = (if t = 166 then (pure (Value.tuple #[x, .bool true]) : Sem Value) else (do pure (Value.tuple #[← zeroValue 166, .bool false]))).run Tryd.prog w := by kernel_rfl
  rw [e]
  by_cases h : t = 166
  · rw [if_pos h, if_pos h]; rfl
  · rw [if_neg h, if_neg h]; exact z
theorem Tryd.ta_writeNode (t : TypeId) (x : Value) (w : World) : (Instr.typeAssert (.iface t x) 98 168 true).run Tryd.prog w = .ok (if t = 168 then .tuple #[x, .bool true] else .tuple #[.agg #[.nilIface, .nilIface], .bool false]) w := by
  have z : (do pure (Value.tuple #[← zeroValue 168, .bool false]) : Sem Value).run Tryd.prog w = .ok (.tuple #[.agg #[.nilIface, .nilIface], .bool false]) w := by kernel_rfl
  have e : (Instr.typeAssert (.iface t x) 98 168 true).run Tryd.prog w = (if t = 168 then (pure (Value.tuple #[x, .bool true]) : Sem Value) else (do pure (Value.tuple #[← zeroValue 168, .bool false]))).run Tryd.prog w := by kernel_rfl
  rw [e]
  by_cases h : t = 168
  · rw [if_pos h, if_pos h]; rfl
  · rw [if_neg h, if_neg h]; exact z
theorem Tryd.ta_sayNode (t : TypeId) (x : Value) (w : World) : (Instr.typeAssert (.iface t x) 98 169 true).run Tryd.prog w = .ok (if t = 169 then .tuple #[x, .bool true] else .tuple #[.agg #[.nilIface], .bool false]) w := by
  have z : (do pure (Value.tuple #[← zeroValue 169, .bool false]) : Sem Value).run Tryd.prog w = .ok (.tuple #[.agg #[.nilIface], .bool false]) w := by kernel_rfl
  have e : (Instr.typeAssert (.iface t x) 98 169 true).run Tryd.prog w = (if t = 169 then (pure (Value.tuple #[x, .bool true]) : Sem Value) else (do pure (Value.tuple #[← zeroValue 169, .bool false]))).run Tryd.prog w := by kernel_rfl
  rw [e]
  by_cases h : t = 169
  · rw [if_pos h, if_pos h]; rfl
  · rw [if_neg h, if_neg h]; exact z
theorem Tryd.ta_doNode (t : TypeId) (x : Value) (w : World) : (Instr.typeAssert (.iface t x) 98 175 true).run Tryd.prog w = .ok (if t = 175 then .tuple #[x, .bool true] else .tuple #[.agg #[.string ByteArray.empty, .slice none 0 0], .bool false]) w := by
  have z : (do pure (Value.tuple #[← zeroValue 175, .bool false]) : Sem Value).run Tryd.prog w = .ok (.tuple #[.agg #[.string ByteArray.empty, .slice none 0 0], .bool false]) w := by kernel_rfl
  have e : (Instr.typeAssert (.iface t x) 98 175 true).run Tryd.prog w = (if t = 175 then (pure (Value.tuple #[x, .bool true]) : Sem Value) else (do pure (Value.tuple #[← zeroValue 175, .bool false]))).run Tryd.prog w := by kernel_rfl
  rw [e]
  by_cases h : t = 175
  · rw [if_pos h, if_pos h]; rfl
  · rw [if_neg h, if_neg h]; exact z
theorem Tryd.ta_blockNode (t : TypeId) (x : Value) (w : World) : (Instr.typeAssert (.iface t x) 98 126 true).run Tryd.prog w = .ok (if t = 126 then .tuple #[x, .bool true] else .tuple #[.agg #[.slice none 0 0], .bool false]) w := by
  have z : (do pure (Value.tuple #[← zeroValue 126, .bool false]) : Sem Value).run Tryd.prog w = .ok (.tuple #[.agg #[.slice none 0 0], .bool false]) w := by kernel_rfl
  have e : (Instr.typeAssert (.iface t x) 98 126 true).run Tryd.prog w = (if t = 126 then (pure (Value.tuple #[x, .bool true]) : Sem Value) else (do pure (Value.tuple #[← zeroValue 126, .bool false]))).run Tryd.prog w := by kernel_rfl
  rw [e]
  by_cases h : t = 126
  · rw [if_pos h, if_pos h]; rfl
  · rw [if_neg h, if_neg h]; exact z
theorem Tryd.ta_paramNode (t : TypeId) (x : Value) (w : World) : (Instr.typeAssert (.iface t x) 98 128 true).run Tryd.prog w = .ok (if t = 128 then .tuple #[x, .bool true] else .tuple #[.agg #[.string ByteArray.empty, .int .i64 0], .bool false]) w := by
  have z : (do pure (Value.tuple #[← zeroValue 128, .bool false]) : Sem Value).run Tryd.prog w = .ok (.tuple #[.agg #[.string ByteArray.empty, .int .i64 0], .bool false]) w := by kernel_rfl
  have e : (Instr.typeAssert (.iface t x) 98 128 true).run Tryd.prog w = (if t = 128 then (pure (Value.tuple #[x, .bool true]) : Sem Value) else (do pure (Value.tuple #[← zeroValue 128, .bool false]))).run Tryd.prog w := by kernel_rfl
  rw [e]
  by_cases h : t = 128
  · rw [if_pos h, if_pos h]; rfl
  · rw [if_neg h, if_neg h]; exact z
theorem Tryd.ta_fnNode (t : TypeId) (x : Value) (w : World) : (Instr.typeAssert (.iface t x) 98 179 true).run Tryd.prog w = .ok (if t = 179 then .tuple #[x, .bool true] else .tuple #[.agg #[.string ByteArray.empty, .int .i64 0, .slice none 0 0, .slice none 0 0], .bool false]) w := by
  have z : (do pure (Value.tuple #[← zeroValue 179, .bool false]) : Sem Value).run Tryd.prog w = .ok (.tuple #[.agg #[.string ByteArray.empty, .int .i64 0, .slice none 0 0, .slice none 0 0], .bool false]) w := by kernel_rfl
  have e : (Instr.typeAssert (.iface t x) 98 179 true).run Tryd.prog w = (if t = 179 then (pure (Value.tuple #[x, .bool true]) : Sem Value) else (do pure (Value.tuple #[← zeroValue 179, .bool false]))).run Tryd.prog w := by kernel_rfl
  rw [e]
  by_cases h : t = 179
  · rw [if_pos h, if_pos h]; rfl
  · rw [if_neg h, if_neg h]; exact z
theorem Tryd.ta_programNode (t : TypeId) (x : Value) (w : World) : (Instr.typeAssert (.iface t x) 98 63 true).run Tryd.prog w = .ok (if t = 63 then .tuple #[x, .bool true] else .tuple #[.agg #[.slice none 0 0], .bool false]) w := by
  have z : (do pure (Value.tuple #[← zeroValue 63, .bool false]) : Sem Value).run Tryd.prog w = .ok (.tuple #[.agg #[.slice none 0 0], .bool false]) w := by kernel_rfl
  have e : (Instr.typeAssert (.iface t x) 98 63 true).run Tryd.prog w = (if t = 63 then (pure (Value.tuple #[x, .bool true]) : Sem Value) else (do pure (Value.tuple #[← zeroValue 63, .bool false]))).run Tryd.prog w := by kernel_rfl
  rw [e]
  by_cases h : t = 63
  · rw [if_pos h, if_pos h]; rfl
  · rw [if_neg h, if_neg h]; exact z

set_option maxRecDepth 100000 in
set_option maxHeartbeats 4000000 in
theorem isValue_ty (k : Int) (h1 : 1 ≤ k) (h2 : k ≤ 24) (x : Value) (w : World) :
    Calls Tryd.prog 92 #[.iface (Mill.ty k) x] w fun e w' => e = .returned (.bool (Mill.isE k)) ∧ w = w' := by
  have t0 := Tryd.ta_intNode
  have t1 := Tryd.ta_textNode
  have t2 := Tryd.ta_boolNode
  have t3 := Tryd.ta_nameNode
  have t4 := Tryd.ta_unNode
  have t5 := Tryd.ta_binNode
  have t6 := Tryd.ta_callNode
  have t7 := Tryd.ta_builtNode
  have t8 := Tryd.ta_convNode
  rcases Mill.kind24 k h1 h2 with rfl | rfl | rfl | rfl | rfl | rfl | rfl | rfl | rfl | rfl | rfl | rfl | rfl | rfl | rfl | rfl | rfl | rfl | rfl | rfl | rfl | rfl | rfl | rfl
  all_goals
    simp only [Mill.ty]
    simp (decide := true) only [if_true, if_false]
    go_enter Tryd.func92, Tryd.ntmps92
    go_wp2
    go_ret
    exact ⟨by rfl, rfl⟩

set_option maxRecDepth 100000 in
set_option maxHeartbeats 4000000 in
theorem isStatement_ty (k : Int) (h1 : 1 ≤ k) (h2 : k ≤ 24) (x : Value) (w : World) :
    Calls Tryd.prog 82 #[.iface (Mill.ty k) x] w fun e w' => e = .returned (.bool (Mill.isS k)) ∧ w = w' := by
  have t0 := Tryd.ta_letNode
  have t1 := Tryd.ta_setNode
  have t2 := Tryd.ta_ifNode
  have t3 := Tryd.ta_whileNode
  have t4 := Tryd.ta_breakNode
  have t5 := Tryd.ta_continueNode
  have t6 := Tryd.ta_returnNode
  have t7 := Tryd.ta_failNode
  have t8 := Tryd.ta_writeNode
  have t9 := Tryd.ta_sayNode
  have t10 := Tryd.ta_doNode
  rcases Mill.kind24 k h1 h2 with rfl | rfl | rfl | rfl | rfl | rfl | rfl | rfl | rfl | rfl | rfl | rfl | rfl | rfl | rfl | rfl | rfl | rfl | rfl | rfl | rfl | rfl | rfl | rfl
  all_goals
    simp only [Mill.ty]
    simp (decide := true) only [if_true, if_false]
    go_enter Tryd.func82, Tryd.ntmps82
    go_wp2
    go_ret
    exact ⟨by rfl, rfl⟩

end Go.Proofs.YthichbgddoadbacDoor
