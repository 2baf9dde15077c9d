import Derived.Test.YtkaoeoeloihigaaGreatDoorVTreeI
namespace Go.Proofs.YtkaoeoeloihigaaGreatDoor
open Go.RowKit

inductive Mill.Tr where
  | node : Mill.Nd → List Mill.Tr → Mill.Tr
def Mill.Tr.nd : Mill.Tr → Mill.Nd
  | .node d _ => d
def Mill.Tr.kids : Mill.Tr → List Mill.Tr
  | .node _ ks => ks
mutual
def Mill.Tr.high : Mill.Tr → Nat
  | .node _ ks => Mill.Tr.highs ks
def Mill.Tr.highs : List Mill.Tr → Nat
  | [] => 0
  | t :: r => max (Mill.Tr.high t + 1) (Mill.Tr.highs r)
end
def Mill.ty (k : Int) : TypeId := if k = 1 then 122 else if k = 2 then 124 else if k = 3 then 126 else if k = 4 then 128 else if k = 5 then 130 else if k = 6 then 132 else if k = 7 then 134 else if k = 8 then 139 else if k = 9 then 141 else if k = 10 then 143 else if k = 11 then 144 else if k = 12 then 156 else if k = 13 then 158 else if k = 14 then 146 else if k = 15 then 147 else if k = 16 then 149 else if k = 17 then 151 else if k = 18 then 153 else if k = 19 then 154 else if k = 20 then 160 else if k = 21 then 58 else if k = 22 then 85 else if k = 23 then 60 else 47

theorem Mill.kind24 (k : Int) (h1 : 1 ≤ k) (h2 : k ≤ 24) : k = 1 ∨ k = 2 ∨ k = 3 ∨ k = 4 ∨ k = 5 ∨ k = 6 ∨ k = 7 ∨ k = 8 ∨ k = 9 ∨ k = 10 ∨ k = 11 ∨ k = 12 ∨ k = 13 ∨ k = 14 ∨ k = 15 ∨ k = 16 ∨ k = 17 ∨ k = 18 ∨ k = 19 ∨ k = 20 ∨ k = 21 ∨ k = 22 ∨ k = 23 ∨ k = 24 := by omega

theorem Tryz.ta_intNode (t : TypeId) (x : Value) (w : World) : (Instr.typeAssert (.iface t x) 77 122 true).run Tryz.prog w = .ok (if t = 122 then .tuple #[x, .bool true] else .tuple #[.agg #[.int .i64 0, .int .i64 0], .bool false]) w := by
  have z : (do pure (Value.tuple #[← zeroValue 122, .bool false]) : Sem Value).run Tryz.prog w = .ok (.tuple #[.agg #[.int .i64 0, .int .i64 0], .bool false]) w := by kernel_rfl
  have e : (Instr.typeAssert (.iface t x) 77 122 true).run Tryz.prog w = (if t = 122 then (pure (Value.tuple #[x, .bool true]) : Sem Value) else (do pure (Value.tuple #[← zeroValue 122, .bool false]))).run Tryz.prog w := by kernel_rfl
  rw [e]
  by_cases h : t = 122
  · rw [if_pos h, if_pos h]; rfl
  · rw [if_neg h, if_neg h]; exact z
theorem Tryz.ta_textNode (t : TypeId) (x : Value) (w : World) : (Instr.typeAssert (.iface t x) 77 124 true).run Tryz.prog w = .ok (if t = 124 then .tuple #[x, .bool true] else .tuple #[.agg #[.string ByteArray.empty], .bool false]) w := by
  have z : (do pure (Value.tuple #[← zeroValue 124, .bool false]) : Sem Value).run Tryz.prog w = .ok (.tuple #[.agg #[.string ByteArray.empty], .bool false]) w := by kernel_rfl
  have e : (Instr.typeAssert (.iface t x) 77 124 true).run Tryz.prog w = (if t = 124 then (pure (Value.tuple #[x, .bool true]) : Sem Value) else (do pure (Value.tuple #[← zeroValue 124, .bool false]))).run Tryz.prog w := by kernel_rfl
  rw [e]
  by_cases h : t = 124
  · rw [if_pos h, if_pos h]; rfl
  · rw [if_neg h, if_neg h]; exact z
theorem Tryz.ta_boolNode (t : TypeId) (x : Value) (w : World) : (Instr.typeAssert (.iface t x) 77 126 true).run Tryz.prog w = .ok (if t = 126 then .tuple #[x, .bool true] else .tuple #[.agg #[.bool false], .bool false]) w := by
  have z : (do pure (Value.tuple #[← zeroValue 126, .bool false]) : Sem Value).run Tryz.prog w = .ok (.tuple #[.agg #[.bool false], .bool false]) w := by kernel_rfl
  have e : (Instr.typeAssert (.iface t x) 77 126 true).run Tryz.prog w = (if t = 126 then (pure (Value.tuple #[x, .bool true]) : Sem Value) else (do pure (Value.tuple #[← zeroValue 126, .bool false]))).run Tryz.prog w := by kernel_rfl
  rw [e]
  by_cases h : t = 126
  · rw [if_pos h, if_pos h]; rfl
  · rw [if_neg h, if_neg h]; exact z
theorem Tryz.ta_nameNode (t : TypeId) (x : Value) (w : World) : (Instr.typeAssert (.iface t x) 77 128 true).run Tryz.prog w = .ok (if t = 128 then .tuple #[x, .bool true] else .tuple #[.agg #[.string ByteArray.empty], .bool false]) w := by
  have z : (do pure (Value.tuple #[← zeroValue 128, .bool false]) : Sem Value).run Tryz.prog w = .ok (.tuple #[.agg #[.string ByteArray.empty], .bool false]) w := by kernel_rfl
  have e : (Instr.typeAssert (.iface t x) 77 128 true).run Tryz.prog w = (if t = 128 then (pure (Value.tuple #[x, .bool true]) : Sem Value) else (do pure (Value.tuple #[← zeroValue 128, .bool false]))).run Tryz.prog w := by kernel_rfl
  rw [e]
  by_cases h : t = 128
  · rw [if_pos h, if_pos h]; rfl
  · rw [if_neg h, if_neg h]; exact z
theorem Tryz.ta_unNode (t : TypeId) (x : Value) (w : World) : (Instr.typeAssert (.iface t x) 77 130 true).run Tryz.prog w = .ok (if t = 130 then .tuple #[x, .bool true] else .tuple #[.agg #[.int .i64 0, .nilIface], .bool false]) w := by
  have z : (do pure (Value.tuple #[← zeroValue 130, .bool false]) : Sem Value).run Tryz.prog w = .ok (.tuple #[.agg #[.int .i64 0, .nilIface], .bool false]) w := by kernel_rfl
  have e : (Instr.typeAssert (.iface t x) 77 130 true).run Tryz.prog w = (if t = 130 then (pure (Value.tuple #[x, .bool true]) : Sem Value) else (do pure (Value.tuple #[← zeroValue 130, .bool false]))).run Tryz.prog w := by kernel_rfl
  rw [e]
  by_cases h : t = 130
  · rw [if_pos h, if_pos h]; rfl
  · rw [if_neg h, if_neg h]; exact z
theorem Tryz.ta_binNode (t : TypeId) (x : Value) (w : World) : (Instr.typeAssert (.iface t x) 77 132 true).run Tryz.prog w = .ok (if t = 132 then .tuple #[x, .bool true] else .tuple #[.agg #[.int .i64 0, .nilIface, .nilIface], .bool false]) w := by
  have z : (do pure (Value.tuple #[← zeroValue 132, .bool false]) : Sem Value).run Tryz.prog w = .ok (.tuple #[.agg #[.int .i64 0, .nilIface, .nilIface], .bool false]) w := by kernel_rfl
  have e : (Instr.typeAssert (.iface t x) 77 132 true).run Tryz.prog w = (if t = 132 then (pure (Value.tuple #[x, .bool true]) : Sem Value) else (do pure (Value.tuple #[← zeroValue 132, .bool false]))).run Tryz.prog w := by kernel_rfl
  rw [e]
  by_cases h : t = 132
  · rw [if_pos h, if_pos h]; rfl
  · rw [if_neg h, if_neg h]; exact z
theorem Tryz.ta_callNode (t : TypeId) (x : Value) (w : World) : (Instr.typeAssert (.iface t x) 77 134 true).run Tryz.prog w = .ok (if t = 134 then .tuple #[x, .bool true] else .tuple #[.agg #[.string ByteArray.empty, .slice none 0 0], .bool false]) w := by
  have z : (do pure (Value.tuple #[← zeroValue 134, .bool false]) : Sem Value).run Tryz.prog w = .ok (.tuple #[.agg #[.string ByteArray.empty, .slice none 0 0], .bool false]) w := by kernel_rfl
  have e : (Instr.typeAssert (.iface t x) 77 134 true).run Tryz.prog w = (if t = 134 then (pure (Value.tuple #[x, .bool true]) : Sem Value) else (do pure (Value.tuple #[← zeroValue 134, .bool false]))).run Tryz.prog w := by kernel_rfl
  rw [e]
  by_cases h : t = 134
  · rw [if_pos h, if_pos h]; rfl
  · rw [if_neg h, if_neg h]; exact z
theorem Tryz.ta_builtNode (t : TypeId) (x : Value) (w : World) : (Instr.typeAssert (.iface t x) 77 139 true).run Tryz.prog w = .ok (if t = 139 then .tuple #[x, .bool true] else .tuple #[.agg #[.int .i64 0, .slice none 0 0], .bool false]) w := by
  have z : (do pure (Value.tuple #[← zeroValue 139, .bool false]) : Sem Value).run Tryz.prog w = .ok (.tuple #[.agg #[.int .i64 0, .slice none 0 0], .bool false]) w := by kernel_rfl
  have e : (Instr.typeAssert (.iface t x) 77 139 true).run Tryz.prog w = (if t = 139 then (pure (Value.tuple #[x, .bool true]) : Sem Value) else (do pure (Value.tuple #[← zeroValue 139, .bool false]))).run Tryz.prog w := by kernel_rfl
  rw [e]
  by_cases h : t = 139
  · rw [if_pos h, if_pos h]; rfl
  · rw [if_neg h, if_neg h]; exact z
theorem Tryz.ta_convNode (t : TypeId) (x : Value) (w : World) : (Instr.typeAssert (.iface t x) 77 141 true).run Tryz.prog w = .ok (if t = 141 then .tuple #[x, .bool true] else .tuple #[.agg #[.int .i64 0, .nilIface], .bool false]) w := by
  have z : (do pure (Value.tuple #[← zeroValue 141, .bool false]) : Sem Value).run Tryz.prog w = .ok (.tuple #[.agg #[.int .i64 0, .nilIface], .bool false]) w := by kernel_rfl
  have e : (Instr.typeAssert (.iface t x) 77 141 true).run Tryz.prog w = (if t = 141 then (pure (Value.tuple #[x, .bool true]) : Sem Value) else (do pure (Value.tuple #[← zeroValue 141, .bool false]))).run Tryz.prog w := by kernel_rfl
  rw [e]
  by_cases h : t = 141
  · rw [if_pos h, if_pos h]; rfl
  · rw [if_neg h, if_neg h]; exact z
theorem Tryz.ta_letNode (t : TypeId) (x : Value) (w : World) : (Instr.typeAssert (.iface t x) 77 143 true).run Tryz.prog w = .ok (if t = 143 then .tuple #[x, .bool true] else .tuple #[.agg #[.string ByteArray.empty, .nilIface], .bool false]) w := by
  have z : (do pure (Value.tuple #[← zeroValue 143, .bool false]) : Sem Value).run Tryz.prog w = .ok (.tuple #[.agg #[.string ByteArray.empty, .nilIface], .bool false]) w := by kernel_rfl
  have e : (Instr.typeAssert (.iface t x) 77 143 true).run Tryz.prog w = (if t = 143 then (pure (Value.tuple #[x, .bool true]) : Sem Value) else (do pure (Value.tuple #[← zeroValue 143, .bool false]))).run Tryz.prog w := by kernel_rfl
  rw [e]
  by_cases h : t = 143
  · rw [if_pos h, if_pos h]; rfl
  · rw [if_neg h, if_neg h]; exact z
theorem Tryz.ta_setNode (t : TypeId) (x : Value) (w : World) : (Instr.typeAssert (.iface t x) 77 144 true).run Tryz.prog w = .ok (if t = 144 then .tuple #[x, .bool true] else .tuple #[.agg #[.string ByteArray.empty, .nilIface], .bool false]) w := by
  have z : (do pure (Value.tuple #[← zeroValue 144, .bool false]) : Sem Value).run Tryz.prog w = .ok (.tuple #[.agg #[.string ByteArray.empty, .nilIface], .bool false]) w := by kernel_rfl
  have e : (Instr.typeAssert (.iface t x) 77 144 true).run Tryz.prog w = (if t = 144 then (pure (Value.tuple #[x, .bool true]) : Sem Value) else (do pure (Value.tuple #[← zeroValue 144, .bool false]))).run Tryz.prog w := by kernel_rfl
  rw [e]
  by_cases h : t = 144
  · rw [if_pos h, if_pos h]; rfl
  · rw [if_neg h, if_neg h]; exact z
theorem Tryz.ta_ifNode (t : TypeId) (x : Value) (w : World) : (Instr.typeAssert (.iface t x) 77 156 true).run Tryz.prog w = .ok (if t = 156 then .tuple #[x, .bool true] else .tuple #[.agg #[.nilIface, .slice none 0 0, .nilIface], .bool false]) w := by
  have z : (do pure (Value.tuple #[← zeroValue 156, .bool false]) : Sem Value).run Tryz.prog w = .ok (.tuple #[.agg #[.nilIface, .slice none 0 0, .nilIface], .bool false]) w := by kernel_rfl
  have e : (Instr.typeAssert (.iface t x) 77 156 true).run Tryz.prog w = (if t = 156 then (pure (Value.tuple #[x, .bool true]) : Sem Value) else (do pure (Value.tuple #[← zeroValue 156, .bool false]))).run Tryz.prog w := by kernel_rfl
  rw [e]
  by_cases h : t = 156
  · rw [if_pos h, if_pos h]; rfl
  · rw [if_neg h, if_neg h]; exact z
theorem Tryz.ta_whileNode (t : TypeId) (x : Value) (w : World) : (Instr.typeAssert (.iface t x) 77 158 true).run Tryz.prog w = .ok (if t = 158 then .tuple #[x, .bool true] else .tuple #[.agg #[.nilIface, .slice none 0 0], .bool false]) w := by
  have z : (do pure (Value.tuple #[← zeroValue 158, .bool false]) : Sem Value).run Tryz.prog w = .ok (.tuple #[.agg #[.nilIface, .slice none 0 0], .bool false]) w := by kernel_rfl
  have e : (Instr.typeAssert (.iface t x) 77 158 true).run Tryz.prog w = (if t = 158 then (pure (Value.tuple #[x, .bool true]) : Sem Value) else (do pure (Value.tuple #[← zeroValue 158, .bool false]))).run Tryz.prog w := by kernel_rfl
  rw [e]
  by_cases h : t = 158
  · rw [if_pos h, if_pos h]; rfl
  · rw [if_neg h, if_neg h]; exact z
theorem Tryz.ta_breakNode (t : TypeId) (x : Value) (w : World) : (Instr.typeAssert (.iface t x) 77 146 true).run Tryz.prog w = .ok (if t = 146 then .tuple #[x, .bool true] else .tuple #[.agg #[], .bool false]) w := by
  have z : (do pure (Value.tuple #[← zeroValue 146, .bool false]) : Sem Value).run Tryz.prog w = .ok (.tuple #[.agg #[], .bool false]) w := by kernel_rfl
  have e : (Instr.typeAssert (.iface t x) 77 146 true).run Tryz.prog w = (if t = 146 then (pure (Value.tuple #[x, .bool true]) : Sem Value) else (do pure (Value.tuple #[← zeroValue 146, .bool false]))).run Tryz.prog w := by kernel_rfl
  rw [e]
  by_cases h : t = 146
  · rw [if_pos h, if_pos h]; rfl
  · rw [if_neg h, if_neg h]; exact z
theorem Tryz.ta_continueNode (t : TypeId) (x : Value) (w : World) : (Instr.typeAssert (.iface t x) 77 147 true).run Tryz.prog w = .ok (if t = 147 then .tuple #[x, .bool true] else .tuple #[.agg #[], .bool false]) w := by
  have z : (do pure (Value.tuple #[← zeroValue 147, .bool false]) : Sem Value).run Tryz.prog w = .ok (.tuple #[.agg #[], .bool false]) w := by kernel_rfl
  have e : (Instr.typeAssert (.iface t x) 77 147 true).run Tryz.prog w = (if t = 147 then (pure (Value.tuple #[x, .bool true]) : Sem Value) else (do pure (Value.tuple #[← zeroValue 147, .bool false]))).run Tryz.prog w := by kernel_rfl
  rw [e]
  by_cases h : t = 147
  · rw [if_pos h, if_pos h]; rfl
  · rw [if_neg h, if_neg h]; exact z
theorem Tryz.ta_returnNode (t : TypeId) (x : Value) (w : World) : (Instr.typeAssert (.iface t x) 77 149 true).run Tryz.prog w = .ok (if t = 149 then .tuple #[x, .bool true] else .tuple #[.agg #[.nilIface], .bool false]) w := by
  have z : (do pure (Value.tuple #[← zeroValue 149, .bool false]) : Sem Value).run Tryz.prog w = .ok (.tuple #[.agg #[.nilIface], .bool false]) w := by kernel_rfl
  have e : (Instr.typeAssert (.iface t x) 77 149 true).run Tryz.prog w = (if t = 149 then (pure (Value.tuple #[x, .bool true]) : Sem Value) else (do pure (Value.tuple #[← zeroValue 149, .bool false]))).run Tryz.prog w := by kernel_rfl
  rw [e]
  by_cases h : t = 149
  · rw [if_pos h, if_pos h]; rfl
  · rw [if_neg h, if_neg h]; exact z
theorem Tryz.ta_failNode (t : TypeId) (x : Value) (w : World) : (Instr.typeAssert (.iface t x) 77 151 true).run Tryz.prog w = .ok (if t = 151 then .tuple #[x, .bool true] else .tuple #[.agg #[.nilIface], .bool false]) w := by
  have z : (do pure (Value.tuple #[← zeroValue 151, .bool false]) : Sem Value).run Tryz.prog w = .ok (.tuple #[.agg #[.nilIface], .bool false]) w := by kernel_rfl
  have e : (Instr.typeAssert (.iface t x) 77 151 true).run Tryz.prog w = (if t = 151 then (pure (Value.tuple #[x, .bool true]) : Sem Value) else (do pure (Value.tuple #[← zeroValue 151, .bool false]))).run Tryz.prog w := by kernel_rfl
  rw [e]
  by_cases h : t = 151
  · rw [if_pos h, if_pos h]; rfl
  · rw [if_neg h, if_neg h]; exact z
theorem Tryz.ta_writeNode (t : TypeId) (x : Value) (w : World) : (Instr.typeAssert (.iface t x) 77 153 true).run Tryz.prog w = .ok (if t = 153 then .tuple #[x, .bool true] else .tuple #[.agg #[.nilIface, .nilIface], .bool false]) w := by
  have z : (do pure (Value.tuple #[← zeroValue 153, .bool false]) : Sem Value).run Tryz.prog w = .ok (.tuple #[.agg #[.nilIface, .nilIface], .bool false]) w := by kernel_rfl
  have e : (Instr.typeAssert (.iface t x) 77 153 true).run Tryz.prog w = (if t = 153 then (pure (Value.tuple #[x, .bool true]) : Sem Value) else (do pure (Value.tuple #[← zeroValue 153, .bool false]))).run Tryz.prog w := by kernel_rfl
  rw [e]
  by_cases h : t = 153
  · rw [if_pos h, if_pos h]; rfl
  · rw [if_neg h, if_neg h]; exact z
theorem Tryz.ta_sayNode (t : TypeId) (x : Value) (w : World) : (Instr.typeAssert (.iface t x) 77 154 true).run Tryz.prog w = .ok (if t = 154 then .tuple #[x, .bool true] else .tuple #[.agg #[.nilIface], .bool false]) w := by
  have z : (do pure (Value.tuple #[← zeroValue 154, .bool false]) : Sem Value).run Tryz.prog w = .ok (.tuple #[.agg #[.nilIface], .bool false]) w := by kernel_rfl
  have e : (Instr.typeAssert (.iface t x) 77 154 true).run Tryz.prog w = (if t = 154 then (pure (Value.tuple #[x, .bool true]) : Sem Value) else (do pure (Value.tuple #[← zeroValue 154, .bool false]))).run Tryz.prog w := by kernel_rfl
  rw [e]
  by_cases h : t = 154
  · rw [if_pos h, if_pos h]; rfl
  · rw [if_neg h, if_neg h]; exact z
theorem Tryz.ta_doNode (t : TypeId) (x : Value) (w : World) : (Instr.typeAssert (.iface t x) 77 160 true).run Tryz.prog w = .ok (if t = 160 then .tuple #[x, .bool true] else .tuple #[.agg #[.string ByteArray.empty, .slice none 0 0], .bool false]) w := by
  have z : (do pure (Value.tuple #[← zeroValue 160, .bool false]) : Sem Value).run Tryz.prog w = .ok (.tuple #[.agg #[.string ByteArray.empty, .slice none 0 0], .bool false]) w := by kernel_rfl
  have e : (Instr.typeAssert (.iface t x) 77 160 true).run Tryz.prog w = (if t = 160 then (pure (Value.tuple #[x, .bool true]) : Sem Value) else (do pure (Value.tuple #[← zeroValue 160, .bool false]))).run Tryz.prog w := by kernel_rfl
  rw [e]
  by_cases h : t = 160
  · rw [if_pos h, if_pos h]; rfl
  · rw [if_neg h, if_neg h]; exact z
theorem Tryz.ta_blockNode (t : TypeId) (x : Value) (w : World) : (Instr.typeAssert (.iface t x) 77 58 true).run Tryz.prog w = .ok (if t = 58 then .tuple #[x, .bool true] else .tuple #[.agg #[.slice none 0 0], .bool false]) w := by
  have z : (do pure (Value.tuple #[← zeroValue 58, .bool false]) : Sem Value).run Tryz.prog w = .ok (.tuple #[.agg #[.slice none 0 0], .bool false]) w := by kernel_rfl
  have e : (Instr.typeAssert (.iface t x) 77 58 true).run Tryz.prog w = (if t = 58 then (pure (Value.tuple #[x, .bool true]) : Sem Value) else (do pure (Value.tuple #[← zeroValue 58, .bool false]))).run Tryz.prog w := by kernel_rfl
  rw [e]
  by_cases h : t = 58
  · rw [if_pos h, if_pos h]; rfl
  · rw [if_neg h, if_neg h]; exact z
theorem Tryz.ta_paramNode (t : TypeId) (x : Value) (w : World) : (Instr.typeAssert (.iface t x) 77 85 true).run Tryz.prog w = .ok (if t = 85 then .tuple #[x, .bool true] else .tuple #[.agg #[.string ByteArray.empty, .int .i64 0], .bool false]) w := by
  have z : (do pure (Value.tuple #[← zeroValue 85, .bool false]) : Sem Value).run Tryz.prog w = .ok (.tuple #[.agg #[.string ByteArray.empty, .int .i64 0], .bool false]) w := by kernel_rfl
  have e : (Instr.typeAssert (.iface t x) 77 85 true).run Tryz.prog w = (if t = 85 then (pure (Value.tuple #[x, .bool true]) : Sem Value) else (do pure (Value.tuple #[← zeroValue 85, .bool false]))).run Tryz.prog w := by kernel_rfl
  rw [e]
  by_cases h : t = 85
  · rw [if_pos h, if_pos h]; rfl
  · rw [if_neg h, if_neg h]; exact z
theorem Tryz.ta_fnNode (t : TypeId) (x : Value) (w : World) : (Instr.typeAssert (.iface t x) 77 60 true).run Tryz.prog w = .ok (if t = 60 then .tuple #[x, .bool true] else .tuple #[.agg #[.string ByteArray.empty, .int .i64 0, .slice none 0 0, .slice none 0 0], .bool false]) w := by
  have z : (do pure (Value.tuple #[← zeroValue 60, .bool false]) : Sem Value).run Tryz.prog w = .ok (.tuple #[.agg #[.string ByteArray.empty, .int .i64 0, .slice none 0 0, .slice none 0 0], .bool false]) w := by kernel_rfl
  have e : (Instr.typeAssert (.iface t x) 77 60 true).run Tryz.prog w = (if t = 60 then (pure (Value.tuple #[x, .bool true]) : Sem Value) else (do pure (Value.tuple #[← zeroValue 60, .bool false]))).run Tryz.prog w := by kernel_rfl
  rw [e]
  by_cases h : t = 60
  · rw [if_pos h, if_pos h]; rfl
  · rw [if_neg h, if_neg h]; exact z
theorem Tryz.ta_programNode (t : TypeId) (x : Value) (w : World) : (Instr.typeAssert (.iface t x) 77 47 true).run Tryz.prog w = .ok (if t = 47 then .tuple #[x, .bool true] else .tuple #[.agg #[.slice none 0 0], .bool false]) w := by
  have z : (do pure (Value.tuple #[← zeroValue 47, .bool false]) : Sem Value).run Tryz.prog w = .ok (.tuple #[.agg #[.slice none 0 0], .bool false]) w := by kernel_rfl
  have e : (Instr.typeAssert (.iface t x) 77 47 true).run Tryz.prog w = (if t = 47 then (pure (Value.tuple #[x, .bool true]) : Sem Value) else (do pure (Value.tuple #[← zeroValue 47, .bool false]))).run Tryz.prog w := by kernel_rfl
  rw [e]
  by_cases h : t = 47
  · rw [if_pos h, if_pos h]; rfl
  · rw [if_neg h, if_neg h]; exact z

set_option maxRecDepth 100000 in
set_option maxHeartbeats 4000000 in
theorem isValue_ty (k : Int) (h1 : 1 ≤ k) (h2 : k ≤ 24) (x : Value) (w : World) :
    Calls Tryz.prog 67 #[.iface (Mill.ty k) x] w fun e w' => e = .returned (.bool (Mill.isE k)) ∧ w = w' := by
  have t0 := Tryz.ta_intNode
  have t1 := Tryz.ta_textNode
  have t2 := Tryz.ta_boolNode
  have t3 := Tryz.ta_nameNode
  have t4 := Tryz.ta_unNode
  have t5 := Tryz.ta_binNode
  have t6 := Tryz.ta_callNode
  have t7 := Tryz.ta_builtNode
  have t8 := Tryz.ta_convNode
  rcases Mill.kind24 k h1 h2 with rfl | rfl | rfl | rfl | rfl | rfl | rfl | rfl | rfl | rfl | rfl | rfl | rfl | rfl | rfl | rfl | rfl | rfl | rfl | rfl | rfl | rfl | rfl | rfl
  all_goals
    simp only [Mill.ty]
    simp (decide := true) only [if_true, if_false]
    go_enter Tryz.func67, Tryz.ntmps67
    go_wp2
    go_ret
    exact ⟨by rfl, rfl⟩

set_option maxRecDepth 100000 in
set_option maxHeartbeats 4000000 in
theorem isStatement_ty (k : Int) (h1 : 1 ≤ k) (h2 : k ≤ 24) (x : Value) (w : World) :
    Calls Tryz.prog 52 #[.iface (Mill.ty k) x] w fun e w' => e = .returned (.bool (Mill.isS k)) ∧ w = w' := by
  have t0 := Tryz.ta_letNode
  have t1 := Tryz.ta_setNode
  have t2 := Tryz.ta_ifNode
  have t3 := Tryz.ta_whileNode
  have t4 := Tryz.ta_breakNode
  have t5 := Tryz.ta_continueNode
  have t6 := Tryz.ta_returnNode
  have t7 := Tryz.ta_failNode
  have t8 := Tryz.ta_writeNode
  have t9 := Tryz.ta_sayNode
  have t10 := Tryz.ta_doNode
  rcases Mill.kind24 k h1 h2 with rfl | rfl | rfl | rfl | rfl | rfl | rfl | rfl | rfl | rfl | rfl | rfl | rfl | rfl | rfl | rfl | rfl | rfl | rfl | rfl | rfl | rfl | rfl | rfl
  all_goals
    simp only [Mill.ty]
    simp (decide := true) only [if_true, if_false]
    go_enter Tryz.func52, Tryz.ntmps52
    go_wp2
    go_ret
    exact ⟨by rfl, rfl⟩

end Go.Proofs.YtkaoeoeloihigaaGreatDoor
