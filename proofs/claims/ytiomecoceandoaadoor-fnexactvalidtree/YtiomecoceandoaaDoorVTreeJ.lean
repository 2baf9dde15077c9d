import Derived.Test.YtiomecoceandoaaDoorVTreeI
namespace Go.Proofs.YtiomecoceandoaaDoor
open Go.RowKit

inductive Mill.Tr where
  | node : Mill.Nd → List Mill.Tr → Mill.Tr
def Mill.Tr.nd : Mill.Tr → Mill.Nd
  | .node d _ => d
def Mill.Tr.kids : Mill.Tr → List Mill.Tr
  | .node _ ks => ks
mutual
def Mill.Tr.high : Mill.Tr → Nat
  | .node _ ks => Mill.Tr.highs ks
def Mill.Tr.highs : List Mill.Tr → Nat
  | [] => 0
  | t :: r => max (Mill.Tr.high t + 1) (Mill.Tr.highs r)
end
def Mill.ty (k : Int) : TypeId := if k = 1 then 92 else if k = 2 then 94 else if k = 3 then 96 else if k = 4 then 98 else if k = 5 then 100 else if k = 6 then 102 else if k = 7 then 104 else if k = 8 then 109 else if k = 9 then 111 else if k = 10 then 113 else if k = 11 then 114 else if k = 12 then 126 else if k = 13 then 128 else if k = 14 then 116 else if k = 15 then 117 else if k = 16 then 119 else if k = 17 then 121 else if k = 18 then 123 else if k = 19 then 124 else if k = 20 then 130 else if k = 21 then 79 else if k = 22 then 81 else if k = 23 then 134 else 45

theorem Mill.kind24 (k : Int) (h1 : 1 ≤ k) (h2 : k ≤ 24) : k = 1 ∨ k = 2 ∨ k = 3 ∨ k = 4 ∨ k = 5 ∨ k = 6 ∨ k = 7 ∨ k = 8 ∨ k = 9 ∨ k = 10 ∨ k = 11 ∨ k = 12 ∨ k = 13 ∨ k = 14 ∨ k = 15 ∨ k = 16 ∨ k = 17 ∨ k = 18 ∨ k = 19 ∨ k = 20 ∨ k = 21 ∨ k = 22 ∨ k = 23 ∨ k = 24 := by omega

theorem Tryd.ta_intNode (t : TypeId) (x : Value) (w : World) : (Instr.typeAssert (.iface t x) 66 92 true).run Tryd.prog w = .ok (if t = 92 then .tuple #[x, .bool true] else .tuple #[.agg #[.int .i64 0, .int .i64 0], .bool false]) w := by
  have z : (do pure (Value.tuple #[← zeroValue 92, .bool false]) : Sem Value).run Tryd.prog w = .ok (.tuple #[.agg #[.int .i64 0, .int .i64 0], .bool false]) w := by kernel_rfl
  have e : (Instr.typeAssert (.iface t x) 66 92 true).run Tryd.prog w = (if t = 92 then (pure (Value.tuple #[x, .bool true]) : Sem Value) else (do pure (Value.tuple #[← zeroValue 92, .bool false]))).run Tryd.prog w := by kernel_rfl
  rw [e]
  by_cases h : t = 92
  · rw [if_pos h, if_pos h]; rfl
  · rw [if_neg h, if_neg h]; exact z
theorem Tryd.ta_textNode (t : TypeId) (x : Value) (w : World) : (Instr.typeAssert (.iface t x) 66 94 true).run Tryd.prog w = .ok (if t = 94 then .tuple #[x, .bool true] else .tuple #[.agg #[.string ByteArray.empty], .bool false]) w := by
  have z : (do pure (Value.tuple #[← zeroValue 94, .bool false]) : Sem Value).run Tryd.prog w = .ok (.tuple #[.agg #[.string ByteArray.empty], .bool false]) w := by kernel_rfl
  have e : (Instr.typeAssert (.iface t x) 66 94 true).run Tryd.prog w = (if t = 94 then (pure (Value.tuple #[x, .bool true]) : Sem Value) else (do pure (Value.tuple #[← zeroValue 94, .bool false]))).run Tryd.prog w := by kernel_rfl
  rw [e]
  by_cases h : t = 94
  · rw [if_pos h, if_pos h]; rfl
  · rw [if_neg h, if_neg h]; exact z
theorem Tryd.ta_boolNode (t : TypeId) (x : Value) (w : World) : (Instr.typeAssert (.iface t x) 66 96 true).run Tryd.prog w = .ok (if t = 96 then .tuple #[x, .bool true] else .tuple #[.agg #[.bool false], .bool false]) w := by
  have z : (do pure (Value.tuple #[← zeroValue 96, .bool false]) : Sem Value).run Tryd.prog w = .ok (.tuple #[.agg #[.bool false], .bool false]) w := by kernel_rfl
  have e : (Instr.typeAssert (.iface t x) 66 96 true).run Tryd.prog w = (if t = 96 then (pure (Value.tuple #[x, .bool true]) : Sem Value) else (do pure (Value.tuple #[← zeroValue 96, .bool false]))).run Tryd.prog w := by kernel_rfl
  rw [e]
  by_cases h : t = 96
  · rw [if_pos h, if_pos h]; rfl
  · rw [if_neg h, if_neg h]; exact z
theorem Tryd.ta_nameNode (t : TypeId) (x : Value) (w : World) : (Instr.typeAssert (.iface t x) 66 98 true).run Tryd.prog w = .ok (if t = 98 then .tuple #[x, .bool true] else .tuple #[.agg #[.string ByteArray.empty], .bool false]) w := by
  have z : (do pure (Value.tuple #[← zeroValue 98, .bool false]) : Sem Value).run Tryd.prog w = .ok (.tuple #[.agg #[.string ByteArray.empty], .bool false]) w := by kernel_rfl
  have e : (Instr.typeAssert (.iface t x) 66 98 true).run Tryd.prog w = (if t = 98 then (pure (Value.tuple #[x, .bool true]) : Sem Value) else (do pure (Value.tuple #[← zeroValue 98, .bool false]))).run Tryd.prog w := by kernel_rfl
  rw [e]
  by_cases h : t = 98
  · rw [if_pos h, if_pos h]; rfl
  · rw [if_neg h, if_neg h]; exact z
theorem Tryd.ta_unNode (t : TypeId) (x : Value) (w : World) : (Instr.typeAssert (.iface t x) 66 100 true).run Tryd.prog w = .ok (if t = 100 then .tuple #[x, .bool true] else .tuple #[.agg #[.int .i64 0, .nilIface], .bool false]) w := by
  have z : (do pure (Value.tuple #[← zeroValue 100, .bool false]) : Sem Value).run Tryd.prog w = .ok (.tuple #[.agg #[.int .i64 0, .nilIface], .bool false]) w := by kernel_rfl
  have e : (Instr.typeAssert (.iface t x) 66 100 true).run Tryd.prog w = (if t = 100 then (pure (Value.tuple #[x, .bool true]) : Sem Value) else (do pure (Value.tuple #[← zeroValue 100, .bool false]))).run Tryd.prog w := by kernel_rfl
  rw [e]
  by_cases h : t = 100
  · rw [if_pos h, if_pos h]; rfl
  · rw [if_neg h, if_neg h]; exact z
theorem Tryd.ta_binNode (t : TypeId) (x : Value) (w : World) : (Instr.typeAssert (.iface t x) 66 102 true).run Tryd.prog w = .ok (if t = 102 then .tuple #[x, .bool true] else .tuple #[.agg #[.int .i64 0, .nilIface, .nilIface], .bool false]) w := by
  have z : (do pure (Value.tuple #[← zeroValue 102, .bool false]) : Sem Value).run Tryd.prog w = .ok (.tuple #[.agg #[.int .i64 0, .nilIface, .nilIface], .bool false]) w := by kernel_rfl
  have e : (Instr.typeAssert (.iface t x) 66 102 true).run Tryd.prog w = (if t = 102 then (pure (Value.tuple #[x, .bool true]) : Sem Value) else (do pure (Value.tuple #[← zeroValue 102, .bool false]))).run Tryd.prog w := by kernel_rfl
  rw [e]
  by_cases h : t = 102
  · rw [if_pos h, if_pos h]; rfl
  · rw [if_neg h, if_neg h]; exact z
theorem Tryd.ta_callNode (t : TypeId) (x : Value) (w : World) : (Instr.typeAssert (.iface t x) 66 104 true).run Tryd.prog w = .ok (if t = 104 then .tuple #[x, .bool true] else .tuple #[.agg #[.string ByteArray.empty, .slice none 0 0], .bool false]) w := by
  have z : (do pure (Value.tuple #[← zeroValue 104, .bool false]) : Sem Value).run Tryd.prog w = .ok (.tuple #[.agg #[.string ByteArray.empty, .slice none 0 0], .bool false]) w := by kernel_rfl
  have e : (Instr.typeAssert (.iface t x) 66 104 true).run Tryd.prog w = (if t = 104 then (pure (Value.tuple #[x, .bool true]) : Sem Value) else (do pure (Value.tuple #[← zeroValue 104, .bool false]))).run Tryd.prog w := by kernel_rfl
  rw [e]
  by_cases h : t = 104
  · rw [if_pos h, if_pos h]; rfl
  · rw [if_neg h, if_neg h]; exact z
theorem Tryd.ta_builtNode (t : TypeId) (x : Value) (w : World) : (Instr.typeAssert (.iface t x) 66 109 true).run Tryd.prog w = .ok (if t = 109 then .tuple #[x, .bool true] else .tuple #[.agg #[.int .i64 0, .slice none 0 0], .bool false]) w := by
  have z : (do pure (Value.tuple #[← zeroValue 109, .bool false]) : Sem Value).run Tryd.prog w = .ok (.tuple #[.agg #[.int .i64 0, .slice none 0 0], .bool false]) w := by kernel_rfl
  have e : (Instr.typeAssert (.iface t x) 66 109 true).run Tryd.prog w = (if t = 109 then (pure (Value.tuple #[x, .bool true]) : Sem Value) else (do pure (Value.tuple #[← zeroValue 109, .bool false]))).run Tryd.prog w := by kernel_rfl
  rw [e]
  by_cases h : t = 109
  · rw [if_pos h, if_pos h]; rfl
  · rw [if_neg h, if_neg h]; exact z
theorem Tryd.ta_convNode (t : TypeId) (x : Value) (w : World) : (Instr.typeAssert (.iface t x) 66 111 true).run Tryd.prog w = .ok (if t = 111 then .tuple #[x, .bool true] else .tuple #[.agg #[.int .i64 0, .nilIface], .bool false]) w := by
  have z : (do pure (Value.tuple #[← zeroValue 111, .bool false]) : Sem Value).run Tryd.prog w = .ok (.tuple #[.agg #[.int .i64 0, .nilIface], .bool false]) w := by kernel_rfl
  have e : (Instr.typeAssert (.iface t x) 66 111 true).run Tryd.prog w = (if t = 111 then (pure (Value.tuple #[x, .bool true]) : Sem Value) else (do pure (Value.tuple #[← zeroValue 111, .bool false]))).run Tryd.prog w := by kernel_rfl
  rw [e]
  by_cases h : t = 111
  · rw [if_pos h, if_pos h]; rfl
  · rw [if_neg h, if_neg h]; exact z
theorem Tryd.ta_letNode (t : TypeId) (x : Value) (w : World) : (Instr.typeAssert (.iface t x) 66 113 true).run Tryd.prog w = .ok (if t = 113 then .tuple #[x, .bool true] else .tuple #[.agg #[.string ByteArray.empty, .nilIface], .bool false]) w := by
  have z : (do pure (Value.tuple #[← zeroValue 113, .bool false]) : Sem Value).run Tryd.prog w = .ok (.tuple #[.agg #[.string ByteArray.empty, .nilIface], .bool false]) w := by kernel_rfl
  have e : (Instr.typeAssert (.iface t x) 66 113 true).run Tryd.prog w = (if t = 113 then (pure (Value.tuple #[x, .bool true]) : Sem Value) else (do pure (Value.tuple #[← zeroValue 113, .bool false]))).run Tryd.prog w := by kernel_rfl
  rw [e]
  by_cases h : t = 113
  · rw [if_pos h, if_pos h]; rfl
  · rw [if_neg h, if_neg h]; exact z
theorem Tryd.ta_setNode (t : TypeId) (x : Value) (w : World) : (Instr.typeAssert (.iface t x) 66 114 true).run Tryd.prog w = .ok (if t = 114 then .tuple #[x, .bool true] else .tuple #[.agg #[.string ByteArray.empty, .nilIface], .bool false]) w := by
  have z : (do pure (Value.tuple #[← zeroValue 114, .bool false]) : Sem Value).run Tryd.prog w = .ok (.tuple #[.agg #[.string ByteArray.empty, .nilIface], .bool false]) w := by kernel_rfl
  have e : (Instr.typeAssert (.iface t x) 66 114 true).run Tryd.prog w = (if t = 114 then (pure (Value.tuple #[x, .bool true]) : Sem Value) else (do pure (Value.tuple #[← zeroValue 114, .bool false]))).run Tryd.prog w := by kernel_rfl
  rw [e]
  by_cases h : t = 114
  · rw [if_pos h, if_pos h]; rfl
  · rw [if_neg h, if_neg h]; exact z
theorem Tryd.ta_ifNode (t : TypeId) (x : Value) (w : World) : (Instr.typeAssert (.iface t x) 66 126 true).run Tryd.prog w = .ok (if t = 126 then .tuple #[x, .bool true] else .tuple #[.agg #[.nilIface, .slice none 0 0, .nilIface], .bool false]) w := by
  have z : (do pure (Value.tuple #[← zeroValue 126, .bool false]) : Sem Value).run Tryd.prog w = .ok (.tuple #[.agg #[.nilIface, .slice none 0 0, .nilIface], .bool false]) w := by kernel_rfl
  have e : (Instr.typeAssert (.iface t x) 66 126 true).run Tryd.prog w = (if t = 126 then (pure (Value.tuple #[x, .bool true]) : Sem Value) else (do pure (Value.tuple #[← zeroValue 126, .bool false]))).run Tryd.prog w := by kernel_rfl
  rw [e]
  by_cases h : t = 126
  · rw [if_pos h, if_pos h]; rfl
  · rw [if_neg h, if_neg h]; exact z
theorem Tryd.ta_whileNode (t : TypeId) (x : Value) (w : World) : (Instr.typeAssert (.iface t x) 66 128 true).run Tryd.prog w = .ok (if t = 128 then .tuple #[x, .bool true] else .tuple #[.agg #[.nilIface, .slice none 0 0], .bool false]) w := by
  have z : (do pure (Value.tuple #[← zeroValue 128, .bool false]) : Sem Value).run Tryd.prog w = .ok (.tuple #[.agg #[.nilIface, .slice none 0 0], .bool false]) w := by kernel_rfl
  have e : (Instr.typeAssert (.iface t x) 66 128 true).run Tryd.prog w = (if t = 128 then (pure (Value.tuple #[x, .bool true]) : Sem Value) else (do pure (Value.tuple #[← zeroValue 128, .bool false]))).run Tryd.prog w := by kernel_rfl
  rw [e]
  by_cases h : t = 128
  · rw [if_pos h, if_pos h]; rfl
  · rw [if_neg h, if_neg h]; exact z
theorem Tryd.ta_breakNode (t : TypeId) (x : Value) (w : World) : (Instr.typeAssert (.iface t x) 66 116 true).run Tryd.prog w = .ok (if t = 116 then .tuple #[x, .bool true] else .tuple #[.agg #[], .bool false]) w := by
  have z : (do pure (Value.tuple #[← zeroValue 116, .bool false]) : Sem Value).run Tryd.prog w = .ok (.tuple #[.agg #[], .bool false]) w := by kernel_rfl
  have e : (Instr.typeAssert (.iface t x) 66 116 true).run Tryd.prog w = (if t = 116 then (pure (Value.tuple #[x, .bool true]) : Sem Value) else (do pure (Value.tuple #[← zeroValue 116, .bool false]))).run Tryd.prog w := by kernel_rfl
  rw [e]
  by_cases h : t = 116
  · rw [if_pos h, if_pos h]; rfl
  · rw [if_neg h, if_neg h]; exact z
theorem Tryd.ta_continueNode (t : TypeId) (x : Value) (w : World) : (Instr.typeAssert (.iface t x) 66 117 true).run Tryd.prog w = .ok (if t = 117 then .tuple #[x, .bool true] else .tuple #[.agg #[], .bool false]) w := by
  have z : (do pure (Value.tuple #[← zeroValue 117, .bool false]) : Sem Value).run Tryd.prog w = .ok (.tuple #[.agg #[], .bool false]) w := by kernel_rfl
  have e : (Instr.typeAssert (.iface t x) 66 117 true).run Tryd.prog w = (if t = 117 then (pure (Value.tuple #[x, .bool true]) : Sem Value) else (do pure (Value.tuple #[← zeroValue 117, .bool false]))).run Tryd.prog w := by kernel_rfl
  rw [e]
  by_cases h : t = 117
  · rw [if_pos h, if_pos h]; rfl
  · rw [if_neg h, if_neg h]; exact z
theorem Tryd.ta_returnNode (t : TypeId) (x : Value) (w : World) : (Instr.typeAssert (.iface t x) 66 119 true).run Tryd.prog w = .ok (if t = 119 then .tuple #[x, .bool true] else .tuple #[.agg #[.nilIface], .bool false]) w := by
  have z : (do pure (Value.tuple #[← zeroValue 119, .bool false]) : Sem Value).run Tryd.prog w = .ok (.tuple #[.agg #[.nilIface], .bool false]) w := by kernel_rfl
  have e : (Instr.typeAssert (.iface t x) 66 119 true).run Tryd.prog w = (if t = 119 then (pure (Value.tuple #[x, .bool true]) : Sem Value) else (do pure (Value.tuple #[← zeroValue 119, .bool false]))).run Tryd.prog w := by kernel_rfl
  rw [e]
  by_cases h : t = 119
  · rw [if_pos h, if_pos h]; rfl
  · rw [if_neg h, if_neg h]; exact z
theorem Tryd.ta_failNode (t : TypeId) (x : Value) (w : World) : (Instr.typeAssert (.iface t x) 66 121 true).run Tryd.prog w = .ok (if t = 121 then .tuple #[x, .bool true] else .tuple #[.agg #[.nilIface], .bool false]) w := by
  have z : (do pure (Value.tuple #[← zeroValue 121, .bool false]) : Sem Value).run Tryd.prog w = .ok (.tuple #[.agg #[.nilIface], .bool false]) w := by kernel_rfl
  have e : (Instr.typeAssert (.iface t x) 66 121 true).run Tryd.prog w = (if t = 121 then (pure (Value.tuple #[x, .bool true]) : Sem Value) else (do pure (Value.tuple #[← zeroValue 121, .bool false]))).run Tryd.prog w := by kernel_rfl
  rw [e]
  by_cases h : t = 121
  · rw [if_pos h, if_pos h]; rfl
  · rw [if_neg h, if_neg h]; exact z
theorem Tryd.ta_writeNode (t : TypeId) (x : Value) (w : World) : (Instr.typeAssert (.iface t x) 66 123 true).run Tryd.prog w = .ok (if t = 123 then .tuple #[x, .bool true] else .tuple #[.agg #[.nilIface, .nilIface], .bool false]) w := by
  have z : (do pure (Value.tuple #[← zeroValue 123, .bool false]) : Sem Value).run Tryd.prog w = .ok (.tuple #[.agg #[.nilIface, .nilIface], .bool false]) w := by kernel_rfl
  have e : (Instr.typeAssert (.iface t x) 66 123 true).run Tryd.prog w = (if t = 123 then (pure (Value.tuple #[x, .bool true]) : Sem Value) else (do pure (Value.tuple #[← zeroValue 123, .bool false]))).run Tryd.prog w := by kernel_rfl
  rw [e]
  by_cases h : t = 123
  · rw [if_pos h, if_pos h]; rfl
  · rw [if_neg h, if_neg h]; exact z
theorem Tryd.ta_sayNode (t : TypeId) (x : Value) (w : World) : (Instr.typeAssert (.iface t x) 66 124 true).run Tryd.prog w = .ok (if t = 124 then .tuple #[x, .bool true] else .tuple #[.agg #[.nilIface], .bool false]) w := by
  have z : (do pure (Value.tuple #[← zeroValue 124, .bool false]) : Sem Value).run Tryd.prog w = .ok (.tuple #[.agg #[.nilIface], .bool false]) w := by kernel_rfl
  have e : (Instr.typeAssert (.iface t x) 66 124 true).run Tryd.prog w = (if t = 124 then (pure (Value.tuple #[x, .bool true]) : Sem Value) else (do pure (Value.tuple #[← zeroValue 124, .bool false]))).run Tryd.prog w := by kernel_rfl
  rw [e]
  by_cases h : t = 124
  · rw [if_pos h, if_pos h]; rfl
  · rw [if_neg h, if_neg h]; exact z
theorem Tryd.ta_doNode (t : TypeId) (x : Value) (w : World) : (Instr.typeAssert (.iface t x) 66 130 true).run Tryd.prog w = .ok (if t = 130 then .tuple #[x, .bool true] else .tuple #[.agg #[.string ByteArray.empty, .slice none 0 0], .bool false]) w := by
  have z : (do pure (Value.tuple #[← zeroValue 130, .bool false]) : Sem Value).run Tryd.prog w = .ok (.tuple #[.agg #[.string ByteArray.empty, .slice none 0 0], .bool false]) w := by kernel_rfl
  have e : (Instr.typeAssert (.iface t x) 66 130 true).run Tryd.prog w = (if t = 130 then (pure (Value.tuple #[x, .bool true]) : Sem Value) else (do pure (Value.tuple #[← zeroValue 130, .bool false]))).run Tryd.prog w := by kernel_rfl
  rw [e]
  by_cases h : t = 130
  · rw [if_pos h, if_pos h]; rfl
  · rw [if_neg h, if_neg h]; exact z
theorem Tryd.ta_blockNode (t : TypeId) (x : Value) (w : World) : (Instr.typeAssert (.iface t x) 66 79 true).run Tryd.prog w = .ok (if t = 79 then .tuple #[x, .bool true] else .tuple #[.agg #[.slice none 0 0], .bool false]) w := by
  have z : (do pure (Value.tuple #[← zeroValue 79, .bool false]) : Sem Value).run Tryd.prog w = .ok (.tuple #[.agg #[.slice none 0 0], .bool false]) w := by kernel_rfl
  have e : (Instr.typeAssert (.iface t x) 66 79 true).run Tryd.prog w = (if t = 79 then (pure (Value.tuple #[x, .bool true]) : Sem Value) else (do pure (Value.tuple #[← zeroValue 79, .bool false]))).run Tryd.prog w := by kernel_rfl
  rw [e]
  by_cases h : t = 79
  · rw [if_pos h, if_pos h]; rfl
  · rw [if_neg h, if_neg h]; exact z
theorem Tryd.ta_paramNode (t : TypeId) (x : Value) (w : World) : (Instr.typeAssert (.iface t x) 66 81 true).run Tryd.prog w = .ok (if t = 81 then .tuple #[x, .bool true] else .tuple #[.agg #[.string ByteArray.empty, .int .i64 0], .bool false]) w := by
  have z : (do pure (Value.tuple #[← zeroValue 81, .bool false]) : Sem Value).run Tryd.prog w = .ok (.tuple #[.agg #[.string ByteArray.empty, .int .i64 0], .bool false]) w := by kernel_rfl
  have e : (Instr.typeAssert (.iface t x) 66 81 true).run Tryd.prog w = (if t = 81 then (pure (Value.tuple #[x, .bool true]) : Sem Value) else (do pure (Value.tuple #[← zeroValue 81, .bool false]))).run Tryd.prog w := by kernel_rfl
  rw [e]
  by_cases h : t = 81
  · rw [if_pos h, if_pos h]; rfl
  · rw [if_neg h, if_neg h]; exact z
theorem Tryd.ta_fnNode (t : TypeId) (x : Value) (w : World) : (Instr.typeAssert (.iface t x) 66 134 true).run Tryd.prog w = .ok (if t = 134 then .tuple #[x, .bool true] else .tuple #[.agg #[.string ByteArray.empty, .int .i64 0, .slice none 0 0, .slice none 0 0], .bool false]) w := by
  have z : (do pure (Value.tuple #[← zeroValue 134, .bool false]) : Sem Value).run Tryd.prog w = .ok (.tuple #[.agg #[.string ByteArray.empty, .int .i64 0, .slice none 0 0, .slice none 0 0], .bool false]) w := by kernel_rfl
  have e : (Instr.typeAssert (.iface t x) 66 134 true).run Tryd.prog w = (if t = 134 then (pure (Value.tuple #[x, .bool true]) : Sem Value) else (do pure (Value.tuple #[← zeroValue 134, .bool false]))).run Tryd.prog w := by kernel_rfl
  rw [e]
  by_cases h : t = 134
  · rw [if_pos h, if_pos h]; rfl
  · rw [if_neg h, if_neg h]; exact z
theorem Tryd.ta_programNode (t : TypeId) (x : Value) (w : World) : (Instr.typeAssert (.iface t x) 66 45 true).run Tryd.prog w = .ok (if t = 45 then .tuple #[x, .bool true] else .tuple #[.agg #[.slice none 0 0], .bool false]) w := by
  have z : (do pure (Value.tuple #[← zeroValue 45, .bool false]) : Sem Value).run Tryd.prog w = .ok (.tuple #[.agg #[.slice none 0 0], .bool false]) w := by kernel_rfl
  have e : (Instr.typeAssert (.iface t x) 66 45 true).run Tryd.prog w = (if t = 45 then (pure (Value.tuple #[x, .bool true]) : Sem Value) else (do pure (Value.tuple #[← zeroValue 45, .bool false]))).run Tryd.prog w := by kernel_rfl
  rw [e]
  by_cases h : t = 45
  · rw [if_pos h, if_pos h]; rfl
  · rw [if_neg h, if_neg h]; exact z

set_option maxRecDepth 100000 in
set_option maxHeartbeats 4000000 in
theorem isValue_ty (k : Int) (h1 : 1 ≤ k) (h2 : k ≤ 24) (x : Value) (w : World) :
    Calls Tryd.prog 54 #[.iface (Mill.ty k) x] w fun e w' => e = .returned (.bool (Mill.isE k)) ∧ w = w' := by
  have t0 := Tryd.ta_intNode
  have t1 := Tryd.ta_textNode
  have t2 := Tryd.ta_boolNode
  have t3 := Tryd.ta_nameNode
  have t4 := Tryd.ta_unNode
  have t5 := Tryd.ta_binNode
  have t6 := Tryd.ta_callNode
  have t7 := Tryd.ta_builtNode
  have t8 := Tryd.ta_convNode
  rcases Mill.kind24 k h1 h2 with rfl | rfl | rfl | rfl | rfl | rfl | rfl | rfl | rfl | rfl | rfl | rfl | rfl | rfl | rfl | rfl | rfl | rfl | rfl | rfl | rfl | rfl | rfl | rfl
  all_goals
    simp only [Mill.ty]
    simp (decide := true) only [if_true, if_false]
    go_enter Tryd.func54, Tryd.ntmps54
    go_wp2
    go_ret
    exact ⟨by rfl, rfl⟩

set_option maxRecDepth 100000 in
set_option maxHeartbeats 4000000 in
theorem isStatement_ty (k : Int) (h1 : 1 ≤ k) (h2 : k ≤ 24) (x : Value) (w : World) :
    Calls Tryd.prog 46 #[.iface (Mill.ty k) x] w fun e w' => e = .returned (.bool (Mill.isS k)) ∧ w = w' := by
  have t0 := Tryd.ta_letNode
  have t1 := Tryd.ta_setNode
  have t2 := Tryd.ta_ifNode
  have t3 := Tryd.ta_whileNode
  have t4 := Tryd.ta_breakNode
  have t5 := Tryd.ta_continueNode
  have t6 := Tryd.ta_returnNode
  have t7 := Tryd.ta_failNode
  have t8 := Tryd.ta_writeNode
  have t9 := Tryd.ta_sayNode
  have t10 := Tryd.ta_doNode
  rcases Mill.kind24 k h1 h2 with rfl | rfl | rfl | rfl | rfl | rfl | rfl | rfl | rfl | rfl | rfl | rfl | rfl | rfl | rfl | rfl | rfl | rfl | rfl | rfl | rfl | rfl | rfl | rfl
  all_goals
    simp only [Mill.ty]
    simp (decide := true) only [if_true, if_false]
    go_enter Tryd.func46, Tryd.ntmps46
    go_wp2
    go_ret
    exact ⟨by rfl, rfl⟩

end Go.Proofs.YtiomecoceandoaaDoor
