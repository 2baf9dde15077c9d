import Derived.Test.YtbkhedpabfanoaaGreatDoorKScanA
namespace Go.Proofs.YtbkhedpabfanoaaGreatDoor
open Go.RowKit

theorem Val.row3 {W w1:World} {B g:Nat} {a0 a1 a2:Value} {t:TypeId} (hb:Below B W w1) (hg:g < B) (h:W.heap[g]? = some (.cells #[a0,a1,a2] t (0,0))) :
    (w1.cell? ⟨g,0,none⟩=some a0∧w1.cell? ⟨g,1,none⟩=some a1∧w1.cell? ⟨g,2,none⟩=some a2)∧w1.frozen? ⟨g,0,none⟩=false∧w1.frozen? ⟨g,1,none⟩=false∧w1.frozen? ⟨g,2,none⟩=false:=by
  have h1:=hb.block g hg
  rw [h] at h1
  simp [World.cell?,World.frozen?,h1]
theorem Val.new_at (w:World) (o:Obj):(w.alloc o).heap[w.heap.size]? = some o:=(MapKept.heap_alloc w o).1
end Go.Proofs.YtbkhedpabfanoaaGreatDoor
namespace Go.Proofs.YtbkhedpabfanoaaGreatDoor
open Go.RowKit

end Go.Proofs.YtbkhedpabfanoaaGreatDoor
namespace Go.Proofs.YtbkhedpabfanoaaGreatDoor
open Go.RowKit

theorem Val.row3' {w w1:World} {a0 a1 a2:Value} {t:TypeId} (hb:Below (w.heap.size+1) (w.alloc (.cells #[a0,a1,a2] t)) w1) :
    (w1.cell? ⟨w.heap.size,0,none⟩=some a0∧w1.cell? ⟨w.heap.size,1,none⟩=some a1∧w1.cell? ⟨w.heap.size,2,none⟩=some a2)∧w1.frozen? ⟨w.heap.size,0,none⟩=false∧w1.frozen? ⟨w.heap.size,1,none⟩=false∧w1.frozen? ⟨w.heap.size,2,none⟩=false :=
  Val.row3 (t:=t) hb (by omega) (Val.new_at w _)
end Go.Proofs.YtbkhedpabfanoaaGreatDoor
namespace Go.Proofs.YtbkhedpabfanoaaGreatDoor
open Go.RowKit

theorem Val.isIntType_any (t:Int) (w:World) :
    Calls Tryz.prog 104 #[.int .i64 t] w fun e w'=>e = .returned (.bool (Val.isInt t))∧w=w':=by
  go_enter Tryz.func104,Tryz.ntmps104
  go_wp2
  all_goals go_ret
  all_goals exact ⟨by simp [Val.isInt,decide_eq_true_eq, *] <;> omega,rfl⟩
def Val.kty (t:Int):TypeId:=if t=3 then 196 else if t=4 then 197 else if t=5 then 198 else if t=6 then 199 else if t=7 then 200 else if t=8 then 201 else if t=9 then 202 else 203
theorem Val.kindOf_any (t:Int) (w:World) :
    Calls Tryz.prog 105 #[.int .i64 t] w fun e w'=>e = .returned (.iface (Val.kty t) (.agg #[]))∧w=w':=by
  go_enter Tryz.func105,Tryz.ntmps105
  go_wp2
  all_goals go_ret
  all_goals exact ⟨by simp_all [Val.kty],rfl⟩
end Go.Proofs.YtbkhedpabfanoaaGreatDoor
namespace Go.Proofs.YtbkhedpabfanoaaGreatDoor
open Go.RowKit

theorem Tryz.tk_uint8 (v:Value) (w:World):(method 350 196 v "loop.example/kilnmill/impl.taken").run Tryz.prog w = .ok (166,v) w:=by kernel_rfl
theorem Tryz.tk_uint16 (v:Value) (w:World):(method 350 197 v "loop.example/kilnmill/impl.taken").run Tryz.prog w = .ok (170,v) w:=by kernel_rfl
theorem Tryz.tk_uint32 (v:Value) (w:World):(method 350 198 v "loop.example/kilnmill/impl.taken").run Tryz.prog w = .ok (174,v) w:=by kernel_rfl
theorem Tryz.tk_uint64 (v:Value) (w:World):(method 350 199 v "loop.example/kilnmill/impl.taken").run Tryz.prog w = .ok (178,v) w:=by kernel_rfl
theorem Tryz.tk_int8 (v:Value) (w:World):(method 350 200 v "loop.example/kilnmill/impl.taken").run Tryz.prog w = .ok (182,v) w:=by kernel_rfl
theorem Tryz.tk_int16 (v:Value) (w:World):(method 350 201 v "loop.example/kilnmill/impl.taken").run Tryz.prog w = .ok (186,v) w:=by kernel_rfl
theorem Tryz.tk_int32 (v:Value) (w:World):(method 350 202 v "loop.example/kilnmill/impl.taken").run Tryz.prog w = .ok (190,v) w:=by kernel_rfl
theorem Tryz.tk_int64 (v:Value) (w:World):(method 350 203 v "loop.example/kilnmill/impl.taken").run Tryz.prog w = .ok (194,v) w:=by kernel_rfl
theorem Val.w16 (x:Int):IntKind.u16.wrap x=x % 65536:=by rfl
theorem Val.s8 (x:Int):IntKind.i8.wrap x=(x+128) % 256 - 128:=by
  have e1:((2:Int) ^ IntKind.i8.bits)=256:=by decide
  have e2:((2:Int) ^ (IntKind.i8.bits - 1))=128:=by decide
  have e3:IntKind.i8.signed=true:=rfl
  unfold IntKind.wrap
  simp only [e1,e2,e3,Bool.true_and,decide_eq_true_eq]
  split <;> omega
theorem Val.s16 (x:Int):IntKind.i16.wrap x=(x+32768) % 65536 - 32768:=by
  have e1:((2:Int) ^ IntKind.i16.bits)=65536:=by decide
  have e2:((2:Int) ^ (IntKind.i16.bits - 1))=32768:=by decide
  have e3:IntKind.i16.signed=true:=rfl
  unfold IntKind.wrap
  simp only [e1,e2,e3,Bool.true_and,decide_eq_true_eq]
  split <;> omega
theorem Val.wrap32_i (x:Int):wrap32 x=(x+2147483648) % 4294967296 - 2147483648:=by first | rfl | (unfold wrap32;omega)
theorem Val.into3 (n:Int):Val.into 3 (Val.u n)=n % 256:=by
  have e1:Val.bits 3=8:=by decide
  have e2:Val.signed 3=false:=by decide
  unfold Val.into Val.fold Val.u
  rw [e1,e2]
  simp (decide:=true)
  try (split <;> omega)
  try omega
theorem Val.into4 (n:Int):Val.into 4 (Val.u n)=n % 65536:=by
  have e1:Val.bits 4=16:=by decide
  have e2:Val.signed 4=false:=by decide
  unfold Val.into Val.fold Val.u
  rw [e1,e2]
  simp (decide:=true)
  try (split <;> omega)
  try omega
theorem Val.into5 (n:Int):Val.into 5 (Val.u n)=n % 4294967296:=by
  have e1:Val.bits 5=32:=by decide
  have e2:Val.signed 5=false:=by decide
  unfold Val.into Val.fold Val.u
  rw [e1,e2]
  simp (decide:=true)
  try (split <;> omega)
  try omega
theorem Val.into6 (n:Int):Val.into 6 (Val.u n)=(n+9223372036854775808) % 18446744073709551616 - 9223372036854775808:=by
  have e1:Val.bits 6=64:=by decide
  have e2:Val.signed 6=false:=by decide
  unfold Val.into Val.fold Val.u
  rw [e1,e2]
  simp (decide:=true)
  try (split <;> omega)
  try omega
theorem Val.into7 (n:Int):Val.into 7 (Val.u n)=(n+128) % 256 - 128:=by
  have e1:Val.bits 7=8:=by decide
  have e2:Val.signed 7=true:=by decide
  unfold Val.into Val.fold Val.u
  rw [e1,e2]
  simp (decide:=true)
  try (split <;> omega)
  try omega
theorem Val.into8 (n:Int):Val.into 8 (Val.u n)=(n+32768) % 65536 - 32768:=by
  have e1:Val.bits 8=16:=by decide
  have e2:Val.signed 8=true:=by decide
  unfold Val.into Val.fold Val.u
  rw [e1,e2]
  simp (decide:=true)
  try (split <;> omega)
  try omega
theorem Val.into9 (n:Int):Val.into 9 (Val.u n)=(n+2147483648) % 4294967296 - 2147483648:=by
  have e1:Val.bits 9=32:=by decide
  have e2:Val.signed 9=true:=by decide
  unfold Val.into Val.fold Val.u
  rw [e1,e2]
  simp (decide:=true)
  try (split <;> omega)
  try omega
theorem Val.into10 (n:Int):Val.into 10 (Val.u n)=(n+9223372036854775808) % 18446744073709551616 - 9223372036854775808:=by
  have e1:Val.bits 10=64:=by decide
  have e2:Val.signed 10=true:=by decide
  unfold Val.into Val.fold Val.u
  rw [e1,e2]
  simp (decide:=true)
  try (split <;> omega)
  try omega
theorem Val.taken_uint8 (n:Int) (_hn : -9223372036854775808≤n∧n≤9223372036854775807) (w:World) :
    Calls Tryz.prog 166 #[.agg #[],.int .i64 n] w fun e w'=>e = .returned (.int .i64 (Val.into 3 (Val.u n)))∧Below w.heap.size w w':=by
  go_enter Tryz.func166,Tryz.ntmps166
  go_wp2
  go_ret
  refine ⟨Val.ret_i ?_,(Below.refl _ w).alloc (Nat.le_refl _) _⟩
  rw [Val.into3]
theorem Val.taken_uint16 (n:Int) (_hn : -9223372036854775808≤n∧n≤9223372036854775807) (w:World) :
    Calls Tryz.prog 170 #[.agg #[],.int .i64 n] w fun e w'=>e = .returned (.int .i64 (Val.into 4 (Val.u n)))∧Below w.heap.size w w':=by
  go_enter Tryz.func170,Tryz.ntmps170
  go_wp2
  go_ret
  refine ⟨Val.ret_i ?_,(Below.refl _ w).alloc (Nat.le_refl _) _⟩
  rw [Val.into4,Val.wrap_i,Val.w16];omega
theorem Val.taken_uint32 (n:Int) (_hn : -9223372036854775808≤n∧n≤9223372036854775807) (w:World) :
    Calls Tryz.prog 174 #[.agg #[],.int .i64 n] w fun e w'=>e = .returned (.int .i64 (Val.into 5 (Val.u n)))∧Below w.heap.size w w':=by
  go_enter Tryz.func174,Tryz.ntmps174
  go_wp2
  go_ret
  refine ⟨Val.ret_i ?_,(Below.refl _ w).alloc (Nat.le_refl _) _⟩
  rw [Val.into5]
theorem Val.taken_uint64 (n:Int) (_hn : -9223372036854775808≤n∧n≤9223372036854775807) (w:World) :
    Calls Tryz.prog 178 #[.agg #[],.int .i64 n] w fun e w'=>e = .returned (.int .i64 (Val.into 6 (Val.u n)))∧Below w.heap.size w w':=by
  go_enter Tryz.func178,Tryz.ntmps178
  go_wp2
  go_ret
  refine ⟨Val.ret_i ?_,(Below.refl _ w).alloc (Nat.le_refl _) _⟩
  rw [Val.into6,Val.wrap_i,Val.wrap_u];omega
theorem Val.taken_int8 (n:Int) (_hn : -9223372036854775808≤n∧n≤9223372036854775807) (w:World) :
    Calls Tryz.prog 182 #[.agg #[],.int .i64 n] w fun e w'=>e = .returned (.int .i64 (Val.into 7 (Val.u n)))∧Below w.heap.size w w':=by
  go_enter Tryz.func182,Tryz.ntmps182
  go_wp2
  go_ret
  refine ⟨Val.ret_i ?_,(Below.refl _ w).alloc (Nat.le_refl _) _⟩
  rw [Val.into7,Val.wrap_i,Val.s8];omega
theorem Val.taken_int16 (n:Int) (_hn : -9223372036854775808≤n∧n≤9223372036854775807) (w:World) :
    Calls Tryz.prog 186 #[.agg #[],.int .i64 n] w fun e w'=>e = .returned (.int .i64 (Val.into 8 (Val.u n)))∧Below w.heap.size w w':=by
  go_enter Tryz.func186,Tryz.ntmps186
  go_wp2
  go_ret
  refine ⟨Val.ret_i ?_,(Below.refl _ w).alloc (Nat.le_refl _) _⟩
  rw [Val.into8,Val.wrap_i,Val.s16];omega
theorem Val.taken_int32 (n:Int) (_hn : -9223372036854775808≤n∧n≤9223372036854775807) (w:World) :
    Calls Tryz.prog 190 #[.agg #[],.int .i64 n] w fun e w'=>e = .returned (.int .i64 (Val.into 9 (Val.u n)))∧Below w.heap.size w w':=by
  go_enter Tryz.func190,Tryz.ntmps190
  go_wp2
  go_ret
  refine ⟨Val.ret_i ?_,(Below.refl _ w).alloc (Nat.le_refl _) _⟩
  rw [Val.into9,Val.wrap_i,Val.wrap32_i];omega
theorem Val.taken_int64 (n:Int) (hn : -9223372036854775808≤n∧n≤9223372036854775807) (w:World) :
    Calls Tryz.prog 194 #[.agg #[],.int .i64 n] w fun e w'=>e = .returned (.int .i64 (Val.into 10 (Val.u n)))∧Below w.heap.size w w':=by
  go_enter Tryz.func194,Tryz.ntmps194
  go_wp2
  go_ret
  refine ⟨Val.ret_i ?_,(Below.refl _ w).alloc (Nat.le_refl _) _⟩
  rw [Val.into10];omega
end Go.Proofs.YtbkhedpabfanoaaGreatDoor
namespace Go.Proofs.YtbkhedpabfanoaaGreatDoor
open Go.RowKit

theorem Val.keep1 {w w':World} {a0 a1 a2:Value} {t:TypeId} (hb:Below (w.heap.size+1) (w.alloc (.cells #[a0,a1,a2] t)) w') :
    Below (w.heap.size+1) (w.alloc (.cells #[a0,a1,a2] t)) w'∧w'.cell? ⟨w.heap.size,0,none⟩=some a0∧w'.cell? ⟨w.heap.size,1,none⟩=some a1∧w'.cell? ⟨w.heap.size,2,none⟩=some a2 :=
  ⟨hb,(Val.row3' hb).1⟩
theorem Val.keep2 {w w0 w':World} {a0 a1 a2:Value} {t:TypeId} {p:Prop} (h:Below (w.heap.size+1) (w.alloc (.cells #[a0,a1,a2] t)) w0∧p) (hb:Below w0.heap.size w0 w') :
    Below (w.heap.size+1) (w.alloc (.cells #[a0,a1,a2] t)) w'∧w'.cell? ⟨w.heap.size,0,none⟩=some a0∧w'.cell? ⟨w.heap.size,1,none⟩=some a1∧w'.cell? ⟨w.heap.size,2,none⟩=some a2 :=
  Val.keep1 (h.1.trans (hb.mono (by have:=h.1.size;simpa using this)))
theorem Val.keep0 {w w':World} {a0 a1 a2:Value} {t:TypeId} {p:Prop} (h:Below (w.heap.size+1) (w.alloc (.cells #[a0,a1,a2] t)) w'∧p):Below w.heap.size w w' :=
  ((Below.refl _ w).alloc (Nat.le_refl _) _).trans (h.1.mono (by omega))
theorem Val.drew1 (w:World) (o:Obj):Below (w.heap.size+1) (w.alloc o) (w.alloc o).drew:=(Below.refl _ _).drew
theorem Val.kindOf_uint8 (w:World):Calls Tryz.prog 105 #[.int .i64 3] w fun e w'=>e = .returned (.iface 196 (.agg #[]))∧w=w':=Val.kindOf_any 3 w
theorem Val.kindOf_uint16 (w:World):Calls Tryz.prog 105 #[.int .i64 4] w fun e w'=>e = .returned (.iface 197 (.agg #[]))∧w=w':=Val.kindOf_any 4 w
theorem Val.kindOf_uint32 (w:World):Calls Tryz.prog 105 #[.int .i64 5] w fun e w'=>e = .returned (.iface 198 (.agg #[]))∧w=w':=Val.kindOf_any 5 w
theorem Val.kindOf_uint64 (w:World):Calls Tryz.prog 105 #[.int .i64 6] w fun e w'=>e = .returned (.iface 199 (.agg #[]))∧w=w':=Val.kindOf_any 6 w
theorem Val.kindOf_int8 (w:World):Calls Tryz.prog 105 #[.int .i64 7] w fun e w'=>e = .returned (.iface 200 (.agg #[]))∧w=w':=Val.kindOf_any 7 w
theorem Val.kindOf_int16 (w:World):Calls Tryz.prog 105 #[.int .i64 8] w fun e w'=>e = .returned (.iface 201 (.agg #[]))∧w=w':=Val.kindOf_any 8 w
theorem Val.kindOf_int32 (w:World):Calls Tryz.prog 105 #[.int .i64 9] w fun e w'=>e = .returned (.iface 202 (.agg #[]))∧w=w':=Val.kindOf_any 9 w
theorem Val.kindOf_int64 (w:World):Calls Tryz.prog 105 #[.int .i64 10] w fun e w'=>e = .returned (.iface 203 (.agg #[]))∧w=w':=Val.kindOf_any 10 w
end Go.Proofs.YtbkhedpabfanoaaGreatDoor
