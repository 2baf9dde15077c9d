import Derived.Test.YtfjkahdghhbpnaaGreatDoorKScanA
set_option maxRecDepth 100000
set_option maxHeartbeats 1000000
namespace Go.Proofs.YtfjkahdghhbpnaaGreatDoor
open Go.RowKit
theorem Qdt {W w1:World} {B g:Nat} {a0 a1 a2:Value} {t:TypeId} (hb:Below B W w1) (hg:g < B) (h:W.heap[g]? = some (.cells #[a0,a1,a2] t (0,0))) :
  (w1.cell? ⟨g,0,none⟩=some a0/\w1.cell? ⟨g,1,none⟩=some a1/\w1.cell? ⟨g,2,none⟩=some a2)/\w1.frozen? ⟨g,0,none⟩=false/\w1.frozen? ⟨g,1,none⟩=false/\w1.frozen? ⟨g,2,none⟩=false:=by
 have a:=hb.block g hg
 rw[h]at a
 simp[World.cell?,World.frozen?,a]
theorem Qb5 (w:World) (o:Obj):(w.alloc o).heap[w.heap.size]? = some o:=(MapKept.heap_alloc w o).1
theorem Qk (t n:Int) (x:ByteArray) (w:World) :
  Calls Tryz.prog 128 #[.agg #[.int .i64 t,.int .i64 n,.string x],.agg #[.int .i64 t,.int .i64 n,.string x]] w fun e w'=>e = .returned (.bool true)/\Below w.heap.size w w':=by
 have a:(t != t)=false:=by simp
 have b:(n != n)=false:=by simp
 go_enter Tryz.func128,Tryz.ntmps128
 go_wp2
 all_goals go_ret
 all_goals exact⟨rfl,((Below.refl _ w).alloc (Nat.le_refl _) _).alloc (by simp) _⟩
theorem Qc9 {w w1:World} {a0 a1 a2:Value} {t:TypeId} (hb:Below (w.heap.size+1) (w.alloc (.cells #[a0,a1,a2] t)) w1) :
  (w1.cell? ⟨w.heap.size,0,none⟩=some a0/\w1.cell? ⟨w.heap.size,1,none⟩=some a1/\w1.cell? ⟨w.heap.size,2,none⟩=some a2)/\w1.frozen? ⟨w.heap.size,0,none⟩=false/\w1.frozen? ⟨w.heap.size,1,none⟩=false/\w1.frozen? ⟨w.heap.size,2,none⟩=false :=
 Qdt (t:=t) hb (by omega) (Qb5 w _)
theorem Bs (t:Int) (w:World) :
  Calls Tryz.prog 142 #[.int .i64 t] w fun e w'=>e = .returned (.bool (Bf t))/\w=w':=by
 go_enter Tryz.func142,Tryz.ntmps142
 go_wp2
 all_goals go_ret
 all_goals exact⟨by simp[Bf,decide_eq_true_eq, *] <;> omega,rfl⟩
def Qb9 (t:Int):TypeId:=if t=3 then 231 else if t=4 then 232 else if t=5 then 233 else if t=6 then 234 else if t=7 then 235 else if t=8 then 236 else if t=9 then 237 else 238
theorem Er (t:Int) (w:World) :
  Calls Tryz.prog 143 #[.int .i64 t] w fun e w'=>e = .returned (.iface (Qb9 t) (.agg #[]))/\w=w':=by
 go_enter Tryz.func143,Tryz.ntmps143
 go_wp2
 all_goals go_ret
 all_goals exact⟨by simp_all [Qb9],rfl⟩
theorem Tryz.tk_uint8 (v:Value) (w:World):(method 378 231 v "loop.example/kilnmill/impl.taken").run Tryz.prog w = .ok (197,v) w:=by kernel_rfl
theorem Tryz.tk_uint16 (v:Value) (w:World):(method 378 232 v "loop.example/kilnmill/impl.taken").run Tryz.prog w = .ok (201,v) w:=by kernel_rfl
theorem Tryz.tk_uint32 (v:Value) (w:World):(method 378 233 v "loop.example/kilnmill/impl.taken").run Tryz.prog w = .ok (205,v) w:=by kernel_rfl
theorem Tryz.tk_uint64 (v:Value) (w:World):(method 378 234 v "loop.example/kilnmill/impl.taken").run Tryz.prog w = .ok (209,v) w:=by kernel_rfl
theorem Tryz.tk_int8 (v:Value) (w:World):(method 378 235 v "loop.example/kilnmill/impl.taken").run Tryz.prog w = .ok (213,v) w:=by kernel_rfl
theorem Tryz.tk_int16 (v:Value) (w:World):(method 378 236 v "loop.example/kilnmill/impl.taken").run Tryz.prog w = .ok (217,v) w:=by kernel_rfl
theorem Tryz.tk_int32 (v:Value) (w:World):(method 378 237 v "loop.example/kilnmill/impl.taken").run Tryz.prog w = .ok (221,v) w:=by kernel_rfl
theorem Tryz.tk_int64 (v:Value) (w:World):(method 378 238 v "loop.example/kilnmill/impl.taken").run Tryz.prog w = .ok (225,v) w:=by kernel_rfl
theorem Qdx (x:Int):IntKind.u16.wrap x=x % 65536:=by rfl
theorem Qd5 (x:Int):IntKind.i8.wrap x=(x+128) % 256 - 128:=by
 have a:((2:Int) ^ IntKind.i8.bits)=256:=by decide
 have b:((2:Int) ^ (IntKind.i8.bits - 1))=128:=by decide
 have c:IntKind.i8.signed=true:=rfl
 unfold IntKind.wrap
 simp only[a,b,c,Bool.true_and,decide_eq_true_eq]
 split <;> omega
theorem Qdw (x:Int):IntKind.i16.wrap x=(x+32768) % 65536 - 32768:=by
 have a:((2:Int) ^ IntKind.i16.bits)=65536:=by decide
 have b:((2:Int) ^ (IntKind.i16.bits - 1))=32768:=by decide
 have c:IntKind.i16.signed=true:=rfl
 unfold IntKind.wrap
 simp only[a,b,c,Bool.true_and,decide_eq_true_eq]
 split <;> omega
theorem Yp (x:Int):wrap32 x=(x+2147483648) % 4294967296 - 2147483648:=by first|rfl|(unfold wrap32;omega)
theorem Qc2 (n:Int):Ay 3 (Cb n)=n % 256:=by
 have a:Ec 3=8:=by decide
 have b:D5 3=false:=by decide
 unfold Ay F9 Cb
 rw[a,b]
 simp (decide:=true)
 try (split <;> omega)
 try omega
theorem Qc3 (n:Int):Ay 4 (Cb n)=n % 65536:=by
 have a:Ec 4=16:=by decide
 have b:D5 4=false:=by decide
 unfold Ay F9 Cb
 rw[a,b]
 simp (decide:=true)
 try (split <;> omega)
 try omega
theorem Qc4 (n:Int):Ay 5 (Cb n)=n % 4294967296:=by
 have a:Ec 5=32:=by decide
 have b:D5 5=false:=by decide
 unfold Ay F9 Cb
 rw[a,b]
 simp (decide:=true)
 try (split <;> omega)
 try omega
theorem Qc5 (n:Int):Ay 6 (Cb n)=(n+9223372036854775808) % 18446744073709551616 - 9223372036854775808:=by
 have a:Ec 6=64:=by decide
 have b:D5 6=false:=by decide
 unfold Ay F9 Cb
 rw[a,b]
 simp (decide:=true)
 try (split <;> omega)
 try omega
theorem Qc6 (n:Int):Ay 7 (Cb n)=(n+128) % 256 - 128:=by
 have a:Ec 7=8:=by decide
 have b:D5 7=true:=by decide
 unfold Ay F9 Cb
 rw[a,b]
 simp (decide:=true)
 try (split <;> omega)
 try omega
theorem Qc7 (n:Int):Ay 8 (Cb n)=(n+32768) % 65536 - 32768:=by
 have a:Ec 8=16:=by decide
 have b:D5 8=true:=by decide
 unfold Ay F9 Cb
 rw[a,b]
 simp (decide:=true)
 try (split <;> omega)
 try omega
theorem Qc8 (n:Int):Ay 9 (Cb n)=(n+2147483648) % 4294967296 - 2147483648:=by
 have a:Ec 9=32:=by decide
 have b:D5 9=true:=by decide
 unfold Ay F9 Cb
 rw[a,b]
 simp (decide:=true)
 try (split <;> omega)
 try omega
theorem Qb4 (n:Int):Ay 10 (Cb n)=(n+9223372036854775808) % 18446744073709551616 - 9223372036854775808:=by
 have a:Ec 10=64:=by decide
 have b:D5 10=true:=by decide
 unfold Ay F9 Cb
 rw[a,b]
 simp (decide:=true)
 try (split <;> omega)
 try omega
theorem Mh (n:Int) (_hn : -9223372036854775808<=n/\n<=9223372036854775807) (w:World) :
  Calls Tryz.prog 197 #[.agg #[],.int .i64 n] w fun e w'=>e = .returned (.int .i64 (Ay 3 (Cb n)))/\Below w.heap.size w w':=by
 go_enter Tryz.func197,Tryz.ntmps197
 go_wp2
 go_ret
 refine⟨Gr ?_,(Below.refl _ w).alloc (Nat.le_refl _) _⟩
 rw[Qc2]
theorem Lk (n:Int) (_hn : -9223372036854775808<=n/\n<=9223372036854775807) (w:World) :
  Calls Tryz.prog 201 #[.agg #[],.int .i64 n] w fun e w'=>e = .returned (.int .i64 (Ay 4 (Cb n)))/\Below w.heap.size w w':=by
 go_enter Tryz.func201,Tryz.ntmps201
 go_wp2
 go_ret
 refine⟨Gr ?_,(Below.refl _ w).alloc (Nat.le_refl _) _⟩
 rw[Qc3,Ei,Qdx];omega
theorem Ll (n:Int) (_hn : -9223372036854775808<=n/\n<=9223372036854775807) (w:World) :
  Calls Tryz.prog 205 #[.agg #[],.int .i64 n] w fun e w'=>e = .returned (.int .i64 (Ay 5 (Cb n)))/\Below w.heap.size w w':=by
 go_enter Tryz.func205,Tryz.ntmps205
 go_wp2
 go_ret
 refine⟨Gr ?_,(Below.refl _ w).alloc (Nat.le_refl _) _⟩
 rw[Qc4]
theorem Lm (n:Int) (_hn : -9223372036854775808<=n/\n<=9223372036854775807) (w:World) :
  Calls Tryz.prog 209 #[.agg #[],.int .i64 n] w fun e w'=>e = .returned (.int .i64 (Ay 6 (Cb n)))/\Below w.heap.size w w':=by
 go_enter Tryz.func209,Tryz.ntmps209
 go_wp2
 go_ret
 refine⟨Gr ?_,(Below.refl _ w).alloc (Nat.le_refl _) _⟩
 rw[Qc5,Ei,J5];omega
theorem Nf (n:Int) (_hn : -9223372036854775808<=n/\n<=9223372036854775807) (w:World) :
  Calls Tryz.prog 213 #[.agg #[],.int .i64 n] w fun e w'=>e = .returned (.int .i64 (Ay 7 (Cb n)))/\Below w.heap.size w w':=by
 go_enter Tryz.func213,Tryz.ntmps213
 go_wp2
 go_ret
 refine⟨Gr ?_,(Below.refl _ w).alloc (Nat.le_refl _) _⟩
 rw[Qc6,Ei,Qd5];omega
theorem Me (n:Int) (_hn : -9223372036854775808<=n/\n<=9223372036854775807) (w:World) :
  Calls Tryz.prog 217 #[.agg #[],.int .i64 n] w fun e w'=>e = .returned (.int .i64 (Ay 8 (Cb n)))/\Below w.heap.size w w':=by
 go_enter Tryz.func217,Tryz.ntmps217
 go_wp2
 go_ret
 refine⟨Gr ?_,(Below.refl _ w).alloc (Nat.le_refl _) _⟩
 rw[Qc7,Ei,Qdw];omega
theorem Mf (n:Int) (_hn : -9223372036854775808<=n/\n<=9223372036854775807) (w:World) :
  Calls Tryz.prog 221 #[.agg #[],.int .i64 n] w fun e w'=>e = .returned (.int .i64 (Ay 9 (Cb n)))/\Below w.heap.size w w':=by
 go_enter Tryz.func221,Tryz.ntmps221
 go_wp2
 go_ret
 refine⟨Gr ?_,(Below.refl _ w).alloc (Nat.le_refl _) _⟩
 rw[Qc8,Ei,Yp];omega
theorem Mg (n:Int) (hn : -9223372036854775808<=n/\n<=9223372036854775807) (w:World) :
  Calls Tryz.prog 225 #[.agg #[],.int .i64 n] w fun e w'=>e = .returned (.int .i64 (Ay 10 (Cb n)))/\Below w.heap.size w w':=by
 go_enter Tryz.func225,Tryz.ntmps225
 go_wp2
 go_ret
 refine⟨Gr ?_,(Below.refl _ w).alloc (Nat.le_refl _) _⟩
 rw[Qb4];omega
theorem Dy {w w':World} {a0 a1 a2:Value} {t:TypeId} (hb:Below (w.heap.size+1) (w.alloc (.cells #[a0,a1,a2] t)) w') :
  Below (w.heap.size+1) (w.alloc (.cells #[a0,a1,a2] t)) w'/\w'.cell? ⟨w.heap.size,0,none⟩=some a0/\w'.cell? ⟨w.heap.size,1,none⟩=some a1/\w'.cell? ⟨w.heap.size,2,none⟩=some a2 :=
 ⟨hb,(Qc9 hb).1⟩
theorem D8 {w w0 w':World} {a0 a1 a2:Value} {t:TypeId} {p:Prop} (h:Below (w.heap.size+1) (w.alloc (.cells #[a0,a1,a2] t)) w0/\p) (hb:Below w0.heap.size w0 w') :
  Below (w.heap.size+1) (w.alloc (.cells #[a0,a1,a2] t)) w'/\w'.cell? ⟨w.heap.size,0,none⟩=some a0/\w'.cell? ⟨w.heap.size,1,none⟩=some a1/\w'.cell? ⟨w.heap.size,2,none⟩=some a2 :=
 Dy (h.1.trans (hb.mono (by have:=h.1.size;simpa using this)))
theorem D7 {w w':World} {a0 a1 a2:Value} {t:TypeId} {p:Prop} (h:Below (w.heap.size+1) (w.alloc (.cells #[a0,a1,a2] t)) w'/\p):Below w.heap.size w w' :=
 ((Below.refl _ w).alloc (Nat.le_refl _) _).trans (h.1.mono (by omega))
theorem D6 (w:World) (o:Obj):Below (w.heap.size+1) (w.alloc o) (w.alloc o).drew:=(Below.refl _ _).drew
theorem Li (w:World):Calls Tryz.prog 143 #[.int .i64 3] w fun e w'=>e = .returned (.iface 231 (.agg #[]))/\w=w':=Er 3 w
theorem Kn (w:World):Calls Tryz.prog 143 #[.int .i64 4] w fun e w'=>e = .returned (.iface 232 (.agg #[]))/\w=w':=Er 4 w
theorem Ko (w:World):Calls Tryz.prog 143 #[.int .i64 5] w fun e w'=>e = .returned (.iface 233 (.agg #[]))/\w=w':=Er 5 w
theorem Kp (w:World):Calls Tryz.prog 143 #[.int .i64 6] w fun e w'=>e = .returned (.iface 234 (.agg #[]))/\w=w':=Er 6 w
theorem Md (w:World):Calls Tryz.prog 143 #[.int .i64 7] w fun e w'=>e = .returned (.iface 235 (.agg #[]))/\w=w':=Er 7 w
theorem Lf (w:World):Calls Tryz.prog 143 #[.int .i64 8] w fun e w'=>e = .returned (.iface 236 (.agg #[]))/\w=w':=Er 8 w
theorem Lg (w:World):Calls Tryz.prog 143 #[.int .i64 9] w fun e w'=>e = .returned (.iface 237 (.agg #[]))/\w=w':=Er 9 w
theorem Lh (w:World):Calls Tryz.prog 143 #[.int .i64 10] w fun e w'=>e = .returned (.iface 238 (.agg #[]))/\w=w':=Er 10 w
end Go.Proofs.YtfjkahdghhbpnaaGreatDoor
