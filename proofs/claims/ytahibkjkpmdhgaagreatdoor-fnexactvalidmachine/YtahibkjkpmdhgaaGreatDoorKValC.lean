import Derived.Test.YtahibkjkpmdhgaaGreatDoorKScanA
set_option maxRecDepth 100000
set_option maxHeartbeats 1000000
namespace Go.Proofs.YtahibkjkpmdhgaaGreatDoor
open Go.RowKit
theorem Qcw {W w1:World} {B g:Nat} {a0 a1 a2:Value} {t:TypeId} (hb:Below B W w1) (hg:g < B) (h:W.heap[g]? = some (.cells #[a0,a1,a2] t (0,0))) :
  (w1.cell? ⟨g,0,none⟩=some a0/\w1.cell? ⟨g,1,none⟩=some a1/\w1.cell? ⟨g,2,none⟩=some a2)/\w1.frozen? ⟨g,0,none⟩=false/\w1.frozen? ⟨g,1,none⟩=false/\w1.frozen? ⟨g,2,none⟩=false:=by
 have a:=hb.block g hg;rw[h]at a;simp[World.cell?,World.frozen?,a]
theorem Qau (w:World) (o:Obj):(w.alloc o).heap[w.heap.size]? = some o:=(MapKept.heap_alloc w o).1
theorem Qy (t n:Int) (x:ByteArray) (w:World) :
  Calls Tryz.prog 120 #[.agg #[.int .i64 t,.int .i64 n,.string x]] w fun e w'=>e = .returned (.agg #[.int .i64 t,.int .i64 n,.string x])/\Below w.heap.size w w':=by
 go_enter Tryz.func120,Tryz.ntmps120;go_wp2;exact bodyPost_ret (v:=.agg #[.int .i64 t,.int .i64 n,.string x]) (by simp[results,Tryz.results120,go_sem]) rfl ⟨rfl,(((Below.refl _ w).alloc (Nat.le_refl _) _).alloc (by simp) _).alloc (by simp only[World.size_alloc];omega) _⟩
theorem O2 (t n:Int) (x:ByteArray) (w:World) :
  Calls Tryz.prog 134 #[.agg #[.int .i64 t,.int .i64 n,.string x],.agg #[.int .i64 t,.int .i64 n,.string x]] w fun e w'=>e = .returned (.bool true)/\Below w.heap.size w w':=by
 have a:(t != t)=false:=by simp
 have b:(n != n)=false:=by simp
 go_enter Tryz.func134,Tryz.ntmps134;go_wp2;all_goals go_ret
 all_goals exact⟨rfl,((Below.refl _ w).alloc (Nat.le_refl _) _).alloc (by simp) _⟩
def Xc (x:ByteArray) (l:Int):Int:=if l - (x.size:Int) < 0 then -1 else l - (x.size:Int)
theorem Lx (t n:Int) (x:ByteArray) (l:Int) (hx:x.size<=9223372036854775807) (h0:0<=l) (h1:l<=1048576) (w:World) :
  Calls Tryz.prog 109 #[.agg #[.int .i64 t,.int .i64 n,.string x],.int .i64 l] w fun e w'=>e = .returned (.int .i64 (Xc x l))/\Below w.heap.size w w':=by
 unfold Xc;by_cases h:l - (x.size:Int) < 0
 ·rw[if_pos h];go_enter Tryz.func109,Tryz.ntmps109;go_wp2;go_ret;exact⟨rfl,(Below.refl _ w).alloc (Nat.le_refl _) _⟩
 ·rw[if_neg h];go_enter Tryz.func109,Tryz.ntmps109;go_wp2;go_ret;exact⟨rfl,(Below.refl _ w).alloc (Nat.le_refl _) _⟩
theorem Qb6 {w w1:World} {a0 a1 a2:Value} {t:TypeId} (hb:Below (w.heap.size+1) (w.alloc (.cells #[a0,a1,a2] t)) w1) :
  (w1.cell? ⟨w.heap.size,0,none⟩=some a0/\w1.cell? ⟨w.heap.size,1,none⟩=some a1/\w1.cell? ⟨w.heap.size,2,none⟩=some a2)/\w1.frozen? ⟨w.heap.size,0,none⟩=false/\w1.frozen? ⟨w.heap.size,1,none⟩=false/\w1.frozen? ⟨w.heap.size,2,none⟩=false :=
 Qcw (t:=t) hb (by omega) (Qau w _)
theorem Bp (t:Int) (w:World) :
  Calls Tryz.prog 160 #[.int .i64 t] w fun e w'=>e = .returned (.bool (Be t))/\w=w':=by
 go_enter Tryz.func160,Tryz.ntmps160;go_wp2;all_goals go_ret
 all_goals exact⟨by simp[Be,decide_eq_true_eq, *] <;> omega,rfl⟩
def Qbb (t:Int):TypeId:=if t=3 then 236 else if t=4 then 237 else if t=5 then 238 else if t=6 then 239 else if t=7 then 240 else if t=8 then 241 else if t=9 then 242 else 243
theorem Ey (t:Int) (w:World) :
  Calls Tryz.prog 161 #[.int .i64 t] w fun e w'=>e = .returned (.iface (Qbb t) (.agg #[]))/\w=w':=by
 go_enter Tryz.func161,Tryz.ntmps161;go_wp2;all_goals go_ret
 all_goals exact⟨by simp_all [Qbb],rfl⟩
theorem Tryz.tk_uint8 (v:Value) (w:World):(method 372 236 v "loop.example/kilnmill/impl.taken").run Tryz.prog w = .ok (204,v) w:=by kernel_rfl
theorem Tryz.tk_uint16 (v:Value) (w:World):(method 372 237 v "loop.example/kilnmill/impl.taken").run Tryz.prog w = .ok (208,v) w:=by kernel_rfl
theorem Tryz.tk_uint32 (v:Value) (w:World):(method 372 238 v "loop.example/kilnmill/impl.taken").run Tryz.prog w = .ok (212,v) w:=by kernel_rfl
theorem Tryz.tk_uint64 (v:Value) (w:World):(method 372 239 v "loop.example/kilnmill/impl.taken").run Tryz.prog w = .ok (216,v) w:=by kernel_rfl
theorem Tryz.tk_int8 (v:Value) (w:World):(method 372 240 v "loop.example/kilnmill/impl.taken").run Tryz.prog w = .ok (220,v) w:=by kernel_rfl
theorem Tryz.tk_int16 (v:Value) (w:World):(method 372 241 v "loop.example/kilnmill/impl.taken").run Tryz.prog w = .ok (224,v) w:=by kernel_rfl
theorem Tryz.tk_int32 (v:Value) (w:World):(method 372 242 v "loop.example/kilnmill/impl.taken").run Tryz.prog w = .ok (228,v) w:=by kernel_rfl
theorem Tryz.tk_int64 (v:Value) (w:World):(method 372 243 v "loop.example/kilnmill/impl.taken").run Tryz.prog w = .ok (232,v) w:=by kernel_rfl
theorem Qc9 (x:Int):IntKind.u16.wrap x=x % 65536:=by rfl
theorem Qdj (x:Int):IntKind.i8.wrap x=(x+128) % 256 - 128:=by
 have a:((2:Int) ^ IntKind.i8.bits)=256:=by decide
 have b:((2:Int) ^ (IntKind.i8.bits - 1))=128:=by decide
 have c:IntKind.i8.signed=true:=rfl;unfold IntKind.wrap;simp only[a,b,c,Bool.true_and,decide_eq_true_eq];split <;> omega
theorem Qc8 (x:Int):IntKind.i16.wrap x=(x+32768) % 65536 - 32768:=by
 have a:((2:Int) ^ IntKind.i16.bits)=65536:=by decide
 have b:((2:Int) ^ (IntKind.i16.bits - 1))=32768:=by decide
 have c:IntKind.i16.signed=true:=rfl;unfold IntKind.wrap;simp only[a,b,c,Bool.true_and,decide_eq_true_eq];split <;> omega
theorem Xe (x:Int):wrap32 x=(x+2147483648) % 4294967296 - 2147483648:=by first|rfl|(unfold wrap32;omega)
theorem Qbz (n:Int):Aw 3 (B7 n)=n % 256:=by
 have a:Ek 3=8:=by decide
 have b:D9 3=false:=by decide
 unfold Aw Gd B7;rw[a,b];simp (decide:=true);try (split <;> omega)
 try omega
theorem Qb0 (n:Int):Aw 4 (B7 n)=n % 65536:=by
 have a:Ek 4=16:=by decide
 have b:D9 4=false:=by decide
 unfold Aw Gd B7;rw[a,b];simp (decide:=true);try (split <;> omega)
 try omega
theorem Qb1 (n:Int):Aw 5 (B7 n)=n % 4294967296:=by
 have a:Ek 5=32:=by decide
 have b:D9 5=false:=by decide
 unfold Aw Gd B7;rw[a,b];simp (decide:=true);try (split <;> omega)
 try omega
theorem Qb2 (n:Int):Aw 6 (B7 n)=(n+9223372036854775808) % 18446744073709551616 - 9223372036854775808:=by
 have a:Ek 6=64:=by decide
 have b:D9 6=false:=by decide
 unfold Aw Gd B7;rw[a,b];simp (decide:=true);try (split <;> omega)
 try omega
theorem Qb3 (n:Int):Aw 7 (B7 n)=(n+128) % 256 - 128:=by
 have a:Ek 7=8:=by decide
 have b:D9 7=true:=by decide
 unfold Aw Gd B7;rw[a,b];simp (decide:=true);try (split <;> omega)
 try omega
theorem Qb4 (n:Int):Aw 8 (B7 n)=(n+32768) % 65536 - 32768:=by
 have a:Ek 8=16:=by decide
 have b:D9 8=true:=by decide
 unfold Aw Gd B7;rw[a,b];simp (decide:=true);try (split <;> omega)
 try omega
theorem Qb5 (n:Int):Aw 9 (B7 n)=(n+2147483648) % 4294967296 - 2147483648:=by
 have a:Ek 9=32:=by decide
 have b:D9 9=true:=by decide
 unfold Aw Gd B7;rw[a,b];simp (decide:=true);try (split <;> omega)
 try omega
theorem Qat (n:Int):Aw 10 (B7 n)=(n+9223372036854775808) % 18446744073709551616 - 9223372036854775808:=by
 have a:Ek 10=64:=by decide
 have b:D9 10=true:=by decide
 unfold Aw Gd B7;rw[a,b];simp (decide:=true);try (split <;> omega)
 try omega
theorem L1 (n:Int) (_hn : -9223372036854775808<=n/\n<=9223372036854775807) (w:World) :
  Calls Tryz.prog 204 #[.agg #[],.int .i64 n] w fun e w'=>e = .returned (.int .i64 (Aw 3 (B7 n)))/\Below w.heap.size w w':=by
 go_enter Tryz.func204,Tryz.ntmps204;go_wp2;go_ret;refine⟨Fw ?_,(Below.refl _ w).alloc (Nat.le_refl _) _⟩;rw[Qbz]
theorem K6 (n:Int) (_hn : -9223372036854775808<=n/\n<=9223372036854775807) (w:World) :
  Calls Tryz.prog 208 #[.agg #[],.int .i64 n] w fun e w'=>e = .returned (.int .i64 (Aw 4 (B7 n)))/\Below w.heap.size w w':=by
 go_enter Tryz.func208,Tryz.ntmps208;go_wp2;go_ret;refine⟨Fw ?_,(Below.refl _ w).alloc (Nat.le_refl _) _⟩;rw[Qb0,Er,Qc9];omega
theorem K7 (n:Int) (_hn : -9223372036854775808<=n/\n<=9223372036854775807) (w:World) :
  Calls Tryz.prog 212 #[.agg #[],.int .i64 n] w fun e w'=>e = .returned (.int .i64 (Aw 5 (B7 n)))/\Below w.heap.size w w':=by
 go_enter Tryz.func212,Tryz.ntmps212;go_wp2;go_ret;refine⟨Fw ?_,(Below.refl _ w).alloc (Nat.le_refl _) _⟩;rw[Qb1]
theorem K8 (n:Int) (_hn : -9223372036854775808<=n/\n<=9223372036854775807) (w:World) :
  Calls Tryz.prog 216 #[.agg #[],.int .i64 n] w fun e w'=>e = .returned (.int .i64 (Aw 6 (B7 n)))/\Below w.heap.size w w':=by
 go_enter Tryz.func216,Tryz.ntmps216;go_wp2;go_ret;refine⟨Fw ?_,(Below.refl _ w).alloc (Nat.le_refl _) _⟩;rw[Qb2,Er,J1];omega
theorem Mo (n:Int) (_hn : -9223372036854775808<=n/\n<=9223372036854775807) (w:World) :
  Calls Tryz.prog 220 #[.agg #[],.int .i64 n] w fun e w'=>e = .returned (.int .i64 (Aw 7 (B7 n)))/\Below w.heap.size w w':=by
 go_enter Tryz.func220,Tryz.ntmps220;go_wp2;go_ret;refine⟨Fw ?_,(Below.refl _ w).alloc (Nat.le_refl _) _⟩;rw[Qb3,Er,Qdj];omega
theorem Ly (n:Int) (_hn : -9223372036854775808<=n/\n<=9223372036854775807) (w:World) :
  Calls Tryz.prog 224 #[.agg #[],.int .i64 n] w fun e w'=>e = .returned (.int .i64 (Aw 8 (B7 n)))/\Below w.heap.size w w':=by
 go_enter Tryz.func224,Tryz.ntmps224;go_wp2;go_ret;refine⟨Fw ?_,(Below.refl _ w).alloc (Nat.le_refl _) _⟩;rw[Qb4,Er,Qc8];omega
theorem Lz (n:Int) (_hn : -9223372036854775808<=n/\n<=9223372036854775807) (w:World) :
  Calls Tryz.prog 228 #[.agg #[],.int .i64 n] w fun e w'=>e = .returned (.int .i64 (Aw 9 (B7 n)))/\Below w.heap.size w w':=by
 go_enter Tryz.func228,Tryz.ntmps228;go_wp2;go_ret;refine⟨Fw ?_,(Below.refl _ w).alloc (Nat.le_refl _) _⟩;rw[Qb5,Er,Xe];omega
theorem L0 (n:Int) (hn : -9223372036854775808<=n/\n<=9223372036854775807) (w:World) :
  Calls Tryz.prog 232 #[.agg #[],.int .i64 n] w fun e w'=>e = .returned (.int .i64 (Aw 10 (B7 n)))/\Below w.heap.size w w':=by
 go_enter Tryz.func232,Tryz.ntmps232;go_wp2;go_ret;refine⟨Fw ?_,(Below.refl _ w).alloc (Nat.le_refl _) _⟩;rw[Qat];omega
theorem Dz {w w':World} {a0 a1 a2:Value} {t:TypeId} (hb:Below (w.heap.size+1) (w.alloc (.cells #[a0,a1,a2] t)) w') :
  Below (w.heap.size+1) (w.alloc (.cells #[a0,a1,a2] t)) w'/\w'.cell? ⟨w.heap.size,0,none⟩=some a0/\w'.cell? ⟨w.heap.size,1,none⟩=some a1/\w'.cell? ⟨w.heap.size,2,none⟩=some a2 :=
 ⟨hb,(Qb6 hb).1⟩
theorem Ed {w w0 w':World} {a0 a1 a2:Value} {t:TypeId} {p:Prop} (h:Below (w.heap.size+1) (w.alloc (.cells #[a0,a1,a2] t)) w0/\p) (hb:Below w0.heap.size w0 w') :
  Below (w.heap.size+1) (w.alloc (.cells #[a0,a1,a2] t)) w'/\w'.cell? ⟨w.heap.size,0,none⟩=some a0/\w'.cell? ⟨w.heap.size,1,none⟩=some a1/\w'.cell? ⟨w.heap.size,2,none⟩=some a2 :=
 Dz (h.1.trans (hb.mono (by have:=h.1.size;simpa using this)))
theorem Ec {w w':World} {a0 a1 a2:Value} {t:TypeId} {p:Prop} (h:Below (w.heap.size+1) (w.alloc (.cells #[a0,a1,a2] t)) w'/\p):Below w.heap.size w w' :=
 ((Below.refl _ w).alloc (Nat.le_refl _) _).trans (h.1.mono (by omega))
theorem Eb (w:World) (o:Obj):Below (w.heap.size+1) (w.alloc o) (w.alloc o).drew:=(Below.refl _ _).drew
theorem K4 (w:World):Calls Tryz.prog 161 #[.int .i64 3] w fun e w'=>e = .returned (.iface 236 (.agg #[]))/\w=w':=Ey 3 w
theorem Ke (w:World):Calls Tryz.prog 161 #[.int .i64 4] w fun e w'=>e = .returned (.iface 237 (.agg #[]))/\w=w':=Ey 4 w
theorem Kf (w:World):Calls Tryz.prog 161 #[.int .i64 5] w fun e w'=>e = .returned (.iface 238 (.agg #[]))/\w=w':=Ey 5 w
theorem Kg (w:World):Calls Tryz.prog 161 #[.int .i64 6] w fun e w'=>e = .returned (.iface 239 (.agg #[]))/\w=w':=Ey 6 w
theorem Lw (w:World):Calls Tryz.prog 161 #[.int .i64 7] w fun e w'=>e = .returned (.iface 240 (.agg #[]))/\w=w':=Ey 7 w
theorem Kx (w:World):Calls Tryz.prog 161 #[.int .i64 8] w fun e w'=>e = .returned (.iface 241 (.agg #[]))/\w=w':=Ey 8 w
theorem Ky (w:World):Calls Tryz.prog 161 #[.int .i64 9] w fun e w'=>e = .returned (.iface 242 (.agg #[]))/\w=w':=Ey 9 w
theorem Kz (w:World):Calls Tryz.prog 161 #[.int .i64 10] w fun e w'=>e = .returned (.iface 243 (.agg #[]))/\w=w':=Ey 10 w
end Go.Proofs.YtahibkjkpmdhgaaGreatDoor
