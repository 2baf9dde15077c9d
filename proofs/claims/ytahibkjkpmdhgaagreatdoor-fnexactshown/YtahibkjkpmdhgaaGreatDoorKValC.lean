import Derived.Test.YtahibkjkpmdhgaaGreatDoorKTk
import Derived.Test.YtahibkjkpmdhgaaGreatDoorKScanA
set_option maxRecDepth 100000
set_option maxHeartbeats 1000000
namespace Go.Proofs.YtahibkjkpmdhgaaGreatDoor
open Go.RowKit
theorem Qgi {W w1:World} {B g:Nat} {a0 a1 a2:Value} {t:TypeId} (hb:Below B W w1) (hg:g < B) (h:W.heap[g]? = some (.cells #[a0,a1,a2] t (0,0))) :
  (w1.cell? (OI g 0)=some a0/\w1.cell? (OI g 1)=some a1/\w1.cell? (OI g 2)=some a2)/\w1.frozen? (OI g 0)=false/\w1.frozen? (OI g 1)=false/\w1.frozen? (OI g 2)=false:=by
 have a:=hb.block g hg;rw[h]at a;simp[World.cell?,World.frozen?,a]
theorem Qd5 (w:World) (o:Obj):(w.alloc o).heap[w.heap.size]? = some o:=(MapKept.heap_alloc w o).1
theorem Tn (t n:Int) (x:ByteArray) (w:World) :
  Calls Tryz.prog 120 #[.agg #[.int .i64 t,.int .i64 n,.string x]] w fun e w'=>e = .returned (.agg #[.int .i64 t,.int .i64 n,.string x])/\OH w w':=by
 go_enter Tryz.func120,Tryz.ntmps120;go_wp2;exact bodyPost_ret (v:=.agg #[.int .i64 t,.int .i64 n,.string x]) (by simp[results,Tryz.results120,go_sem]) rfl ⟨rfl,(((Below.refl _ w).alloc (Nat.le_refl _) _).alloc OB _).alloc (by simp only[World.size_alloc];omega) _⟩
theorem Q6 (t n:Int) (x:ByteArray) (w:World) :
  Calls Tryz.prog 134 #[.agg #[.int .i64 t,.int .i64 n,.string x],.agg #[.int .i64 t,.int .i64 n,.string x]] w fun e w'=>e = .returned (.bool true)/\OH w w':=by
 have a:(t != t)=false:=by simp
 have b:(n != n)=false:=by simp
 go_enter Tryz.func134,Tryz.ntmps134;go_wp2;all_goals go_ret
 all_goals exact⟨rfl,((Below.refl _ w).alloc (Nat.le_refl _) _).alloc OB _⟩
def Qae (x:ByteArray) (l:Int):Int:=if l - (x.size:Int) < 0 then -1 else l - (x.size:Int)
theorem Ng (t n:Int) (x:ByteArray) (l:Int) (hx:x.size<=9223372036854775807) (h0:0<=l) (h1:l<=1048576) (w:World) :
  Calls Tryz.prog 109 #[.agg #[.int .i64 t,.int .i64 n,.string x],.int .i64 l] w fun e w'=>e = .returned (.int .i64 (Qae x l))/\OH w w':=by
 unfold Qae;by_cases h:l - (x.size:Int) < 0
 ·rw[if_pos h];go_enter Tryz.func109,Tryz.ntmps109;go_wp2;go_ret;exact⟨rfl,(Below.refl _ w).alloc (Nat.le_refl _) _⟩
 ·rw[if_neg h];go_enter Tryz.func109,Tryz.ntmps109;go_wp2;go_ret;exact⟨rfl,(Below.refl _ w).alloc (Nat.le_refl _) _⟩
theorem Qfk {w w1:World} {a0 a1 a2:Value} {t:TypeId} (hb:Below (w.heap.size+1) (w.alloc (.cells #[a0,a1,a2] t)) w1) :
  (w1.cell? (OK w 0)=some a0/\w1.cell? (OK w 1)=some a1/\w1.cell? (OK w 2)=some a2)/\w1.frozen? (OK w 0)=false/\w1.frozen? (OK w 1)=false/\w1.frozen? (OK w 2)=false :=
 Qgi (t:=t) hb Ou (Qd5 w _)
theorem Bn (t:Int) (w:World) :
  Calls Tryz.prog 160 #[.int .i64 t] w fun e w'=>e = .returned (.bool (Bc t))/\w=w':=by
 go_enter Tryz.func160,Tryz.ntmps160;go_wp2;all_goals go_ret
 all_goals exact⟨by simp[Bc,decide_eq_true_eq, *] <;> omega,rfl⟩
def Qeo (t:Int):TypeId:=if t=3 then 236 else if t=4 then 237 else if t=5 then 238 else if t=6 then 239 else if t=7 then 240 else if t=8 then 241 else if t=9 then 242 else 243
theorem Fg (t:Int) (w:World) :
  Calls Tryz.prog 161 #[.int .i64 t] w fun e w'=>e = .returned (.iface (Qeo t) (.agg #[]))/\w=w':=by
 go_enter Tryz.func161,Tryz.ntmps161;go_wp2;all_goals go_ret
 all_goals exact⟨by simp_all [Qeo],rfl⟩
theorem Tryz.tk_uint8 (v:Value) (w:World):(method 372 236 v "loop.example/kilnmill/impl.taken").run Tryz.prog w = .ok (204,v) w:=OA
theorem Tryz.tk_uint16 (v:Value) (w:World):(method 372 237 v "loop.example/kilnmill/impl.taken").run Tryz.prog w = .ok (208,v) w:=OA
theorem Tryz.tk_uint32 (v:Value) (w:World):(method 372 238 v "loop.example/kilnmill/impl.taken").run Tryz.prog w = .ok (212,v) w:=OA
theorem Tryz.tk_uint64 (v:Value) (w:World):(method 372 239 v "loop.example/kilnmill/impl.taken").run Tryz.prog w = .ok (216,v) w:=OA
theorem Tryz.tk_int8 (v:Value) (w:World):(method 372 240 v "loop.example/kilnmill/impl.taken").run Tryz.prog w = .ok (220,v) w:=OA
theorem Tryz.tk_int16 (v:Value) (w:World):(method 372 241 v "loop.example/kilnmill/impl.taken").run Tryz.prog w = .ok (224,v) w:=OA
theorem Tryz.tk_int32 (v:Value) (w:World):(method 372 242 v "loop.example/kilnmill/impl.taken").run Tryz.prog w = .ok (228,v) w:=OA
theorem Tryz.tk_int64 (v:Value) (w:World):(method 372 243 v "loop.example/kilnmill/impl.taken").run Tryz.prog w = .ok (232,v) w:=OA
theorem Qgv (x:Int):IntKind.u16.wrap x=x % 65536:=by rfl
theorem Qg6 (x:Int):IntKind.i8.wrap x=(x+128) % 256 - 128:=by
 have a:((2:Int) ^ IntKind.i8.bits)=256:=by decide
 have b:((2:Int) ^ (IntKind.i8.bits - 1))=128:=by decide
 have c:IntKind.i8.signed=true:=rfl;unfold IntKind.wrap;simp only[a,b,c,Bool.true_and,decide_eq_true_eq];split <;> omega
theorem Qgu (x:Int):IntKind.i16.wrap x=(x+32768) % 65536 - 32768:=by
 have a:((2:Int) ^ IntKind.i16.bits)=65536:=by decide
 have b:((2:Int) ^ (IntKind.i16.bits - 1))=32768:=by decide
 have c:IntKind.i16.signed=true:=rfl;unfold IntKind.wrap;simp only[a,b,c,Bool.true_and,decide_eq_true_eq];split <;> omega
theorem Qaf (x:Int):wrap32 x=(x+2147483648) % 4294967296 - 2147483648:=by first|rfl|(unfold wrap32;omega)
theorem Qfd (n:Int):Ay 3 (Cb n)=n % 256:=by
 have a:Ex 3=8:=by decide
 have b:Em 3=false:=by decide
 unfold Ay G2 Cb;rw[a,b];simp (decide:=true);try (split <;> omega)
 try omega
theorem Qfe (n:Int):Ay 4 (Cb n)=n % 65536:=by
 have a:Ex 4=16:=by decide
 have b:Em 4=false:=by decide
 unfold Ay G2 Cb;rw[a,b];simp (decide:=true);try (split <;> omega)
 try omega
theorem Qff (n:Int):Ay 5 (Cb n)=n % 4294967296:=by
 have a:Ex 5=32:=by decide
 have b:Em 5=false:=by decide
 unfold Ay G2 Cb;rw[a,b];simp (decide:=true);try (split <;> omega)
 try omega
theorem Qfg (n:Int):Ay 6 (Cb n)=(n+9223372036854775808) % 18446744073709551616 - 9223372036854775808:=by
 have a:Ex 6=64:=by decide
 have b:Em 6=false:=by decide
 unfold Ay G2 Cb;rw[a,b];simp (decide:=true);try (split <;> omega)
 try omega
theorem Qfh (n:Int):Ay 7 (Cb n)=(n+128) % 256 - 128:=by
 have a:Ex 7=8:=by decide
 have b:Em 7=true:=by decide
 unfold Ay G2 Cb;rw[a,b];simp (decide:=true);try (split <;> omega)
 try omega
theorem Qfi (n:Int):Ay 8 (Cb n)=(n+32768) % 65536 - 32768:=by
 have a:Ex 8=16:=by decide
 have b:Em 8=true:=by decide
 unfold Ay G2 Cb;rw[a,b];simp (decide:=true);try (split <;> omega)
 try omega
theorem Qfj (n:Int):Ay 9 (Cb n)=(n+2147483648) % 4294967296 - 2147483648:=by
 have a:Ex 9=32:=by decide
 have b:Em 9=true:=by decide
 unfold Ay G2 Cb;rw[a,b];simp (decide:=true);try (split <;> omega)
 try omega
theorem Qd4 (n:Int):Ay 10 (Cb n)=(n+9223372036854775808) % 18446744073709551616 - 9223372036854775808:=by
 have a:Ex 10=64:=by decide
 have b:Em 10=true:=by decide
 unfold Ay G2 Cb;rw[a,b];simp (decide:=true);try (split <;> omega)
 try omega
theorem Nk (n:Int) (_hn : -9223372036854775808<=n/\n<=9223372036854775807) (w:World) :
  Calls Tryz.prog 204 #[.agg #[],.int .i64 n] w fun e w'=>e = .returned (.int .i64 (Ay 3 (Cb n)))/\OH w w':=by
 go_enter Tryz.func204,Tryz.ntmps204;go_wp2;go_ret;refine⟨Gg ?_,(Below.refl _ w).alloc (Nat.le_refl _) _⟩;rw[Qfd]
theorem Ma (n:Int) (_hn : -9223372036854775808<=n/\n<=9223372036854775807) (w:World) :
  Calls Tryz.prog 208 #[.agg #[],.int .i64 n] w fun e w'=>e = .returned (.int .i64 (Ay 4 (Cb n)))/\OH w w':=by
 go_enter Tryz.func208,Tryz.ntmps208;go_wp2;go_ret;refine⟨Gg ?_,(Below.refl _ w).alloc (Nat.le_refl _) _⟩;rw[Qfe,E6,Qgv];omega
theorem Mb (n:Int) (_hn : -9223372036854775808<=n/\n<=9223372036854775807) (w:World) :
  Calls Tryz.prog 212 #[.agg #[],.int .i64 n] w fun e w'=>e = .returned (.int .i64 (Ay 5 (Cb n)))/\OH w w':=by
 go_enter Tryz.func212,Tryz.ntmps212;go_wp2;go_ret;refine⟨Gg ?_,(Below.refl _ w).alloc (Nat.le_refl _) _⟩;rw[Qff]
theorem Mc (n:Int) (_hn : -9223372036854775808<=n/\n<=9223372036854775807) (w:World) :
  Calls Tryz.prog 216 #[.agg #[],.int .i64 n] w fun e w'=>e = .returned (.int .i64 (Ay 6 (Cb n)))/\OH w w':=by
 go_enter Tryz.func216,Tryz.ntmps216;go_wp2;go_ret;refine⟨Gg ?_,(Below.refl _ w).alloc (Nat.le_refl _) _⟩;rw[Qfg,E6,K9];omega
theorem Oa (n:Int) (_hn : -9223372036854775808<=n/\n<=9223372036854775807) (w:World) :
  Calls Tryz.prog 220 #[.agg #[],.int .i64 n] w fun e w'=>e = .returned (.int .i64 (Ay 7 (Cb n)))/\OH w w':=by
 go_enter Tryz.func220,Tryz.ntmps220;go_wp2;go_ret;refine⟨Gg ?_,(Below.refl _ w).alloc (Nat.le_refl _) _⟩;rw[Qfh,E6,Qg6];omega
theorem Nh (n:Int) (_hn : -9223372036854775808<=n/\n<=9223372036854775807) (w:World) :
  Calls Tryz.prog 224 #[.agg #[],.int .i64 n] w fun e w'=>e = .returned (.int .i64 (Ay 8 (Cb n)))/\OH w w':=by
 go_enter Tryz.func224,Tryz.ntmps224;go_wp2;go_ret;refine⟨Gg ?_,(Below.refl _ w).alloc (Nat.le_refl _) _⟩;rw[Qfi,E6,Qgu];omega
theorem Ni (n:Int) (_hn : -9223372036854775808<=n/\n<=9223372036854775807) (w:World) :
  Calls Tryz.prog 228 #[.agg #[],.int .i64 n] w fun e w'=>e = .returned (.int .i64 (Ay 9 (Cb n)))/\OH w w':=by
 go_enter Tryz.func228,Tryz.ntmps228;go_wp2;go_ret;refine⟨Gg ?_,(Below.refl _ w).alloc (Nat.le_refl _) _⟩;rw[Qfj,E6,Qaf];omega
theorem Nj (n:Int) (hn : -9223372036854775808<=n/\n<=9223372036854775807) (w:World) :
  Calls Tryz.prog 232 #[.agg #[],.int .i64 n] w fun e w'=>e = .returned (.int .i64 (Ay 10 (Cb n)))/\OH w w':=by
 go_enter Tryz.func232,Tryz.ntmps232;go_wp2;go_ret;refine⟨Gg ?_,(Below.refl _ w).alloc (Nat.le_refl _) _⟩;rw[Qd4];omega
theorem Ef {w w':World} {a0 a1 a2:Value} {t:TypeId} (hb:Below (w.heap.size+1) (w.alloc (.cells #[a0,a1,a2] t)) w') :
  Below (w.heap.size+1) (w.alloc (.cells #[a0,a1,a2] t)) w'/\w'.cell? (OK w 0)=some a0/\w'.cell? (OK w 1)=some a1/\w'.cell? (OK w 2)=some a2 :=
 ⟨hb,(Qfk hb).1⟩
theorem Er {w w0 w':World} {a0 a1 a2:Value} {t:TypeId} {p:Prop} (h:Below (w.heap.size+1) (w.alloc (.cells #[a0,a1,a2] t)) w0/\p) (hb:OH w0 w') :
  Below (w.heap.size+1) (w.alloc (.cells #[a0,a1,a2] t)) w'/\w'.cell? (OK w 0)=some a0/\w'.cell? (OK w 1)=some a1/\w'.cell? (OK w 2)=some a2 :=
 Ef (h.1.trans (hb.mono (by have:=h.1.size;simpa using this)))
theorem Ep {w w':World} {a0 a1 a2:Value} {t:TypeId} {p:Prop} (h:Below (w.heap.size+1) (w.alloc (.cells #[a0,a1,a2] t)) w'/\p):OH w w' :=
 ((Below.refl _ w).alloc (Nat.le_refl _) _).trans (h.1.mono Ou)
theorem Eo (w:World) (o:Obj):Below (w.heap.size+1) (w.alloc o) (w.alloc o).drew:=(Below.refl _ _).drew
theorem L8 (w:World):Calls Tryz.prog 161 #[.int .i64 3] w fun e w'=>e = .returned (.iface 236 (.agg #[]))/\w=w':=Fg 3 w
theorem Ln (w:World):Calls Tryz.prog 161 #[.int .i64 4] w fun e w'=>e = .returned (.iface 237 (.agg #[]))/\w=w':=Fg 4 w
theorem Lo (w:World):Calls Tryz.prog 161 #[.int .i64 5] w fun e w'=>e = .returned (.iface 238 (.agg #[]))/\w=w':=Fg 5 w
theorem Lp (w:World):Calls Tryz.prog 161 #[.int .i64 6] w fun e w'=>e = .returned (.iface 239 (.agg #[]))/\w=w':=Fg 6 w
theorem Nf (w:World):Calls Tryz.prog 161 #[.int .i64 7] w fun e w'=>e = .returned (.iface 240 (.agg #[]))/\w=w':=Fg 7 w
theorem L5 (w:World):Calls Tryz.prog 161 #[.int .i64 8] w fun e w'=>e = .returned (.iface 241 (.agg #[]))/\w=w':=Fg 8 w
theorem L6 (w:World):Calls Tryz.prog 161 #[.int .i64 9] w fun e w'=>e = .returned (.iface 242 (.agg #[]))/\w=w':=Fg 9 w
theorem L7 (w:World):Calls Tryz.prog 161 #[.int .i64 10] w fun e w'=>e = .returned (.iface 243 (.agg #[]))/\w=w':=Fg 10 w
end Go.Proofs.YtahibkjkpmdhgaaGreatDoor
