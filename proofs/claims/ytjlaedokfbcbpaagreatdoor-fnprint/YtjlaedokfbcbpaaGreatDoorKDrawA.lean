import Derived.Test.YtjlaedokfbcbpaaGreatDoorKTk
import Derived.Test.YtjlaedokfbcbpaaGreatDoorRows
import Derived.WalkKit
import Derived.ProofKit
import Derived.Below
import Derived.Deep.QuietTactic
import Derived.BigQuiet
import Derived.WalkSpells
import Derived.WalkLawsBesides
import Derived.KernelRfl
import Derived.LoopTactic
import Derived.RangeFuncBox
import Derived.OwnWalkIn
import Derived.Lib.UnsafeStr
import Derived.Laws.IdiomStrings
import Derived.Laws.BytesArg
import Derived.Deep.RegionLaw
set_option maxRecDepth 100000
set_option maxHeartbeats 2000000
namespace Go.Proofs.YtjlaedokfbcbpaaGreatDoor
open Go.RowKit Proofs.Tryz
attribute [local go_sem] Oper.semAt_some
def G3 (w:World) (R:Nat) (v:Value) (n:Nat):Prop :=
 (∃ a cap,v = .slice a 0 cap/\n=0)\/∃ b off cap,v = .slice (some (OK b off)) n cap/\b < R/\∀ i,i < n->∃ x:Int,0<=x/\x<=255/\w.cell? (OK b (off+i))=some (.int .u8 x)
theorem Qg8 (a b:Nat) (ha:a < 1125899906842624) (hb:b < 1125899906842624):bits .xor .i64 (a:Int) (b:Int)=((a ^^^ b:Nat):Int):=by
 have f:a ^^^ b < 2 ^ 50:=Nat.xor_lt_two_pow OC OC;have c:(BitVec.ofInt 64 (a:Int)).toNat=a:=by
  rw[BitVec.ofInt_natCast,BitVec.toNat_ofNat];exact Nat.mod_eq_of_lt OC
 have d:(BitVec.ofInt 64 (b:Int)).toNat=b:=by
  rw[BitVec.ofInt_natCast,BitVec.toNat_ofNat];exact Nat.mod_eq_of_lt OC
 show IntKind.i64.wrap ((BitVec.ofInt 64 (a:Int) ^^^ BitVec.ofInt 64 (b:Int)).toNat:Int)=_
 rw[BitVec.toNat_xor,c,d];generalize a ^^^ b=z at *;simp[IntKind.wrap,IntKind.bits,IntKind.signed];omega
theorem Qk7 (k:Nat) (hk:k < 1125899906842624):bits .xor .i64 (k:Int) ((k:Int) / 64)=((k ^^^ k / 64:Nat):Int):=by
 have d:((k:Int) / 64)=((k / 64:Nat):Int):=OC
 rw[d];exact Qg8 _ _ hk OC
structure Dn (w:World) (R p:Nat):Prop where
 box:∃ v n,w.heap[R]? = some (.cells #[v,.int .i64 (p:Int)] 81 (0,0))/\n<=2000/\G3 w R v n
theorem pick_any (w:World) (R p n:Nat) (hR:Dn w R p) (hp:p < 1099511627776) (q:1<=n) (r:n<=1099511627776) :
  Calls prog 26 #[.pointer (some (OK R 0)),.int .i64 (n:Int)] w fun e w' => ∃ v:Nat,e = .returned (.int .i64 (v:Int))/\v < n/\w'.Alike (w.setCell (OK R 1) (.int .i64 ((p:Int)+1)))/\w'.tape=w.tape:=by
 obtain⟨v,m,f,T,D⟩:=hR.box;have O:w.cell? (OK R 0)=some v:=by simp[World.cell?,f]
 have P:w.cell? (OK R 1)=some (.int .i64 (p:Int)):=by simp[World.cell?,f]
 have Q:w.frozen? (OK R 0)=false:=by simp[World.frozen?,f]
 have S:w.frozen? (OK R 1)=false:=by simp[World.frozen?,f]
 rcases D with⟨a,g,rfl,rfl⟩|⟨b,o,g,rfl,E,d⟩
 ·go_enter func26,ntmps26;go_wp2;go_ret;exact⟨0,rfl,by omega,⟨rfl,rfl,rfl⟩,rfl⟩
 ·by_cases hm0:m=0
  ·subst hm0;go_enter func26,ntmps26;go_wp2;go_ret;exact⟨0,rfl,by omega,⟨rfl,rfl,rfl⟩,rfl⟩
  ·have G:((m:Int) == 0)=false:=(by simpa using hm0);have c:∀ i,i < m->∃ x:Int,0<=x/\x<=255/\(w.setCell (OK R 1) (.int .i64 ((p:Int)+1))).cell? (OK b (o+i))=some (.int .u8 x):=fun i hi=>by
    obtain⟨x,q,r,C⟩:=d i hi;exact⟨x,q,r,(World.cell?_setCell_other _ _ _ _ (by intro e;injection e with e1;omega)).trans C⟩
   clear d hR;by_cases hpm:p < m
   ·obtain⟨x,j,l,s⟩:=c p hpm;clear c;go_enter func26,ntmps26;have h:=Int.emod_nonneg x (show (n:Int)≠0 by omega);have H:=Int.emod_lt_of_pos x (show (0:Int) < (n:Int) by omega);go_wp2;refine bodyPost_ret (v:=.int .i64 (x % (n:Int))) (by simp[results,Tryz.f26,go_sem]) rfl ⟨(x % (n:Int)).toNat,by rw[Int.toNat_of_nonneg h],by omega,⟨rfl,rfl,rfl⟩,rfl⟩
   ·obtain⟨x,j,l,s⟩:=c (p % m) (Nat.mod_lt _ OC);obtain⟨y,J,K,I⟩:=c ((p * 7+3) % m) (Nat.mod_lt _ OC);clear c;have u:=Int.emod_nonneg (p:Int) (show (m:Int)≠0 by omega);have z:=Int.emod_lt_of_pos (p:Int) (show (0:Int) < (m:Int) by omega);have A:=Int.emod_nonneg ((p:Int) * 7+3) (show (m:Int)≠0 by omega);have B:=Int.emod_lt_of_pos ((p:Int) * 7+3) (show (0:Int) < (m:Int) by omega);have L:0<=(p:Int) / (m:Int):=Int.ediv_nonneg OC OC;have M:(p:Int) / (m:Int)<=(p:Int):=Int.ediv_le_self _ OC;go_enter func26,ntmps26;go_wp2;go_region;have t:0<=x * 131+y * 1117+(p:Int) * 29+(p:Int) / (m:Int) * 53:=OC;have N:x * 131+y * 1117+(p:Int) * 29+(p:Int) / (m:Int) * 53 < 1125899906842624:=OC;generalize x * 131+y * 1117+(p:Int) * 29+(p:Int) / (m:Int) * 53=X at *;clear u z A B L M s I;go_wp2;obtain⟨k,rfl⟩:=Int.eq_ofNat_of_zero_le t;have F:k < 1125899906842624:=OC;refine bodyPost_ret (v:=.int .i64 ((bits .xor .i64 (k:Int) ((k:Int) / 64)).tmod (n:Int))) (by simp[results,Tryz.f26,go_sem]) rfl ⟨(k ^^^ k / 64) % n, ?_,Nat.mod_lt _ OC,⟨rfl,rfl,rfl⟩,rfl⟩;rw[Qk7 k F,Int.ofNat_tmod]
attribute [local go_sem] Oper.semAt_some
theorem Qgv (a k:Nat) (h:k % 2=1):a * k=a * (k / 2)+a * (k / 2)+a:=by
 have e:a * (2 * (k / 2)+1)=a * (k / 2)+a * (k / 2)+a:=by rw[Nat.mul_add,Nat.mul_one,Nat.mul_left_comm];omega
 rwa [show 2 * (k / 2)+1=k by omega]at e
theorem Qej (a k:Nat) (h:k % 2=0):a * k=a * (k / 2)+a * (k / 2):=by
 have e:a * (2 * (k / 2))=a * (k / 2)+a * (k / 2):=by rw[Nat.mul_left_comm];omega
 rwa [show 2 * (k / 2)=k by omega]at e
theorem Dn.next {w w':World} {R p:Nat} (h:Dn w R p) (ha:w'.Alike (w.setCell (OK R 1) (.int .i64 ((p:Int)+1)))):Dn w' R (p+1):=by
 obtain⟨v,n,m,q,l⟩:=h.box;have o:∀ a,w'.cell? a=(w.setCell (OK R 1) (.int .i64 ((p:Int)+1))).cell? a:=fun a=>by unfold World.cell?;rw[ha.1]
 refine⟨v,n, ?_,q, ?_⟩
 ·rw[ha.1];simp[World.setCell,Array.getElem?_modify,m]
 ·rcases l with f|⟨b,d,c,g,j,k⟩
  ·exact .inl f
  ·refine .inr ⟨b,d,c,g,j,fun i hi => ?_⟩;obtain⟨x,s,t,r⟩:=k i hi;exact⟨x,s,t,by rw[o];exact(World.cell?_setCell_other _ _ _ _ (by intro e;injection e with e1;omega)).trans r⟩
structure Cp (R:Nat) (w w':World):Prop where
 os:w'.os=w.os
 tape:w'.tape=w.tape
 output:w'.output=w.output
 size:w.heap.size<=w'.heap.size
 block:∀ k,k < w.heap.size->k≠R->w'.heap[k]? = w.heap[k]?
theorem Cp.refl (R:Nat) (w:World):Cp R w w:=⟨rfl,rfl,rfl,Nat.le_refl _,fun _ _ _=>rfl⟩
theorem Cp.trans {R:Nat} {a b c:World} (h:Cp R a b) (k:Cp R b c):Cp R a c :=
 ⟨k.os.trans h.os,k.tape.trans h.tape,k.output.trans h.output,Nat.le_trans h.size k.size,fun i hi hR=>(k.block i (Nat.lt_of_lt_of_le hi h.size) hR).trans (h.block i hi hR)⟩
theorem Cp.of_below {R:Nat} {w w':World} (h:Below w.heap.size w w'):Cp R w w':=⟨h.os,h.tape,h.output,h.size,fun k hk _=>h.block k hk⟩
theorem Cp.alloc {R:Nat} {w w':World} (h:Cp R w w') (o:Obj):Cp R w (w'.alloc o) :=
 h.trans (Cp.of_below (OP w' o))
structure El (R p K:Nat) (w w':World):Prop where
 at_:∃ p',p<=p'/\p'<=p+K/\Dn w' R p'
 but:Cp R w w'
theorem Dn.below {w w':World} {R p:Nat} (h:Dn w R p) (hb:Below w.heap.size w w'):Dn w' R p:=by
 obtain⟨v,n,f,m,l⟩:=h.box;have d:=(Array.getElem?_eq_some_iff.1 f).1;refine⟨v,n,(hb.block R d).trans f,m, ?_⟩;rcases l with e|⟨b,a,c,g,j,k⟩
 ·exact .inl e
 ·refine .inr ⟨b,a,c,g,j,fun i hi => ?_⟩;obtain⟨x,q,r,o⟩:=k i hi;exact⟨x,q,r,(hb.cell (p:=(OK b (a+i))) (show b < w.heap.size by omega)).trans o⟩
theorem El.below {R p K:Nat} {w w' w'':World} (h:El R p K w w') (hb:Below w'.heap.size w' w''):El R p K w w'':=by
 obtain⟨d,a,b,c⟩:=h.at_;exact⟨⟨d,a,b,c.below hb⟩,h.but.trans (Cp.of_below hb)⟩
theorem El.alloc {R p K:Nat} {w w':World} (h:El R p K w w') (o:Obj):El R p K w (w'.alloc o):=h.below (OP w' o)
theorem El.refl {R p:Nat} {w:World} (h:Dn w R p):El R p 0 w w:=⟨⟨p,Nat.le_refl _,Nat.le_refl _,h⟩,Cp.refl R w⟩
theorem pick_dr (w:World) (R p n:Nat) (hR:Dn w R p) (hp:p < 1099511627776) (h1:1<=n) (h2:n<=1099511627776) :
  Calls prog 26 #[.pointer (some (OK R 0)),.int .i64 (n:Int)] w fun e w' => ∃ v:Nat,e = .returned (.int .i64 (v:Int))/\v < n/\Dn w' R (p+1)/\Cp R w w':=by
 refine(pick_any w R p n hR hp h1 h2).mono ?_;rintro e w' ⟨v,b,d,a,c⟩;refine⟨v,b,d,hR.next a,a.2.1,c,a.2.2, ?_,fun k hk hkR => ?_⟩
 ·rw[a.1];simp[World.setCell]
 ·rw[a.1];simp[World.setCell,Array.getElem?_modify,Ne.symm hkR]
def Jr (M:Nat):Value->Bool
 | .string t=>decide (t.size<=M)
 | _=>false
theorem Mn {M:Nat} {v:Value} (h:Jr M v=true):∃ t:ByteArray,v = .string t/\t.size<=M:=by
 cases v with
 | string t=>exact⟨t,rfl,by simpa[Jr]using h⟩
 | _=>simp[Jr]at h
theorem Qer {w w1:World} {R:Nat} {cs:Array Value} {T M:Nat} (hB:Cp R (w.alloc (.cells cs T)) w1) (hR:R < w.heap.size) (hM:cs.toList.all (Jr M)=true) (v:Nat) (hv:v < cs.size):∃ t:ByteArray,w1.cell? (OK w.heap.size v)=some (.string t)/\t.size<=M:=by
 have a:=hB.block w.heap.size OF OC;rw[World.alloc_heap_new]at a;obtain⟨t,c,b⟩:=Mn (List.all_eq_true.1 hM cs[v] OF);exact⟨t,by simp[World.cell?,a,hv,c],b⟩
theorem Dn.lt {w:World} {R p:Nat} (h:Dn w R p):R < w.heap.size:=by
 obtain⟨v,n,a,_⟩:=h.box;exact(Array.getElem?_eq_some_iff.1 a).1
theorem l1Path_any (w:World) (R p:Nat) (hR:Dn w R p) (hp:p < 1000000000000) :
  Calls prog 185 #[.pointer (some (OK R 0))] w fun e w' => ∃ t:ByteArray,e = .returned (.string t)/\t.size<=5/\El R p 1 w w':=by
 go_enter func185,ntmps185;go_wp2_with (go_at_call 26;refine(pick_dr _ R p 8 (hR.below (OP w _)) OC OC OC).mono ?_;rintro e g ⟨v,rfl,d,b,a⟩;obtain⟨t,f,c⟩:=Qer (M:=5) a hR.lt OD v (by simpa using d));go_ret;exact⟨t,rfl,c,⟨p+1,by omega,by omega,b⟩,(Cp.of_below (OP w _)).trans a⟩
theorem l1Many_any (s:ByteArray) (n:Nat) (w:World) (hs:s.size<=1000) (hn:n<=100000) :
  Calls prog 58 #[.string s,.int .i64 (n:Int)] w fun e w' => ∃ t:ByteArray,e = .returned (.string t)/\t.size=s.size * n/\Below w.heap.size w w':=by
 have m:s.size * n<=100000000:=by
  have:=Nat.mul_le_mul hs hn;omega
 go_enter func58,ntmps58;go_wp2;go_loopw [0,1,5] (fun a b c wr => ∃ (f d:ByteArray) (k:Nat),a = .string f/\b = .int .i64 (k:Int)/\c = .string d/\d.size+f.size * k=s.size * n/\f.size<=200001000/\k<=100000/\Below w.heap.size w wr) (fun _ b _ _=>(intOf b).toNat);case atStart=>exact⟨s,ByteArray.empty,n,rfl,rfl,rfl,by simp,by omega,hn,OO _⟩
 case round =>
  obtain⟨f,d,k,rfl,rfl,rfl,h,o,j,g⟩:=hrel;by_cases hk0:k=0
  ·subst hk0;simp at h;go_wp2;go_ret;exact⟨d,rfl,h,g⟩
  ·have l:f.size<=s.size * n:=by
    have:=Nat.le_mul_of_pos_right f.size (show 0 < k by omega);omega
   by_cases ho:k % 2=1
   ·have i:((k:Int) % 2 == 1)=true:=OH;go_wp2;have e:=Qgv f.size k ho;refine⟨⟨f++f,d++f,k / 2,rfl,by simp,rfl, ?_,by simp;omega,by omega,g⟩, ?_⟩
    ·simp only[ByteArray.size_append,Nat.add_mul];omega
    ·simp[intOf];omega
   ·have i:((k:Int) % 2 == 1)=false:=OH;go_wp2;have e:=Qej f.size k OC;refine⟨⟨f++f,d,k / 2,rfl,by simp,rfl, ?_,by simp;omega,by omega,g⟩, ?_⟩
    ·simp only[ByteArray.size_append,Nat.add_mul];omega
    ·simp[intOf];omega
attribute [local go_sem] Oper.semAt_some
theorem G3.below {w w':World} {R n:Nat} {v:Value} (h:G3 w R v n) (hR:R<=w.heap.size) (hb:Below w.heap.size w w'):G3 w' R v n:=by
 rcases h with e|⟨b,a,c,d,f,g⟩
 ·exact .inl e
 ·refine .inr ⟨b,a,c,d,f,fun i hi => ?_⟩;obtain⟨x,k,l,j⟩:=g i hi;exact⟨x,k,l,(hb.cell (p:=(OK b (a+i))) (show b < w.heap.size by omega)).trans j⟩
theorem Dn.open_ {w:World} {v:Value} {n:Nat} (hn:n<=2000) (h:G3 w w.heap.size v n):Dn (w.alloc (.cells #[v,.int .i64 0] 81)) w.heap.size 0 :=
 ⟨v,n,World.alloc_heap_new w _,hn,h.below ON (OP w _)⟩
theorem l1Open_any (w:World) (v:Value) (n:Nat) (hB:G3 w w.heap.size v n) (hc:∀ a m c,v = .slice a m c->m<=c) (hn:n<=1048576) :
  Calls prog 12 #[v] w fun e w'=>e = .returned (.pointer (some (OK w.heap.size 0)))/\Dn w' w.heap.size 0/\Below w.heap.size w w':=by
 have f:=hB;rcases hB with⟨a,d,rfl,rfl⟩|⟨b,h,d,rfl,k,g⟩
 ·go_enter func12,ntmps12;go_wp2;go_ret;exact⟨rfl,Dn.open_ (Nat.zero_le _) f,OP w _⟩
 ·have j:=hc _ _ _ rfl;by_cases h2:2000 < n
  ·go_enter func12,ntmps12;go_wp2;go_ret;exact⟨rfl,Dn.open_ (n:=2000) OC (.inr ⟨b,h,d,rfl,k,fun i hi=>g i OC⟩),OP w _⟩
  ·go_enter func12,ntmps12;go_wp2;go_ret;exact⟨rfl,Dn.open_ OC f,OP w _⟩
theorem pick_D {w w1:World} {R p k:Nat} (n:Int) (hD:El R p k w w1) (hp:p+k < 1000000000000) (h1:1<=n) (h2:n<=1048576) :
  Calls prog 26 #[.pointer (some (OK R 0)),.int .i64 n] w1 fun e w' => ∃ v:Nat,e = .returned (.int .i64 (v:Int))/\(v:Int) < n/\El R p (k+1) w w'/\Cp R w1 w':=by
 obtain⟨c,g,h,d⟩:=hD.at_;obtain⟨m,rfl⟩:=Int.eq_ofNat_of_zero_le (show 0<=n by omega);refine(pick_dr w1 R c m d OC OC OC).mono ?_;rintro e w' ⟨v,f,i,a,b⟩;exact⟨v,f,by omega,⟨⟨c+1,by omega,by omega,a⟩,hD.but.trans b⟩,b⟩
theorem path_D {w w1:World} {R p k:Nat} (hD:El R p k w w1) (hp:p+k < 100000000000) :
  Calls prog 185 #[.pointer (some (OK R 0))] w1 fun e w' => ∃ t:ByteArray,e = .returned (.string t)/\t.size<=5/\El R p (k+1) w w'/\Cp R w1 w':=by
 obtain⟨h,i,j,d⟩:=hD.at_;refine(l1Path_any w1 R h d OC).mono ?_;rintro e w' ⟨t,f,g,a⟩;obtain⟨c,l,m,b⟩:=a.at_;exact⟨t,f,g,⟨⟨c,by omega,by omega,b⟩,hD.but.trans a.but⟩,a.but⟩
theorem El.mono {R p k k':Nat} {w w':World} (h:El R p k w w') (hk:k<=k'):El R p k' w w':=by
 obtain⟨c,a,d,b⟩:=h.at_;exact⟨⟨c,a,by omega,b⟩,h.but⟩
theorem Qgy {w w':World} {R B e size n:Nat} {v:Value} {xs:List Value} (h:w.ownsRow B e size v n xs) (hB:R < B) (hb:Cp R w w'):w'.ownsRow B e size v n xs:=by
 refine⟨h.1, ?_⟩;rcases h.2 with c|⟨g,a,b,f,c,d,i⟩
 ·exact .inl c
 ·exact .inr ⟨g,a,b,f,c,(hb.block g (Array.getElem?_eq_some_iff.1 d).1 OC).trans d,i⟩
theorem El.lt {R p k:Nat} {w w':World} (h:El R p k w w'):R < w'.heap.size:=by
 obtain⟨b,_,_,a⟩:=h.at_;exact a.lt
theorem El.grown {R p k B:Nat} {w w1 w2:World} {row:Option Nat} (h:El R p k w w1) (hg:w1.grownBy w2 row) (hrow:∀ j,row=some j->B<=j) (hB:R < B) (hw:w.heap.size<=B):El R p k w w2:=by
 obtain⟨z,m,o,g⟩:=h.at_;have d:=g.lt;obtain⟨v,n,q,y,u⟩:=g.box;have c:∀ i,i < w1.heap.size->i < B->w2.heap[i]? = w1.heap[i]?:=fun i hi hiB=>hg.block i hi (fun e=>by have:=hrow i e.symm;omega)
 refine⟨⟨z,m,o,⟨v,n,(c R d hB).trans q,y, ?_⟩⟩,h.but.os ▸ hg.os,h.but.tape ▸ hg.tape,h.but.output ▸ hg.output,Nat.le_trans h.but.size hg.size,fun i hi hiR=>(c i (Nat.lt_of_lt_of_le hi h.but.size) OC).trans (h.but.block i hi hiR)⟩;rcases u with e|⟨b,f,a,r,s,t⟩
 ·exact .inl e
 ·refine .inr ⟨b,f,a,r,s,fun i hi => ?_⟩;obtain⟨x,A,C,l⟩:=t i hi;refine⟨x,A,C, ?_⟩;have:=c b OC OC;simp only[World.cell?,this]at l |-
  exact l
def Bp (b:Int):Bool:=decide (97<=b) && decide (b<=122)
def B4 (b:Int):Bool:=decide (48<=b) && decide (b<=57)
def Dc (b:Int):Bool:=Bp b || B4 b || (b == 95)
def H3 (b:Int):Bool:=decide (32<=b) && decide (b<=126) && b != 34 && b != 92
def F9 (b:Int):Int:=if 48<=b/\b<=57 then b - 48 else if 97<=b/\b<=102 then b - 97+10 else -1
def Mp : List (List UInt8):=[[98,111,111,108],[116,101,120,116],[117,56],[117,49,54],[117,51,50],[117,54,52],[105,56],[105,49,54],[105,51,50],[105,54,52]]
def Oh : List (List UInt8):=[[114,101,97,100],[104,97,115],[108,105,115,116],[116,111,111,108],[97,114,103],[108,101,110],[97,116],[99,117,116],[102,105,110,100],[99,104,114],[100,101,99],[110,117,109]]
def Cc : List (List UInt8):=[[102,110],[108,101,116],[105,102],[101,108,115,101],[119,104,105,108,101],[98,114,101,97,107],[99,111,110,116,105,110,117,101],[114,101,116,117,114,110],[102,97,105,108],[119,114,105,116,101],[115,97,121],[116,114,117,101],[102,97,108,115,101]]
def Dt : List (List UInt8):=[[45,62],[61,61],[33,61],[60,61],[62,61],[60,60],[62,62],[38,38],[124,124],[40],[41],[123],[125],[44],[59],[61],[60],[62],[43],[45],[42],[47],[37],[38],[124],[94],[33],[126]]
def Ag (t:Int):ByteArray:=if t=1 then ⟨#[98,111,111,108]⟩ else if t=2 then ⟨#[116,101,120,116]⟩ else if t=3 then ⟨#[117,56]⟩ else if t=4 then ⟨#[117,49,54]⟩ else if t=5 then ⟨#[117,51,50]⟩ else if t=6 then ⟨#[117,54,52]⟩ else if t=7 then ⟨#[105,56]⟩ else if t=8 then ⟨#[105,49,54]⟩ else if t=9 then ⟨#[105,51,50]⟩ else if t=10 then ⟨#[105,54,52]⟩ else ⟨#[]⟩
def Av (t:Int):ByteArray:=if t=1 then ⟨#[114,101,97,100]⟩ else if t=2 then ⟨#[104,97,115]⟩ else if t=3 then ⟨#[108,105,115,116]⟩ else if t=4 then ⟨#[116,111,111,108]⟩ else if t=5 then ⟨#[97,114,103]⟩ else if t=6 then ⟨#[108,101,110]⟩ else if t=7 then ⟨#[97,116]⟩ else if t=8 then ⟨#[99,117,116]⟩ else if t=9 then ⟨#[102,105,110,100]⟩ else if t=10 then ⟨#[99,104,114]⟩ else if t=11 then ⟨#[100,101,99]⟩ else if t=12 then ⟨#[110,117,109]⟩ else ⟨#[]⟩
def Bv (t:Int):Int:=if t=1 then 1 else if t=2 then 1 else if t=3 then 1 else if t=4 then 2 else if t=5 then 0 else if t=6 then 1 else if t=7 then 2 else if t=8 then 3 else if t=9 then 2 else if t=10 then 1 else if t=11 then 1 else if t=12 then 1 else 0
theorem l1Letter_any (b:Int) (w:World) :
  Calls prog 75 #[.int .u8 b] w fun e w'=>e = .returned (.bool (Bp b))/\w=w':=by
 go_enter func75,ntmps75;go_wp2;all_goals go_ret
 all_goals exact⟨by simp[Bp, *] <;> omega,rfl⟩
theorem l1Digit_any (b:Int) (w:World) :
  Calls prog 115 #[.int .u8 b] w fun e w'=>e = .returned (.bool (B4 b))/\w=w':=by
 go_enter func115,ntmps115;go_wp2;all_goals go_ret
 all_goals exact⟨by simp[B4, *] <;> omega,rfl⟩
theorem l1Bare_any (b:Int) (w:World) :
  Calls prog 174 #[.int .u8 b] w fun e w'=>e = .returned (.bool (H3 b))/\w=w':=by
 go_enter func174,ntmps174;go_wp2;all_goals go_ret
 all_goals exact⟨by simp[H3, *] <;> omega,rfl⟩
theorem l1Integer_any (b:Int) (w:World) :
  Calls prog 42 #[.int .i64 b] w fun e w'=>e = .returned (.bool (decide (3<=b) && decide (b<=10)))/\w=w':=by
 go_enter func42,ntmps42;go_wp2;all_goals go_ret
 all_goals exact⟨by simp[decide_eq_true_eq, *] <;> omega,rfl⟩
theorem l1Signed_any (b:Int) (w:World) :
  Calls prog 79 #[.int .i64 b] w fun e w'=>e = .returned (.bool (decide (7<=b) && decide (b<=10)))/\w=w':=by
 go_enter func79,ntmps79;go_wp2;all_goals go_ret
 all_goals exact⟨by simp[decide_eq_true_eq, *] <;> omega,rfl⟩
theorem isLetter_any (b:Int) (w:World) :
  Calls prog 83 #[.int .i32 b] w fun e w'=>e = .returned (.bool (Bp b))/\w=w':=by
 go_enter func83,ntmps83;go_wp2;all_goals go_ret
 all_goals exact⟨by simp[Bp, *] <;> omega,rfl⟩
theorem isDigit_any (b:Int) (w:World) :
  Calls prog 85 #[.int .i32 b] w fun e w'=>e = .returned (.bool (B4 b))/\w=w':=by
 go_enter func85,ntmps85;go_wp2;all_goals go_ret
 all_goals exact⟨by simp[B4, *] <;> omega,rfl⟩
theorem l1Tail_any (b:Int) (w:World) :
  Calls prog 77 #[.int .u8 b] w fun e w'=>e = .returned (.bool (Dc b))/\w=w':=by
 cases h1:Bp b <;> cases h2:B4 b
 all_goals
  go_enter func77,ntmps77;go_wp2_with (first|(go_at_call 75;refine(l1Letter_any _ _).mono ?_;rintro e w' ⟨rfl,rfl⟩;rw[h1])|(go_at_call 115;refine(l1Digit_any _ _).mono ?_;rintro e w' ⟨rfl,rfl⟩;rw[h2]));all_goals go_ret
  all_goals exact⟨by simp[Dc, *],rfl⟩
theorem l1TypeWord_any (b:Int) (w:World) :
  Calls prog 48 #[.int .i64 b] w fun e w'=>e = .returned (.string (Ag b))/\w=w':=by
 go_enter func48,ntmps48;go_wp2;all_goals go_ret
 all_goals exact⟨by simp_all [Ag],rfl⟩
theorem l1BuiltWord_any (b:Int) (w:World) :
  Calls prog 46 #[.int .i64 b] w fun e w'=>e = .returned (.tuple #[.string (Av b),.int .i64 (Bv b)])/\w=w':=by
 go_enter func46,ntmps46;go_wp2;all_goals go_ret2
 all_goals exact⟨by simp_all [Av,Bv],rfl⟩
def I9 (s:ByteArray):Nat->Int->Int
 | 0,_=>0
 | k+1,t=>if ((Ag t).toList == s.toList)=true then t else I9 s k (t+1)
def Dp (s:ByteArray):Int:=I9 s 10 1
theorem Iv {k:IntKind} {a b:Int} (h:a=b):Ending.returned (.int k a) = .returned (.int k b):=by rw[h]
theorem Al {a b:Bool} (h:a=b):Ending.returned (.bool a) = .returned (.bool b):=by rw[h]
theorem l1Type_any (s:ByteArray) (w:World) :
  Calls prog 113 #[.string s] w fun e w'=>e = .returned (.int .i64 (Dp s))/\w=w':=by
 go_enter func113,ntmps113;go_wp2;go_loop [3] (fun t => ∃ k:Nat,k<=10/\t = .int .i64 ((k:Int)+1)/\I9 s (10 - k) ((k:Int)+1)=Dp s) (fun t=>11 - (intOf t).toNat);case atStart=>exact⟨0,by omega,rfl,rfl⟩
 case round =>
  obtain⟨k,g,rfl,a⟩:=hrel;by_cases hlt:k < 10
  ·obtain⟨j,c⟩:∃ j,10 - k=j+1:=⟨9 - k,by omega⟩;by_cases hc:((Ag ((k:Int)+1)).toList == s.toList)=true
   ·have b:Hid ((k:Int)+1=Dp s):=(by rw[c,I9,if_pos hc]at a;exact a);clear a c;go_wp2_with (go_at_call 48;refine(l1TypeWord_any _ _).mono ?_;rintro e w' ⟨rfl,rfl⟩);go_ret;exact⟨Iv b.out,rfl⟩
   ·have b:Hid (I9 s (10 - (k+1)) ((k:Int)+1+1)=Dp s):=by
     rw[c,I9,if_neg hc]at a;rw[show 10 - (k+1)=j by omega];exact a
    have f:((Ag ((k:Int)+1)).toList == s.toList)=false:=(by simpa using hc);clear a c hc;go_wp2_with (go_at_call 48;refine(l1TypeWord_any _ _).mono ?_;rintro e w' ⟨rfl,rfl⟩);go_round;case rel=>exact⟨k+1,by omega,by go_num,by rw[show ((k+1:Nat):Int)+1=(k:Int)+1+1 by omega];exact b.out⟩
    case measure=>simp[intOf];omega
  ·have d:k=10:=OC;subst d;have b:Hid (0=Dp s):=a;clear a;go_wp2;go_ret;exact⟨Iv b.out,rfl⟩
def Gi (s:ByteArray):Nat->Int->Bool
 | 0,_=>false
 | k+1,t=>((Av t).toList == s.toList) || Gi s k (t+1)
def R8 (l:List UInt8):Value:=.string ⟨l.toArray⟩
def Lz : Array Value:=(Cc.map R8).toArray
def Dk (s:ByteArray):Bool:=(Dp s != 0) || Gi s 12 1 || Cc.any (fun p=>p == s.toList)
theorem l1Plain_any (w:World) :
  Calls prog 114 #[] w fun e w'=>e = .returned (.slice (some (OK w.heap.size 0)) 13 13)/\w'=w.alloc (.cells Lz 9):=by
 go_enter func114,ntmps114;go_wp2;go_ret;exact⟨rfl,rfl⟩
theorem Qa8 (w:World) (k:Nat) (p:List UInt8) (h:Cc[k]? = some p):(w.alloc (.cells Lz 9)).cell? (OK w.heap.size k)=some (R8 p):=by
 rw[cell_of_row _ _ _ Lz 9 (0,0) (heap_alloc_new w _)];simp[Lz,h]
theorem l1Taken_any (s:ByteArray) (w:World) :
  Calls prog 76 #[.string s] w fun e w'=>e = .returned (.bool (Dk s))/\Below w.heap.size w w':=by
 by_cases f:(Dp s != 0)=true
 ·go_enter func76,ntmps76;go_wp2_with (go_at_call 113;refine(l1Type_any _ _).mono ?_;rintro e w' ⟨rfl,rfl⟩);go_ret;exact⟨by simp[Dk,f],OO _⟩
 have q:(Dp s != 0)=false:=by simpa using f
 have m:Hid (Dk s=(Gi s 12 1 || Cc.any (fun p=>p == s.toList))):=by simp[Hid,Dk,q]
 clear f;go_enter func76,ntmps76;go_wp2_with (go_at_call 113;refine(l1Type_any _ _).mono ?_;rintro e w' ⟨rfl,rfl⟩);go_loop [3,4,5] (fun t _ _ => ∃ k:Nat,k<=12/\t = .int .i64 ((k:Int)+1)/\Gi s (12 - k) ((k:Int)+1)=Gi s 12 1) (fun t _ _=>13 - (intOf t).toNat);case atStart=>exact⟨0,by omega,rfl,rfl⟩
 case round =>
  obtain⟨k,r,rfl,a⟩:=hrel;by_cases hlt:k < 12
  ·obtain⟨j,l⟩:∃ j,12 - k=j+1:=⟨11 - k,by omega⟩;by_cases hc:((Av ((k:Int)+1)).toList == s.toList)=true
   ·have h:Hid (Dk s=true):=(by rw[l,Gi,hc]at a;rw[Hid,m.out,<- a];rfl);clear a l;go_wp2_with (go_at_call 46;refine(l1BuiltWord_any _ _).mono ?_;rintro e w' ⟨rfl,rfl⟩);go_ret;exact⟨Al h.out.symm,OO _⟩
   ·have g:((Av ((k:Int)+1)).toList == s.toList)=false:=(by simpa using hc);have h:Hid (Gi s (12 - (k+1)) ((k:Int)+1+1)=Gi s 12 1):=by
     rw[l,Gi,g]at a;rw[show 12 - (k+1)=j by omega];exact a
    clear a l hc;go_wp2_with (go_at_call 46;refine(l1BuiltWord_any _ _).mono ?_;rintro e w' ⟨rfl,rfl⟩);go_round;case rel=>exact⟨k+1,by omega,by go_num,by rw[show ((k+1:Nat):Int)+1=(k:Int)+1+1 by omega];exact h.out⟩
    case measure=>simp[intOf];omega
  ·have f:k=12:=OC;subst f;have h:Hid (Dk s=Cc.any (fun p=>p == s.toList)):=by
    rw[Hid,m.out,<- a];rfl
   clear a m;have b:=fun k p=>Qa8 w k p
   go_wp2_with (go_at_call 114;refine(l1Plain_any _).mono ?_;rintro e w' ⟨rfl,rfl⟩);go_loop [7] (fun t => ∃ k:Nat,k<=13/\t = .int .i64 (k:Int)/\(Cc.drop k).any (fun p=>p == s.toList)=Cc.any (fun p=>p == s.toList)) (fun t=>13 - (intOf t).toNat);case atStart=>exact⟨0,by omega,rfl,rfl⟩
   case round =>
    obtain⟨k,r,rfl,a⟩:=hrel;by_cases hlt:k < 13
    ·have d:k < Cc.length:=hlt;have o:Cc[k]? = some Cc[k]:=List.getElem?_eq_getElem d;have n:Cc.drop k=Cc[k]::Cc.drop (k+1):=List.drop_eq_getElem_cons d;generalize Cc[k]=p at *;have i:=b k p o;clear b o;rw[n,List.any_cons]at a;have u:(⟨p.toArray⟩:ByteArray).toList=p:=(by rw[ByteArray.toList_eq]);by_cases hc:(p == s.toList)=true
     ·have c:Hid (Dk s=true):=(by rw[hc]at a;rw[Hid,h.out,<- a];rfl);clear a n;simp only[R8]at i;go_wp2;go_ret;exact⟨Al c.out.symm,OP _ _⟩
     ·have g:(p == s.toList)=false:=(by simpa using hc);have c:Hid ((Cc.drop (k+1)).any (fun p=>p == s.toList)=Cc.any (fun p=>p == s.toList)):=(by rw[g]at a;exact a);clear a n hc;simp only[R8]at i;go_wp2;go_round;case rel=>exact⟨k+1,by omega,by go_num,c.out⟩
      case measure=>simp[intOf];omega
    ·have f:k=13:=OC;subst f;have c:Hid (Dk s=false):=(by rw[Hid,h.out,<- a];rfl);clear a b;go_wp2;go_ret;exact⟨Al c.out.symm,OP _ _⟩
theorem R9 {α:Type} (p:α->Bool):∀ (l:List α) (k:Nat) (h:k < l.length),k<=(l.takeWhile p).length->p l[k]=true->k+1<=(l.takeWhile p).length
 | [],k,h,_,_=>by simp at h
 | a::r,0,_,_,hp=>by simp at hp;simp[hp]
 | a::r,k+1,h,hk,hp=>by
  cases ha:p a with
  | false=>simp[ha]at hk
  | true =>
   simp[ha]at hk |-
   simp at hp
   exact R9 p r k (by simpa using h) hk hp
theorem Sa {α:Type} (p:α->Bool):∀ (l:List α) (k:Nat),k<=(l.takeWhile p).length->(∀ (h:k < l.length),p l[k]=false)->k=(l.takeWhile p).length
 | [],k,hk,_=>by simp at hk;simp[hk]
 | a::r,0,_,hp=>by have:=hp OF;simp at this;simp[this]
 | a::r,k+1,hk,hp=>by
  cases ha:p a with
  | false=>simp[ha]at hk
  | true =>
   simp[ha]at hk |-
   exact Sa p r k hk (fun h=>by have:=hp (by simpa using h);simpa using this)
theorem Px {α:Type} (p:α->Bool) (l:List α):(l.takeWhile p).length<=l.length:=List.Sublist.length_le (List.takeWhile_sublist p)
def Kn (b:Int):Int:=if b=3\/b=7 then 8 else if b=4\/b=8 then 16 else if b=5\/b=9 then 32 else 64
def Gj (b:Int):Int:=if 7<=b/\b<=10 then Kn b - 1 else Kn b
def Ce (b:Int):Int:=(2:Int) ^ (Gj b).toNat - 1
theorem l1Bits_any (b:Int) (w:World) :
  Calls prog 78 #[.int .i64 b] w fun e w'=>e = .returned (.int .i64 (Kn b))/\w=w':=by
 go_enter func78,ntmps78;go_wp2;all_goals go_ret
 all_goals exact⟨by simp_all [Kn],rfl⟩
theorem Rz (b:Int):8<=Kn b/\Kn b<=64:=by
 unfold Kn;split <;> (try split) <;> (try split) <;> omega
theorem Qem (k:Nat):((2:Int) ^ k - 1) * 2+1=(2:Int) ^ (k+1) - 1:=by rw[Int.pow_succ];omega
theorem Xo (k:Nat):1<=(2:Int) ^ k:=by
 induction k with
 | zero=>simp
 | succ k ih=>rw[Int.pow_succ];omega
theorem T5 (k n:Nat) (h:k<=n):(2:Int) ^ k<=(2:Int) ^ n:=by
  induction n with
  | zero => have : k = 0:=OC
            subst this;exact Int.le_refl _
  | succ n ih =>
    by_cases hk:k=n+1
    · subst hk;exact Int.le_refl _
    · have:=ih OC;have:=Xo n;rw[Int.pow_succ];omega
theorem Qjc (k:Nat) (h:k<=63):(2:Int) ^ k - 1<=9223372036854775807:=by
 have:=T5 k 63 h;have e:(2:Int) ^ 63=9223372036854775808:=by decide
 omega
theorem l1Max_aux (b:Int) (n:Nat) (hn:n<=64) (w:World)
  (hm:(n:Int)=Gj b):Calls prog 43 #[.int .i64 b] w fun e w'=>e = .returned (.int .u64 (Ce b))/\w=w':=by
 have j:=(Rz b).1;have l:=(Rz b).2;have f:Hid ((2:Int) ^ n - 1=Ce b):=by simp only[Hid,Ce,<- hm,Int.toNat_natCast]
 by_cases hs:7<=b/\b<=10;all_goals
  first
  | (have a:(decide (7<=b) && decide (b<=10))=true:=by simp[hs])
  | (have a:(decide (7<=b) && decide (b<=10))=false:=by simp;omega)
  first
  | (have c:Hid (Kn b - 1=(n:Int)):=by simp only[Gj,if_pos hs]at hm;simp only[Hid,hm])
  | (have c:Hid (Kn b=(n:Int)):=by simp only[Gj,if_neg hs]at hm;simp only[Hid,hm])
  clear hm hs;go_enter func43,ntmps43;go_wp2_with (first|(go_at_call 78;refine(l1Bits_any _ _).mono ?_;rintro e w' ⟨rfl,rfl⟩)|(go_at_call 79;refine(l1Signed_any _ _).mono ?_;rintro e w' ⟨rfl,rfl⟩;rw[a]));simp only[c.out];go_loop [4,5] (fun m i => ∃ k:Nat,k<=n/\i = .int .i64 (k:Int)/\m = .int .u64 ((2:Int) ^ k - 1)) (fun _ i=>n - (intOf i).toNat);case atStart=>exact⟨0,by omega,rfl,rfl⟩
  case round =>
   obtain⟨k,q,rfl,rfl⟩:=hrel;by_cases hlt:k < n
   ·have h:=Xo k;have p:=Qjc k OC;have g:Hid (((2:Int) ^ k - 1) * 2+1=(2:Int) ^ (k+1) - 1):=Qem k;have d:0<=(2:Int) ^ k - 1:=OC;clear h;generalize hg:(2:Int) ^ k - 1=m at *;have o:=hg;clear hg;go_wp2;go_round;case rel=>exact⟨k+1,by omega,by go_num,by rw[<- g.out]⟩
    case measure=>simp[intOf];omega
   ·have d:k=n:=OC;subst d;go_wp2;go_ret;exact⟨Iv f.out,rfl⟩
theorem S8 (b:Int):7<=Gj b/\Gj b<=64:=by
 have:=Rz b;unfold Gj;split <;> omega
theorem l1Max_any (b:Int) (w:World) :
  Calls prog 43 #[.int .i64 b] w fun e w'=>e = .returned (.int .u64 (Ce b))/\w=w' :=
 have h:=S8 b
 l1Max_aux b (Gj b).toNat OC w OC
theorem Nn (b:Int):127<=Ce b/\Ce b<=18446744073709551615:=by
 have h:=S8 b;have d:=T5 7 (Gj b).toNat OC;have f:=T5 (Gj b).toNat 64 OC;have a:(2:Int) ^ 7=128:=by decide
 have c:(2:Int) ^ 64=18446744073709551616:=by decide
 unfold Ce;omega
def Cr (c:UInt8):Bool:=B4 (c.toNat:Int)
def Ar (l:List UInt8):Nat:=(l.takeWhile Cr).length
def Gl (mx:Int):List UInt8->Int->Option Int
 | [],n=>some n
 | c::r,n=>if (mx - ((c.toNat:Int) - 48)) / 10 < n then none else Gl mx r (n * 10+((c.toNat:Int) - 48))
def G8 (s:ByteArray) (k:Nat):Int:=if k < s.size then Dp (s.extract k s.size) else 10
def Iq (s:ByteArray) (k:Nat) (t:Int):Bool := !(decide (3<=t) && decide (t<=10)) || decide (20 < k) || (decide (1 < k) && (s.data.toList.head? == some 48))
def Mj (s:ByteArray):Option (Int × Int) :=
 if Iq s (Ar s.data.toList) (G8 s (Ar s.data.toList))=true then none
 else (Gl (Ce (G8 s (Ar s.data.toList))) (s.data.toList.take (Ar s.data.toList)) 0).map (fun n=>(G8 s (Ar s.data.toList),n))
theorem Qca (s:ByteArray):Ar s.data.toList<=s.size:=by have:=Px Cr s.data.toList;simpa[Ar]using this
theorem Qd5 (s:ByteArray) (k:Nat) (h:k < s.size) (hk:k<=Ar s.data.toList) (hd:B4 (s[k].toNat:Int)=true):k+1<=Ar s.data.toList :=
 R9 Cr s.data.toList k (by simpa using h) hk hd
theorem Qx (s:ByteArray) (k:Nat) (hk:k<=Ar s.data.toList) (hd:∀ h:k < s.size,B4 (s[k].toNat:Int)=false):k=Ar s.data.toList :=
 Sa Cr s.data.toList k hk (fun h=>hd (by simpa using h))
theorem Qgx (mx m:Int) (c:UInt8) (r:List UInt8) (h:(mx - ((c.toNat:Int) - 48)) / 10 < m):Gl mx (c::r) m=none:=by rw[Gl,if_pos h]
theorem Qja (mx m:Int) (c:UInt8) (r:List UInt8) (h:¬ (mx - ((c.toNat:Int) - 48)) / 10 < m):Gl mx (c::r) m=Gl mx r (m * 10+((c.toNat:Int) - 48)):=by rw[Gl,if_neg h]
theorem Qy {b:Int} (h:B4 b=true):48<=b/\b<=57:=by simpa[B4]using h
theorem Qgq (s:ByteArray) (h:0 < s.size):s.data.toList.head? = some s[0]:=by
 rw[List.head?_eq_getElem?,List.getElem?_eq_getElem (by simpa using h)];rfl
theorem Iy {P:Program} {ops:Array Oper} {o:Oper} {a:Act} {w:World} {K:Act->World->Prop} {Q:Exit->Act->World->Prop} {E:Prop}
  (hg:o.guard=none) (s x:Operand) (t:TypeId) (hop:o.op=Op.call { callee:=Callee.builtin Builtin.append,args := #[s,x],argTypes := #[t,t] })
  (base:Nat) (e:TypeId) (i:TypeInfo) (z:Value) (size bytes:Nat) (h1:P.underlying t=some (.slice e)) (h2:P.info? e=some i) (h3:i.zero=some z) (h4:i.size=size) (h5:i.bytes=bytes) (h6:z.cells.size=size) (h7:0 < size)
  (v:Value) (n:Nat) (xs:List Value) (hs:a.eval s=v) (hown:w.ownsRow base e size v n xs)
  (ad:Addr) (m c:Nat) (news:List Value) (hx:a.eval x = .slice (some ad) m c) (hn:news.length=m * size) (hc:∀ j u,news[j]? = some u->w.cell? (ad.add j)=some u) (h1c:∀ u ∈ news,u.oneCell'=true)
  (b1:n+m<=maxLen) (b2:(n+m) * bytes<=140737488355328) (hbase:base<=w.heap.size)
  (hK:∀ v' w',w'.ownsRow base e size v' (n+m) (xs++news)->w.grownBy w' v.ownBlock->K (a.put o.dst v') w') :
  if Region.wanted o (yielded ops a.tmps)=true then Oper.wp P o a w K Q else E:=by
 have d:Region.wanted o (yielded ops a.tmps)=true:=by simp[Region.wanted,hg]
 rw[if_pos d];obtain⟨v',w',b,f,g,_⟩:=run_append_own (P:=P) w base t o.type e i z size bytes h1 h2 h3 h4 h5 h6 h7 v n xs hown ad m c news hn hc h1c b1 b2 hbase;unfold Oper.wp;simp[execOp,hop,resolve,invoke,builtin,hs,hx,b,Result.andThen];exact hK v' w' f g
def Ir (c:UInt8):Bool:=H3 (c.toNat:Int)
def Br (c:UInt8):Int:=F9 (c.toNat:Int)
def Ef : List UInt8->List UInt8->Option (List UInt8 × List UInt8)
 | [],_=>none
 | c::r,acc=>if c=34 then some (acc,r) else if Ir c=true then Ef r (acc++[c]) else if c=92 then
   match r with
   | a::b::r2=>if 0<=Br a/\0<=Br b then Ef r2 (acc++[UInt8.ofNat (16 * Br a+Br b).toNat]) else none
   | _=>none
  else none
theorem Lq {P:Program} {w:World} {src dst e:TypeId} (hs:P.underlying src=some (.slice e)) (he:P.underlying e=some (.int .u8)) (hd:P.underlying dst=some .string) {B:Nat} {v:Value} {acc:List UInt8}
  (h:w.ownsRow B e 1 v acc.length (Lib.byteCells acc)):(convert src dst v).run P w = .ok (.string ⟨acc.toArray⟩) w:=by
 have a:=fun g=>h.cells (g:=g)
 obtain⟨n,k⟩:=h;rcases k with⟨rfl,i⟩|⟨g,b,f,rfl,o,p,q,d,m,c⟩
 ·have:acc=[]:=List.eq_nil_of_length_eq_zero i;subst this;exact run_convert_bytes_nil (P:=P) (w:=w) src e hs he 0 0 dst hd
 ·refine run_convert_bytes_back w src dst e (OK g 0) b acc hs he hd ?_;intro j l;exact a g rfl j _ (by simp[Lib.byteCells,l])
theorem Li (c:UInt8) (r acc:List UInt8):Ef (c::r) acc=if c=34 then some (acc,r) else if Ir c=true then Ef r (acc++[c]) else if c=92 then
   match r with
   | a::b::r2=>if 0<=Br a/\0<=Br b then Ef r2 (acc++[UInt8.ofNat (16 * Br a+Br b).toNat]) else none
   | _=>none
  else none:=by rw[Ef.eq_def]
theorem T7 (r acc:List UInt8):Ef (34::r) acc=some (acc,r):=by rw[Li,if_pos rfl]
theorem Vk (c:UInt8) (r acc:List UInt8) (h:c≠34) (hb:Ir c=true):Ef (c::r) acc=Ef r (acc++[c]):=by rw[Li,if_neg h,if_pos hb]
theorem Qg6 (c:UInt8) (r acc:List UInt8) (h:c≠34) (hb:Ir c=false) (h9:c≠92):Ef (c::r) acc=none:=by rw[Li,if_neg h,if_neg (by simp[hb]),if_neg h9]
theorem Qcs (r acc:List UInt8) (h:r.length < 2):Ef (92::r) acc=none:=by
 rw[Li,if_neg OD,if_neg OD,if_pos rfl];match r,h with
 | [],_=>rfl
 | [a],_=>rfl
theorem Sb (a b:UInt8) (r acc:List UInt8):Ef (92::a::b::r) acc=if 0<=Br a/\0<=Br b then Ef r (acc++[UInt8.ofNat (16 * Br a+Br b).toNat]) else none:=by
 rw[Li,if_neg OD,if_neg OD,if_pos rfl]
theorem Fz {v u:Value} (h:v=u):Ending.returned v = .returned u:=by rw[h]
theorem Qk (b:Int) : -1<=F9 b/\F9 b<=15:=by unfold F9;split <;> (try split) <;> omega
theorem Bx (s:ByteArray) (i:Nat) (h:i < s.size):s.data.toList.drop i=s[i]::s.data.toList.drop (i+1):=by
 rw[List.drop_eq_getElem_cons (by simpa using h)];rfl
theorem Dx (c d:UInt8) (h:((c.toNat:Int) == (d.toNat:Int))=false):c≠d:=by
 intro e;subst e;simp at h
theorem J6 (c d:UInt8) (h:((c.toNat:Int) == (d.toNat:Int))=true):c=d:=by
 simp at h;exact UInt8.toNat_inj.1 OC
theorem Gv (acc:List UInt8) (c:UInt8):Lib.byteCells (acc++[c])=Lib.byteCells acc++[.int .u8 (c.toNat:Int)]:=by simp[Lib.byteCells]
theorem Ra (x:Int) (h0:0<=x) (h1:x<=255):((UInt8.ofNat x.toNat).toNat:Int)=x:=by
 simp;omega
theorem Tryz.infoByte : (prog.info? 5).map (fun i=>(i.zero,i.size,i.bytes))=some (some (.int .u8 0),1,1):=OE
theorem Cp.grown {R:Nat} {w w1 w2:World} {row:Option Nat} (h:Cp R w w1) (hg:w1.grownBy w2 row) (hrow:∀ j,row=some j->w.heap.size<=j):Cp R w w2 :=
 ⟨hg.os.trans h.os,hg.tape.trans h.tape,hg.output.trans h.output,Nat.le_trans h.size hg.size,fun k hk hR=>(hg.block k (Nat.lt_of_lt_of_le hk h.size) (fun e=>by have:=hrow k e.symm;omega)).trans (h.block k hk hR)⟩
theorem text_D {w w1:World} {R p k:Nat} (hD:El R p k w w1) (hp:p+k < 10000000000) :
  Calls prog 165 #[.pointer (some (OK R 0))] w1 fun e w' => ∃ t:ByteArray,e = .returned (.string t)/\t.size<=8/\El R p (k+8) w w'/\Cp R w1 w':=by
 obtain⟨Q,N,G,H,I⟩:=info_parts Tryz.infoByte;go_enter func165,ntmps165;go_wp2_with (first
  | (go_at_call 26;refine(pick_D _ OG OC OC OC).mono ?_;rintro e m ⟨v,rfl,U,c,b⟩)
  | (go_at_call 185;refine(path_D OG OC).mono ?_;rintro e V ⟨t,rfl,T,z,u⟩))
 any_goals (go_ret;exact⟨_,rfl,by decide,c.mono OC,b⟩)
 ·go_ret;exact⟨_,rfl,by omega,z.mono OC,b.trans u⟩
 ·have d:=c.lt;have E:=c.but.size;have J:=b.size;go_loopw [4,5] (fun o i wr => ∃ (j:Nat) (acc:List UInt8),i = .int .i64 (j:Int)/\j<=v+1/\acc.length=j/\wr.ownsRow m.heap.size 5 1 o acc.length (Lib.byteCells acc)/\El R p (k+2+j) w wr/\Cp R m wr) (fun _ i _=>v+1 - (intOf i).toNat);case atStart =>
   refine⟨0,[],rfl,by omega,rfl, ?_,(c.alloc _).mono OC,(Cp.refl R m).alloc _⟩;exact World.ownsRow_made (base:=m.heap.size) (e:=5) (size:=1) m #[] 0 ON OD rfl
  case round =>
   obtain⟨j,acc,rfl,s,q,f,n,h⟩:=hrel;have L:=h.size;have O:v < 5:=OC;by_cases hjv:j<=v
   ·go_wp2_with (first
     | (go_at_call 26;refine(pick_D _ n OC OC OC).mono ?_;rintro e S ⟨x,rfl,F,A,g⟩;have a:=Qgy f d g;have K:=g.size)
     | (at_builtin;refine wpList_append_own _ rfl _ _ 22 rfl m.heap.size 5 Q (.int .u8 0) 1 1 underlying22 N G H I rfl OD _ _ _ rfl (a.alloc _) (OK S.heap.size 0) 1 1 [.int .u8 (97+(x:Int))] rfl rfl (cell_one_new _ _ _) (fun x F=>by simp at F;subst F;rfl) OI OC OH ?_;intro v' W l r D))
    have C:=(A.alloc (.cells #[.int .u8 (97+(x:Int))] 5)).grown (B:=m.heap.size) r (fun j s=>(a.lt _ s).1) d E;have y:=((h.trans g).alloc (.cells #[.int .u8 (97+(x:Int))] 5)).grown r (fun j s=>(a.lt _ s).1);go_roundw;case rel =>
     refine⟨j+1,acc++[UInt8.ofNat (97+(x:Int)).toNat],by go_num,by omega,by simp[q], ?_,C.mono OC,y⟩;rw[Gv,Ra _ OC OC];simpa using l
    case measure=>simp[intOf];omega
   ·have M:=Lq (P:=prog) (src:=22) (dst:=9) underlying22 underlying5 underlying9 f;go_wp2;go_ret;exact⟨⟨acc.toArray⟩,rfl,by show acc.toArray.size<=8;simp;omega,n.mono OC,Cp.trans ‹Cp R w1 _› (b.trans h)⟩
end Go.Proofs.YtjlaedokfbcbpaaGreatDoor
