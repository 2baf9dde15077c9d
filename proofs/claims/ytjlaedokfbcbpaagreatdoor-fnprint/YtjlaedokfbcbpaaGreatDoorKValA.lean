import Derived.Test.YtjlaedokfbcbpaaGreatDoorKTk
import Derived.Test.YtjlaedokfbcbpaaGreatDoorKDrawA
import Derived.Maps.AppendAt
import Derived.Deep.RegionHeld3
set_option maxRecDepth 100000
set_option maxHeartbeats 2000000
namespace Go.Proofs.YtjlaedokfbcbpaaGreatDoor
open Go.RowKit Proofs.Tryz
def Qf7 (t:Int):Bool:=decide (3<=t) && decide (t<=10)
def Nk (t:Int):Bool:=decide (7<=t) && decide (t<=10)
def Lw (t:Int):Int:=if t=3\/t=7 then 8 else if t=4\/t=8 then 16 else if t=5\/t=9 then 32 else 64
theorem Qmy (t:Int) (w:World) :
  Calls prog 42 #[.int .i64 t] w fun e w'=>e = .returned (.bool (Qf7 t))/\w=w':=by
 go_enter func42,ntmps42;go_wp2;all_goals go_ret
 all_goals exact⟨by simp[Qf7,decide_eq_true_eq, *] <;> omega,rfl⟩
theorem Z5 (t:Int) (w:World) :
  Calls prog 79 #[.int .i64 t] w fun e w'=>e = .returned (.bool (Nk t))/\w=w':=by
 go_enter func79,ntmps79;go_wp2;all_goals go_ret
 all_goals exact⟨by simp[Nk,decide_eq_true_eq, *] <;> omega,rfl⟩
theorem Qd2 (t:Int) (w:World) :
  Calls prog 78 #[.int .i64 t] w fun e w'=>e = .returned (.int .i64 (Lw t))/\w=w':=by
 go_enter func78,ntmps78;go_wp2;all_goals go_ret
 all_goals exact⟨by simp_all [Lw],rfl⟩
def Rp (n:Int) (s:Bool) (b:Int):Int:=if s=true/\n<=2 * (b % n) then b % n - n else b % n
def Qg (t b:Int):Int:=if Lw t=8 then Rp 256 (Nk t) b else if Lw t=16 then Rp 65536 (Nk t) b else if Lw t=32 then Rp 4294967296 (Nk t) b else Rp 18446744073709551616 true b
theorem Jf (x:Int):IntKind.u64.wrap x=x % 18446744073709551616:=by rfl
theorem Qh (x:Int):wrap64 x=(x+9223372036854775808) % 18446744073709551616 - 9223372036854775808:=by first|rfl|(unfold wrap64;omega)
theorem Qog {a b:Int} (h:a=b):(Ending.returned (Value.int .i64 a))=Ending.returned (Value.int .i64 b):=by rw[h]
theorem Qof (t:Int):Lw t=8\/Lw t=16\/Lw t=32\/Lw t=64:=by
 unfold Lw;split
 ·exact .inl rfl
 ·split
  ·exact .inr (.inl rfl)
  ·split
   ·exact .inr (.inr (.inl rfl))
   ·exact .inr (.inr (.inr rfl))
theorem DdValAx61 {P:Prop} (h:P:=by
 rw[hs]at a
 simp at a
 have d:Hid _:=a
 clear a
 go_enter func186,ntmps186
 go_wp2_with (first|(go_at_call 78;refine(Qd2 _ _).mono ?_;rintro e w' ⟨rfl,rfl⟩;rw[c])|(go_at_call 79;refine(Z5 _ _).mono ?_;rintro e w' ⟨rfl,rfl⟩;rw[hs]))
 all_goals go_ret
 all_goals refine⟨Qog ?_,rfl⟩
 all_goals
  have f:=d.out
  first
  | omega
  | (split at f <;> omega)
  | (rw[Qh];omega)
  | (rw[Qh];split at f <;> omega)
  | (rw[Qh,Jf];omega)
  | (rw[Qh,Jf];split at f <;> omega)
 ):P:=h
theorem Qd3 (t b:Int) (h0:0<=b) (h1:b < 18446744073709551616) (w:World) :
  Calls prog 186 #[.int .i64 t,.int .u64 b] w fun e w'=>e = .returned (.int .i64 (Qg t b))/\w=w':=by
 obtain⟨r,g⟩:∃ r,Hid (Qg t b=r):=⟨_,(rfl:Qg t b=_)⟩;rw[g.out];have a:=g.out;unfold Qg Rp at a;rcases Qof t with c|c|c|c
 all_goals
  rw[c]at a;cases hs:Nk t with
  | true =>
   exact DdValAx61
  | false =>
   exact DdValAx61
attribute [local go_sem] Oper.semAt_some
theorem Qi8 (b:Int):0<=Ce b/\Ce b < 18446744073709551616:=by
 unfold Ce Gj Kn;repeat' split
 all_goals decide
theorem Xj (t b:Int) : -9223372036854775808<=Qg t b/\Qg t b<=9223372036854775807:=by
 unfold Qg Rp;repeat' split
 all_goals first|omega|(simp_all;omega)
theorem Xw (x:Int) : -9223372036854775808<=wrap64 x/\wrap64 x<=9223372036854775807:=by rw[Qh];omega
theorem number_D {w w1:World} {R p k:Nat} (t:Int) (hD:El R p k w w1) (hp:p+k < 10000000000) :
  Calls prog 166 #[.pointer (some (OK R 0)),.int .i64 t] w1 fun e w' => ∃ n:Int,e = .returned (.int .i64 n) /\ -9223372036854775808<=n/\n<=9223372036854775807/\El R p (k+4) w w'/\Cp R w1 w':=by
 have c:=Qi8 t;go_enter func166,ntmps166;go_wp2_with (first
  | (go_at_call 43;refine(l1Max_any _ _).mono ?_;rintro e _ ⟨rfl,rfl⟩)
  | (go_at_call 186;refine(Qd3 _ _ (by first|omega|(rw[Jf];omega)) (by first|omega|(rw[Jf];omega)) _).mono ?_;rintro e _ ⟨rfl,rfl⟩)
  | (go_at_call 26;refine(pick_D _ OG OC OC OC).mono ?_;rintro e f ⟨v,rfl,d,a,b⟩))
 all_goals try go_ret
 all_goals refine⟨_,rfl, ?_, ?_,by first|exact a.mono OC,by first|assumption|exact Cp.trans OG OG|exact Cp.trans OG (Cp.trans OG (Cp.trans OG OG))⟩
 all_goals first|omega|exact(Xw _).1|exact(Xw _).2|exact(Xj _ _).1|exact(Xj _ _).2
structure Ae where
 kind:Int
 op:Int
 type:Int
 n:Int
 text:ByteArray
 kids:Int
def By (d:Ae):List Value:=[.int .i64 d.kind,.int .i64 d.op,.int .i64 d.type,.int .i64 d.n,.string d.text,.int .i64 d.kids]
def Af (d:Ae):Value:=.agg #[.int .i64 d.kind,.int .i64 d.op,.int .i64 d.type,.int .i64 d.n,.string d.text,.int .i64 d.kids]
def Ap (l:List Ae):List Value:=l.flatMap By
def Ah (k:Int):Bool:=decide (1<=k) && decide (k<=9)
def Cv (k:Int):Bool:=decide (10<=k) && decide (k<=20)
def Hm (k:Int):Bool:=decide (k=5) || decide (k=6) || decide (k=8)
def F4 (k:Int):Bool:=decide (k=1) || decide (k=9) || decide (k=22) || decide (k=23)
def Ns (k:Int):Bool:=decide (k=1) || decide (k=3)
def Cs (k:Int):Bool:=decide (k=4) || decide (k=7) || decide (k=10) || decide (k=11) || decide (k=22) || decide (k=23)
def F3 (k:Int):Bool:=decide (k=2) || Cs k
theorem l2E_any (b:Int) (w:World) :
  Calls prog 44 #[.int .i64 b] w fun e w'=>e = .returned (.bool (Ah b))/\w=w':=by
 go_enter func44,ntmps44;go_wp2;all_goals go_ret
 all_goals exact⟨by simp[Ah, *] <;> omega,rfl⟩
theorem l2S_any (b:Int) (w:World) :
  Calls prog 47 #[.int .i64 b] w fun e w'=>e = .returned (.bool (Cv b))/\w=w':=by
 go_enter func47,ntmps47;go_wp2;all_goals go_ret
 all_goals exact⟨by simp[Cv, *] <;> omega,rfl⟩
def Ex (k:Int):Value:=.tuple #[.bool (Hm k),.bool (F4 k),.bool (Ns k),.bool (F3 k)]
theorem l2Uses_any (b:Int) (w:World) :
  Calls prog 39 #[.int .i64 b] w fun e w'=>e = .returned (Ex b)/\w=w':=by
 go_enter func39,ntmps39;go_wp2;all_goals refine bodyPost_ret (v:=Ex b) ?_ rfl ⟨rfl,rfl⟩
 all_goals simp_all [results,results39,go_sem,Ex,Hm,F4,Ns,F3,Cs]
theorem l2Named_any (b:Int) (w:World) :
  Calls prog 40 #[.int .i64 b] w fun e w'=>e = .returned (.bool (Cs b))/\w=w':=by
 go_enter func40,ntmps40;go_wp2;all_goals go_ret
 all_goals exact⟨Al (by rw[Bool.eq_iff_iff];simp[Cs] <;> omega),rfl⟩
def A0 (s:ByteArray):Bool:=decide (1<=s.size) && decide (s.size<=30) && (match s.data.toList with|[]=>false|b::_=>Bp (b.toNat:Int)) && !Dk s && s.data.toList.all (fun c=>Dc (c.toNat:Int))
theorem Lg (s:ByteArray) (h:s.size < 1\/30 < s.size):A0 s=false:=by
 rcases h with h|h
 ·have a:¬ 1<=s.size:=OC
  unfold A0;simp only[a,decide_false,Bool.false_and]
 ·have a:¬ s.size<=30:=OC
  unfold A0;simp only[a,decide_false,Bool.false_and,Bool.and_false]
theorem Pp (s:ByteArray) (h:0 < s.size) (hl:Bp (s[0].toNat:Int)=false):A0 s=false:=by
 obtain⟨r,a⟩:∃ r,s.data.toList=s[0]::r:=⟨_,by simpa using Bx s 0 h⟩;unfold A0;simp only[a,hl,Bool.false_and,Bool.and_false]
theorem Ql (s:ByteArray) (h:Dk s=true):A0 s=false:=by unfold A0;simp only[h,Bool.not_true,Bool.false_and,Bool.and_false]
theorem Q9 (s:ByteArray) (h:0 < s.size) (h3:s.size<=30) (hl:Bp (s[0].toNat:Int)=true) (ht:Dk s=false):A0 s=s.data.toList.all (fun c=>Dc (c.toNat:Int)):=by
 obtain⟨r,a⟩:∃ r,s.data.toList=s[0]::r:=⟨_,by simpa using Bx s 0 h⟩;have b:1<=s.size:=h;unfold A0;simp only[a,hl,b,h3,ht,decide_true,Bool.true_and,Bool.not_false]
theorem l1NameOk_any (s:ByteArray) (w:World) :
  Calls prog 41 #[.string s] w fun e w'=>e = .returned (.bool (A0 s))/\Below w.heap.size w w':=by
 by_cases h1:0 < s.size
 ·by_cases h2:s.size<=30
  ·cases hl:Bp (s[0].toNat:Int) with
   | false =>
    have a:Hid (A0 s=false):=Pp s h1 hl;go_enter func41,ntmps41;go_wp2_with (go_at_call 75;refine(l1Letter_any _ _).mono ?_;rintro e w' ⟨rfl,rfl⟩;rw[hl]);go_ret;exact⟨Al a.out.symm,OO _⟩
   | true =>
    cases ht:Dk s with
    | true =>
     have a:Hid (A0 s=false):=Ql s ht;go_enter func41,ntmps41;go_wp2_with (first|(go_at_call 75;refine(l1Letter_any _ _).mono ?_;rintro e w' ⟨rfl,rfl⟩;rw[hl])|(go_at_call 76;refine(l1Taken_any _ _).mono ?_;rintro e g ⟨rfl,f⟩;rw[ht]));go_ret;exact⟨Al a.out.symm,f⟩
    | false =>
     have a:Hid (A0 s=s.data.toList.all (fun c=>Dc (c.toNat:Int))):=Q9 s h1 h2 hl ht;go_enter func41,ntmps41;go_wp2_with (first|(go_at_call 75;refine(l1Letter_any _ _).mono ?_;rintro e w' ⟨rfl,rfl⟩;rw[hl])|(go_at_call 76;refine(l1Taken_any _ _).mono ?_;rintro e g ⟨rfl,f⟩;rw[ht]));go_loop [3] (fun t => ∃ k:Nat,k<=s.size/\t = .int .i64 (k:Int)/\(s.data.toList.drop k).all (fun c=>Dc (c.toNat:Int))=s.data.toList.all (fun c=>Dc (c.toNat:Int))) (fun t=>s.size - (intOf t).toNat);case atStart=>exact⟨0,by omega,rfl,rfl⟩
     case round =>
      obtain⟨k,h,rfl,b⟩:=hrel;by_cases hlt:k < s.size
      ·rw[Bx s k hlt,List.all_cons]at b;cases hc:Dc (s[k].toNat:Int) with
       | true =>
        have d:Hid ((s.data.toList.drop (k+1)).all (fun c=>Dc (c.toNat:Int))=s.data.toList.all (fun c=>Dc (c.toNat:Int))):=(by rw[hc]at b;exact b);clear b;go_wp2_with (go_at_call 77;refine(l1Tail_any _ _).mono ?_;rintro e w' ⟨rfl,rfl⟩;rw[hc]);go_round;case rel=>exact⟨k+1,by omega,by go_num,d.out⟩
        case measure=>simp[intOf];omega
       | false =>
        have d:Hid (A0 s=false):=(by rw[hc]at b;rw[Hid,a.out,<- b];rfl);clear b;go_wp2_with (go_at_call 77;refine(l1Tail_any _ _).mono ?_;rintro e w' ⟨rfl,rfl⟩;rw[hc]);go_ret;exact⟨Al d.out.symm,f⟩
      ·have d:Hid (A0 s=true):=by
        rw[List.drop_of_length_le OH]at b;rw[Hid,a.out,<- b];rfl
       clear b;go_wp2;go_ret;exact⟨Al d.out.symm,f⟩
  ·have a:Hid (A0 s=false):=Lg s (.inr OC);go_enter func41,ntmps41;go_wp2;go_ret;exact⟨Al a.out.symm,OO _⟩
 ·have a:Hid (A0 s=false):=Lg s (.inl OC);go_enter func41,ntmps41;go_wp2;go_ret;exact⟨Al a.out.symm,OO _⟩
theorem B1 {w w':World} {B e size n:Nat} {v:Value} {xs:List Value} (h:w.ownsRow B e size v n xs) (hk:∀ k,v.ownBlock=some k->B<=k->k < w.heap.size->w'.heap[k]? = w.heap[k]?):w'.ownsRow B e size v n xs:=by
 obtain⟨i,c⟩:=h;refine⟨i, ?_⟩;rcases c with c|⟨g,a,b,rfl,d,f,r⟩
 ·exact .inl c
 ·exact .inr ⟨g,a,b,rfl,d,(hk g rfl d (Array.getElem?_eq_some_iff.1 f).1).trans f,r⟩
theorem A8 {w:World} {B e size n:Nat} {v:Value} {xs:List Value} (h:w.ownsRow B e size v n xs) {k:Nat} (hk:v.ownBlock=some k):(B<=k/\k < w.heap.size)/\∃ a,w.heap[k]? = some (.cells a e):=by
 rcases h.2 with⟨rfl,f⟩|⟨g,c,a,rfl,d,b,_⟩
 ·simp[Value.ownBlock]at hk
 ·have:g=k:=by simpa[Value.ownBlock]using hk
  subst this;exact⟨⟨d,(Array.getElem?_eq_some_iff.1 b).1⟩,a,b⟩
theorem G0 {w:World} {A B e size n:Nat} {v:Value} {xs:List Value} (h:w.ownsRow B e size v n xs) (hA:A<=B):w.ownsRow A e size v n xs:=by
 obtain⟨d,c⟩:=h;refine⟨d, ?_⟩;rcases c with c|⟨g,a,b,rfl,f,r⟩
 ·exact .inl c
 ·exact .inr ⟨g,a,b,rfl,Nat.le_trans hA f,r⟩
theorem B3 {w:World} {B e size n:Nat} {v:Value} {xs:List Value} (h:w.ownsRow B e size v n xs):∃ a b,v = .slice a n b:=by
 rcases h.2 with⟨rfl,d⟩|⟨g,b,c,rfl,_⟩
 ·exact⟨none,0,by rw[d]⟩
 ·exact⟨_,_,rfl⟩
theorem G7 {w:World} {B e size n:Nat} {v:Value} {xs:List Value} (h:w.ownsRow B e size v n xs) {g:Nat} (hg:v.ownBlock=some g) (j:Nat) (u:Value) (hu:xs[j]? = some u):w.cell? (OK g j)=some u:=by
 rcases h.2 with⟨rfl,k⟩|⟨f,c,d,rfl,p,a,l,m,o,i⟩
 ·simp[Value.ownBlock]at hg
 ·have:f=g:=by simpa[Value.ownBlock]using hg
  subst this;have b:j < xs.length:=(List.getElem?_eq_some_iff.1 hu).1;rw[<- i,List.getElem?_take_of_lt (by rw[h.1]at b;exact b)]at hu;simpa[World.cell?,a]using hu
def Jn (w:World) (ao:Option Addr) (m:Nat) (news:List Value):Prop:=0 < m->∃ ad,ao=some ad/\∀ j u,news[j]? = some u->w.cell? (ad.add j)=some u
theorem Ld (g j:Nat):((OK g 0):Addr).add j=(OK g j):=by unfold Addr.add;split <;> simp_all
theorem M5 {w:World} {B e size n:Nat} {a:Option Addr} {c:Nat} {xs:List Value} (h:w.ownsRow B e size (.slice a n c) n xs):Jn w a n xs:=fun h0=>by
 rcases h.2 with⟨b,i⟩|⟨g,d,f,b,_⟩
 ·injection b with e1 e2 e3;omega
 ·injection b with e1 e2 e3
  subst e1;subst e3
  refine⟨(OK g 0),rfl,fun j u hj => ?_⟩
  rw[Ld]
  exact G7 h rfl j u hj
theorem Wd {P:Program} {w:World} (base:Nat) (t ty e:TypeId) (i:TypeInfo) (size:Nat) (ht:P.underlying t=some (.slice e)) (hi:P.info? e=some i) (v:Value) (n:Nat) (xs:List Value) (hown:w.ownsRow base e size v n xs) (ao:Option Addr) (c:Nat) :
  (Builtin.append_ #[t,t] ty #[v,.slice ao 0 c]).run P w = .ok v w:=by
 rcases hown.2 with⟨rfl,rfl⟩|⟨g,b,d,rfl,_,_,a,_⟩
 ·cases ao <;> simp[Builtin.append_,run_underlying ht,sizeOf,typeInfo,hi,Builtin.lenOf,Builtin.firstCells,loadCells,loadCellsFrom]
 ·cases ao <;> simp[Builtin.append_,run_underlying ht,sizeOf,typeInfo,hi,Builtin.lenOf,Builtin.firstCells,a,storeCells,loadCells,loadCellsFrom]
theorem Io {P:Program} {w:World} (base:Nat) (t ty e:TypeId) (i:TypeInfo) (z:Value) (size bytes:Nat) (ht:P.underlying t=some (.slice e)) (hi:P.info? e=some i) (hz:i.zero=some z) (hsize:i.size=size) (hby:i.bytes=bytes) (hzs:z.cells.size=size) (hs0:0 < size)
  (v:Value) (n:Nat) (xs:List Value) (hown:w.ownsRow base e size v n xs) (ao:Option Addr) (m c:Nat) (news:List Value) (hlen:news.length=m * size) (hsrc:Jn w ao m news) (h1c:∀ u ∈ news,u.oneCell'=true) (b1:n+m<=maxLen) (b2:(n+m) * bytes<=140737488355328) (hbase:base<=w.heap.size) :
  ∃ v' w',(Builtin.append_ #[t,t] ty #[v,.slice ao m c]).run P w = .ok v' w'/\w'.ownsRow base e size v' (n+m) (xs++news)/\w.grownBy w' v.ownBlock:=by
 by_cases h0:m=0
 ·subst h0;have h:news=[]:=List.eq_nil_of_length_eq_zero OC;subst h;refine⟨v,w,Wd base t ty e i size ht hi v n _ hown ao c, ?_,⟨rfl,rfl,rfl,Nat.le_refl _,fun _ _ _=>rfl⟩⟩;simpa using hown
 ·obtain⟨a,rfl,g⟩:=hsrc OC;obtain⟨v',w',b,d,f,_⟩:=run_append_own_at (P:=P) (w:=w) base t ty e i z size bytes ht hi hz hsize hby hzs hs0 v n xs hown a m c news hlen g h1c b1 b2 hbase;exact⟨v',w',b,d,f⟩
theorem Eo {P:Program} {w:World} {ops:Array Oper} {rest:List Oper} {o:Oper} {a:Act} {Q:Exit->Act->World->Prop} (hgd:o.guard=none) (s x:Operand) (t:TypeId)
  (ho:o.op = .call { callee:=.builtin .append,args := #[s,x],argTypes := #[t,t] }) (base:Nat) (e:TypeId) (i:TypeInfo) (z:Value) (size bytes:Nat) (ht:P.underlying t=some (.slice e)) (hi:P.info? e=some i) (hz:i.zero=some z) (hsize:i.size=size) (hby:i.bytes=bytes) (hzs:z.cells.size=size) (hs0:0 < size)
  (v:Value) (n:Nat) (xs:List Value) (hs:a.eval s=v) (hown:w.ownsRow base e size v n xs) (ao:Option Addr) (m c:Nat) (hx:a.eval x = .slice ao m c) (news:List Value) (hlen:news.length=m * size) (hsrc:Jn w ao m news) (h1c:∀ u ∈ news,u.oneCell'=true) (b1:n+m<=maxLen) (b2:(n+m) * bytes<=140737488355328) (hbase:base<=w.heap.size)
  (h:∀ v' w',w'.ownsRow base e size v' (n+m) (xs++news)->w.grownBy w' v.ownBlock->wpList P ops Q rest (a.put o.dst v') w') :
  wpList P ops Q (o::rest) a w:=by
 refine wpList_plain hgd fun K hK => ?_
 obtain⟨v',w',f,b,d⟩:=Io (P:=P) (w:=w) base t o.type e i z size bytes ht hi hz hsize hby hzs hs0 v n xs hown ao m c news hlen hsrc h1c b1 b2 hbase;unfold Oper.wp execOp;simp only[ho,resolve,invoke,builtin,Sem.run_bind,Sem.run_pure,Result.andThen_ok,List.map_toArray,List.map_cons,List.map_nil,hs,hx,f];exact hK _ _ (h v' w' b d)
def Qoy (w:World) (k:Nat):Prop := ∀ cur t fr,w.heap[k]? = some (.cells cur t fr)->t≠81/\t≠131
structure Bg (B:Nat) (w w':World):Prop where
 os:w'.os=w.os
 tape:w'.tape=w.tape
 output:w'.output=w.output
 size:w.heap.size<=w'.heap.size
 keep:∀ k,k < w.heap.size->k < B\/Qoy w k->w'.heap[k]? = w.heap[k]?
theorem Bg.refl (B:Nat) (w:World):Bg B w w:=⟨rfl,rfl,rfl,Nat.le_refl _,fun _ _ _=>rfl⟩
theorem Bg.trans {B:Nat} {a b c:World} (h:Bg B a b) (k:Bg B b c):Bg B a c :=
 ⟨k.os.trans h.os,k.tape.trans h.tape,k.output.trans h.output,Nat.le_trans h.size k.size,fun i hi hp=>by
  have e:=h.keep i hi hp
  refine(k.keep i (Nat.lt_of_lt_of_le hi h.size) (hp.imp id (fun hq cur t fr hc=>hq cur t fr (e ▸ hc)))).trans e⟩
theorem Bg.of_below {B:Nat} {w w':World} (h:Below w.heap.size w w'):Bg B w w':=⟨h.os,h.tape,h.output,h.size,fun k hk _=>h.block k hk⟩
theorem Bg.alloc {B:Nat} {w w':World} (h:Bg B w w') (o:Obj):Bg B w (w'.alloc o):=h.trans (Bg.of_below (OP w' o))
theorem Bg.drew {B:Nat} {w w':World} (h:Bg B w w'):Bg B w w'.drew:=⟨h.os,h.tape,h.output,h.size,h.keep⟩
theorem Bg.row {B A:Nat} {w w':World} (h:Bg B w w') {e size n:Nat} {v:Value} {xs:List Value} (hr:w.ownsRow A e size v n xs) (he:e≠81/\e≠131):w'.ownsRow A e size v n xs :=
 B1 hr (fun k hk _ hl=>h.keep k hl (.inr (fun cur t fr hc=>by obtain⟨b,a⟩:=(A8 hr hk).2;rw[a]at hc;injection hc with hc;injection hc with _ hc _;rw[<- hc];exact he)))
abbrev Fi (d:Ae):Prop:=d.text.size<=100 /\ -9223372036854775808<=d.n/\d.n<=9223372036854775807
theorem L1 {k o t c:Int} {x:ByteArray} (h:x.size<=100):Fi ⟨k,o,t,0,x,c⟩:=⟨h,by simp,by simp⟩
theorem Qot {k o t n c:Int} (h : -9223372036854775808<=n/\n<=9223372036854775807):Fi ⟨k,o,t,n,⟨#[]⟩,c⟩:=⟨show (⟨#[]⟩:ByteArray).size<=100 by decide,h⟩
def As (A:Nat) (w:World) (v:Value) (K:Nat):Prop := ∃ l:List Ae,l.length<=K/\(∀ d ∈ l,Fi d)/\w.ownsRow A 62 6 v l.length (Ap l)
theorem As.fr {A B:Nat} {w w':World} {v:Value} {K:Nat} (h:As A w v K) (hf:Bg B w w'):As A w' v K:=by
 obtain⟨l,a,b,c⟩:=h;exact⟨l,a,b,hf.row c OD⟩
theorem As.mono {A A':Nat} {w:World} {v:Value} {K K':Nat} (h:As A w v K) (hA:A'<=A) (hK:K<=K'):As A' w v K':=by
 obtain⟨l,c,a,b⟩:=h;exact⟨l,by omega,a,G0 b hA⟩
structure Ca where
 name:ByteArray
 pv:Value
 params:List Int
 result:Int
def Qb3 (s:Ca):List Value:=[.string s.name,s.pv,.int .i64 s.result]
def Rv (l:List Ca):List Value:=l.flatMap Qb3
def Qgi (x:ByteArray × Int):List Value:=[.string x.1,.int .i64 x.2]
def Ov (l:List (ByteArray × Int)):List Value:=l.flatMap Qgi
def Gf (l:List Int):List Value:=l.map (Value.int .i64)
def Hs (t:Int):Prop:=0<=t/\t<=10
structure Vz (B:Nat) (w:World) (fv:Value) (F:List Ca):Prop where
 row:w.ownsRow B 133 3 fv F.length (Rv F)
 par:∀ s ∈ F,w.ownsRow B 3 1 s.pv s.params.length (Gf s.params)
 bd:F.length<=5/\∀ s ∈ F,s.name.size<=30/\s.params.length<=3/\Hs s.result/\∀ t ∈ s.params,Hs t
theorem Vz.fr {B:Nat} {w w':World} {fv:Value} {F:List Ca} (h:Vz B w fv F) (hf:Bg B w w'):Vz B w' fv F:=⟨hf.row h.row OD,fun s hs=>hf.row (h.par s hs) OD,h.bd⟩
structure Aw (B g R P:Nat) (w:World) (nv:Value) (nl:List (ByteArray × Int)) (fv:Value) (F:List Ca) (ret loops count size:Int):Prop where
 lo:B<=R/\R < g
 rd:∃ p,p<=P/\Dn w R p
 box:w.heap[g]? = some (.cells #[.pointer (some (OK R 0)),nv,fv,.int .i64 ret,.int .i64 loops,.int .i64 count,.int .i64 size] 131)
 names:w.ownsRow g 162 2 nv nl.length (Ov nl)
 nbd:nl.length<=P/\∀ x ∈ nl,x.1.size<=30/\Hs x.2
 fns:Vz B w fv F
 bd:Hs ret/\(0<=loops/\loops<=P)/\(0<=count/\count<=P)/\(-(P:Int)<=size/\size<=P)
theorem Aw.mono {B g R P P':Nat} {w:World} {nv:Value} {nl:List (ByteArray × Int)} {fv:Value} {F:List Ca} {ret loops count size:Int} (h:Aw B g R P w nv nl fv F ret loops count size) (hP:P<=P'):Aw B g R P' w nv nl fv F ret loops count size:=by
 obtain⟨p,i,b⟩:=h.rd;obtain⟨a,c,d,f⟩:=h.bd;exact⟨h.lo,⟨p,by omega,b⟩,h.box,h.names,⟨by have:=h.nbd.1;omega,h.nbd.2⟩,h.fns,a,by omega,by omega,by omega⟩
theorem Aw.below {B g R P:Nat} {w w':World} {nv:Value} {nl:List (ByteArray × Int)} {fv:Value} {F:List Ca} {ret loops count size:Int} (h:Aw B g R P w nv nl fv F ret loops count size) (hb:Below w.heap.size w w'):Aw B g R P w' nv nl fv F ret loops count size:=by
 obtain⟨p,a,b⟩:=h.rd;exact⟨h.lo,⟨p,a,b.below hb⟩,(hb.block g (Array.getElem?_eq_some_iff.1 h.box).1).trans h.box,B1 h.names (fun k _ _ hl=>hb.block k hl),h.nbd,h.fns.fr (Bg.of_below hb),h.bd⟩
theorem Wa {w:World} {R p:Nat} (h:Dn w R p):∃ cur,w.heap[R]? = some (.cells cur 81):=by
 obtain⟨v,n,a,_⟩:=h.box;exact⟨_,a⟩
theorem Aw.but {B g R P P':Nat} {w w':World} {nv:Value} {nl:List (ByteArray × Int)} {fv:Value} {F:List Ca} {ret loops count size:Int} (h:Aw B g R P w nv nl fv F ret loops count size) (hr:∃ p,p<=P'/\Dn w' R p) (hP:P<=P') (hb:Cp R w w'):Aw B g R P' w' nv nl fv F ret loops count size/\Bg B w w':=by
 obtain⟨n,_,c⟩:=h.rd;obtain⟨j,f⟩:=Wa c;have l:=h.lo;have i:Bg B w w':=⟨hb.os,hb.tape,hb.output,hb.size,fun k hk b=>hb.block k hk (fun e=>by
  subst e
  rcases b with b|b
  ·omega
  ·exact(b _ _ _ f).1 rfl)⟩
 have d:=(h.mono hP);refine⟨⟨h.lo,hr,(hb.block g (Array.getElem?_eq_some_iff.1 h.box).1 OC).trans h.box,B1 h.names (fun k hk _ hl=>hb.block k hl (fun e=>by
  subst e
  obtain⟨m,a⟩:=(A8 h.names hk).2
  rw[f]at a;injection a with a;injection a with _ a _;exact absurd a OD)),d.nbd,h.fns.fr i,d.bd⟩,i⟩
theorem K0 : (prog.info? 62).map (fun i=>(i.zero,i.size,i.bytes))=some (some (.agg #[.int .i64 0,.int .i64 0,.int .i64 0,.int .i64 0,.string ⟨#[]⟩,.int .i64 0]),6,56):=OE
theorem Jn.below {w w':World} {ao:Option Addr} {m:Nat} {news:List Value} (h:Jn w ao m news) (hb:Below w.heap.size w w'):Jn w' ao m news:=fun h0=>by
 obtain⟨a,e,b⟩:=h h0
 refine⟨a,e,fun j u hj => ?_⟩
 have:=b j u hj
 rw[hb.cell (World.block_lt_of_cell? w _ this)]
 exact this
theorem Le (l:List Ae):∀ u ∈ Ap l,u.oneCell'=true:=fun u hu=>by
 obtain⟨d,_,a⟩:=List.mem_flatMap.1 hu
 unfold By at a
 simp at a
 rcases a with rfl|rfl|rfl|rfl|rfl|rfl <;> rfl
theorem Jo (l:List Ae):(Ap l).length=l.length * 6:=by
 unfold Ap;induction l with
 | nil=>rfl
 | cons d l ih=>simp[List.flatMap_cons,ih,By];omega
def Ti (w:World) (pa:Option Addr) (L:List (List Ae)):Prop := ∀ i (hi:i < L.length),∃ b a c,pa=some (OK b 0)/\w.cell? (OK b i)=some (.slice a L[i].length c)/\Jn w a L[i].length (Ap L[i])
theorem Ti.below {w w':World} {pa:Option Addr} {L:List (List Ae)} (h:Ti w pa L) (hb:Below w.heap.size w w'):Ti w' pa L:=fun i hi=>by
 obtain⟨b,a,c,f,d,g⟩:=h i hi
 exact⟨b,a,c,f,(hb.cell (p:=(OK b i)) (World.block_lt_of_cell? w _ d)).trans d,g.below hb⟩
def Fk (L:List (List Ae)):Nat:=L.flatten.length
theorem Z9 (d:Ae) (L:List (List Ae)) (pa:Option Addr) (pc:Nat) (w:World) (hp:Ti w pa L) (hL:L.length<=1000) (hn:Fk L<=1000000000) :
  Calls prog 54 #[Af d,.slice pa L.length pc] w fun e w' => ∃ a c,e = .returned (.slice a (Fk L+1) c)/\w'.ownsRow w.heap.size 62 6 (.slice a (Fk L+1) c) (Fk L+1) (Ap (L.flatten++[{ d with kids:=(L.length:Int) }]))/\Below w.heap.size w w':=by
 obtain⟨i0,S,aa,ab,ac⟩:=info_parts K0;unfold Af;have HP:Hid (∀ U,Below w.heap.size w U->Ti U pa L):=fun U hU=>hp.below hU
 clear hp;obtain⟨m,K⟩:∃ m,Hid (L.length=m):=⟨_,(rfl:L.length=_)⟩;rw[K.out]at hL |-
 have HA:Hid (∀ U,Below w.heap.size w U->∀ j (hj:j < m),∃ b a n c,pa=some (OK b 0)/\U.cell? (OK b j)=some (.slice a n c)/\∃ l,L[j]? = some l/\l.length=n/\Jn U a n (Ap l)):=fun U hU j hj=>by
  obtain⟨b,a,c,h1,h2,h3⟩:=HP.out U hU j (by rw[K.out];exact hj);exact⟨b,a,_,c,h1,h2,L[j]'(by rw[K.out];exact hj),by simp,rfl,h3⟩
 go_enter func54,ntmps54;go_wp2_with fail;obtain⟨H,s⟩:∃ V,w.alloc (.cells #[.int .i64 d.kind,.int .i64 d.op,.int .i64 d.type,.int .i64 d.n,.string d.text,.int .i64 d.kids] 62)=V:=⟨_,rfl⟩;have al:H.heap.size=w.heap.size+1:=by rw[<- s];simp
 have ai:Below w.heap.size w H:=by rw[<- s];exact OP w _
 have am:H.heap[w.heap.size]? = some (.cells #[.int .i64 d.kind,.int .i64 d.op,.int .i64 d.type,.int .i64 d.n,.string d.text,.int .i64 d.kids] 62):=by rw[<- s];exact World.alloc_heap_new w _
 rw[s];clear s;go_loopw [5,6] (fun o t wr => ∃ j,j<=m/\t = .int .i64 (j:Int)/\wr.ownsRow (w.heap.size+1) 62 6 o (Fk (L.take j)) (Ap (L.take j).flatten)/\wr.heap[w.heap.size]? = some (.cells #[.int .i64 d.kind,.int .i64 d.op,.int .i64 d.type,.int .i64 d.n,.string d.text,.int .i64 d.kids] 62)/\Below w.heap.size w wr/\w.heap.size+1<=wr.heap.size) (fun _ t _=>m - (intOf t).toNat);case atStart =>
  refine⟨0,by omega,rfl, ?_, ?_,ai.alloc OC _,by simp;omega⟩
  ·have:=World.ownsRow_made (base:=w.heap.size+1) (e:=62) (size:=6) H #[] 0 OC OD rfl;simpa[Fk,Ap,al]using this
  ·rw[((Below.refl H.heap.size H).alloc ON _).block w.heap.size OC];exact am
 case round =>
  obtain⟨j,hj,rfl,g,v,D,ao⟩:=hrel;obtain⟨I,J,rfl⟩:=B3 g;have F:Fk (L.take j)<=Fk L:=by
   unfold Fk;have e:=congrArg List.length (congrArg List.flatten (List.take_append_drop j L));rw[List.flatten_append,List.length_append]at e;omega
  by_cases hlt:j < m
  ·have Y:(j:Int) < (m:Int):=OC;obtain⟨b,a,n,c,rfl,aj,l,W,E,x⟩:=HA.out wr D j hlt;have T:j < L.length:=(by rw[K.out];exact hlt);have P:L[j]=l:=(by rw[List.getElem?_eq_getElem T]at W;exact Option.some.inj W);have i:(L.take (j+1)).flatten=(L.take j).flatten++l:=(by rw[List.take_add_one,List.getElem?_eq_getElem T,P];simp);have Z:Fk (L.take (j+1))=Fk (L.take j)+n:=(by unfold Fk;rw[i,List.length_append,E]);have A:Fk (L.take (j+1))<=Fk L:=by
    unfold Fk;have e:=congrArg List.length (congrArg List.flatten (List.take_append_drop (j+1) L));rw[List.flatten_append,List.length_append]at e;omega
   have r:Hid (wr.ownsRow (w.heap.size+1) 62 6 (.slice I (Fk (L.take j)) J) (Fk (L.take j)) (Ap (L.take j).flatten)):=g;have ae:Hid ((L.take (j+1)).flatten=(L.take j).flatten++l):=i;have y:Hid (Fk (L.take (j+1))=Fk (L.take j)+n/\Fk (L.take (j+1))<=Fk L):=⟨Z,A⟩;have ad:Hid (l.length=n):=E;clear g i Z A W P E;obtain⟨q,O⟩:∃ q,Hid (Fk (L.take j)=q):=⟨_,(rfl:_=_)⟩;rw[O.out]at r y F |-
   go_wp2_with (first|(at_builtin;(refine Eo rfl _ _ 23 rfl (w.heap.size+1) 62 i0 (.agg #[.int .i64 0,.int .i64 0,.int .i64 0,.int .i64 0,.string ⟨#[]⟩,.int .i64 0]) 6 56 underlying23 S aa ab ac rfl OD _ _ _ rfl r.out a n c rfl (Ap l) (by rw[Jo,ad.out]) x (Le l) (by have:=y.out;unfold maxLen;omega) (by have:=y.out;omega) ao ?_;intro v5 w5 h f)));have z:∀ k,(Value.slice I q J).ownBlock=some k->w.heap.size+1<=k:=fun k hk=>(A8 r.out hk).1.1
   have C:Below w.heap.size w w5:=D.trans ⟨f.os,f.tape,f.output,f.size,fun k hk=>f.block k OC (fun e=>by have:=z k e.symm;omega)⟩;have an:=(f.block w.heap.size OC (fun e=>by have:=z _ e.symm;omega)).trans v;have aq:=f.size;go_roundw;case rel=>exact⟨j+1,by omega,by go_num,by rw[y.out.1,ae.out,Ap,List.flatMap_append];exact h,an,C,by omega⟩
   case measure=>simp[intOf];omega
  ·have Y:¬ (j:Int) < (m:Int):=OC;have ak:j=m:=OC;subst ak;have i:L.take j=L:=List.take_of_length_le (by rw[K.out];exact ON);rw[i]at g F |-
   have r:Hid (wr.ownsRow (w.heap.size+1) 62 6 (.slice I (Fk L) J) (Fk L) (Ap L.flatten)):=g;clear g F i;have c5:wr.cell? (OK w.heap.size 5)=some (.int .i64 d.kids):=(by rw[Lib.cell_of_heap v];rfl);have f5:wr.frozen? (OK w.heap.size 5)=false:=(by simp[World.frozen?,v]);obtain⟨V,hV⟩:∃ V,wr.setCell (OK w.heap.size 5) (.int .i64 (j:Int))=V:=⟨_,rfl⟩;have ah:V.heap[w.heap.size]? = some (.cells #[.int .i64 d.kind,.int .i64 d.op,.int .i64 d.type,.int .i64 d.n,.string d.text,.int .i64 (j:Int)] 62):=(by rw[<- hV];simp[World.setCell,Array.getElem?_modify,v]);have ag:∀ k,k≠w.heap.size->V.heap[k]? = wr.heap[k]?:=fun k hk=>by rw[<- hV];exact Below.heap_setCell _ _ _ _ hk
   have Q:V.heap.size=wr.heap.size:=(by rw[<- hV];simp[World.setCell]);have af:Below w.heap.size w V:=(by rw[<- hV];exact D.setCell (p:=(OK w.heap.size 5)) ON _);have N:Hid (V.ownsRow (w.heap.size+1) 62 6 (.slice I (Fk L) J) (Fk L) (Ap L.flatten)):=B1 r.out (fun k _ hk _=>ag k OC);have G:∀ k u,(#[.int .i64 d.kind,.int .i64 d.op,.int .i64 d.type,.int .i64 d.n,.string d.text,.int .i64 (j:Int)]:Array Value)[k]? = some u->V.cell? (OK w.heap.size k)=some u:=fun k u hk=>by rw[Lib.cell_of_heap ah];exact hk
   have c0:=G 0 _ rfl;have c1:=G 1 _ rfl;have c2:=G 2 _ rfl;have c3:=G 3 _ rfl;have c4:=G 4 _ rfl;have c6:=G 5 _ rfl;clear G v;obtain⟨q,O⟩:∃ q,Hid (Fk L=q):=⟨_,(rfl:_=_)⟩;rw[O.out]at N hn |-
   obtain⟨V2,B⟩:∃ X,V.alloc (.cells #[.int .i64 d.kind,.int .i64 d.op,.int .i64 d.type,.int .i64 d.n,.string d.text,.int .i64 (j:Int)] 62)=X:=⟨_,rfl⟩;have ap:V2.heap.size=wr.heap.size+1:=(by rw[<- B];simp[Q]);have R:Below V.heap.size V V2:=(by rw[<- B];exact OP V _);have M:Hid (V2.ownsRow (w.heap.size+1) 62 6 (.slice I q J) q (Ap L.flatten)):=B1 N.out (fun k _ _ W=>R.block k W);have x:Jn V2 (some (OK wr.heap.size 0)) 1 (By { d with kids:=(j:Int) }):=fun _=>⟨_,rfl,fun k u hk=>by
    rw[Ld,<- B,<- Q,Lib.cell_of_heap (World.alloc_heap_new V _)]
    simpa[By]using hk⟩
   go_wp2_with (first|(at_builtin;(refine Eo rfl _ _ 23 rfl (w.heap.size+1) 62 i0 (.agg #[.int .i64 0,.int .i64 0,.int .i64 0,.int .i64 0,.string ⟨#[]⟩,.int .i64 0]) 6 56 underlying23 S aa ab ac rfl OD _ _ _ rfl M.out (some (OK wr.heap.size 0)) 1 1 rfl (By { d with kids:=(j:Int) }) rfl x (fun u hu=>Le [{ d with kids:=(j:Int) }] u (by simpa[Ap]using hu)) OI OC OC ?_;intro v5 w5 h f)));have z:∀ k,(Value.slice I q J).ownBlock=some k->w.heap.size+1<=k:=fun k hk=>(A8 M.out hk).1.1
   have C:Below w.heap.size w w5:=(af.trans (R.mono OC)).trans ⟨f.os,f.tape,f.output,f.size,fun k hk=>f.block k OC (fun e=>by have:=z k e.symm;omega)⟩;obtain⟨a5,k5,rfl⟩:=B3 h;go_ret;refine⟨a5,k5,by rw[O.out];rfl, ?_,C⟩;rw[O.out];have:=G0 h (show w.heap.size<=w.heap.size+1 by omega);simpa[Ap,List.flatMap_append]using this
theorem Bh {k o t c:Int}:Fi ⟨k,o,t,0,⟨#[]⟩,c⟩:=L1 OD
theorem Xb {w:World} {K:Nat}:∀ (vs:List Value),(∀ v ∈ vs,∃ A,As A w v K)->∃ L:List (List Ae),L.length=vs.length/\L.flatten.length<=vs.length * K/\(∀ d ∈ L.flatten,Fi d)/\∀ i (hi:i < L.length),∃ a c,vs[i]? = some (.slice a L[i].length c)/\Jn w a L[i].length (Ap L[i])
 | [],_=>⟨[],rfl,by simp,by simp,fun i hi=>by simp at hi⟩
 | v::vs,h=>by
  obtain⟨L,g,n,j,k⟩:=Xb vs (fun u hu=>h u (List.mem_cons_of_mem _ hu))
  obtain⟨A,l,o,m,f⟩:=h v OF
  obtain⟨a,c,rfl⟩:=B3 f
  refine⟨l::L,by simp[g], ?_, ?_,fun i hi => ?_⟩
  ·simp only[List.flatten_cons,List.length_append,List.length_cons,Nat.add_mul];omega
  ·intro d b
   simp only[List.flatten_cons,List.mem_append]at b
   rcases b with b|b
   ·exact m d b
   ·exact j d b
  ·cases i with
   | zero=>exact⟨a,c,rfl,M5 f⟩
   | succ i=>exact k i (by simpa using hi)
theorem Pi (d:Ae) (hd:Fi d) (vs:List Value) (K:Nat) (pa:Option Addr) (pc:Nat) (w:World) (hc:∀ i v,vs[i]? = some v->∃ b,pa=some (OK b 0)/\w.cell? (OK b i)=some v) (hr:∀ v ∈ vs,∃ A,As A w v K) (hl:vs.length<=100) (hK:vs.length * K<=1000000000) :
  Calls prog 54 #[Af d,.slice pa vs.length pc] w fun e w' => ∃ a n c,e = .returned (.slice a n c)/\As w.heap.size w' (.slice a n c) (vs.length * K+1)/\Below w.heap.size w w':=by
 obtain⟨L,g,r,h,j⟩:=Xb vs hr;rw[<- g];refine(Z9 d L pa pc w (fun i hi => ?_) OC (by unfold Fk;omega)).mono ?_
 ·obtain⟨a,c,m,o⟩:=j i hi;obtain⟨b,p,q⟩:=hc i _ m;exact⟨b,a,c,p,q,o⟩
 ·rintro e w' ⟨a,c,rfl,l,k⟩;refine⟨a,_,c,rfl,⟨L.flatten++[{ d with kids:=(L.length:Int) }], ?_, ?_, ?_⟩,k⟩
  ·rw[g];simp only[List.length_append,List.length_cons,List.length_nil];omega
  ·intro x f;simp only[List.mem_append,List.mem_singleton]at f;rcases f with f|rfl
   ·exact h x f
   ·exact hd
  ·have e:(L.flatten++[{ d with kids:=(L.length:Int) }]).length=Fk L+1:=(by simp[Fk]);rw[e];exact l
theorem L2 (w:World) (B:Nat) (hB:B<=w.heap.size) (l:List Ae) (hl:l.length<=1000):(w.alloc (.cells (Ap l).toArray 62)).ownsRow B 62 6 (.slice (some (OK w.heap.size 0)) l.length l.length) l.length (Ap l):=by
 refine⟨Jo l,.inr ⟨w.heap.size,l.length,(Ap l).toArray,rfl,hB,World.alloc_heap_new w _,Nat.le_refl _,by unfold maxLen;omega,by simp[Jo],by simp[Jo,List.take_of_length_le]⟩⟩
theorem Fj (w:World) (d:Ae) (hd:Fi d):As w.heap.size (w.alloc (.cells #[.int .i64 d.kind,.int .i64 d.op,.int .i64 d.type,.int .i64 d.n,.string d.text,.int .i64 d.kids] 62)) (.slice (some (OK w.heap.size 0)) 1 1) 1 :=
 ⟨[d],by simp,by simpa using hd,L2 w w.heap.size ON [d] OF⟩
theorem Qi (kind:Int) (t:ByteArray) (ht:t.size<=100) (w:World) :
  Calls prog 96 #[.int .i64 kind,.string t] w fun e w' => ∃ a n c,e = .returned (.slice a n c)/\As w.heap.size w' (.slice a n c) 1/\Below w.heap.size w w':=by
 go_enter func96,ntmps96;go_wp2;go_ret;exact⟨_,_,_,rfl,Fj w ⟨kind,0,0,0,t,0⟩ (L1 ht),OP w _⟩
theorem D8 (t:ByteArray) (ht:t.size<=100) (w:World) :
  Calls prog 52 #[.string t] w fun e w' => ∃ a n c,e = .returned (.slice a n c)/\As w.heap.size w' (.slice a n c) 1/\Below w.heap.size w w':=by
 go_enter func52,ntmps52;go_wp2_with (go_at_call 96;refine(Qi _ t ht _).mono ?_;rintro e f ⟨a,n,c,rfl,d,b⟩);go_ret;exact⟨a,n,c,rfl,d,b⟩
theorem J5 (t n:Int) (w:World) (hn : -9223372036854775808<=n/\n<=9223372036854775807:=by omega) :
  Calls prog 98 #[.int .i64 t,.int .i64 n] w fun e w' => ∃ a n c,e = .returned (.slice a n c)/\As w.heap.size w' (.slice a n c) 1/\Below w.heap.size w w':=by
 go_enter func98,ntmps98;go_wp2;go_ret;exact⟨_,_,_,rfl,Fj w ⟨1,0,t,n,⟨#[]⟩,0⟩ ⟨show (⟨#[]⟩:ByteArray).size<=100 by decide,hn⟩,OP w _⟩
theorem Tl (op:Int) (vs:List Value) (K:Nat) (pa:Option Addr) (pc:Nat) (w:World) (hc:∀ i v,vs[i]? = some v->∃ b,pa=some (OK b 0)/\w.cell? (OK b i)=some v) (d:∀ v ∈ vs,∃ A,As A w v K) (hl:vs.length<=100) (hK:vs.length * K<=1000000000) :
  Calls prog 164 #[.int .i64 op,.slice pa vs.length pc] w fun e w' => ∃ a n c,e = .returned (.slice a n c)/\As w.heap.size w' (.slice a n c) (vs.length * K+1)/\Below w.heap.size w w':=by
 have H:=Pi ⟨8,op,0,0,⟨#[]⟩,0⟩ Bh vs K pa pc w hc d hl hK;unfold Af at H;have f:Hid (Calls prog 54 #[.agg #[.int .i64 8,.int .i64 op,.int .i64 0,.int .i64 0,.string ⟨#[]⟩,.int .i64 0],.slice pa vs.length pc] w fun e w' => ∃ a n c,e = .returned (.slice a n c)/\As w.heap.size w' (.slice a n c) (vs.length * K+1)/\Below w.heap.size w w'):=H;clear H hc d;go_enter func164,ntmps164;go_wp2_with fail;refine f.out.mono ?_;rintro e h ⟨a,n,c,rfl,d,g⟩;go_wp2;go_ret;exact⟨a,n,c,rfl,d,g⟩
theorem Qmz (op:Int) (a:Option Addr) (n c:Nat) (a':Option Addr) (n' c':Nat) (K:Nat) (w:World) (h:∃ A,As A w (.slice a n c) K) (h':∃ A,As A w (.slice a' n' c') K) (hK:2 * K<=1000000000) :
  Calls prog 97 #[.int .i64 op,.slice a n c,.slice a' n' c'] w fun e w' => ∃ a n c,e = .returned (.slice a n c)/\As w.heap.size w' (.slice a n c) (2 * K+1)/\Below w.heap.size w w':=by
 obtain⟨V,f⟩:∃ V,w.alloc (.cells #[.slice a n c,.slice a' n' c'] 23)=V:=⟨_,rfl⟩;have d:Below w.heap.size w V:=by rw[<- f];exact OP w _
 have l:V.heap[w.heap.size]? = some (.cells #[.slice a n c,.slice a' n' c'] 23):=by rw[<- f];exact World.alloc_heap_new w _
 obtain⟨A,j⟩:=h;obtain⟨m,b⟩:=h';have k:w.heap.size<=V.heap.size:=d.size;have H:=Pi ⟨6,op,0,0,⟨#[]⟩,0⟩ Bh [.slice a n c,.slice a' n' c'] K (some (OK w.heap.size 0)) 2 V (fun i v hi=>⟨w.heap.size,rfl,by rw[Lib.cell_of_heap l];simpa using hi⟩) (fun v hv=>by
  simp at hv
  rcases hv with rfl|rfl
  ·exact⟨A,j.fr (B:=0) (Bg.of_below d)⟩
  ·exact⟨m,b.fr (B:=0) (Bg.of_below d)⟩) OF hK
 unfold Af at H;have o:Hid (Calls prog 54 #[.agg #[.int .i64 6,.int .i64 op,.int .i64 0,.int .i64 0,.string ⟨#[]⟩,.int .i64 0],.slice (some (OK w.heap.size 0)) 2 2] V fun e w' => ∃ a n c,e = .returned (.slice a n c)/\As V.heap.size w' (.slice a n c) (2 * K+1)/\Below V.heap.size V w'):=H;clear H j b l;go_enter func97,ntmps97;go_wp2_with fail;try rw[f]
 refine o.out.mono ?_;rintro e q ⟨a,n,c,rfl,p,g⟩;go_wp2;go_ret;exact⟨a,n,c,rfl,p.mono k ON,d.trans (g.mono k)⟩
end Go.Proofs.YtjlaedokfbcbpaaGreatDoor
