import Derived.Test.YtahibkjkpmdhgaaGreatDoorKWalC1
import Derived.Test.YtahibkjkpmdhgaaGreatDoorKCeA
set_option maxRecDepth 100000
set_option maxHeartbeats 2000000
namespace Go.Proofs.YtahibkjkpmdhgaaGreatDoor
open Go.RowKit
theorem El (t n:Int) (x:ByteArray) (hn : -9223372036854775808<=n/\n<=9223372036854775807) (w:World) :
  Calls Tryz.prog 132 #[.agg #[.int .i64 t,.int .i64 n,.string x]] w fun e w'=>e = .returned (.bool (A4 ⟨t,n,x⟩))/\OH w w':=by
 obtain⟨r,a⟩:∃ r,Hid (A4 ⟨t,n,x⟩=r):=⟨_,(rfl:A4 ⟨t,n,x⟩=_)⟩;rw[a.out];by_cases h1:t=1
 ·subst h1;go_enter Tryz.func132,Tryz.ntmps132;go_wp2;all_goals go_ret
  all_goals refine⟨Iz ?_,(Below.refl _ w).alloc (Nat.le_refl _) _⟩
  all_goals (rw[<- a.out];simp[A4, *])
 ·by_cases h2:t=2
  ·subst h2;go_enter Tryz.func132,Tryz.ntmps132;go_wp2;all_goals go_ret
   all_goals refine⟨Iz ?_,(Below.refl _ w).alloc (Nat.le_refl _) _⟩
   all_goals (rw[<- a.out];first|(simp[A4, *];done)|(simp[A4, *];omega))
  ·cases hi:Bc t with
   | false =>
    have c:Hid (Bc t=false):=hi;have b:Hid (false=r):=(by rw[Hid,<- a.out,A4,if_neg h1,if_neg h2,hi];rfl);clear hi;go_enter Tryz.func132,Tryz.ntmps132;go_wp2_with (go_at_call 160;refine(Bn _ _).mono ?_;rintro e w' ⟨rfl,rfl⟩;rw[c.out]);go_ret;exact⟨Iz b.out,(Below.refl _ w).alloc (Nat.le_refl _) _⟩
   | true =>
    have d:t=3\/t=4\/t=5\/t=6\/t=7\/t=8\/t=9\/t=10:=(by simp[Bc]at hi;omega);have b:(x.toList.isEmpty && decide (n=Ay t (Cb n)))=r:=(by rw[<- a.out,A4,if_neg h1,if_neg h2,hi];rfl);rw[<- b];rcases d with rfl|rfl|rfl|rfl|rfl|rfl|rfl|rfl
    ·exact Qac n x hn w
    ·exact Xw n x hn w
    ·exact Xx n x hn w
    ·exact Xy n x hn w
    ·exact Qcq n x hn w
    ·exact Z9 n x hn w
    ·exact Qaa n x hn w
    ·exact Qab n x hn w
theorem Q7 (b:Bool) (t n:Int) (x:ByteArray) (hn : -9223372036854775808<=n/\n<=9223372036854775807) (h:Hid (A4 ⟨t,n,x⟩=b)) (w:World) :
  Calls Tryz.prog 132 #[.agg #[.int .i64 t,.int .i64 n,.string x]] w fun e w'=>e = .returned (.bool b)/\OH w w':=by
 rw[<- h.out];exact El t n x hn w
theorem W3 (c:List Af) (f:Af) (i:Az) (h1:2<=i.op) (h16:i.op<=16):Aq c f i=(decide ((Hw c f i.op).1<=i.a) && decide (i.a<=(Hw c f i.op).2) && decide (i.n=0) && i.text.toList.isEmpty):=by
 obtain⟨b,a,n,d⟩:=i;simp only at h1 h16 |-
 have h:b=2\/b=3\/b=4\/b=5\/b=6\/b=7\/b=8\/b=9\/b=10\/b=11\/b=12\/b=13\/b=14\/b=15\/b=16:=Ou
 have g:∀ z:Int,decide (a=z)=(decide (z<=a) && decide (a<=z)):=fun z=>by
  by_cases e:a=z
  ·subst e;simp
  ·by_cases e2:z<=a
   ·have:¬ a<=z:=Ou;simp[e,this]
   ·simp[e,e2]
 by_cases hn:n=0
 ·cases ht:d.toList.isEmpty with
  | false =>
   rw[Bool.and_false];exact Ha c f _ (by show b≠1;omega) (.inr ht)
  | true =>
   subst hn;rcases h with rfl|rfl|rfl|rfl|rfl|rfl|rfl|rfl|rfl|rfl|rfl|rfl|rfl|rfl|rfl
   all_goals
    unfold Aq Hw;simp[Dr,As,Ci,ht];try (first|exact g 0|omega|(by_cases hr:f.result=0 <;> simp[hr,g]))
 ·rw[Ha c f _ (by show b≠1;omega) (.inl hn)];simp[hn]
theorem Zo (c:List Af) (f:Af) (op a n:Int) (text:ByteArray) (hn : -9223372036854775808<=n/\n<=9223372036854775807) (ca ia:Option Addr) (cc ic:Nat) (pv:Value) (hcl:c.length<=1048576) (hil:f.ins.length<=1048576) (hsl : -1000000<=f.slots) (hsh:f.slots<=1000000) (w:World) :
  Calls Tryz.prog 125 #[.agg #[.slice ca c.length cc],Bp f pv (.slice ia f.ins.length ic),Aw ⟨op,a,n,text⟩] w fun e w'=>e = .returned (.bool (Aq c f ⟨op,a,n,text⟩))/\OH w w':=by
 obtain⟨E,y⟩:∃ Y,w.alloc (.cells #[.slice ca c.length cc] 59)=Y:=⟨_,rfl⟩;have C:OH w E:=by rw[<- y];exact Ao w _
 have J:E.heap.size=w.heap.size+1:=by rw[<- y];exact World.size_alloc _ _
 have u:E.heap[w.heap.size]? = some (.cells #[.slice ca c.length cc] 59):=by rw[<- y];exact Ae w _
 obtain⟨B,t⟩:∃ Y,E.alloc (.cells #[.string f.name,pv,.int .i64 f.result,.int .i64 f.slots,.slice ia f.ins.length ic] 130)=Y:=⟨_,rfl⟩;have D:OH w B:=by rw[<- t];exact Ab C _
 have K:B.heap.size=w.heap.size+2:=by rw[<- t,World.size_alloc];omega
 have v:B.heap[w.heap.size]? = some (.cells #[.slice ca c.length cc] 59):=by rw[<- t];exact Ak _ u
 have x:B.heap[w.heap.size+1]? = some (.cells #[.string f.name,pv,.int .i64 f.result,.int .i64 f.slots,.slice ia f.ins.length ic] 130):=by rw[<- t,<- J];exact Ae _ _
 clear u;obtain⟨j,q⟩:∃ Y,B.alloc (.cells #[.int .i64 op,.int .i64 a,.int .i64 n,.string text] 107)=Y:=⟨_,rfl⟩;have d:OH w j:=by rw[<- q];exact Ab D _
 have ae:j.heap.size=w.heap.size+3:=by rw[<- q,World.size_alloc];omega
 have m:j.heap[w.heap.size]? = some (.cells #[.slice ca c.length cc] 59):=by rw[<- q];exact Ak _ v
 have g:j.heap[w.heap.size+1]? = some (.cells #[.string f.name,pv,.int .i64 f.result,.int .i64 f.slots,.slice ia f.ins.length ic] 130):=by rw[<- q];exact Ak _ x
 have i:j.heap[w.heap.size+2]? = some (.cells #[.int .i64 op,.int .i64 a,.int .i64 n,.string text] 107):=by rw[<- q,<- K];exact Ae _ _
 clear v x;have Q:j.cell? (OK w 0)=some (.slice ca c.length cc):=by rw[Lib.cell_of_heap m];rfl
 have R:j.cell? (OJ w 1 0)=some (.string f.name):=by rw[Lib.cell_of_heap g];rfl
 have S:j.cell? (OJ w 1 1)=some (pv):=by rw[Lib.cell_of_heap g];rfl
 have T:j.cell? (OJ w 1 2)=some (.int .i64 f.result):=by rw[Lib.cell_of_heap g];rfl
 have U:j.cell? (OJ w 1 3)=some (.int .i64 f.slots):=by rw[Lib.cell_of_heap g];rfl
 have V:j.cell? (OJ w 1 4)=some (.slice ia f.ins.length ic):=by rw[Lib.cell_of_heap g];rfl
 have W:j.cell? (OJ w 2 0)=some (.int .i64 op):=by rw[Lib.cell_of_heap i];rfl
 have X:j.cell? (OJ w 2 1)=some (.int .i64 a):=by rw[Lib.cell_of_heap i];rfl
 have Z:j.cell? (OJ w 2 2)=some (.int .i64 n):=by rw[Lib.cell_of_heap i];rfl
 have aa:j.cell? (OJ w 2 3)=some (.string text):=by rw[Lib.cell_of_heap i];rfl
 clear C D;by_cases hop:1<=op/\op<=16
 ·by_cases ho1:op=1
  ·subst ho1;obtain⟨r,P⟩:∃ r,Hid (A4 ⟨a,n,text⟩=r):=⟨_,(rfl:A4 ⟨a,n,text⟩=_)⟩;have z:Hid (Aq c f ⟨1,a,n,text⟩=r):=(by rw[Hid,Aq,if_neg (by simp[As,Dr]),if_pos rfl];exact P.out);rw[z.out];clear m g i hop;unfold Bp Aw;go_enter Tryz.func125,Tryz.ntmps125;go_wp2_with (first|(go_at_call 132;refine(Q7 r a n text hn P _).mono ?_;rintro e k ⟨rfl,b⟩));go_ret;exact⟨rfl,d.trans (b.mono d.size)⟩
  ·obtain⟨⟨L,I⟩,O⟩:∃ p,Hid (Hw c f op=p):=⟨_,(rfl:Hw c f op=_)⟩;have z:Hid (Aq c f ⟨op,a,n,text⟩=(decide (L<=a) && decide (a<=I) && decide (n=0) && text.toList.isEmpty)):=by
    have h:=W3 c f ⟨op,a,n,text⟩ (by show 2<=op;omega) (by show op<=16;omega);simp only[O.out]at h;exact h
   have o:Hid (Calls Tryz.prog 152 #[.agg #[.slice ca c.length cc],.agg #[.string f.name,pv,.int .i64 f.result,.int .i64 f.slots,.slice ia f.ins.length ic],.int .i64 op] j fun e w'=>e = .returned (.tuple #[.int .i64 L,.int .i64 I])/\OH j w'):=by
    have h:=Qau c f op Ou Ou ca ia cc ic pv hcl hil hsl hsh j;rw[O.out]at h;exact h
   have ab:(op == 1)=false:=(by simp[ho1]);have ad:¬ op < 1:=Ou;have ac:¬ 16 < op:=Ou;have A:Hid (j.heap[w.heap.size+2]? = some (.cells #[.int .i64 op,.int .i64 a,.int .i64 n,.string text] 107)):=i;clear ho1 hop m g i;rw[z.out];unfold Bp Aw;go_enter Tryz.func125,Tryz.ntmps125;by_cases q1:L<=a
   ·by_cases q2:a<=I
    ·by_cases q3:n=0
     ·have M:(n == 0)=true:=(by simp[q3]);have s:Hid (n=0):=q3;clear q3;cases q4:text.toList.isEmpty with
      | true =>
       have N:(text.toList == [])=true:=by cases h:text.toList <;> simp_all
       go_wp2_with (first|(go_at_call 152;refine o.out.mono ?_;rintro e k ⟨rfl,b⟩;have l:=(b.block (w.heap.size+2) Ou).trans A.out;have F:=(show k.cell? (OJ w 2 1)=some (.int .i64 a) from(by rw[Lib.cell_of_heap l];rfl));have G:=(show k.cell? (OJ w 2 2)=some (.int .i64 n) from(by rw[Lib.cell_of_heap l];rfl));have H:=(show k.cell? (OJ w 2 3)=some (.string text) from(by rw[Lib.cell_of_heap l];rfl))));all_goals go_ret
       all_goals exact⟨Ap (by first|(simp[*];done)|(simp[s.out];done)|(simp[s.out];omega)|(simp;intros;omega)),d.trans (b.mono d.size)⟩
      | false =>
       have N:(text.toList == [])=false:=by cases h:text.toList <;> simp_all
       go_wp2_with (first|(go_at_call 152;refine o.out.mono ?_;rintro e k ⟨rfl,b⟩;have l:=(b.block (w.heap.size+2) Ou).trans A.out;have F:=(show k.cell? (OJ w 2 1)=some (.int .i64 a) from(by rw[Lib.cell_of_heap l];rfl));have G:=(show k.cell? (OJ w 2 2)=some (.int .i64 n) from(by rw[Lib.cell_of_heap l];rfl));have H:=(show k.cell? (OJ w 2 3)=some (.string text) from(by rw[Lib.cell_of_heap l];rfl))));all_goals go_ret
       all_goals exact⟨Ap (by first|(simp[*];done)|(simp[s.out];done)|(simp[s.out];omega)|(simp;intros;omega)),d.trans (b.mono d.size)⟩
     ·have M:(n == 0)=false:=(by simp[q3]);go_wp2_with (first|(go_at_call 152;refine o.out.mono ?_;rintro e k ⟨rfl,b⟩;have l:=(b.block (w.heap.size+2) Ou).trans A.out;have F:=(show k.cell? (OJ w 2 1)=some (.int .i64 a) from(by rw[Lib.cell_of_heap l];rfl));have G:=(show k.cell? (OJ w 2 2)=some (.int .i64 n) from(by rw[Lib.cell_of_heap l];rfl));have H:=(show k.cell? (OJ w 2 3)=some (.string text) from(by rw[Lib.cell_of_heap l];rfl))));all_goals go_ret
      all_goals exact⟨Ap (by first|(simp[*];done)|(simp[s.out];done)|(simp[s.out];omega)|(simp;intros;omega)),d.trans (b.mono d.size)⟩
    ·go_wp2_with (first|(go_at_call 152;refine o.out.mono ?_;rintro e k ⟨rfl,b⟩;have l:=(b.block (w.heap.size+2) Ou).trans A.out;have F:=(show k.cell? (OJ w 2 1)=some (.int .i64 a) from(by rw[Lib.cell_of_heap l];rfl));have G:=(show k.cell? (OJ w 2 2)=some (.int .i64 n) from(by rw[Lib.cell_of_heap l];rfl));have H:=(show k.cell? (OJ w 2 3)=some (.string text) from(by rw[Lib.cell_of_heap l];rfl))));all_goals go_ret
     all_goals exact⟨Ap (by first|(simp[*];done)|(simp[s.out];done)|(simp[s.out];omega)|(simp;intros;omega)),d.trans (b.mono d.size)⟩
   ·go_wp2_with (first|(go_at_call 152;refine o.out.mono ?_;rintro e k ⟨rfl,b⟩;have l:=(b.block (w.heap.size+2) Ou).trans A.out;have F:=(show k.cell? (OJ w 2 1)=some (.int .i64 a) from(by rw[Lib.cell_of_heap l];rfl));have G:=(show k.cell? (OJ w 2 2)=some (.int .i64 n) from(by rw[Lib.cell_of_heap l];rfl));have H:=(show k.cell? (OJ w 2 3)=some (.string text) from(by rw[Lib.cell_of_heap l];rfl))));all_goals go_ret
    all_goals exact⟨Ap (by first|(simp[*];done)|(simp[s.out];done)|(simp[s.out];omega)|(simp;intros;omega)),d.trans (b.mono d.size)⟩
 ·have z:Hid (Aq c f ⟨op,a,n,text⟩=false):=by
   rw[Hid,Aq,if_pos];left;simp[As];omega
  rw[z.out];clear m g i;unfold Bp Aw;go_enter Tryz.func125,Tryz.ntmps125;by_cases hl:op < 1
  ·go_wp2_with fail;go_ret;exact⟨rfl,d⟩
  ·have hg:16 < op:=Ou;go_wp2_with fail;go_ret;exact⟨rfl,d⟩
end Go.Proofs.YtahibkjkpmdhgaaGreatDoor
