import Derived.Test.YtahibkjkpmdhgaaGreatDoorKWalC1
import Derived.Test.YtahibkjkpmdhgaaGreatDoorKCeA
set_option maxRecDepth 100000
set_option maxHeartbeats 2000000
namespace Go.Proofs.YtahibkjkpmdhgaaGreatDoor
open Go.RowKit
theorem D8 (t n:Int) (x:ByteArray) (hn : -9223372036854775808<=n/\n<=9223372036854775807) (w:World) :
  Calls Tryz.prog 132 #[.agg #[.int .i64 t,.int .i64 n,.string x]] w fun e w'=>e = .returned (.bool (A4 ⟨t,n,x⟩))/\Below w.heap.size w w':=by
 obtain⟨r,a⟩:∃ r,Hid (A4 ⟨t,n,x⟩=r):=⟨_,(rfl:A4 ⟨t,n,x⟩=_)⟩;rw[a.out];by_cases h1:t=1
 ·subst h1;go_enter Tryz.func132,Tryz.ntmps132;go_wp2;all_goals go_ret
  all_goals refine⟨H2 ?_,(Below.refl _ w).alloc (Nat.le_refl _) _⟩
  all_goals (rw[<- a.out];simp[A4, *])
 ·by_cases h2:t=2
  ·subst h2;go_enter Tryz.func132,Tryz.ntmps132;go_wp2;all_goals go_ret
   all_goals refine⟨H2 ?_,(Below.refl _ w).alloc (Nat.le_refl _) _⟩
   all_goals (rw[<- a.out];first|(simp[A4, *];done)|(simp[A4, *];omega))
  ·cases hi:Be t with
   | false =>
    have c:Hid (Be t=false):=hi;have b:Hid (false=r):=(by rw[Hid,<- a.out,A4,if_neg h1,if_neg h2,hi];rfl);clear hi;go_enter Tryz.func132,Tryz.ntmps132;go_wp2_with (go_at_call 160;refine(Bp _ _).mono ?_;rintro e w' ⟨rfl,rfl⟩;rw[c.out]);go_ret;exact⟨H2 b.out,(Below.refl _ w).alloc (Nat.le_refl _) _⟩
   | true =>
    have d:t=3\/t=4\/t=5\/t=6\/t=7\/t=8\/t=9\/t=10:=(by simp[Be]at hi;omega);have b:(x.toList.isEmpty && decide (n=Aw t (B7 n)))=r:=(by rw[<- a.out,A4,if_neg h1,if_neg h2,hi];rfl);rw[<- b];rcases d with rfl|rfl|rfl|rfl|rfl|rfl|rfl|rfl
    ·exact Xa n x hn w
    ·exact Uq n x hn w
    ·exact Ur n x hn w
    ·exact Us n x hn w
    ·exact Zj n x hn w
    ·exact W7 n x hn w
    ·exact W8 n x hn w
    ·exact W9 n x hn w
theorem O3 (b:Bool) (t n:Int) (x:ByteArray) (hn : -9223372036854775808<=n/\n<=9223372036854775807) (h:Hid (A4 ⟨t,n,x⟩=b)) (w:World) :
  Calls Tryz.prog 132 #[.agg #[.int .i64 t,.int .i64 n,.string x]] w fun e w'=>e = .returned (.bool b)/\Below w.heap.size w w':=by
 rw[<- h.out];exact D8 t n x hn w
theorem T3 (c:List Ae) (f:Ae) (i:Ay) (h1:2<=i.op) (h16:i.op<=16):Ar c f i=(decide ((G7 c f i.op).1<=i.a) && decide (i.a<=(G7 c f i.op).2) && decide (i.n=0) && i.text.toList.isEmpty):=by
 obtain⟨b,a,n,d⟩:=i;simp only at h1 h16 |-
 have h:b=2\/b=3\/b=4\/b=5\/b=6\/b=7\/b=8\/b=9\/b=10\/b=11\/b=12\/b=13\/b=14\/b=15\/b=16:=by omega
 have g:∀ z:Int,decide (a=z)=(decide (z<=a) && decide (a<=z)):=fun z=>by
  by_cases e:a=z
  ·subst e;simp
  ·by_cases e2:z<=a
   ·have:¬ a<=z:=(by omega);simp[e,this]
   ·simp[e,e2]
 by_cases hn:n=0
 ·cases ht:d.toList.isEmpty with
  | false =>
   rw[Bool.and_false];exact Gm c f _ (by show b≠1;omega) (.inr ht)
  | true =>
   subst hn;rcases h with rfl|rfl|rfl|rfl|rfl|rfl|rfl|rfl|rfl|rfl|rfl|rfl|rfl|rfl|rfl
   all_goals
    unfold Ar G7;simp[Df,At,Cc,ht];try (first|exact g 0|omega|(by_cases hr:f.result=0 <;> simp[hr,g]))
 ·rw[Gm c f _ (by show b≠1;omega) (.inl hn)];simp[hn]
theorem Wo (c:List Ae) (f:Ae) (op a n:Int) (text:ByteArray) (hn : -9223372036854775808<=n/\n<=9223372036854775807) (ca ia:Option Addr) (cc ic:Nat) (pv:Value) (hcl:c.length<=1048576) (hil:f.ins.length<=1048576) (hsl : -1000000<=f.slots) (hsh:f.slots<=1000000) (w:World) :
  Calls Tryz.prog 125 #[.agg #[.slice ca c.length cc],Ax f pv (.slice ia f.ins.length ic),Ak ⟨op,a,n,text⟩] w fun e w'=>e = .returned (.bool (Ar c f ⟨op,a,n,text⟩))/\Below w.heap.size w w':=by
 obtain⟨E,y⟩:∃ Y,w.alloc (.cells #[.slice ca c.length cc] 59)=Y:=⟨_,rfl⟩;have C:Below w.heap.size w E:=by rw[<- y];exact Au w _
 have J:E.heap.size=w.heap.size+1:=by rw[<- y];exact World.size_alloc _ _
 have u:E.heap[w.heap.size]? = some (.cells #[.slice ca c.length cc] 59):=by rw[<- y];exact Af w _
 obtain⟨B,t⟩:∃ Y,E.alloc (.cells #[.string f.name,pv,.int .i64 f.result,.int .i64 f.slots,.slice ia f.ins.length ic] 130)=Y:=⟨_,rfl⟩;have D:Below w.heap.size w B:=by rw[<- t];exact Ac C _
 have K:B.heap.size=w.heap.size+2:=by rw[<- t,World.size_alloc];omega
 have v:B.heap[w.heap.size]? = some (.cells #[.slice ca c.length cc] 59):=by rw[<- t];exact Am _ u
 have x:B.heap[w.heap.size+1]? = some (.cells #[.string f.name,pv,.int .i64 f.result,.int .i64 f.slots,.slice ia f.ins.length ic] 130):=by rw[<- t,<- J];exact Af _ _
 clear u;obtain⟨j,q⟩:∃ Y,B.alloc (.cells #[.int .i64 op,.int .i64 a,.int .i64 n,.string text] 107)=Y:=⟨_,rfl⟩;have d:Below w.heap.size w j:=by rw[<- q];exact Ac D _
 have ae:j.heap.size=w.heap.size+3:=by rw[<- q,World.size_alloc];omega
 have m:j.heap[w.heap.size]? = some (.cells #[.slice ca c.length cc] 59):=by rw[<- q];exact Am _ v
 have g:j.heap[w.heap.size+1]? = some (.cells #[.string f.name,pv,.int .i64 f.result,.int .i64 f.slots,.slice ia f.ins.length ic] 130):=by rw[<- q];exact Am _ x
 have i:j.heap[w.heap.size+2]? = some (.cells #[.int .i64 op,.int .i64 a,.int .i64 n,.string text] 107):=by rw[<- q,<- K];exact Af _ _
 clear v x;have Q:j.cell? ⟨w.heap.size,0,none⟩=some (.slice ca c.length cc):=by rw[Lib.cell_of_heap m];rfl
 have R:j.cell? ⟨w.heap.size+1,0,none⟩=some (.string f.name):=by rw[Lib.cell_of_heap g];rfl
 have S:j.cell? ⟨w.heap.size+1,1,none⟩=some (pv):=by rw[Lib.cell_of_heap g];rfl
 have T:j.cell? ⟨w.heap.size+1,2,none⟩=some (.int .i64 f.result):=by rw[Lib.cell_of_heap g];rfl
 have U:j.cell? ⟨w.heap.size+1,3,none⟩=some (.int .i64 f.slots):=by rw[Lib.cell_of_heap g];rfl
 have V:j.cell? ⟨w.heap.size+1,4,none⟩=some (.slice ia f.ins.length ic):=by rw[Lib.cell_of_heap g];rfl
 have W:j.cell? ⟨w.heap.size+2,0,none⟩=some (.int .i64 op):=by rw[Lib.cell_of_heap i];rfl
 have X:j.cell? ⟨w.heap.size+2,1,none⟩=some (.int .i64 a):=by rw[Lib.cell_of_heap i];rfl
 have Z:j.cell? ⟨w.heap.size+2,2,none⟩=some (.int .i64 n):=by rw[Lib.cell_of_heap i];rfl
 have aa:j.cell? ⟨w.heap.size+2,3,none⟩=some (.string text):=by rw[Lib.cell_of_heap i];rfl
 clear C D;by_cases hop:1<=op/\op<=16
 ·by_cases ho1:op=1
  ·subst ho1;obtain⟨r,P⟩:∃ r,Hid (A4 ⟨a,n,text⟩=r):=⟨_,(rfl:A4 ⟨a,n,text⟩=_)⟩;have z:Hid (Ar c f ⟨1,a,n,text⟩=r):=(by rw[Hid,Ar,if_neg (by simp[At,Df]),if_pos rfl];exact P.out);rw[z.out];clear m g i hop;unfold Ax Ak;go_enter Tryz.func125,Tryz.ntmps125;go_wp2_with (first|(go_at_call 132;refine(O3 r a n text hn P _).mono ?_;rintro e k ⟨rfl,b⟩));go_ret;exact⟨rfl,d.trans (b.mono d.size)⟩
  ·obtain⟨⟨L,I⟩,O⟩:∃ p,Hid (G7 c f op=p):=⟨_,(rfl:G7 c f op=_)⟩;have z:Hid (Ar c f ⟨op,a,n,text⟩=(decide (L<=a) && decide (a<=I) && decide (n=0) && text.toList.isEmpty)):=by
    have h:=T3 c f ⟨op,a,n,text⟩ (by show 2<=op;omega) (by show op<=16;omega);simp only[O.out]at h;exact h
   have o:Hid (Calls Tryz.prog 152 #[.agg #[.slice ca c.length cc],.agg #[.string f.name,pv,.int .i64 f.result,.int .i64 f.slots,.slice ia f.ins.length ic],.int .i64 op] j fun e w'=>e = .returned (.tuple #[.int .i64 L,.int .i64 I])/\Below j.heap.size j w'):=by
    have h:=Xu c f op (by omega) (by omega) ca ia cc ic pv hcl hil hsl hsh j;rw[O.out]at h;exact h
   have ab:(op == 1)=false:=(by simp[ho1]);have ad:¬ op < 1:=(by omega);have ac:¬ 16 < op:=(by omega);have A:Hid (j.heap[w.heap.size+2]? = some (.cells #[.int .i64 op,.int .i64 a,.int .i64 n,.string text] 107)):=i;clear ho1 hop m g i;rw[z.out];unfold Ax Ak;go_enter Tryz.func125,Tryz.ntmps125;by_cases q1:L<=a
   ·by_cases q2:a<=I
    ·by_cases q3:n=0
     ·have M:(n == 0)=true:=(by simp[q3]);have s:Hid (n=0):=q3;clear q3;cases q4:text.toList.isEmpty with
      | true =>
       have N:(text.toList == [])=true:=by cases h:text.toList <;> simp_all
       go_wp2_with (first|(go_at_call 152;refine o.out.mono ?_;rintro e k ⟨rfl,b⟩;have l:=(b.block (w.heap.size+2) (by omega)).trans A.out;have F:=(show k.cell? ⟨w.heap.size+2,1,none⟩=some (.int .i64 a) from(by rw[Lib.cell_of_heap l];rfl));have G:=(show k.cell? ⟨w.heap.size+2,2,none⟩=some (.int .i64 n) from(by rw[Lib.cell_of_heap l];rfl));have H:=(show k.cell? ⟨w.heap.size+2,3,none⟩=some (.string text) from(by rw[Lib.cell_of_heap l];rfl))));all_goals go_ret
       all_goals exact⟨Aq (by first|(simp[*];done)|(simp[s.out];done)|(simp[s.out];omega)|(simp;intros;omega)),d.trans (b.mono d.size)⟩
      | false =>
       have N:(text.toList == [])=false:=by cases h:text.toList <;> simp_all
       go_wp2_with (first|(go_at_call 152;refine o.out.mono ?_;rintro e k ⟨rfl,b⟩;have l:=(b.block (w.heap.size+2) (by omega)).trans A.out;have F:=(show k.cell? ⟨w.heap.size+2,1,none⟩=some (.int .i64 a) from(by rw[Lib.cell_of_heap l];rfl));have G:=(show k.cell? ⟨w.heap.size+2,2,none⟩=some (.int .i64 n) from(by rw[Lib.cell_of_heap l];rfl));have H:=(show k.cell? ⟨w.heap.size+2,3,none⟩=some (.string text) from(by rw[Lib.cell_of_heap l];rfl))));all_goals go_ret
       all_goals exact⟨Aq (by first|(simp[*];done)|(simp[s.out];done)|(simp[s.out];omega)|(simp;intros;omega)),d.trans (b.mono d.size)⟩
     ·have M:(n == 0)=false:=(by simp[q3]);go_wp2_with (first|(go_at_call 152;refine o.out.mono ?_;rintro e k ⟨rfl,b⟩;have l:=(b.block (w.heap.size+2) (by omega)).trans A.out;have F:=(show k.cell? ⟨w.heap.size+2,1,none⟩=some (.int .i64 a) from(by rw[Lib.cell_of_heap l];rfl));have G:=(show k.cell? ⟨w.heap.size+2,2,none⟩=some (.int .i64 n) from(by rw[Lib.cell_of_heap l];rfl));have H:=(show k.cell? ⟨w.heap.size+2,3,none⟩=some (.string text) from(by rw[Lib.cell_of_heap l];rfl))));all_goals go_ret
      all_goals exact⟨Aq (by first|(simp[*];done)|(simp[s.out];done)|(simp[s.out];omega)|(simp;intros;omega)),d.trans (b.mono d.size)⟩
    ·go_wp2_with (first|(go_at_call 152;refine o.out.mono ?_;rintro e k ⟨rfl,b⟩;have l:=(b.block (w.heap.size+2) (by omega)).trans A.out;have F:=(show k.cell? ⟨w.heap.size+2,1,none⟩=some (.int .i64 a) from(by rw[Lib.cell_of_heap l];rfl));have G:=(show k.cell? ⟨w.heap.size+2,2,none⟩=some (.int .i64 n) from(by rw[Lib.cell_of_heap l];rfl));have H:=(show k.cell? ⟨w.heap.size+2,3,none⟩=some (.string text) from(by rw[Lib.cell_of_heap l];rfl))));all_goals go_ret
     all_goals exact⟨Aq (by first|(simp[*];done)|(simp[s.out];done)|(simp[s.out];omega)|(simp;intros;omega)),d.trans (b.mono d.size)⟩
   ·go_wp2_with (first|(go_at_call 152;refine o.out.mono ?_;rintro e k ⟨rfl,b⟩;have l:=(b.block (w.heap.size+2) (by omega)).trans A.out;have F:=(show k.cell? ⟨w.heap.size+2,1,none⟩=some (.int .i64 a) from(by rw[Lib.cell_of_heap l];rfl));have G:=(show k.cell? ⟨w.heap.size+2,2,none⟩=some (.int .i64 n) from(by rw[Lib.cell_of_heap l];rfl));have H:=(show k.cell? ⟨w.heap.size+2,3,none⟩=some (.string text) from(by rw[Lib.cell_of_heap l];rfl))));all_goals go_ret
    all_goals exact⟨Aq (by first|(simp[*];done)|(simp[s.out];done)|(simp[s.out];omega)|(simp;intros;omega)),d.trans (b.mono d.size)⟩
 ·have z:Hid (Ar c f ⟨op,a,n,text⟩=false):=by
   rw[Hid,Ar,if_pos];left;simp[At];omega
  rw[z.out];clear m g i;unfold Ax Ak;go_enter Tryz.func125,Tryz.ntmps125;by_cases hl:op < 1
  ·go_wp2_with fail;go_ret;exact⟨rfl,d⟩
  ·have hg:16 < op:=(by omega);go_wp2_with fail;go_ret;exact⟨rfl,d⟩
end Go.Proofs.YtahibkjkpmdhgaaGreatDoor
