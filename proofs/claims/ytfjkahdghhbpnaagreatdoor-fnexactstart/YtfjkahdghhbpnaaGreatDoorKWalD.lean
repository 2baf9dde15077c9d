import Derived.Test.YtfjkahdghhbpnaaGreatDoorKWalC1
import Derived.Test.YtfjkahdghhbpnaaGreatDoorKWalC3
import Derived.Test.YtfjkahdghhbpnaaGreatDoorKCeA
import Derived.Test.YtfjkahdghhbpnaaGreatDoorKCdN
set_option maxRecDepth 100000
set_option maxHeartbeats 2000000
namespace Go.Proofs.YtfjkahdghhbpnaaGreatDoor
open Go.RowKit
theorem Pu (t n:Int) (x:ByteArray) (hn : -9223372036854775808<=n/\n<=9223372036854775807) (w:World) :
    Calls Tryz.prog 118 #[.agg #[.int .i64 t,.int .i64 n,.string x]] w fun e w'=>e = .returned (.bool (Cn ⟨t,n,x⟩))/\Below w.heap.size w w':=by
  obtain⟨r,a⟩:∃ r,Hid (Cn ⟨t,n,x⟩=r):=⟨_,(rfl:Cn ⟨t,n,x⟩=_)⟩
  rw[a.out]
  by_cases h1:t=1
  · subst h1
    go_enter Tryz.func118,Tryz.ntmps118
    go_wp2
    all_goals go_ret
    all_goals refine⟨Hx ?_,(Below.refl _ w).alloc (Nat.le_refl _) _⟩
    all_goals (rw[<- a.out];simp[Cn, *])
  · by_cases h2:t=2
    · subst h2
      go_enter Tryz.func118,Tryz.ntmps118
      go_wp2
      all_goals go_ret
      all_goals refine⟨Hx ?_,(Below.refl _ w).alloc (Nat.le_refl _) _⟩
      all_goals (rw[<- a.out];first|(simp[Cn, *];done)|(simp[Cn, *];omega))
    · cases hi:Bf t with
      | false =>
        have c:Hid (Bf t=false):=hi
        have b:Hid (false=r):=by rw[Hid,<- a.out,Cn,if_neg h1,if_neg h2,hi];rfl
        clear hi
        go_enter Tryz.func118,Tryz.ntmps118
        go_wp2_with (go_at_call 142;refine(Bs _ _).mono ?_;rintro e w' ⟨rfl,rfl⟩;rw[c.out])
        go_ret
        exact⟨Hx b.out,(Below.refl _ w).alloc (Nat.le_refl _) _⟩
      | true =>
        have d:t=3\/t=4\/t=5\/t=6\/t=7\/t=8\/t=9\/t=10:=by simp[Bf]at hi;omega
        have b:(x.toList.isEmpty && decide (n=Ay t (Cb n)))=r:=by rw[<- a.out,Cn,if_neg h1,if_neg h2,hi];rfl
        rw[<- b]
        rcases d with rfl|rfl|rfl|rfl|rfl|rfl|rfl|rfl
        · exact Yn n x hn w
        · exact Vz n x hn w
        · exact V4 n x hn w
        · exact V5 n x hn w
        · exact Qa1 n x hn w
        · exact Yk n x hn w
        · exact Yl n x hn w
        · exact Ym n x hn w
theorem Ql (b:Bool) (t n:Int) (x:ByteArray) (hn : -9223372036854775808<=n/\n<=9223372036854775807) (h:Hid (Cn ⟨t,n,x⟩=b)) (w:World) :
  Calls Tryz.prog 118 #[.agg #[.int .i64 t,.int .i64 n,.string x]] w fun e w'=>e = .returned (.bool b)/\Below w.heap.size w w':=by
 rw[<- h.out];exact Pu t n x hn w
theorem U1 (c:List Ae) (f:Ae) (i:Ax) (h1:2<=i.op) (h16:i.op<=16):At c f i=(decide ((G5 c f i.op).1<=i.a) && decide (i.a<=(G5 c f i.op).2) && decide (i.n=0) && i.text.toList.isEmpty):=by
  obtain⟨b,a,n,d⟩:=i
  simp only at h1 h16 |-
  have h:b=2\/b=3\/b=4\/b=5\/b=6\/b=7\/b=8\/b=9\/b=10\/b=11\/b=12\/b=13\/b=14\/b=15\/b=16:=by omega
  have g:∀ z:Int,decide (a=z)=(decide (z<=a) && decide (a<=z)):=fun z=>by
    by_cases e:a=z
    · subst e;simp
    · by_cases e2:z<=a
      · have:¬ a<=z:=by omega
        simp[e,this]
      · simp[e,e2]
  by_cases hn:n=0
  · cases ht:d.toList.isEmpty with
    | false =>
      rw[Bool.and_false]
      exact Gg c f _ (by show b≠1;omega) (.inr ht)
    | true =>
      subst hn
      rcases h with rfl|rfl|rfl|rfl|rfl|rfl|rfl|rfl|rfl|rfl|rfl|rfl|rfl|rfl|rfl
      all_goals
        unfold At G5
        simp[C3,A4,Cf,ht]
        try (first|exact g 0|omega|(by_cases hr:f.result=0 <;> simp[hr,g]))
  · rw[Gg c f _ (by show b≠1;omega) (.inl hn)]
    simp[hn]
theorem Xn (c:List Ae) (f:Ae) (op a n:Int) (text:ByteArray) (hn : -9223372036854775808<=n/\n<=9223372036854775807) (ca ia:Option Addr) (cc ic:Nat) (pv:Value) (hcl:c.length<=1048576) (hil:f.ins.length<=1048576) (hsl : -1000000<=f.slots) (hsh:f.slots<=1000000) (w:World) :
    Calls Tryz.prog 83 #[.agg #[.slice ca c.length cc],Aw f pv (.slice ia f.ins.length ic),An ⟨op,a,n,text⟩] w fun e w'=>e = .returned (.bool (At c f ⟨op,a,n,text⟩))/\Below w.heap.size w w':=by
  obtain⟨E,y⟩:∃ Y,w.alloc (.cells #[.slice ca c.length cc] 38)=Y:=⟨_,rfl⟩
  have C:Below w.heap.size w E:=by rw[<- y];exact A5 w _
  have J:E.heap.size=w.heap.size+1:=by rw[<- y];exact World.size_alloc _ _
  have u:E.heap[w.heap.size]? = some (.cells #[.slice ca c.length cc] 38):=by rw[<- y];exact Ag w _
  obtain⟨B,t⟩:∃ Y,E.alloc (.cells #[.string f.name,pv,.int .i64 f.result,.int .i64 f.slots,.slice ia f.ins.length ic] 97)=Y:=⟨_,rfl⟩
  have D:Below w.heap.size w B:=by rw[<- t];exact Ac C _
  have K:B.heap.size=w.heap.size+2:=by rw[<- t,World.size_alloc];omega
  have v:B.heap[w.heap.size]? = some (.cells #[.slice ca c.length cc] 38):=by rw[<- t];exact Am _ u
  have x:B.heap[w.heap.size+1]? = some (.cells #[.string f.name,pv,.int .i64 f.result,.int .i64 f.slots,.slice ia f.ins.length ic] 97):=by rw[<- t,<- J];exact Ag _ _
  clear u
  obtain⟨j,q⟩:∃ Y,B.alloc (.cells #[.int .i64 op,.int .i64 a,.int .i64 n,.string text] 140)=Y:=⟨_,rfl⟩
  have d:Below w.heap.size w j:=by rw[<- q];exact Ac D _
  have ae:j.heap.size=w.heap.size+3:=by rw[<- q,World.size_alloc];omega
  have m:j.heap[w.heap.size]? = some (.cells #[.slice ca c.length cc] 38):=by rw[<- q];exact Am _ v
  have g:j.heap[w.heap.size+1]? = some (.cells #[.string f.name,pv,.int .i64 f.result,.int .i64 f.slots,.slice ia f.ins.length ic] 97):=by rw[<- q];exact Am _ x
  have i:j.heap[w.heap.size+2]? = some (.cells #[.int .i64 op,.int .i64 a,.int .i64 n,.string text] 140):=by rw[<- q,<- K];exact Ag _ _
  clear v x
  have Q:j.cell? ⟨w.heap.size,0,none⟩=some (.slice ca c.length cc):=by rw[Lib.cell_of_heap m];rfl
  have R:j.cell? ⟨w.heap.size+1,0,none⟩=some (.string f.name):=by rw[Lib.cell_of_heap g];rfl
  have S:j.cell? ⟨w.heap.size+1,1,none⟩=some (pv):=by rw[Lib.cell_of_heap g];rfl
  have T:j.cell? ⟨w.heap.size+1,2,none⟩=some (.int .i64 f.result):=by rw[Lib.cell_of_heap g];rfl
  have U:j.cell? ⟨w.heap.size+1,3,none⟩=some (.int .i64 f.slots):=by rw[Lib.cell_of_heap g];rfl
  have V:j.cell? ⟨w.heap.size+1,4,none⟩=some (.slice ia f.ins.length ic):=by rw[Lib.cell_of_heap g];rfl
  have W:j.cell? ⟨w.heap.size+2,0,none⟩=some (.int .i64 op):=by rw[Lib.cell_of_heap i];rfl
  have X:j.cell? ⟨w.heap.size+2,1,none⟩=some (.int .i64 a):=by rw[Lib.cell_of_heap i];rfl
  have Z:j.cell? ⟨w.heap.size+2,2,none⟩=some (.int .i64 n):=by rw[Lib.cell_of_heap i];rfl
  have aa:j.cell? ⟨w.heap.size+2,3,none⟩=some (.string text):=by rw[Lib.cell_of_heap i];rfl
  clear C D
  by_cases hop:1<=op/\op<=16
  · by_cases ho1:op=1
    · subst ho1
      obtain⟨r,P⟩:∃ r,Hid (Cn ⟨a,n,text⟩=r):=⟨_,(rfl:Cn ⟨a,n,text⟩=_)⟩
      have z:Hid (At c f ⟨1,a,n,text⟩=r):=by rw[Hid,At,if_neg (by simp[A4,C3]),if_pos rfl];exact P.out
      rw[z.out]
      clear m g i hop
      unfold Aw An
      go_enter Tryz.func83,Tryz.ntmps83
      go_wp2_with (first|(go_at_call 118;refine(Ql r a n text hn P _).mono ?_;rintro e k ⟨rfl,b⟩))
      go_ret
      exact⟨rfl,d.trans (b.mono d.size)⟩
    · obtain⟨⟨L,I⟩,O⟩:∃ p,Hid (G5 c f op=p):=⟨_,(rfl:G5 c f op=_)⟩
      have z:Hid (At c f ⟨op,a,n,text⟩=(decide (L<=a) && decide (a<=I) && decide (n=0) && text.toList.isEmpty)):=by
        have h:=U1 c f ⟨op,a,n,text⟩ (by show 2<=op;omega) (by show op<=16;omega)
        simp only[O.out]at h
        exact h
      have o:Hid (Calls Tryz.prog 119 #[.agg #[.slice ca c.length cc],.agg #[.string f.name,pv,.int .i64 f.result,.int .i64 f.slots,.slice ia f.ins.length ic],.int .i64 op] j fun e w'=>e = .returned (.tuple #[.int .i64 L,.int .i64 I])/\Below j.heap.size j w'):=by
        have h:=Yy c f op (by omega) (by omega) ca ia cc ic pv hcl hil hsl hsh j
        rw[O.out]at h
        exact h
      have ab:(op == 1)=false:=by simp[ho1]
      have ad:¬ op < 1:=by omega
      have ac:¬ 16 < op:=by omega
      have A:Hid (j.heap[w.heap.size+2]? = some (.cells #[.int .i64 op,.int .i64 a,.int .i64 n,.string text] 140)):=i
      clear ho1 hop m g i
      rw[z.out]
      unfold Aw An
      go_enter Tryz.func83,Tryz.ntmps83
      by_cases q1:L<=a
      · by_cases q2:a<=I
        · by_cases q3:n=0
          · have M:(n == 0)=true:=by simp[q3]
            have s:Hid (n=0):=q3
            clear q3
            cases q4:text.toList.isEmpty with
            | true =>
              have N:(text.toList == [])=true:=by cases h:text.toList <;> simp_all
              go_wp2_with (first|(go_at_call 119;refine o.out.mono ?_;rintro e k ⟨rfl,b⟩;have l:=(b.block (w.heap.size+2) (by omega)).trans A.out;have F:=(show k.cell? ⟨w.heap.size+2,1,none⟩=some (.int .i64 a) from(by rw[Lib.cell_of_heap l];rfl));have G:=(show k.cell? ⟨w.heap.size+2,2,none⟩=some (.int .i64 n) from(by rw[Lib.cell_of_heap l];rfl));have H:=(show k.cell? ⟨w.heap.size+2,3,none⟩=some (.string text) from(by rw[Lib.cell_of_heap l];rfl))))
              all_goals go_ret
              all_goals exact⟨As (by first|(simp[*];done)|(simp[s.out];done)|(simp[s.out];omega)|(simp;intros;omega)),d.trans (b.mono d.size)⟩
            | false =>
              have N:(text.toList == [])=false:=by cases h:text.toList <;> simp_all
              go_wp2_with (first|(go_at_call 119;refine o.out.mono ?_;rintro e k ⟨rfl,b⟩;have l:=(b.block (w.heap.size+2) (by omega)).trans A.out;have F:=(show k.cell? ⟨w.heap.size+2,1,none⟩=some (.int .i64 a) from(by rw[Lib.cell_of_heap l];rfl));have G:=(show k.cell? ⟨w.heap.size+2,2,none⟩=some (.int .i64 n) from(by rw[Lib.cell_of_heap l];rfl));have H:=(show k.cell? ⟨w.heap.size+2,3,none⟩=some (.string text) from(by rw[Lib.cell_of_heap l];rfl))))
              all_goals go_ret
              all_goals exact⟨As (by first|(simp[*];done)|(simp[s.out];done)|(simp[s.out];omega)|(simp;intros;omega)),d.trans (b.mono d.size)⟩
          · have M:(n == 0)=false:=by simp[q3]
            go_wp2_with (first|(go_at_call 119;refine o.out.mono ?_;rintro e k ⟨rfl,b⟩;have l:=(b.block (w.heap.size+2) (by omega)).trans A.out;have F:=(show k.cell? ⟨w.heap.size+2,1,none⟩=some (.int .i64 a) from(by rw[Lib.cell_of_heap l];rfl));have G:=(show k.cell? ⟨w.heap.size+2,2,none⟩=some (.int .i64 n) from(by rw[Lib.cell_of_heap l];rfl));have H:=(show k.cell? ⟨w.heap.size+2,3,none⟩=some (.string text) from(by rw[Lib.cell_of_heap l];rfl))))
            all_goals go_ret
            all_goals exact⟨As (by first|(simp[*];done)|(simp[s.out];done)|(simp[s.out];omega)|(simp;intros;omega)),d.trans (b.mono d.size)⟩
        · go_wp2_with (first|(go_at_call 119;refine o.out.mono ?_;rintro e k ⟨rfl,b⟩;have l:=(b.block (w.heap.size+2) (by omega)).trans A.out;have F:=(show k.cell? ⟨w.heap.size+2,1,none⟩=some (.int .i64 a) from(by rw[Lib.cell_of_heap l];rfl));have G:=(show k.cell? ⟨w.heap.size+2,2,none⟩=some (.int .i64 n) from(by rw[Lib.cell_of_heap l];rfl));have H:=(show k.cell? ⟨w.heap.size+2,3,none⟩=some (.string text) from(by rw[Lib.cell_of_heap l];rfl))))
          all_goals go_ret
          all_goals exact⟨As (by first|(simp[*];done)|(simp[s.out];done)|(simp[s.out];omega)|(simp;intros;omega)),d.trans (b.mono d.size)⟩
      · go_wp2_with (first|(go_at_call 119;refine o.out.mono ?_;rintro e k ⟨rfl,b⟩;have l:=(b.block (w.heap.size+2) (by omega)).trans A.out;have F:=(show k.cell? ⟨w.heap.size+2,1,none⟩=some (.int .i64 a) from(by rw[Lib.cell_of_heap l];rfl));have G:=(show k.cell? ⟨w.heap.size+2,2,none⟩=some (.int .i64 n) from(by rw[Lib.cell_of_heap l];rfl));have H:=(show k.cell? ⟨w.heap.size+2,3,none⟩=some (.string text) from(by rw[Lib.cell_of_heap l];rfl))))
        all_goals go_ret
        all_goals exact⟨As (by first|(simp[*];done)|(simp[s.out];done)|(simp[s.out];omega)|(simp;intros;omega)),d.trans (b.mono d.size)⟩
  · have z:Hid (At c f ⟨op,a,n,text⟩=false):=by
      rw[Hid,At,if_pos]
      left
      simp[A4]
      omega
    rw[z.out]
    clear m g i
    unfold Aw An
    go_enter Tryz.func83,Tryz.ntmps83
    by_cases hl:op < 1
    · go_wp2_with fail
      go_ret
      exact⟨rfl,d⟩
    · have hg:16 < op:=by omega
      go_wp2_with fail
      go_ret
      exact⟨rfl,d⟩
end Go.Proofs.YtfjkahdghhbpnaaGreatDoor
