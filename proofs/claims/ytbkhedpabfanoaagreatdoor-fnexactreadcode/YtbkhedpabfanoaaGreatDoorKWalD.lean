import Derived.Test.YtbkhedpabfanoaaGreatDoorKWalC1
import Derived.Test.YtbkhedpabfanoaaGreatDoorKWalC3
import Derived.Test.YtbkhedpabfanoaaGreatDoorKCeA
import Derived.Test.YtbkhedpabfanoaaGreatDoorKCdN
namespace Go.Proofs.YtbkhedpabfanoaaGreatDoor
open Go.RowKit

set_option maxRecDepth 100000 in
set_option maxHeartbeats 1000000 in
theorem Val.implValid_any (t n:Int) (x:ByteArray) (hn : -9223372036854775808≤n∧n≤9223372036854775807) (w:World) :
    Calls Tryz.prog 89 #[.agg #[.int .i64 t,.int .i64 n,.string x]] w fun e w'=>e = .returned (.bool (Val.valid ⟨t,n,x⟩))∧Below w.heap.size w w':=by
  obtain ⟨r,HR⟩:∃ r,Hid (Val.valid ⟨t,n,x⟩=r):=⟨_,(rfl:Val.valid ⟨t,n,x⟩=_)⟩
  rw [HR.out]
  by_cases h1:t=1
  · subst h1
    go_enter Tryz.func89,Tryz.ntmps89
    go_wp2
    all_goals go_ret
    all_goals refine ⟨Val.ret_b ?_,(Below.refl _ w).alloc (Nat.le_refl _) _⟩
    all_goals (rw [← HR.out];simp [Val.valid, *])
  · by_cases h2:t=2
    · subst h2
      go_enter Tryz.func89,Tryz.ntmps89
      go_wp2
      all_goals go_ret
      all_goals refine ⟨Val.ret_b ?_,(Below.refl _ w).alloc (Nat.le_refl _) _⟩
      all_goals (rw [← HR.out];first | (simp [Val.valid, *];done) | (simp [Val.valid, *];omega))
    · cases hi:Val.isInt t with
      | false =>
        have HI:Hid (Val.isInt t=false):=hi
        have HF:Hid (false=r):=by rw [Hid,← HR.out,Val.valid,if_neg h1,if_neg h2,hi];rfl
        clear hi
        go_enter Tryz.func89,Tryz.ntmps89
        go_wp2_with (go_at_call 104;refine (Val.isIntType_any _ _).mono ?_;rintro e w' ⟨rfl,rfl⟩;rw [HI.out])
        go_ret
        exact ⟨Val.ret_b HF.out,(Below.refl _ w).alloc (Nat.le_refl _) _⟩
      | true =>
        have h3:t=3∨t=4∨t=5∨t=6∨t=7∨t=8∨t=9∨t=10:=by simp [Val.isInt] at hi;omega
        have HF:(x.toList.isEmpty && decide (n=Val.into t (Val.u n)))=r:=by rw [← HR.out,Val.valid,if_neg h1,if_neg h2,hi];rfl
        rw [← HF]
        rcases h3 with rfl | rfl | rfl | rfl | rfl | rfl | rfl | rfl
        · exact Val.iv_uint8 n x hn w
        · exact Val.iv_uint16 n x hn w
        · exact Val.iv_uint32 n x hn w
        · exact Val.iv_uint64 n x hn w
        · exact Val.iv_int8 n x hn w
        · exact Val.iv_int16 n x hn w
        · exact Val.iv_int32 n x hn w
        · exact Val.iv_int64 n x hn w
theorem Val.implValid_is (b:Bool) (t n:Int) (x:ByteArray) (hn : -9223372036854775808≤n∧n≤9223372036854775807) (h:Hid (Val.valid ⟨t,n,x⟩=b)) (w:World) :
    Calls Tryz.prog 89 #[.agg #[.int .i64 t,.int .i64 n,.string x]] w fun e w'=>e = .returned (.bool b)∧Below w.heap.size w w':=by
  rw [← h.out];exact Val.implValid_any t n x hn w
end Go.Proofs.YtbkhedpabfanoaaGreatDoor
namespace Go.Proofs.YtbkhedpabfanoaaGreatDoor
open Go.RowKit

theorem Cd.insOk_ends (c:List Cd.Fn) (f:Cd.Fn) (i:Cd.Ins) (h1:2≤i.op) (h16:i.op≤16):Cd.insOk c f i=(decide ((Cd.ends c f i.op).1≤i.a) && decide (i.a≤(Cd.ends c f i.op).2) && decide (i.n=0) && i.text.toList.isEmpty):=by
  obtain ⟨op,a,n,text⟩:=i
  simp only at h1 h16 ⊢
  have h:op=2∨op=3∨op=4∨op=5∨op=6∨op=7∨op=8∨op=9∨op=10∨op=11∨op=12∨op=13∨op=14∨op=15∨op=16:=by omega
  have hz:∀ z:Int,decide (a=z)=(decide (z≤a) && decide (a≤z)):=fun z=>by
    by_cases e:a=z
    · subst e;simp
    · by_cases e2:z≤a
      · have:¬ a≤z:=by omega
        simp [e,this]
      · simp [e,e2]
  by_cases hn:n=0
  · cases ht:text.toList.isEmpty with
    | false =>
      rw [Bool.and_false]
      exact Cd.insOk_bad c f _ (by show op≠1;omega) (.inr ht)
    | true =>
      subst hn
      rcases h with rfl | rfl | rfl | rfl | rfl | rfl | rfl | rfl | rfl | rfl | rfl | rfl | rfl | rfl | rfl
      all_goals
        unfold Cd.insOk Cd.ends
        simp [Cd.hasA,Cd.inR,Cd.isInt,ht]
        try (first | exact hz 0 | omega | (by_cases hr:f.result=0 <;> simp [hr,hz]))
  · rw [Cd.insOk_bad c f _ (by show op≠1;omega) (.inl hn)]
    simp [hn]
set_option maxRecDepth 100000 in
set_option maxHeartbeats 2000000 in
theorem Cd.right_any (c:List Cd.Fn) (f:Cd.Fn) (op a n:Int) (text:ByteArray) (hn : -9223372036854775808≤n∧n≤9223372036854775807) (ca ia:Option Addr) (cc ic:Nat) (pv:Value) (hcl:c.length≤1048576) (hil:f.ins.length≤1048576) (hsl : -1000000≤f.slots) (hsh:f.slots≤1000000) (w:World) :
    Calls Tryz.prog 71 #[.agg #[.slice ca c.length cc],Cd.fnV f pv (.slice ia f.ins.length ic),Cd.insV ⟨op,a,n,text⟩] w fun e w'=>e = .returned (.bool (Cd.insOk c f ⟨op,a,n,text⟩))∧Below w.heap.size w w':=by
  obtain ⟨Y1,hY1⟩:∃ Y,w.alloc (.cells #[.slice ca c.length cc] 24)=Y:=⟨_,rfl⟩
  have hb1:Below w.heap.size w Y1:=by rw [← hY1];exact Cd.b1 w _
  have hs1:Y1.heap.size=w.heap.size+1:=by rw [← hY1];exact World.size_alloc _ _
  have p1_0:Y1.heap[w.heap.size]? = some (.cells #[.slice ca c.length cc] 24):=by rw [← hY1];exact Cd.new_at w _
  obtain ⟨Y2,hY2⟩:∃ Y,Y1.alloc (.cells #[.string f.name,pv,.int .i64 f.result,.int .i64 f.slots,.slice ia f.ins.length ic] 37)=Y:=⟨_,rfl⟩
  have hb2:Below w.heap.size w Y2:=by rw [← hY2];exact Cd.Below.new hb1 _
  have hs2:Y2.heap.size=w.heap.size+2:=by rw [← hY2,World.size_alloc];omega
  have p2_0:Y2.heap[w.heap.size]? = some (.cells #[.slice ca c.length cc] 24):=by rw [← hY2];exact Cd.keepH _ p1_0
  have p2_1:Y2.heap[w.heap.size+1]? = some (.cells #[.string f.name,pv,.int .i64 f.result,.int .i64 f.slots,.slice ia f.ins.length ic] 37):=by rw [← hY2,← hs1];exact Cd.new_at _ _
  clear p1_0
  obtain ⟨Y3,hY3⟩:∃ Y,Y2.alloc (.cells #[.int .i64 op,.int .i64 a,.int .i64 n,.string text] 54)=Y:=⟨_,rfl⟩
  have hb3:Below w.heap.size w Y3:=by rw [← hY3];exact Cd.Below.new hb2 _
  have hs3:Y3.heap.size=w.heap.size+3:=by rw [← hY3,World.size_alloc];omega
  have p3_0:Y3.heap[w.heap.size]? = some (.cells #[.slice ca c.length cc] 24):=by rw [← hY3];exact Cd.keepH _ p2_0
  have p3_1:Y3.heap[w.heap.size+1]? = some (.cells #[.string f.name,pv,.int .i64 f.result,.int .i64 f.slots,.slice ia f.ins.length ic] 37):=by rw [← hY3];exact Cd.keepH _ p2_1
  have p3_2:Y3.heap[w.heap.size+2]? = some (.cells #[.int .i64 op,.int .i64 a,.int .i64 n,.string text] 54):=by rw [← hY3,← hs2];exact Cd.new_at _ _
  clear p2_0 p2_1
  have c0_0:Y3.cell? ⟨w.heap.size,0,none⟩=some (.slice ca c.length cc):=by rw [Lib.cell_of_heap p3_0];rfl
  have c1_0:Y3.cell? ⟨w.heap.size+1,0,none⟩=some (.string f.name):=by rw [Lib.cell_of_heap p3_1];rfl
  have c1_1:Y3.cell? ⟨w.heap.size+1,1,none⟩=some (pv):=by rw [Lib.cell_of_heap p3_1];rfl
  have c1_2:Y3.cell? ⟨w.heap.size+1,2,none⟩=some (.int .i64 f.result):=by rw [Lib.cell_of_heap p3_1];rfl
  have c1_3:Y3.cell? ⟨w.heap.size+1,3,none⟩=some (.int .i64 f.slots):=by rw [Lib.cell_of_heap p3_1];rfl
  have c1_4:Y3.cell? ⟨w.heap.size+1,4,none⟩=some (.slice ia f.ins.length ic):=by rw [Lib.cell_of_heap p3_1];rfl
  have c2_0:Y3.cell? ⟨w.heap.size+2,0,none⟩=some (.int .i64 op):=by rw [Lib.cell_of_heap p3_2];rfl
  have c2_1:Y3.cell? ⟨w.heap.size+2,1,none⟩=some (.int .i64 a):=by rw [Lib.cell_of_heap p3_2];rfl
  have c2_2:Y3.cell? ⟨w.heap.size+2,2,none⟩=some (.int .i64 n):=by rw [Lib.cell_of_heap p3_2];rfl
  have c2_3:Y3.cell? ⟨w.heap.size+2,3,none⟩=some (.string text):=by rw [Lib.cell_of_heap p3_2];rfl
  clear hb1 hb2
  by_cases hop:1≤op∧op≤16
  · by_cases ho1:op=1
    · subst ho1
      obtain ⟨r,HR⟩:∃ r,Hid (Val.valid ⟨a,n,text⟩=r):=⟨_,(rfl:Val.valid ⟨a,n,text⟩=_)⟩
      have HI:Hid (Cd.insOk c f ⟨1,a,n,text⟩=r):=by rw [Hid,Cd.insOk,if_neg (by simp [Cd.inR,Cd.hasA]),if_pos rfl];exact HR.out
      rw [HI.out]
      clear p3_0 p3_1 p3_2 hop
      unfold Cd.fnV Cd.insV
      go_enter Tryz.func71,Tryz.ntmps71
      go_wp2_with (first | (go_at_call 89;refine (Val.implValid_is r a n text hn HR _).mono ?_;rintro e w7 ⟨rfl,hb7⟩))
      go_ret
      exact ⟨rfl,hb3.trans (hb7.mono hb3.size)⟩
    · obtain ⟨⟨lo,hi⟩,HE⟩:∃ p,Hid (Cd.ends c f op=p):=⟨_,(rfl:Cd.ends c f op=_)⟩
      have HI:Hid (Cd.insOk c f ⟨op,a,n,text⟩=(decide (lo≤a) && decide (a≤hi) && decide (n=0) && text.toList.isEmpty)):=by
        have h:=Cd.insOk_ends c f ⟨op,a,n,text⟩ (by show 2≤op;omega) (by show op≤16;omega)
        simp only [HE.out] at h
        exact h
      have HEN:Hid (Calls Tryz.prog 90 #[.agg #[.slice ca c.length cc],.agg #[.string f.name,pv,.int .i64 f.result,.int .i64 f.slots,.slice ia f.ins.length ic],.int .i64 op] Y3 fun e w'=>e = .returned (.tuple #[.int .i64 lo,.int .i64 hi])∧Below Y3.heap.size Y3 w'):=by
        have h:=Cd.ends_any c f op (by omega) (by omega) ca ia cc ic pv hcl hil hsl hsh Y3
        rw [HE.out] at h
        exact h
      have hob:(op == 1)=false:=by simp [ho1]
      have hol:¬ op < 1:=by omega
      have hog:¬ 16 < op:=by omega
      have HP:Hid (Y3.heap[w.heap.size+2]? = some (.cells #[.int .i64 op,.int .i64 a,.int .i64 n,.string text] 54)):=p3_2
      clear ho1 hop p3_0 p3_1 p3_2
      rw [HI.out]
      unfold Cd.fnV Cd.insV
      go_enter Tryz.func71,Tryz.ntmps71
      by_cases q1:lo≤a
      · by_cases q2:a≤hi
        · by_cases q3:n=0
          · have q3b:(n == 0)=true:=by simp [q3]
            have Q3:Hid (n=0):=q3
            clear q3
            cases q4:text.toList.isEmpty with
            | true =>
              have q4b:(text.toList == [])=true:=by cases h:text.toList <;> simp_all
              go_wp2_with (first | (go_at_call 90;refine HEN.out.mono ?_;rintro e w7 ⟨rfl,hb7⟩;have x2:=(hb7.block (w.heap.size+2) (by omega)).trans HP.out;have i1:=(show w7.cell? ⟨w.heap.size+2,1,none⟩=some (.int .i64 a) from (by rw [Lib.cell_of_heap x2];rfl));have i2:=(show w7.cell? ⟨w.heap.size+2,2,none⟩=some (.int .i64 n) from (by rw [Lib.cell_of_heap x2];rfl));have i3:=(show w7.cell? ⟨w.heap.size+2,3,none⟩=some (.string text) from (by rw [Lib.cell_of_heap x2];rfl))))
              all_goals go_ret
              all_goals exact ⟨Cd.ret_bool (by first | (simp [*];done) | (simp [Q3.out];done) | (simp [Q3.out];omega) | (simp;intros;omega)),hb3.trans (hb7.mono hb3.size)⟩
            | false =>
              have q4b:(text.toList == [])=false:=by cases h:text.toList <;> simp_all
              go_wp2_with (first | (go_at_call 90;refine HEN.out.mono ?_;rintro e w7 ⟨rfl,hb7⟩;have x2:=(hb7.block (w.heap.size+2) (by omega)).trans HP.out;have i1:=(show w7.cell? ⟨w.heap.size+2,1,none⟩=some (.int .i64 a) from (by rw [Lib.cell_of_heap x2];rfl));have i2:=(show w7.cell? ⟨w.heap.size+2,2,none⟩=some (.int .i64 n) from (by rw [Lib.cell_of_heap x2];rfl));have i3:=(show w7.cell? ⟨w.heap.size+2,3,none⟩=some (.string text) from (by rw [Lib.cell_of_heap x2];rfl))))
              all_goals go_ret
              all_goals exact ⟨Cd.ret_bool (by first | (simp [*];done) | (simp [Q3.out];done) | (simp [Q3.out];omega) | (simp;intros;omega)),hb3.trans (hb7.mono hb3.size)⟩
          · have q3b:(n == 0)=false:=by simp [q3]
            go_wp2_with (first | (go_at_call 90;refine HEN.out.mono ?_;rintro e w7 ⟨rfl,hb7⟩;have x2:=(hb7.block (w.heap.size+2) (by omega)).trans HP.out;have i1:=(show w7.cell? ⟨w.heap.size+2,1,none⟩=some (.int .i64 a) from (by rw [Lib.cell_of_heap x2];rfl));have i2:=(show w7.cell? ⟨w.heap.size+2,2,none⟩=some (.int .i64 n) from (by rw [Lib.cell_of_heap x2];rfl));have i3:=(show w7.cell? ⟨w.heap.size+2,3,none⟩=some (.string text) from (by rw [Lib.cell_of_heap x2];rfl))))
            all_goals go_ret
            all_goals exact ⟨Cd.ret_bool (by first | (simp [*];done) | (simp [Q3.out];done) | (simp [Q3.out];omega) | (simp;intros;omega)),hb3.trans (hb7.mono hb3.size)⟩
        · go_wp2_with (first | (go_at_call 90;refine HEN.out.mono ?_;rintro e w7 ⟨rfl,hb7⟩;have x2:=(hb7.block (w.heap.size+2) (by omega)).trans HP.out;have i1:=(show w7.cell? ⟨w.heap.size+2,1,none⟩=some (.int .i64 a) from (by rw [Lib.cell_of_heap x2];rfl));have i2:=(show w7.cell? ⟨w.heap.size+2,2,none⟩=some (.int .i64 n) from (by rw [Lib.cell_of_heap x2];rfl));have i3:=(show w7.cell? ⟨w.heap.size+2,3,none⟩=some (.string text) from (by rw [Lib.cell_of_heap x2];rfl))))
          all_goals go_ret
          all_goals exact ⟨Cd.ret_bool (by first | (simp [*];done) | (simp [Q3.out];done) | (simp [Q3.out];omega) | (simp;intros;omega)),hb3.trans (hb7.mono hb3.size)⟩
      · go_wp2_with (first | (go_at_call 90;refine HEN.out.mono ?_;rintro e w7 ⟨rfl,hb7⟩;have x2:=(hb7.block (w.heap.size+2) (by omega)).trans HP.out;have i1:=(show w7.cell? ⟨w.heap.size+2,1,none⟩=some (.int .i64 a) from (by rw [Lib.cell_of_heap x2];rfl));have i2:=(show w7.cell? ⟨w.heap.size+2,2,none⟩=some (.int .i64 n) from (by rw [Lib.cell_of_heap x2];rfl));have i3:=(show w7.cell? ⟨w.heap.size+2,3,none⟩=some (.string text) from (by rw [Lib.cell_of_heap x2];rfl))))
        all_goals go_ret
        all_goals exact ⟨Cd.ret_bool (by first | (simp [*];done) | (simp [Q3.out];done) | (simp [Q3.out];omega) | (simp;intros;omega)),hb3.trans (hb7.mono hb3.size)⟩
  · have HI:Hid (Cd.insOk c f ⟨op,a,n,text⟩=false):=by
      rw [Hid,Cd.insOk,if_pos]
      left
      simp [Cd.inR]
      omega
    rw [HI.out]
    clear p3_0 p3_1 p3_2
    unfold Cd.fnV Cd.insV
    go_enter Tryz.func71,Tryz.ntmps71
    by_cases hl:op < 1
    · go_wp2_with fail
      go_ret
      exact ⟨rfl,hb3⟩
    · have hg:16 < op:=by omega
      go_wp2_with fail
      go_ret
      exact ⟨rfl,hb3⟩
end Go.Proofs.YtbkhedpabfanoaaGreatDoor
