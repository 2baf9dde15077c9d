import Derived.Test.YtbkhedpabfanoaaGreatDoorKCeJ
import Derived.Test.YtbkhedpabfanoaaGreatDoorKCdT
import Derived.Test.YtbkhedpabfanoaaGreatDoorKCeA
namespace Go.Proofs.YtbkhedpabfanoaaGreatDoor
open Go.RowKit

def Cd.WantsIs (es:List Int) (w:World) (e:Ending) (w':World):Prop := ∃ a cap,e = .returned (.slice a es.length cap)∧Cd.IntsAt w'.heap.size w' (.slice a es.length cap) es∧es.length≤cap∧Below w.heap.size w w'
theorem Cd.keepC {Y Z:World} {o:Obj} {g j:Nat} {v:Value} (hZ:Y.alloc o=Z) (hg:g < Y.heap.size) (h:Y.cell? ⟨g,j,none⟩=some v):Z.cell? ⟨g,j,none⟩=some v:=by
  rw [← hZ];exact ((Cd.b1 Y o).cell (p:=⟨g,j,none⟩) hg).trans h
set_option maxRecDepth 100000 in
set_option maxHeartbeats 2000000 in
theorem Cd.wantsD (m:Nat) (a n:Int) (text:ByteArray) (t0 t1:Int) (h1:1≤m) (h16:m≤16) (e0:(Cd.rowOf m).2.1=t0) (e1:(Cd.rowOf m).2.2.1=t1) (n13:t0≠13) (n14:t0≠14) (n15:t0≠15) (g:Nat) (w:World) (hT:Cd.InsTab w) :
    Calls Tryz.prog 110 #[.pointer (some ⟨g,0,none⟩),Cd.insV ⟨(m:Int),a,n,text⟩] w (Cd.WantsIs (if t0=0 then [] else if t1=0 then [t0] else [t0,t1]) w):=by
  unfold Cd.insV
  simp only
  obtain ⟨Y1,hY1⟩:∃ Y,w.alloc (.cells #[.int .i64 (m:Int),.int .i64 a,.int .i64 n,.string text] 54)=Y:=⟨_,rfl⟩
  have hb1:Below w.heap.size w Y1:=by rw [← hY1];exact Cd.b1 w _
  have hs1:Y1.heap.size=w.heap.size+1:=by rw [← hY1];exact World.size_alloc _ _
  have p1_0:Y1.heap[w.heap.size]? = some (.cells #[.int .i64 (m:Int),.int .i64 a,.int .i64 n,.string text] 54):=by rw [← hY1];exact Cd.new_at w _
  have c0_0:Y1.cell? ⟨w.heap.size,0,none⟩=some (.int .i64 (m:Int)):=by rw [Lib.cell_of_heap p1_0];rfl
  have c0_1:Y1.cell? ⟨w.heap.size,1,none⟩=some (.int .i64 a):=by rw [Lib.cell_of_heap p1_0];rfl
  have tg0:Y1.cell? ⟨7,m * 5+1,none⟩=some (.int .i64 t0):=by rw [← e0];exact (hb1.cell (p:=⟨_,_,none⟩) hT.lt).trans (hT.take0 m h1 h16)
  have tg1:Y1.cell? ⟨7,m * 5+2,none⟩=some (.int .i64 t1):=by rw [← e1];exact (hb1.cell (p:=⟨_,_,none⟩) hT.lt).trans (hT.take1 m h1 h16)
  clear hT p1_0 e0 e1
  obtain ⟨Y2,hY2⟩:∃ Y,Y1.alloc (.cells #[.int .i64 t0,.int .i64 t1] 140)=Y:=⟨_,rfl⟩
  have hb2:Below w.heap.size w Y2:=by rw [← hY2];exact Cd.Below.new hb1 _
  have hs2:Y2.heap.size=w.heap.size+2:=by rw [← hY2,World.size_alloc];omega
  have p2_1:Y2.heap[w.heap.size+1]? = some (.cells #[.int .i64 t0,.int .i64 t1] 140):=by rw [← hY2,← hs1];exact Cd.new_at _ _
  have c1_0:Y2.cell? ⟨w.heap.size+1,0,none⟩=some (.int .i64 t0):=by rw [Lib.cell_of_heap p2_1];rfl
  have c1_1:Y2.cell? ⟨w.heap.size+1,1,none⟩=some (.int .i64 t1):=by rw [Lib.cell_of_heap p2_1];rfl
  have f1_0:Y2.frozen? ⟨w.heap.size+1,0,none⟩=false:=by simp [World.frozen?,p2_1]
  have f1_1:Y2.frozen? ⟨w.heap.size+1,1,none⟩=false:=by simp [World.frozen?,p2_1]
  have b0_0:=Cd.keepC hY2 (by omega) c0_0
  have b0_1:=Cd.keepC hY2 (by omega) c0_1
  have hI2:Cd.IntsAt Y2.heap.size Y2 (.slice (some ⟨w.heap.size+1,0,none⟩) 2 2) [t0,t1]:=by
    have h:=Cd.ints_new Y1 [t0,t1] 140 2 2 (by simp) Y2 (by rw [hs1];exact p2_1) (by omega)
    rw [hs1] at h;exact h
  have HIX:Hid (Calls Tryz.prog 124 #[.slice (some ⟨w.heap.size+1,0,none⟩) 2 2,.int .i64 0] Y2 fun e w'=>(∃ k:Int,e = .returned (.int .i64 k)∧Cd.IdxIs [t0,t1] 0 k)∧Y2=w'):=Cd.index_any [t0,t1] 0 _ 2 (by simp) _ Y2 hI2
  have HI2:Hid (Cd.IntsAt Y2.heap.size Y2 (.slice (some ⟨w.heap.size+1,0,none⟩) 2 2) [t0,t1]):=hI2
  have hmI:(m:Int) < 17:=by omega
  clear hI2 p2_1
  by_cases z0:t0=0
  · rw [if_pos z0]
    have HK:Hid (∀ k,Cd.IdxIs [t0,t1] 0 k→k=0):=fun k hk=>by
      rcases hk with ⟨rfl,hn⟩ | ⟨j,hj,rfl,he,hlt⟩
      · exact (hn (by simp [z0])).elim
      · match j,hlt with
        | 0,_=>rfl
        | j+1,hlt=>exact (hlt 0 (by simp) (by omega) (by simp [z0])).elim
    clear z0
    go_enter Tryz.func110,Tryz.ntmps110
    go_wp2_with (go_at_call 124;refine HIX.out.mono ?_;rintro e w' ⟨⟨k,rfl,hk⟩,rfl⟩;have hk2:=HK.out k hk;subst hk2;clear hk)
    go_ret
    exact ⟨_,_,rfl,⟨_,_,rfl,fun i hi=>by simp at hi⟩,by simp,hb2⟩
  · rw [if_neg z0]
    by_cases z1:t1=0
    · rw [if_pos z1]
      have HK:Hid (∀ k,Cd.IdxIs [t0,t1] 0 k→k=1):=fun k hk=>by
        rcases hk with ⟨rfl,hn⟩ | ⟨j,hj,rfl,he,hlt⟩
        · exact (hn (by simp [z1])).elim
        · match j,hj,he with
          | 0,_,he=>exact (z0 (by simpa using he)).elim
          | 1,_,_=>rfl
          | j+2,hj,_=>exact absurd hj (by simp)
      clear z0 z1
      have HR:Hid (Cd.IntsAt Y2.heap.size Y2 (.slice (some ⟨w.heap.size+1,0,none⟩) 1 2) [t0]):=Cd.IntsAt.front (hs:=[t0,t1]) HI2.out (m:=1) (by simp)
      go_enter Tryz.func110,Tryz.ntmps110
      go_wp2_with (go_at_call 124;refine HIX.out.mono ?_;rintro e w' ⟨⟨k,rfl,hk⟩,rfl⟩;have hk2:=HK.out k hk;subst hk2;clear hk)
      go_ret
      exact ⟨_,_,rfl,HR.out,by simp,hb2⟩
    · rw [if_neg z1]
      have HK:Hid (∀ k,Cd.IdxIs [t0,t1] 0 k→k = -1):=fun k hk=>by
        rcases hk with ⟨rfl,hn⟩ | ⟨j,hj,rfl,he,hlt⟩
        · rfl
        · match j,hj,he with
          | 0,_,he=>exact (z0 (by simpa using he)).elim
          | 1,_,he=>exact (z1 (by simpa using he)).elim
          | j+2,hj,_=>exact absurd hj (by simp)
      clear z0 z1
      go_enter Tryz.func110,Tryz.ntmps110
      go_wp2_with (go_at_call 124;refine HIX.out.mono ?_;rintro e w' ⟨⟨k,rfl,hk⟩,rfl⟩;have hk2:=HK.out k hk;subst hk2;clear hk)
      go_ret
      exact ⟨_,_,rfl,HI2.out,by simp,hb2⟩
set_option maxRecDepth 100000 in
set_option maxHeartbeats 2000000 in
theorem Cd.wants9 (c:List Cd.Fn) (k:Nat) (hk:k < c.length) (_hcl:c.length≤60) (m:Nat) (hm9:m=9) (n:Int) (text:ByteArray) (t0 t1:Int) (e0:(Cd.rowOf m).2.1=t0) (e1:(Cd.rowOf m).2.2.1=t1) (he14:t0=14) (ca:Option Addr) (cc:Nat) (f:Cd.Fn) (pv iv lv wv:Value) (g:Nat) (w:World) (_hcap:c[k].params.length≤8) (hT:Cd.InsTab w) (hC:Cd.CodeAt w.heap.size w (.slice ca c.length cc) c) (hTr:Cd.TrAt g w (.slice ca c.length cc) f pv iv lv wv) :
    Calls Tryz.prog 110 #[.pointer (some ⟨g,0,none⟩),Cd.insV ⟨(m:Int),(k:Int),n,text⟩] w (fun e w' => ∃ a cap,e = .returned (.slice a c[k].params.length cap)∧Cd.IntsAt w'.heap.size w' (.slice a c[k].params.length cap) c[k].params∧Below w.heap.size w w'):=by
  have h1:1≤m:=by omega
  have h16:m≤16:=by omega
  obtain ⟨a,ha⟩:∃ a,a=(k:Int):=⟨_,rfl⟩
  rw [← ha]
  unfold Cd.insV
  simp only
  obtain ⟨Y1,hY1⟩:∃ Y,w.alloc (.cells #[.int .i64 (m:Int),.int .i64 a,.int .i64 n,.string text] 54)=Y:=⟨_,rfl⟩
  have hb1:Below w.heap.size w Y1:=by rw [← hY1];exact Cd.b1 w _
  have hs1:Y1.heap.size=w.heap.size+1:=by rw [← hY1];exact World.size_alloc _ _
  have p1_0:Y1.heap[w.heap.size]? = some (.cells #[.int .i64 (m:Int),.int .i64 a,.int .i64 n,.string text] 54):=by rw [← hY1];exact Cd.new_at w _
  have c0_0:Y1.cell? ⟨w.heap.size,0,none⟩=some (.int .i64 (m:Int)):=by rw [Lib.cell_of_heap p1_0];rfl
  have c0_1:Y1.cell? ⟨w.heap.size,1,none⟩=some (.int .i64 a):=by rw [Lib.cell_of_heap p1_0];rfl
  have tg0:Y1.cell? ⟨7,m * 5+1,none⟩=some (.int .i64 t0):=by rw [← e0];exact (hb1.cell (p:=⟨_,_,none⟩) hT.lt).trans (hT.take0 m h1 h16)
  have tg1:Y1.cell? ⟨7,m * 5+2,none⟩=some (.int .i64 t1):=by rw [← e1];exact (hb1.cell (p:=⟨_,_,none⟩) hT.lt).trans (hT.take1 m h1 h16)
  rw [ha] at c0_1
  rw [ha] at hY1
  rw [ha]
  obtain ⟨u0,-⟩:=(hTr.below hb1).cells
  have HGY:g < Y1.heap.size:=(hTr.below hb1).lt
  obtain ⟨gc,cap,pa,pc,ia,ic,ev,hgc,d0,d1,d2,d3,d4,hP,hI⟩:=hC.fn k hk
  injection ev with ev1 ev2 ev3
  subst ev1 ev3
  have hgw:gc < w.heap.size:=hgc
  have d1':=(hb1.cell (p:=⟨gc,k * 5+1,none⟩) hgw).trans d1
  obtain ⟨P,HPE⟩:∃ P,Hid (c[k].params=P):=⟨_,(rfl:c[k].params=_)⟩
  rw [HPE.out] at d1' hP ⊢
  have HP:Hid (Cd.IntsAt w.heap.size w (.slice pa P.length pc) P):=hP
  clear hT p1_0 e0 e1 d0 d1 d2 d3 d4 hP hI hC hTr ev2
  obtain ⟨Y2,hY2⟩:∃ Y,Y1.alloc (.cells #[.int .i64 t0,.int .i64 t1] 140)=Y:=⟨_,rfl⟩
  have hb2:Below w.heap.size w Y2:=by rw [← hY2];exact Cd.Below.new hb1 _
  have hs2:Y2.heap.size=w.heap.size+2:=by rw [← hY2,World.size_alloc];omega
  have p2_1:Y2.heap[w.heap.size+1]? = some (.cells #[.int .i64 t0,.int .i64 t1] 140):=by rw [← hY2,← hs1];exact Cd.new_at _ _
  have c1_0:Y2.cell? ⟨w.heap.size+1,0,none⟩=some (.int .i64 t0):=by rw [Lib.cell_of_heap p2_1];rfl
  have c1_1:Y2.cell? ⟨w.heap.size+1,1,none⟩=some (.int .i64 t1):=by rw [Lib.cell_of_heap p2_1];rfl
  have f1_0:Y2.frozen? ⟨w.heap.size+1,0,none⟩=false:=by simp [World.frozen?,p2_1]
  have f1_1:Y2.frozen? ⟨w.heap.size+1,1,none⟩=false:=by simp [World.frozen?,p2_1]
  have b0_0:=Cd.keepC hY2 (by omega) c0_0
  have b0_1:=Cd.keepC hY2 (by omega) c0_1
  have x0:=Cd.keepC hY2 HGY u0
  have x1:=Cd.keepC hY2 (by omega) d1'
  clear p2_1
  have hkI:(k:Int) < (c.length:Int):=by omega
  have hmI:(m:Int) < 17:=by omega
  subst he14
  clear hm9 ha HGY u0 d1'
  go_enter Tryz.func110,Tryz.ntmps110
  go_wp2_with fail
  go_quiet (fail)
  go_wp2_with fail
  go_ret
  exact ⟨_,_,rfl,(HP.out.below (Cd.belowD _ hb2)).mono hb2.size,Cd.belowD _ hb2⟩
set_option maxRecDepth 100000 in
set_option maxHeartbeats 2000000 in
theorem Cd.wants12 (m:Nat) (hm:m=12) (a n:Int) (text:ByteArray) (t0 t1:Int) (e0:(Cd.rowOf m).2.1=t0) (e1:(Cd.rowOf m).2.2.1=t1) (he15:t0=15) (z1:t1=0) (cv:Value) (f:Cd.Fn) (pv iv lv wv:Value) (g:Nat) (w:World) (hT:Cd.InsTab w) (hTr:Cd.TrAt g w cv f pv iv lv wv) :
    Calls Tryz.prog 110 #[.pointer (some ⟨g,0,none⟩),Cd.insV ⟨(m:Int),a,n,text⟩] w (Cd.WantsIs (if f.result=0 then [] else [f.result]) w):=by
  have h1:1≤m:=by omega
  have h16:m≤16:=by omega
  unfold Cd.insV
  simp only
  obtain ⟨Y1,hY1⟩:∃ Y,w.alloc (.cells #[.int .i64 (m:Int),.int .i64 a,.int .i64 n,.string text] 54)=Y:=⟨_,rfl⟩
  have hb1:Below w.heap.size w Y1:=by rw [← hY1];exact Cd.b1 w _
  have hs1:Y1.heap.size=w.heap.size+1:=by rw [← hY1];exact World.size_alloc _ _
  have p1_0:Y1.heap[w.heap.size]? = some (.cells #[.int .i64 (m:Int),.int .i64 a,.int .i64 n,.string text] 54):=by rw [← hY1];exact Cd.new_at w _
  have c0_0:Y1.cell? ⟨w.heap.size,0,none⟩=some (.int .i64 (m:Int)):=by rw [Lib.cell_of_heap p1_0];rfl
  have c0_1:Y1.cell? ⟨w.heap.size,1,none⟩=some (.int .i64 a):=by rw [Lib.cell_of_heap p1_0];rfl
  have tg0:Y1.cell? ⟨7,m * 5+1,none⟩=some (.int .i64 t0):=by rw [← e0];exact (hb1.cell (p:=⟨_,_,none⟩) hT.lt).trans (hT.take0 m h1 h16)
  have tg1:Y1.cell? ⟨7,m * 5+2,none⟩=some (.int .i64 t1):=by rw [← e1];exact (hb1.cell (p:=⟨_,_,none⟩) hT.lt).trans (hT.take1 m h1 h16)
  obtain ⟨-,-,-,u3,-⟩:=(hTr.below hb1).cells
  have HGY:g < Y1.heap.size:=(hTr.below hb1).lt
  obtain ⟨R,HRE⟩:∃ R,Hid (f.result=R):=⟨_,(rfl:f.result=_)⟩
  rw [HRE.out] at u3 ⊢
  clear hT p1_0 e0 e1
  obtain ⟨Y2,hY2⟩:∃ Y,Y1.alloc (.cells #[.int .i64 t0,.int .i64 t1] 140)=Y:=⟨_,rfl⟩
  have hb2:Below w.heap.size w Y2:=by rw [← hY2];exact Cd.Below.new hb1 _
  have hs2:Y2.heap.size=w.heap.size+2:=by rw [← hY2,World.size_alloc];omega
  have p2_1:Y2.heap[w.heap.size+1]? = some (.cells #[.int .i64 t0,.int .i64 t1] 140):=by rw [← hY2,← hs1];exact Cd.new_at _ _
  have c1_0:Y2.cell? ⟨w.heap.size+1,0,none⟩=some (.int .i64 t0):=by rw [Lib.cell_of_heap p2_1];rfl
  have c1_1:Y2.cell? ⟨w.heap.size+1,1,none⟩=some (.int .i64 t1):=by rw [Lib.cell_of_heap p2_1];rfl
  have f1_0:Y2.frozen? ⟨w.heap.size+1,0,none⟩=false:=by simp [World.frozen?,p2_1]
  have f1_1:Y2.frozen? ⟨w.heap.size+1,1,none⟩=false:=by simp [World.frozen?,p2_1]
  have b0_0:=Cd.keepC hY2 (by omega) c0_0
  have b0_1:=Cd.keepC hY2 (by omega) c0_1
  have x3:=Cd.keepC hY2 HGY u3
  obtain ⟨Y3,hY3⟩:∃ Y,Y2.setCell ⟨w.heap.size+1,0,none⟩ (.int .i64 R)=Y:=⟨_,rfl⟩
  have hb3:Below w.heap.size w Y3:=by rw [← hY3];exact hb2.setCell (p:=⟨w.heap.size+1,0,none⟩) (by simp only;omega) _
  have hs3:Y3.heap.size=w.heap.size+2:=by rw [← hY3,World.size_setCell];exact hs2
  have p3_1:Y3.heap[w.heap.size+1]? = some (.cells #[.int .i64 R,.int .i64 t1] 140):=by rw [← hY3];simp [World.setCell,Array.getElem?_modify,p2_1]
  have v1_0:Y3.cell? ⟨w.heap.size+1,0,none⟩=some (.int .i64 R):=by rw [Lib.cell_of_heap p3_1];rfl
  have v1_1:Y3.cell? ⟨w.heap.size+1,1,none⟩=some (.int .i64 t1):=by rw [Lib.cell_of_heap p3_1];rfl
  have hI2:Cd.IntsAt Y3.heap.size Y3 (.slice (some ⟨w.heap.size+1,0,none⟩) 2 2) [R,t1]:=by
    have h:=Cd.ints_new Y1 [R,t1] 140 2 2 (by simp) Y3 (by rw [hs1];exact p3_1) (by omega)
    rw [hs1] at h;exact h
  have HIX:Hid (Calls Tryz.prog 124 #[.slice (some ⟨w.heap.size+1,0,none⟩) 2 2,.int .i64 0] Y3 fun e w'=>(∃ k:Int,e = .returned (.int .i64 k)∧Cd.IdxIs [R,t1] 0 k)∧Y3=w'):=Cd.index_any [R,t1] 0 _ 2 (by simp) _ Y3 hI2
  have HI2:Hid (Cd.IntsAt Y3.heap.size Y3 (.slice (some ⟨w.heap.size+1,0,none⟩) 2 2) [R,t1]):=hI2
  have hmI:(m:Int) < 17:=by omega
  clear hI2 p2_1 p3_1 u3 HGY hm
  subst he15
  by_cases z0:R=0
  · rw [if_pos z0]
    have HK:Hid (∀ k,Cd.IdxIs [R,t1] 0 k→k=0):=fun k hk=>by
      rcases hk with ⟨rfl,hn⟩ | ⟨j,hj,rfl,he,hlt⟩
      · exact (hn (by simp [z0])).elim
      · match j,hlt with
        | 0,_=>rfl
        | j+1,hlt=>exact (hlt 0 (by simp) (by omega) (by simp [z0])).elim
    clear z0 z1
    go_enter Tryz.func110,Tryz.ntmps110
    go_wp2_with (go_at_call 124;refine HIX.out.mono ?_;rintro e w' ⟨⟨k,rfl,hk⟩,rfl⟩;have hk2:=HK.out k hk;subst hk2;clear hk)
    go_ret
    exact ⟨_,_,rfl,⟨_,_,rfl,fun i hi=>by simp at hi⟩,by simp,hb3⟩
  · rw [if_neg z0]
    have HK:Hid (∀ k,Cd.IdxIs [R,t1] 0 k→k=1):=fun k hk=>by
      rcases hk with ⟨rfl,hn⟩ | ⟨j,hj,rfl,he,hlt⟩
      · exact (hn (by simp [z1])).elim
      · match j,hj,he with
        | 0,_,he=>exact (z0 (by simpa using he)).elim
        | 1,_,_=>rfl
        | j+2,hj,_=>exact absurd hj (by simp)
    clear z0 z1
    have HR:Hid (Cd.IntsAt Y3.heap.size Y3 (.slice (some ⟨w.heap.size+1,0,none⟩) 1 2) [R]):=Cd.IntsAt.front (hs:=[R,t1]) HI2.out (m:=1) (by simp)
    go_enter Tryz.func110,Tryz.ntmps110
    go_wp2_with (go_at_call 124;refine HIX.out.mono ?_;rintro e w' ⟨⟨k,rfl,hk⟩,rfl⟩;have hk2:=HK.out k hk;subst hk2;clear hk)
    go_ret
    exact ⟨_,_,rfl,HR.out,by simp,hb3⟩
set_option maxRecDepth 100000 in
set_option maxHeartbeats 2000000 in
theorem Cd.wants8 (q:Nat) (hq1:1≤q) (hq12:q≤12) (m:Nat) (hm:m=8) (n:Int) (text:ByteArray) (t0 t1:Int) (e0:(Cd.rowOf m).2.1=t0) (e1:(Cd.rowOf m).2.2.1=t1) (he13:t0=13) (g:Nat) (w:World) (hT:Cd.InsTab w) (hW:Cd.WordTab w) :
    Calls Tryz.prog 110 #[.pointer (some ⟨g,0,none⟩),Cd.insV ⟨(m:Int),(q:Int),n,text⟩] w (Cd.WantsIs (Cd.kidE q) w):=by
  have h1:1≤m:=by omega
  have h16:m≤16:=by omega
  obtain ⟨a,ha⟩:∃ a,a=(q:Int):=⟨_,rfl⟩
  rw [← ha]
  unfold Cd.insV
  simp only
  obtain ⟨Y1,hY1⟩:∃ Y,w.alloc (.cells #[.int .i64 (m:Int),.int .i64 a,.int .i64 n,.string text] 54)=Y:=⟨_,rfl⟩
  have hb1:Below w.heap.size w Y1:=by rw [← hY1];exact Cd.b1 w _
  have hs1:Y1.heap.size=w.heap.size+1:=by rw [← hY1];exact World.size_alloc _ _
  have p1_0:Y1.heap[w.heap.size]? = some (.cells #[.int .i64 (m:Int),.int .i64 a,.int .i64 n,.string text] 54):=by rw [← hY1];exact Cd.new_at w _
  have c0_0:Y1.cell? ⟨w.heap.size,0,none⟩=some (.int .i64 (m:Int)):=by rw [Lib.cell_of_heap p1_0];rfl
  have c0_1:Y1.cell? ⟨w.heap.size,1,none⟩=some (.int .i64 a):=by rw [Lib.cell_of_heap p1_0];rfl
  have tg0:Y1.cell? ⟨7,m * 5+1,none⟩=some (.int .i64 t0):=by rw [← e0];exact (hb1.cell (p:=⟨_,_,none⟩) hT.lt).trans (hT.take0 m h1 h16)
  have tg1:Y1.cell? ⟨7,m * 5+2,none⟩=some (.int .i64 t1):=by rw [← e1];exact (hb1.cell (p:=⟨_,_,none⟩) hT.lt).trans (hT.take1 m h1 h16)
  rw [ha] at c0_1
  rw [ha] at hY1
  rw [ha]
  have hW1:=hW.below hb1
  clear hT p1_0 e0 e1 ha
  obtain ⟨Y2,hY2⟩:∃ Y,Y1.alloc (.cells #[.int .i64 t0,.int .i64 t1] 140)=Y:=⟨_,rfl⟩
  have hb2:Below w.heap.size w Y2:=by rw [← hY2];exact Cd.Below.new hb1 _
  have hs2:Y2.heap.size=w.heap.size+2:=by rw [← hY2,World.size_alloc];omega
  have p2_1:Y2.heap[w.heap.size+1]? = some (.cells #[.int .i64 t0,.int .i64 t1] 140):=by rw [← hY2,← hs1];exact Cd.new_at _ _
  have c1_0:Y2.cell? ⟨w.heap.size+1,0,none⟩=some (.int .i64 t0):=by rw [Lib.cell_of_heap p2_1];rfl
  have c1_1:Y2.cell? ⟨w.heap.size+1,1,none⟩=some (.int .i64 t1):=by rw [Lib.cell_of_heap p2_1];rfl
  have f1_0:Y2.frozen? ⟨w.heap.size+1,0,none⟩=false:=by simp [World.frozen?,p2_1]
  have f1_1:Y2.frozen? ⟨w.heap.size+1,1,none⟩=false:=by simp [World.frozen?,p2_1]
  have b0_0:=Cd.keepC hY2 (by omega) c0_0
  have b0_1:=Cd.keepC hY2 (by omega) c0_1
  have hW2:=hW1.below (w':=Y2) (by rw [← hY2];exact Cd.b1 _ _)
  have k0:=hW2.kid q hq1 hq12 0 (by omega)
  have k1:=hW2.kid q hq1 hq12 1 (by omega)
  have k2:=hW2.kid q hq1 hq12 2 (by omega)
  rw [Nat.add_zero] at k0
  have HL:Hid ((Cd.kidE q).length≤3):=Cd.kidE_len q
  obtain ⟨L,HLE⟩:∃ L,Hid (Cd.kidE q=L):=⟨_,(rfl:Cd.kidE q=_)⟩
  have kn:=hW2.kids q hq1 hq12
  rw [HLE.out] at k0 k1 k2 HL kn ⊢
  have hl3:(L.length:Int)≤3:=by have:=HL.out;omega
  obtain ⟨N,hN⟩:∃ N,L.length=N:=⟨_,rfl⟩
  obtain ⟨Y3,hY3⟩:∃ Y,Y2.alloc (.cells #[.int .i64 (L.getD 0 0),.int .i64 (L.getD 1 0),.int .i64 (L.getD 2 0)] 206)=Y:=⟨_,rfl⟩
  have hb3:Below w.heap.size w Y3:=by rw [← hY3];exact Cd.Below.new hb2 _
  have hs3:Y3.heap.size=w.heap.size+3:=by rw [← hY3,World.size_alloc];omega
  have p3_2:Y3.heap[w.heap.size+2]? = some (.cells #[.int .i64 (L.getD 0 0),.int .i64 (L.getD 1 0),.int .i64 (L.getD 2 0)] 206):=by rw [← hY3,← hs2];exact Cd.new_at _ _
  have z0_1:=Cd.keepC hY3 (by omega) b0_1
  have knY:=Cd.keepC hY3 hW2.lt2 kn
  have HR:Hid (Cd.IntsAt Y3.heap.size Y3 (.slice (some ⟨w.heap.size+2,0,none⟩) L.length 3) L):=by
    have h:=Cd.ints_new Y2 [L.getD 0 0,L.getD 1 0,L.getD 2 0] 206 L.length 3 (by have:=HL.out;simpa using this) Y3 (by rw [hs2];exact p3_2) (by omega)
    rw [hs2] at h
    have e:[L.getD 0 0,L.getD 1 0,L.getD 2 0].take L.length=L:=by
      have:=HL.out
      match L,this with
      | [],_=>rfl
      | [x],_=>rfl
      | [x,y],_=>rfl
      | [x,y,z],_=>rfl
      | _::_::_::_::_,h=>simp at h
    rw [e] at h;exact h
  have hmI:(m:Int) < 17:=by omega
  have hqI:(q:Int) < 13:=by omega
  obtain ⟨d0,hd0⟩:∃ d,L.getD 0 0=d:=⟨_,rfl⟩
  obtain ⟨d1,hd1⟩:∃ d,L.getD 1 0=d:=⟨_,rfl⟩
  obtain ⟨d2,hd2⟩:∃ d,L.getD 2 0=d:=⟨_,rfl⟩
  rw [hd0] at k0 hY3
  rw [hd1] at k1 hY3
  rw [hd2] at k2 hY3
  clear p2_1 p3_2 hm hW hW1 hW2 hd0 hd1 hd2 kn hN
  subst he13
  go_enter Tryz.func110,Tryz.ntmps110
  go_wp2_with fail
  go_ret
  exact ⟨_,_,rfl,HR.out,by have:=HL.out;omega,hb3⟩
theorem Cd.wants_any (c:List Cd.Fn) (hcl:c.length≤60) (f:Cd.Fn) (i:Cd.Ins) (hok:Cd.insOk c f i=true) (hpl:∀ g ∈ c,g.params.length≤8) (ca:Option Addr) (cc:Nat) (pv iv lv wv:Value) (g:Nat) (w:World) (hT:Cd.InsTab w) (hW:Cd.WordTab w) (hC:Cd.CodeAt w.heap.size w (.slice ca c.length cc) c) (hTr:Cd.TrAt g w (.slice ca c.length cc) f pv iv lv wv) :
    Calls Tryz.prog 110 #[.pointer (some ⟨g,0,none⟩),Cd.insV i] w (fun e w' => ∃ a cap,e = .returned (.slice a (Cd.ents c f i).length cap)∧Cd.IntsAt w'.heap.size w' (.slice a (Cd.ents c f i).length cap) (Cd.ents c f i)∧Below w.heap.size w w'):=by
  obtain ⟨g1,g16⟩:=Cd.insOk_in hok
  obtain ⟨-,-,-,-,-,a8,a9,-,-⟩:=Cd.insA hok
  obtain ⟨op,a,n,text⟩:=i
  simp only at g1 g16 a8 a9
  obtain ⟨m,rfl⟩:∃ m:Nat,op=(m:Int):=⟨op.toNat,by omega⟩
  by_cases m8:m=8
  · obtain ⟨q,rfl⟩:∃ q:Nat,a=(q:Int):=⟨a.toNat,by have:=a8 (by omega);omega⟩
    have hq:=a8 (by omega)
    have he:Cd.ents c f ⟨(m:Int),(q:Int),n,text⟩=Cd.kidE q:=by rw [m8];simp [Cd.ents,Cd.kidE]
    rw [he]
    exact (Cd.wants8 q (by omega) (by omega) m m8 n text 13 _ (by rw [m8];rfl) rfl rfl g w hT hW).mono (by rintro e w' ⟨a,cap,h1,h2,-,h4⟩;exact ⟨a,cap,h1,h2,h4⟩)
  · by_cases m9:m=9
    · obtain ⟨q,rfl⟩:∃ q:Nat,a=(q:Int):=⟨a.toNat,by have:=a9 (by omega);omega⟩
      have hq:=a9 (by omega)
      have hql:q < c.length:=by omega
      have he:Cd.ents c f ⟨(m:Int),(q:Int),n,text⟩=c[q].params:=by
        rw [m9]
        have:c[q]?.getD Cd.noFn=c[q]:=by rw [List.getElem?_eq_getElem hql];rfl
        simp [Cd.ents,this]
      rw [he]
      exact Cd.wants9 c q hql hcl m m9 n text 14 _ (by rw [m9];rfl) rfl rfl ca cc f pv iv lv wv g w (hpl _ (List.getElem_mem hql)) hT hC hTr
    · by_cases m12:m=12
      · have he:Cd.ents c f ⟨(m:Int),a,n,text⟩=(if f.result=0 then [] else [f.result]):=by rw [m12];simp [Cd.ents]
        rw [he]
        exact (Cd.wants12 m m12 a n text 15 0 (by rw [m12];rfl) (by rw [m12];rfl) rfl rfl _ f pv iv lv wv g w hT hTr).mono (by rintro e w' ⟨a,cap,h1,h2,-,h4⟩;exact ⟨a,cap,h1,h2,h4⟩)
      · have hc:m=1∨m=2∨m=3∨m=4∨m=5∨m=6∨m=7∨m=10∨m=11∨m=13∨m=14∨m=15∨m=16:=by omega
        have hD:∀ t0 t1,(Cd.rowOf m).2.1=t0→(Cd.rowOf m).2.2.1=t1→t0≠13→t0≠14→t0≠15→Cd.ents c f ⟨(m:Int),a,n,text⟩=(if t0=0 then [] else if t1=0 then [t0] else [t0,t1]) →
            Calls Tryz.prog 110 #[.pointer (some ⟨g,0,none⟩),Cd.insV ⟨(m:Int),a,n,text⟩] w (fun e w' => ∃ v cap,e = .returned (.slice v (Cd.ents c f ⟨(m:Int),a,n,text⟩).length cap)∧Cd.IntsAt w'.heap.size w' (.slice v (Cd.ents c f ⟨(m:Int),a,n,text⟩).length cap) (Cd.ents c f ⟨(m:Int),a,n,text⟩)∧Below w.heap.size w w'):=fun t0 t1 e0 e1 n13 n14 n15 he=>by
          rw [he]
          exact (Cd.wantsD m a n text t0 t1 (by omega) (by omega) e0 e1 n13 n14 n15 g w hT).mono (by rintro e w' ⟨a,cap,h1,h2,-,h4⟩;exact ⟨a,cap,h1,h2,h4⟩)
        rcases hc with rfl | rfl | rfl | rfl | rfl | rfl | rfl | rfl | rfl | rfl | rfl | rfl | rfl
        all_goals exact hD _ _ rfl rfl (by decide) (by decide) (by decide) (by simp [Cd.ents,Cd.rowOf])
end Go.Proofs.YtbkhedpabfanoaaGreatDoor
namespace Go.Proofs.YtbkhedpabfanoaaGreatDoor
open Go.RowKit

def Cd.PutsIs (p:Int) (b:Bool) (w:World) (e:Ending) (w':World):Prop:=e = .returned (.tuple #[.int .i64 p,.bool b])∧Below w.heap.size w w'
theorem Cd.putsIs {p p':Int} {b b':Bool} {w:World} {e:Ending} {w':World} (h:Cd.PutsIs p b w e w') (hp:p=p') (hb:b=b'):Cd.PutsIs p' b' w e w':=by subst hp;subst hb;exact h
set_option maxRecDepth 100000 in
set_option maxHeartbeats 2000000 in
theorem Cd.puts0 (m:Nat) (h1:1≤m) (h16:m≤16) (P:Int) (eP:(Cd.rowOf m).2.2.2.1=P) (hP:P=0) (a n:Int) (text S K:ByteArray) (g:Nat) (w:World) (hT:Cd.InsTab w) :
    Calls Tryz.prog 113 #[.pointer (some ⟨g,0,none⟩),Cd.insV ⟨(m:Int),a,n,text⟩,.string S,.string K] w (Cd.PutsIs 0 true w):=by
  unfold Cd.insV
  simp only
  obtain ⟨Y1,hY1⟩:∃ Y,w.alloc (.cells #[.int .i64 (m:Int),.int .i64 a,.int .i64 n,.string text] 54)=Y:=⟨_,rfl⟩
  have hb1:Below w.heap.size w Y1:=by rw [← hY1];exact Cd.b1 w _
  have hs1:Y1.heap.size=w.heap.size+1:=by rw [← hY1];exact World.size_alloc _ _
  have p1_0:Y1.heap[w.heap.size]? = some (.cells #[.int .i64 (m:Int),.int .i64 a,.int .i64 n,.string text] 54):=by rw [← hY1];exact Cd.new_at w _
  have c0_0:Y1.cell? ⟨w.heap.size,0,none⟩=some (.int .i64 (m:Int)):=by rw [Lib.cell_of_heap p1_0];rfl
  have c0_1:Y1.cell? ⟨w.heap.size,1,none⟩=some (.int .i64 a):=by rw [Lib.cell_of_heap p1_0];rfl
  have tp:Y1.cell? ⟨7,m * 5+3,none⟩=some (.int .i64 P):=by rw [← eP];exact (hb1.cell (p:=⟨_,_,none⟩) hT.lt).trans (hT.puts m h1 h16)
  have hmI:(m:Int) < 17:=by omega
  clear p1_0 eP
  clear hT
  subst hP
  go_enter Tryz.func113,Tryz.ntmps113
  go_wp2_with fail
  go_ret2
  exact ⟨rfl,hb1⟩
set_option maxRecDepth 100000 in
set_option maxHeartbeats 2000000 in
theorem Cd.puts16 (m:Nat) (h1:1≤m) (h16:m≤16) (P:Int) (eP:(Cd.rowOf m).2.2.2.1=P) (hP:P=16) (a n:Int) (text S K:ByteArray) (g:Nat) (w:World) (hT:Cd.InsTab w) :
    Calls Tryz.prog 113 #[.pointer (some ⟨g,0,none⟩),Cd.insV ⟨(m:Int),a,n,text⟩,.string S,.string K] w (Cd.PutsIs a (decide (a≠0)) w):=by
  unfold Cd.insV
  simp only
  obtain ⟨Y1,hY1⟩:∃ Y,w.alloc (.cells #[.int .i64 (m:Int),.int .i64 a,.int .i64 n,.string text] 54)=Y:=⟨_,rfl⟩
  have hb1:Below w.heap.size w Y1:=by rw [← hY1];exact Cd.b1 w _
  have hs1:Y1.heap.size=w.heap.size+1:=by rw [← hY1];exact World.size_alloc _ _
  have p1_0:Y1.heap[w.heap.size]? = some (.cells #[.int .i64 (m:Int),.int .i64 a,.int .i64 n,.string text] 54):=by rw [← hY1];exact Cd.new_at w _
  have c0_0:Y1.cell? ⟨w.heap.size,0,none⟩=some (.int .i64 (m:Int)):=by rw [Lib.cell_of_heap p1_0];rfl
  have c0_1:Y1.cell? ⟨w.heap.size,1,none⟩=some (.int .i64 a):=by rw [Lib.cell_of_heap p1_0];rfl
  have tp:Y1.cell? ⟨7,m * 5+3,none⟩=some (.int .i64 P):=by rw [← eP];exact (hb1.cell (p:=⟨_,_,none⟩) hT.lt).trans (hT.puts m h1 h16)
  have hmI:(m:Int) < 17:=by omega
  clear p1_0 eP
  clear hT
  subst hP
  have HA:Hid ((a != 0)=decide (a≠0)):=by rw [Hid];by_cases e:a=0 <;> simp [e]
  go_enter Tryz.func113,Tryz.ntmps113
  go_wp2_with fail
  go_ret2
  exact Cd.putsIs ⟨rfl,hb1⟩ rfl HA.out
set_option maxRecDepth 100000 in
set_option maxHeartbeats 2000000 in
theorem Cd.puts20 (m:Nat) (h1:1≤m) (h16:m≤16) (P:Int) (eP:(Cd.rowOf m).2.2.2.1=P) (hP:P=20) (q:Nat) (hq1:1≤q) (hq12:q≤12) (n:Int) (text S K:ByteArray) (g:Nat) (w:World) (hT:Cd.InsTab w) (hW:Cd.WordTab w) :
    Calls Tryz.prog 113 #[.pointer (some ⟨g,0,none⟩),Cd.insV ⟨(m:Int),(q:Int),n,text⟩,.string S,.string K] w (Cd.PutsIs (Cd.makes (q:Int)) (decide (Cd.makes (q:Int)≠0)) w):=by
  obtain ⟨a,ha⟩:∃ a,a=(q:Int):=⟨_,rfl⟩
  rw [← ha]
  unfold Cd.insV
  simp only
  obtain ⟨Y1,hY1⟩:∃ Y,w.alloc (.cells #[.int .i64 (m:Int),.int .i64 a,.int .i64 n,.string text] 54)=Y:=⟨_,rfl⟩
  have hb1:Below w.heap.size w Y1:=by rw [← hY1];exact Cd.b1 w _
  have hs1:Y1.heap.size=w.heap.size+1:=by rw [← hY1];exact World.size_alloc _ _
  have p1_0:Y1.heap[w.heap.size]? = some (.cells #[.int .i64 (m:Int),.int .i64 a,.int .i64 n,.string text] 54):=by rw [← hY1];exact Cd.new_at w _
  have c0_0:Y1.cell? ⟨w.heap.size,0,none⟩=some (.int .i64 (m:Int)):=by rw [Lib.cell_of_heap p1_0];rfl
  have c0_1:Y1.cell? ⟨w.heap.size,1,none⟩=some (.int .i64 a):=by rw [Lib.cell_of_heap p1_0];rfl
  have tp:Y1.cell? ⟨7,m * 5+3,none⟩=some (.int .i64 P):=by rw [← eP];exact (hb1.cell (p:=⟨_,_,none⟩) hT.lt).trans (hT.puts m h1 h16)
  have hmI:(m:Int) < 17:=by omega
  clear p1_0 eP
  rw [ha] at c0_1 hY1
  rw [ha]
  have kg:=(hW.below hb1).gives q hq1 hq12
  obtain ⟨M,HM⟩:∃ M,Hid (Cd.makes (q:Int)=M):=⟨_,(rfl:Cd.makes (q:Int)=_)⟩
  rw [HM.out] at kg ⊢
  have HA:Hid ((M != 0)=decide (M≠0)):=by rw [Hid];by_cases e:M=0 <;> simp [e]
  have hqI:(q:Int) < 13:=by omega
  clear hT hW ha
  subst hP
  go_enter Tryz.func113,Tryz.ntmps113
  go_wp2_with fail
  go_ret2
  exact Cd.putsIs ⟨rfl,hb1⟩ rfl HA.out
set_option maxRecDepth 100000 in
set_option maxHeartbeats 2000000 in
theorem Cd.puts21 (m:Nat) (h1:1≤m) (h16:m≤16) (P:Int) (eP:(Cd.rowOf m).2.2.2.1=P) (hP:P=21) (c:List Cd.Fn) (k:Nat) (hk:k < c.length) (_hcl:c.length≤60) (n:Int) (text S K:ByteArray) (ca:Option Addr) (cc:Nat) (f:Cd.Fn) (pv iv lv wv:Value) (g:Nat) (w:World) (hT:Cd.InsTab w) (hC:Cd.CodeAt w.heap.size w (.slice ca c.length cc) c) (hTr:Cd.TrAt g w (.slice ca c.length cc) f pv iv lv wv) :
    Calls Tryz.prog 113 #[.pointer (some ⟨g,0,none⟩),Cd.insV ⟨(m:Int),(k:Int),n,text⟩,.string S,.string K] w (Cd.PutsIs c[k].result true w):=by
  obtain ⟨a,ha⟩:∃ a,a=(k:Int):=⟨_,rfl⟩
  rw [← ha]
  unfold Cd.insV
  simp only
  obtain ⟨Y1,hY1⟩:∃ Y,w.alloc (.cells #[.int .i64 (m:Int),.int .i64 a,.int .i64 n,.string text] 54)=Y:=⟨_,rfl⟩
  have hb1:Below w.heap.size w Y1:=by rw [← hY1];exact Cd.b1 w _
  have hs1:Y1.heap.size=w.heap.size+1:=by rw [← hY1];exact World.size_alloc _ _
  have p1_0:Y1.heap[w.heap.size]? = some (.cells #[.int .i64 (m:Int),.int .i64 a,.int .i64 n,.string text] 54):=by rw [← hY1];exact Cd.new_at w _
  have c0_0:Y1.cell? ⟨w.heap.size,0,none⟩=some (.int .i64 (m:Int)):=by rw [Lib.cell_of_heap p1_0];rfl
  have c0_1:Y1.cell? ⟨w.heap.size,1,none⟩=some (.int .i64 a):=by rw [Lib.cell_of_heap p1_0];rfl
  have tp:Y1.cell? ⟨7,m * 5+3,none⟩=some (.int .i64 P):=by rw [← eP];exact (hb1.cell (p:=⟨_,_,none⟩) hT.lt).trans (hT.puts m h1 h16)
  have hmI:(m:Int) < 17:=by omega
  clear p1_0 eP
  rw [ha] at c0_1 hY1
  rw [ha]
  obtain ⟨u0,-⟩:=(hTr.below hb1).cells
  obtain ⟨gc,cap,pa,pc,ia,ic,ev,hgc,d0,d1,d2,d3,d4,hP2,hI⟩:=hC.fn k hk
  injection ev with ev1 ev2 ev3
  subst ev1 ev3
  have d2':=(hb1.cell (p:=⟨gc,k * 5+2,none⟩) hgc).trans d2
  obtain ⟨R,HR⟩:∃ R,Hid (c[k].result=R):=⟨_,(rfl:c[k].result=_)⟩
  rw [HR.out] at d2' ⊢
  have hkI:(k:Int) < (c.length:Int):=by omega
  clear hT d0 d1 d2 d3 d4 hP2 hI hC hTr ev2 ha
  subst hP
  go_enter Tryz.func113,Tryz.ntmps113
  go_wp2_with fail
  go_quiet (fail)
  go_wp2_with fail
  go_ret2
  exact ⟨rfl,Cd.belowD _ hb1⟩
set_option maxRecDepth 100000 in
set_option maxHeartbeats 2000000 in
theorem Cd.puts17 (m:Nat) (h1:1≤m) (h16:m≤16) (P:Int) (eP:(Cd.rowOf m).2.2.2.1=P) (hP:P=17) (k:Nat) (n:Int) (text S K:ByteArray) (hk:k < S.size) (_hS:S.size≤1048576) (t:Int) (ht:t=(S[k].toNat:Int)) (g:Nat) (w:World) (hT:Cd.InsTab w) :
    Calls Tryz.prog 113 #[.pointer (some ⟨g,0,none⟩),Cd.insV ⟨(m:Int),(k:Int),n,text⟩,.string S,.string K] w (Cd.PutsIs t (decide (t≠0)) w):=by
  obtain ⟨a,ha⟩:∃ a,a=(k:Int):=⟨_,rfl⟩
  rw [← ha]
  unfold Cd.insV
  simp only
  obtain ⟨Y1,hY1⟩:∃ Y,w.alloc (.cells #[.int .i64 (m:Int),.int .i64 a,.int .i64 n,.string text] 54)=Y:=⟨_,rfl⟩
  have hb1:Below w.heap.size w Y1:=by rw [← hY1];exact Cd.b1 w _
  have hs1:Y1.heap.size=w.heap.size+1:=by rw [← hY1];exact World.size_alloc _ _
  have p1_0:Y1.heap[w.heap.size]? = some (.cells #[.int .i64 (m:Int),.int .i64 a,.int .i64 n,.string text] 54):=by rw [← hY1];exact Cd.new_at w _
  have c0_0:Y1.cell? ⟨w.heap.size,0,none⟩=some (.int .i64 (m:Int)):=by rw [Lib.cell_of_heap p1_0];rfl
  have c0_1:Y1.cell? ⟨w.heap.size,1,none⟩=some (.int .i64 a):=by rw [Lib.cell_of_heap p1_0];rfl
  have tp:Y1.cell? ⟨7,m * 5+3,none⟩=some (.int .i64 P):=by rw [← eP];exact (hb1.cell (p:=⟨_,_,none⟩) hT.lt).trans (hT.puts m h1 h16)
  have hmI:(m:Int) < 17:=by omega
  clear p1_0 eP
  rw [ha] at c0_1 hY1
  rw [ha]
  obtain ⟨y,hy⟩:∃ y,S[k]=y:=⟨_,rfl⟩
  rw [hy] at ht
  have hkI:(k:Int) < (S.size:Int):=by omega
  have hyb:y.toNat < 256:=y.toNat_lt
  have hw1:IntKind.i64.wrap ((y.toNat:Nat):Int)=t:=by rw [ht,IntKind.wrap_i64];omega
  have hw2:wrap64 ((y.toNat:Nat):Int)=t:=by rw [ht];exact IntWalk.wrap64_in _ (by omega)
  have HA:Hid ((t != 0)=decide (t≠0)):=by rw [Hid];by_cases e:t=0 <;> simp [e]
  have HT:Hid (((y.toNat:Nat):Int)=t):=ht.symm
  clear hT ha ht
  subst hP
  go_enter Tryz.func113,Tryz.ntmps113
  go_wp2_with fail
  go_ret2
  exact Cd.putsIs ⟨rfl,hb1⟩ (by first | rfl | exact HT.out) (by first | exact HA.out | (rw [HT.out];exact HA.out))
set_option maxRecDepth 100000 in
set_option maxHeartbeats 2000000 in
theorem Cd.puts18 (m:Nat) (h1:1≤m) (h16:m≤16) (P:Int) (eP:(Cd.rowOf m).2.2.2.1=P) (hP:P=18) (a n:Int) (ha1:1≤a) (ha3:a≤3) (text S K:ByteArray) (hk:0 < K.size) (hK:K.size≤1048576) (t:Int) (ht:t=(K[0].toNat:Int)) (g:Nat) (w:World) (hT:Cd.InsTab w) :
    Calls Tryz.prog 113 #[.pointer (some ⟨g,0,none⟩),Cd.insV ⟨(m:Int),a,n,text⟩,.string S,.string K] w (Cd.PutsIs (Cd.un a t) (decide (Cd.un a t≠0)) w):=by
  unfold Cd.insV
  simp only
  obtain ⟨Y1,hY1⟩:∃ Y,w.alloc (.cells #[.int .i64 (m:Int),.int .i64 a,.int .i64 n,.string text] 54)=Y:=⟨_,rfl⟩
  have hb1:Below w.heap.size w Y1:=by rw [← hY1];exact Cd.b1 w _
  have hs1:Y1.heap.size=w.heap.size+1:=by rw [← hY1];exact World.size_alloc _ _
  have p1_0:Y1.heap[w.heap.size]? = some (.cells #[.int .i64 (m:Int),.int .i64 a,.int .i64 n,.string text] 54):=by rw [← hY1];exact Cd.new_at w _
  have c0_0:Y1.cell? ⟨w.heap.size,0,none⟩=some (.int .i64 (m:Int)):=by rw [Lib.cell_of_heap p1_0];rfl
  have c0_1:Y1.cell? ⟨w.heap.size,1,none⟩=some (.int .i64 a):=by rw [Lib.cell_of_heap p1_0];rfl
  have tp:Y1.cell? ⟨7,m * 5+3,none⟩=some (.int .i64 P):=by rw [← eP];exact (hb1.cell (p:=⟨_,_,none⟩) hT.lt).trans (hT.puts m h1 h16)
  have hmI:(m:Int) < 17:=by omega
  clear p1_0 eP
  obtain ⟨y,hy⟩:∃ y,K[0]=y:=⟨_,rfl⟩
  rw [hy] at ht
  have hyb:y.toNat < 256:=y.toNat_lt
  have hy1:IntKind.i64.wrap ((y.toNat:Nat):Int)=t:=by rw [ht,IntKind.wrap_i64];omega
  have hy2:wrap64 ((y.toNat:Nat):Int)=t:=by rw [ht];exact IntWalk.wrap64_in _ (by omega)
  have hkI:(0:Int) < (K.size:Int):=by omega
  obtain ⟨U,HU⟩:∃ U,Hid (Cd.un a t=U):=⟨_,(rfl:Cd.un a t=_)⟩
  have HC:Hid (∀ W,Calls Tryz.prog 125 #[.int .i64 a,.int .i64 t] W fun e w'=>e = .returned (.int .i64 U)∧W=w'):=fun W=>by rw [← HU.out];exact Cd.typeUn_any a t ha1 ha3 W
  rw [HU.out]
  have HA:Hid ((U != 0)=decide (U≠0)):=by rw [Hid];by_cases e:U=0 <;> simp [e]
  clear hT ht
  subst hP
  go_enter Tryz.func113,Tryz.ntmps113
  go_wp2_with fail
  go_quiet (first | (go_at_call 125;refine Cd.quiet (HC.out _)))
  go_wp2_with fail
  go_ret2
  exact Cd.putsIs ⟨rfl,Cd.belowD _ hb1⟩ rfl HA.out
set_option maxRecDepth 100000 in
set_option maxHeartbeats 2000000 in
theorem Cd.puts19 (m:Nat) (h1:1≤m) (h16:m≤16) (P:Int) (eP:(Cd.rowOf m).2.2.2.1=P) (hP:P=19) (a n:Int) (ha1:3≤a) (ha3:a≤18) (text S K:ByteArray) (hk:1 < K.size) (hK:K.size≤1048576) (t u:Int) (ht:t=(K[0].toNat:Int)) (hu:u=(K[1].toNat:Int)) (htb:1≤t∧t≤10) (g:Nat) (w:World) (hT:Cd.InsTab w) :
    Calls Tryz.prog 113 #[.pointer (some ⟨g,0,none⟩),Cd.insV ⟨(m:Int),a,n,text⟩,.string S,.string K] w (Cd.PutsIs (Cd.bin a t u) (decide (Cd.bin a t u≠0)) w):=by
  have hk0:0 < K.size:=by omega
  unfold Cd.insV
  simp only
  obtain ⟨Y1,hY1⟩:∃ Y,w.alloc (.cells #[.int .i64 (m:Int),.int .i64 a,.int .i64 n,.string text] 54)=Y:=⟨_,rfl⟩
  have hb1:Below w.heap.size w Y1:=by rw [← hY1];exact Cd.b1 w _
  have hs1:Y1.heap.size=w.heap.size+1:=by rw [← hY1];exact World.size_alloc _ _
  have p1_0:Y1.heap[w.heap.size]? = some (.cells #[.int .i64 (m:Int),.int .i64 a,.int .i64 n,.string text] 54):=by rw [← hY1];exact Cd.new_at w _
  have c0_0:Y1.cell? ⟨w.heap.size,0,none⟩=some (.int .i64 (m:Int)):=by rw [Lib.cell_of_heap p1_0];rfl
  have c0_1:Y1.cell? ⟨w.heap.size,1,none⟩=some (.int .i64 a):=by rw [Lib.cell_of_heap p1_0];rfl
  have tp:Y1.cell? ⟨7,m * 5+3,none⟩=some (.int .i64 P):=by rw [← eP];exact (hb1.cell (p:=⟨_,_,none⟩) hT.lt).trans (hT.puts m h1 h16)
  have hmI:(m:Int) < 17:=by omega
  clear p1_0 eP
  obtain ⟨y,hy⟩:∃ y,K[0]=y:=⟨_,rfl⟩
  rw [hy] at ht
  have hyb:y.toNat < 256:=y.toNat_lt
  have hy1:IntKind.i64.wrap ((y.toNat:Nat):Int)=t:=by rw [ht,IntKind.wrap_i64];omega
  have hy2:wrap64 ((y.toNat:Nat):Int)=t:=by rw [ht];exact IntWalk.wrap64_in _ (by omega)
  obtain ⟨z,hz⟩:∃ y,K[1]=y:=⟨_,rfl⟩
  rw [hz] at hu
  have hzb:z.toNat < 256:=z.toNat_lt
  have hz1:IntKind.i64.wrap ((z.toNat:Nat):Int)=u:=by rw [hu,IntKind.wrap_i64];omega
  have hz2:wrap64 ((z.toNat:Nat):Int)=u:=by rw [hu];exact IntWalk.wrap64_in _ (by omega)
  have hkI:(0:Int) < (K.size:Int):=by omega
  have hkI1:(1:Int) < (K.size:Int):=by omega
  obtain ⟨U,HU⟩:∃ U,Hid (Cd.bin a t u=U):=⟨_,(rfl:Cd.bin a t u=_)⟩
  have HC:Hid (∀ W,Calls Tryz.prog 126 #[.int .i64 a,.int .i64 t,.int .i64 u] W fun e w'=>e = .returned (.int .i64 U)∧W=w'):=fun W=>by rw [← HU.out];exact Cd.typeBin_any a t u ha1 ha3 htb W
  rw [HU.out]
  have HA:Hid ((U != 0)=decide (U≠0)):=by rw [Hid];by_cases e:U=0 <;> simp [e]
  clear hT ht hu
  subst hP
  go_enter Tryz.func113,Tryz.ntmps113
  go_wp2_with fail
  go_quiet (first | (go_at_call 126;refine Cd.quiet (HC.out _)))
  go_wp2_with fail
  go_ret2
  exact Cd.putsIs ⟨rfl,Cd.belowD _ hb1⟩ rfl HA.out
end Go.Proofs.YtbkhedpabfanoaaGreatDoor
namespace Go.Proofs.YtbkhedpabfanoaaGreatDoor
open Go.RowKit

theorem Cd.bs_get {l:List Int} (hl:∀ t ∈ l,0≤t∧t≤10) (k:Nat) (hk:k < l.length) (hk':k < (Cd.bs l).size):l[k]=(((Cd.bs l)[k]).toNat:Int):=by
  have h:=hl _ (List.getElem_mem hk)
  have e:(Cd.bs l)[k]=UInt8.ofNat l[k].toNat:=by
    show (Cd.bs l).data[k]=_
    simp [Cd.bs]
  rw [e]
  have:(UInt8.ofNat l[k].toNat).toNat=l[k].toNat:=by
    rw [UInt8.toNat_ofNat'];omega
  rw [this];omega
theorem Cd.puts_any (c:List Cd.Fn) (hcl:c.length≤60) (f:Cd.Fn) (i:Cd.Ins) (hok:Cd.insOk c f i=true) (s tk:List Int) (hs:∀ t ∈ s,0≤t∧t≤10) (hsl:s.length=f.slots.toNat) (hs2:s.length≤200) (htk:∀ t ∈ tk,1≤t∧t≤10) (htl:tk.length=(Cd.ents c f i).length) (ca:Option Addr) (cc:Nat) (pv iv lv wv:Value) (g:Nat) (w:World) (hT:Cd.InsTab w) (hW:Cd.WordTab w) (hC:Cd.CodeAt w.heap.size w (.slice ca c.length cc) c) (hTr:Cd.TrAt g w (.slice ca c.length cc) f pv iv lv wv) :
    Calls Tryz.prog 113 #[.pointer (some ⟨g,0,none⟩),Cd.insV i,.string (Cd.bs s),.string (Cd.bs tk)] w (Cd.PutsIs (Cd.putT c i s tk).1 (Cd.putT c i s tk).2 w):=by
  obtain ⟨g1,g16⟩:=Cd.insOk_in hok
  obtain ⟨-,-,a2,a5,a6,a8,a9,-,-⟩:=Cd.insA hok
  obtain ⟨op,a,n,text⟩:=i
  simp only at g1 g16 a2 a5 a6 a8 a9
  obtain ⟨m,rfl⟩:∃ m:Nat,op=(m:Int):=⟨op.toNat,by omega⟩
  have htk0:∀ t ∈ tk,0≤t∧t≤10:=fun t ht=>by have:=htk t ht;omega
  by_cases m8:m=8
  · obtain ⟨q,rfl⟩:∃ q:Nat,a=(q:Int):=⟨a.toNat,by have:=a8 (by omega);omega⟩
    have hq:=a8 (by omega)
    have he:Cd.putT c ⟨(m:Int),(q:Int),n,text⟩ s tk=(Cd.makes (q:Int),decide (Cd.makes (q:Int)≠0)):=by rw [m8];simp [Cd.putT]
    rw [he]
    exact Cd.puts20 m (by omega) (by omega) 20 (by rw [m8];rfl) rfl q (by omega) (by omega) n text _ _ g w hT hW
  · by_cases m9:m=9
    · obtain ⟨q,rfl⟩:∃ q:Nat,a=(q:Int):=⟨a.toNat,by have:=a9 (by omega);omega⟩
      have hq:=a9 (by omega)
      have hql:q < c.length:=by omega
      have he:Cd.putT c ⟨(m:Int),(q:Int),n,text⟩ s tk=(c[q].result,true):=by
        rw [m9]
        have:c[q]?.getD Cd.noFn=c[q]:=by rw [List.getElem?_eq_getElem hql];rfl
        simp [Cd.putT,this]
      rw [he]
      exact Cd.puts21 m (by omega) (by omega) 21 (by rw [m9];rfl) rfl c q hql hcl n text _ _ ca cc f pv iv lv wv g w hT hC hTr
    · by_cases m2:m=2
      · obtain ⟨q,rfl⟩:∃ q:Nat,a=(q:Int):=⟨a.toNat,by have:=a2 (by omega);omega⟩
        have hq:=a2 (by omega)
        have hql:q < s.length:=by omega
        have he:Cd.putT c ⟨(m:Int),(q:Int),n,text⟩ s tk=(s[q],decide (s[q]≠0)):=by
          rw [m2]
          have:s[q]?.getD 0=s[q]:=by rw [List.getElem?_eq_getElem hql];rfl
          simp [Cd.putT,this]
        rw [he]
        have hb:q < (Cd.bs s).size:=by rw [Cd.bs_size];exact hql
        exact Cd.puts17 m (by omega) (by omega) 17 (by rw [m2];rfl) rfl q n text _ _ hb (by rw [Cd.bs_size];omega) s[q] (Cd.bs_get hs q hql hb) g w hT
      · by_cases m5:m=5
        · have ha:=a5 (by omega)
          have hl1:tk.length=1:=by rw [htl,m5];simp [Cd.ents]
          have hb:0 < (Cd.bs tk).size:=by rw [Cd.bs_size];omega
          have h0:0 < tk.length:=by omega
          clear htl
          have he:Cd.putT c ⟨(m:Int),a,n,text⟩ s tk=(Cd.un a tk[0],decide (Cd.un a tk[0]≠0)):=by
            rw [m5]
            have:tk[0]?.getD 0=tk[0]:=by rw [List.getElem?_eq_getElem (by omega)];rfl
            simp [Cd.putT,this]
          rw [he]
          exact Cd.puts18 m (by omega) (by omega) 18 (by rw [m5];rfl) rfl a n ha.1 ha.2 text _ _ hb (by rw [Cd.bs_size];omega) tk[0] (Cd.bs_get htk0 0 (by omega) hb) g w hT
        · by_cases m6:m=6
          · have ha:=a6 (by omega)
            have hl2:tk.length=2:=by rw [htl,m6];simp [Cd.ents]
            have hb0:0 < (Cd.bs tk).size:=by rw [Cd.bs_size];omega
            have h0:0 < tk.length:=by omega
            have h1:1 < tk.length:=by omega
            clear htl
            have hb1:1 < (Cd.bs tk).size:=by rw [Cd.bs_size];omega
            have he:Cd.putT c ⟨(m:Int),a,n,text⟩ s tk=(Cd.bin a tk[0] tk[1],decide (Cd.bin a tk[0] tk[1]≠0)):=by
              rw [m6]
              have e0:tk[0]?.getD 0=tk[0]:=by rw [List.getElem?_eq_getElem (by omega)];rfl
              have e1:tk[1]?.getD 0=tk[1]:=by rw [List.getElem?_eq_getElem (by omega)];rfl
              simp [Cd.putT,e0,e1]
            rw [he]
            exact Cd.puts19 m (by omega) (by omega) 19 (by rw [m6];rfl) rfl a n ha.1 ha.2 text _ _ hb1 (by rw [Cd.bs_size];omega) tk[0] tk[1] (Cd.bs_get htk0 0 (by omega) hb0) (Cd.bs_get htk0 1 (by omega) hb1) (htk _ (List.getElem_mem _)) g w hT
          · by_cases m1:m=1∨m=7
            · have he:Cd.putT c ⟨(m:Int),a,n,text⟩ s tk=(a,decide (a≠0)):=by
                rcases m1 with h | h <;> (rw [h];simp [Cd.putT])
              rw [he]
              exact Cd.puts16 m (by omega) (by omega) 16 (by rcases m1 with h | h <;> (rw [h];rfl)) rfl a n text _ _ g w hT
            · have hc:m=3∨m=4∨m=10∨m=11∨m=12∨m=13∨m=14∨m=15∨m=16:=by omega
              have he:Cd.putT c ⟨(m:Int),a,n,text⟩ s tk=(0,true):=by
                rcases hc with h | h | h | h | h | h | h | h | h <;> (rw [h];simp [Cd.putT])
              rw [he]
              exact Cd.puts0 m (by omega) (by omega) 0 (by rcases hc with h | h | h | h | h | h | h | h | h <;> (rw [h];rfl)) rfl a n text _ _ g w hT
end Go.Proofs.YtbkhedpabfanoaaGreatDoor
namespace Go.Proofs.YtbkhedpabfanoaaGreatDoor
open Go.RowKit

def Cd.st : Cd.Sh→Int
  | .none=>0
  | .known _ _=>1
  | .clash=>2
def Cd.sb : Cd.Sh→ByteArray
  | .known s _=>Cd.bs s
  | _=>⟨#[]⟩
def Cd.kb : Cd.Sh→ByteArray
  | .known _ k=>Cd.bs k
  | _=>⟨#[]⟩
theorem Cd.lay_is (sh:Cd.Sh):Cd.lay sh = .agg #[.int .i64 (Cd.st sh),.string (Cd.sb sh),.string (Cd.kb sh)]:=by cases sh <;> rfl
structure Cd.LaysAt (g:Nat) (w:World) (X:List Cd.Sh):Prop where
  blk:∃ cs:Array Value,w.heap[g]? = some (.cells cs 168 (0,0))∧cs.size=X.length * 3∧∀ u (hu:u < X.length),cs[u * 3]? = some (.int .i64 (Cd.st X[u]))∧cs[u * 3+1]? = some (.string (Cd.sb X[u]))∧cs[u * 3+2]? = some (.string (Cd.kb X[u]))
theorem Cd.LaysAt.lt {g:Nat} {w:World} {X:List Cd.Sh} (h:Cd.LaysAt g w X):g < w.heap.size:=by
  obtain ⟨cs,h,_⟩:=h.blk
  exact (Array.getElem?_eq_some_iff.1 h).1
theorem Cd.LaysAt.below {g:Nat} {w w':World} {X:List Cd.Sh} (h:Cd.LaysAt g w X) (hb:Below w.heap.size w w'):Cd.LaysAt g w' X:=by
  have hl:=h.lt
  obtain ⟨cs,h1,h2⟩:=h.blk
  exact ⟨cs,(hb.block g hl).trans h1,h2⟩
theorem Cd.LaysAt.cells {g:Nat} {w:World} {X:List Cd.Sh} (h:Cd.LaysAt g w X) (u:Nat) (hu:u < X.length):w.cell? ⟨g,u * 3,none⟩=some (.int .i64 (Cd.st X[u]))∧w.cell? ⟨g,u * 3+1,none⟩=some (.string (Cd.sb X[u]))∧w.cell? ⟨g,u * 3+2,none⟩=some (.string (Cd.kb X[u])):=by
  obtain ⟨cs,h1,_,h2⟩:=h.blk
  obtain ⟨a,b,c⟩:=h2 u hu
  exact ⟨(Lib.cell_of_heap h1 _).trans a,(Lib.cell_of_heap h1 _).trans b,(Lib.cell_of_heap h1 _).trans c⟩
theorem Cd.LaysAt.froz {g:Nat} {w:World} {X:List Cd.Sh} (h:Cd.LaysAt g w X) (j:Nat):w.frozen? ⟨g,j,none⟩=false:=by
  obtain ⟨cs,h1,_⟩:=h.blk
  simp [World.frozen?,h1]
theorem Cd.three_new (w:World) (o0 o1 o2:Obj):((((w.alloc o0).alloc o1).alloc o2).drew).heap[w.heap.size]? = some o0∧((((w.alloc o0).alloc o1).alloc o2).drew).heap[w.heap.size+1]? = some o1∧((((w.alloc o0).alloc o1).alloc o2).drew).heap[w.heap.size+1+1]? = some o2∧((((w.alloc o0).alloc o1).alloc o2).drew).heap.size=w.heap.size+3∧Below w.heap.size w ((((w.alloc o0).alloc o1).alloc o2).drew):=by
  have s1:(w.alloc o0).heap.size=w.heap.size+1:=World.size_alloc ..
  have s2:((w.alloc o0).alloc o1).heap.size=w.heap.size+1+1:=by rw [World.size_alloc,s1]
  refine ⟨?_, ?_, ?_, ?_, ?_⟩
  · exact Cd.keepH o2 (Cd.keepH o1 (Cd.new_at w o0))
  · have h:=Cd.new_at (w.alloc o0) o1
    rw [s1] at h
    exact Cd.keepH o2 h
  · have h:=Cd.new_at ((w.alloc o0).alloc o1) o2
    rw [s2] at h
    exact h
  · show (((w.alloc o0).alloc o1).alloc o2).heap.size=_
    rw [World.size_alloc,s2]
  · exact (Cd.b3 w o0 o1 o2).drew
theorem Cd.InsAt.cells {B:Nat} {w:World} {a:Option Addr} {n cap:Nat} {l:List Cd.Ins} (h:Cd.InsAt B w (.slice a n cap) l) (i:Nat) (hi:i < l.length):∃ g,a=some ⟨g,0,none⟩∧g < B∧w.cell? ⟨g,i * 4,none⟩=some (.int .i64 l[i].op)∧w.cell? ⟨g,i * 4+1,none⟩=some (.int .i64 l[i].a)∧w.cell? ⟨g,i * 4+2,none⟩=some (.int .i64 l[i].n)∧w.cell? ⟨g,i * 4+3,none⟩=some (.string l[i].text):=by
  obtain ⟨a',cp,e,hc⟩:=h
  injection e with e1
  subst e1
  obtain ⟨g,h1,h2,h3⟩:=hc i hi
  exact ⟨g,h1,h2,h3 0 (by omega),h3 1 (by omega),h3 2 (by omega),h3 3 (by omega)⟩
end Go.Proofs.YtbkhedpabfanoaaGreatDoor
