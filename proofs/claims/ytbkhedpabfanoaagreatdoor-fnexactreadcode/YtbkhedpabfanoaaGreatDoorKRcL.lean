import Derived.Test.YtbkhedpabfanoaaGreatDoorKShC
import Derived.Test.YtbkhedpabfanoaaGreatDoorKRcP
import Derived.Test.YtbkhedpabfanoaaGreatDoorKRcG
import Derived.Test.YtbkhedpabfanoaaGreatDoorKCgB
namespace Go.Proofs.YtbkhedpabfanoaaGreatDoor
open Go.RowKit

def Rc.Say (s:ByteArray) (b:Bool) (c:List Cd.Fn):Prop:=(b=true∧Rc.Is s c)∨(b=false∧c=[]∧∀ d,¬ Rc.Is s d)
theorem Rc.Say.one {s:ByteArray} {b b':Bool} {c c':List Cd.Fn} (h:Rc.Say s b c) (k:Rc.Say s b' c'):b=b'∧c=c':=by
  rcases h with ⟨rfl,h⟩ | ⟨rfl,rfl,h⟩ <;> rcases k with ⟨rfl,k⟩ | ⟨rfl,rfl,k⟩
  · exact ⟨rfl,h.one k⟩
  · exact absurd h (k _)
  · exact absurd k (h _)
  · exact ⟨rfl,rfl⟩
theorem Rc.Say.fit {s:ByteArray} {b:Bool} {c:List Cd.Fn} (h:Rc.Say s b c):Rc.fit c:=by
  rcases h with ⟨-,h⟩ | ⟨-,rfl,-⟩
  · exact h.fit
  · exact ⟨by simp,fun f hf=>by simp at hf⟩
theorem Rc.Say.small {s:ByteArray} {b:Bool} {E:List Rc.En} (h:Rc.Say s b (Rc.fs E)):Rc.small E:=by
  have hf:=h.fit
  refine ⟨by have:=hf.1;rw [Rc.fs_len] at this;exact this,fun e he => ?_⟩
  have:=hf.2 e.f (List.mem_map.2 ⟨e,he,rfl⟩)
  exact ⟨this.2.1,this.2.2.2.2.2.1⟩
theorem Rc.said {s:ByteArray} {w:World} {e:Ending} {w':World} (h:Rc.ReadPost s w e w'):∃ E a cap b,e = .returned (.tuple #[.agg #[.slice a E.length cap],.bool b])∧Rc.Own w.heap.size w' (.slice a E.length cap) E∧Rc.Say s b (Rc.fs E)∧Below w.heap.size w w':=by
  obtain ⟨⟨E,a,cap,rfl,ho,hi⟩ | ⟨rfl,hno⟩,hb⟩:=h
  · exact ⟨E,a,cap,true,rfl,ho,.inl ⟨rfl,hi⟩,hb⟩
  · exact ⟨[],none,0,false,rfl,Rc.Own.nil _ _,.inr ⟨rfl,rfl,hno⟩,hb⟩
theorem Rc.code_n {U:World} {a:Option Addr} {cap n:Nat} {E:List Rc.En} {A:Nat} (h:Rc.Own A U (.slice a E.length cap) E) (hn:E.length=n):Cd.CodeAt U.heap.size U (.slice a n cap) (Rc.fs E):=by rw [← hn];exact h.code
set_option maxRecDepth 100000 in
set_option maxHeartbeats 4000000 in
theorem Rc.law_any (s:ByteArray) (w:World) (hT:Rc.Tb w) :
    Calls Tryz.prog 3 #[.string s] w fun e w'=>e = .returned (.bool true)∧Below w.heap.size w w':=by
  by_cases hl:1048576 < s.size
  · have hlI:(1048576:Int) < (s.size:Int):=by omega
    go_enter Tryz.func3,Tryz.ntmps3
    go_wp2_with fail
    go_ret
    exact ⟨rfl,Below.refl _ _⟩
  have hlI:¬ (1048576:Int) < (s.size:Int):=by omega
  have hs:s.size≤1048576:=by omega
  have HIM:Hid (∀ U,Below w.heap.size w U→Calls Tryz.prog 5 #[.string s] U (Rc.ReadPost s U)):=fun U hU=>Rc.implRead_any s U hs (hT.below hU)
  clear hT
  go_enter Tryz.func3,Tryz.ntmps3
  go_wp2_with fail
  refine (Rc.specRead_any s w hs).mono ?_
  intro e w1 hpost
  obtain ⟨E0,a0,c0,b,rfl,ho0,hsay0,hb1⟩:=Rc.said hpost
  obtain ⟨n,HN0⟩:∃ n,Hid (E0.length=n):=⟨_,(rfl:E0.length=_)⟩
  have HC0:Hid (∀ U,Below w1.heap.size w1 U→Cd.CodeAt U.heap.size U (.slice a0 n c0) (Rc.fs E0)):=fun U hU=>Cd.CodeAt.mono ((Rc.code_n ho0 HN0.out).below hU) hU.size
  have HSAY:Hid (Rc.Say s b (Rc.fs E0)):=hsay0
  have HFL:Hid ((Rc.fs E0).length=n):=by rw [Hid,Rc.fs_len];exact HN0.out
  have HEQ:Hid (∀ U a a' cap cap',Cd.CodeAt U.heap.size U (.slice a n cap) (Rc.fs E0)→Cd.CodeAt U.heap.size U (.slice a' n cap') (Rc.fs E0)→Calls Tryz.prog 6 #[.agg #[.slice a n cap],.agg #[.slice a' n cap']] U fun e w'=>e = .returned (.bool true)∧Below U.heap.size U w'):=fun U a a' cap cap' h h'=>by
    have hf:=hsay0.fit
    have:=Cd.eqCode_same (Rc.fs E0) U.heap.size a a' cap cap' U (Nat.le_refl _) (by rw [HFL.out];exact h) (by rw [HFL.out];exact h') (by have:=hf.1;omega) (fun k hk=>by
      obtain ⟨_,h1,_,_,_,h2,_⟩:=hf.2 _ (List.getElem_mem hk)
      exact ⟨by omega,by omega⟩)
    rw [HFL.out] at this
    exact this
  rw [HN0.out]
  clear ho0 hsay0 hpost
  go_wp2_with fail
  obtain ⟨V1,hV1⟩:∃ V,w1.alloc (.cells #[.slice a0 n c0] 24)=V:=⟨_,rfl⟩
  have hbV1:Below w1.heap.size w1 V1:=by rw [← hV1];exact Wc.b1 w1 _
  have HX0:Hid (V1.heap[w1.heap.size]? = some (.cells #[.slice a0 n c0] 24)):=by rw [Hid,← hV1];exact (MapKept.heap_alloc w1 _).1
  obtain ⟨X0,HXX⟩:∃ X,Hid (w1.heap.size=X):=⟨_,(rfl:w1.heap.size=_)⟩
  have hwV1:Below w.heap.size w V1:=hb1.trans (hbV1.mono hb1.size)
  have hsX:X0 < V1.heap.size:=by rw [← HXX.out];exact (Array.getElem?_eq_some_iff.1 HX0.out).1
  rw [HXX.out] at HX0 ⊢
  rw [hV1]
  clear hV1
  refine (HIM.out V1 hwV1).mono ?_
  intro e w2 hpost
  obtain ⟨E1,a1,c1,b',rfl,ho1,hsay1,hb2⟩:=Rc.said hpost
  obtain ⟨rfl,hfs⟩:=HSAY.out.one hsay1
  have hn1:E1.length=n:=by rw [← Rc.fs_len,← hfs];exact HFL.out
  have HSM:Hid (Rc.small E1):=hsay1.small
  rw [hn1] at ho1 ⊢
  have HO1:Hid (Rc.Own V1.heap.size w2 (.slice a1 n c1) E1):=ho1
  have HC1:Hid (∀ U,Below w2.heap.size w2 U→Cd.CodeAt U.heap.size U (.slice a1 n c1) (Rc.fs E0)):=fun U hU=>by
    have h:=Rc.code_n (by rw [hn1];exact ho1) hn1
    rw [← hfs] at h
    exact Cd.CodeAt.mono (h.below hU) hU.size
  have HMK:Hid (∀ U,Rc.Own V1.heap.size U (.slice a1 n c1) E1→Calls Tryz.prog 7 #[.agg #[.slice a1 n c1],.int .i64 1] U fun e w'=>e = .returned (.int .i64 (Rc.tot 1 E1))∧Rc.Own V1.heap.size w' (.slice a1 n c1) (Rc.mks 1 E1)∧Rc.Fr (Rc.Rows (.slice a1 n c1) E1) U w'):=fun U h=>by
    have:=Rc.markCode_any V1.heap.size E1 a1 c1 HSM.out U (by rw [hn1];exact h)
    rw [hn1] at this
    exact this
  have HHD:Hid (∀ U,Rc.Own V1.heap.size U (.slice a1 n c1) (Rc.mks 1 E1)→Calls Tryz.prog 8 #[.agg #[.slice a1 n c1],.int .i64 1] U fun e w'=>e = .returned (.int .i64 (Rc.tot 1 E1))∧Below U.heap.size U w'):=fun U h=>by
    have:=Rc.heldCode_any V1.heap.size E1 a1 c1 HSM.out U (by rw [hn1];exact h)
    rw [hn1] at this
    exact this
  obtain ⟨K,HK⟩:∃ K,Hid (Rc.tot 1 E1=K):=⟨_,(rfl:_=_)⟩
  have hK:1≤K:=by rw [← HK.out];exact (Rc.tot_bd E1 1 HSM.out.2).1
  rw [HK.out] at HMK HHD
  clear ho1 hpost hsay1 hfs hn1
  have hX2:=(hb2.block X0 hsX).trans HX0.out
  have x0:w2.cell? ⟨X0,0,none⟩=some (.slice a0 n c0):=(Rc.cell1 hX2).1
  have hX2l:=(Array.getElem?_eq_some_iff.1 hX2).1
  have x0':(w2.alloc (.cells #[.slice a1 n c1] 24)).cell? ⟨X0,0,none⟩=some (.slice a0 n c0):=by rw [World.cell?_alloc_lt _ _ ⟨X0,0,none⟩ hX2l];exact x0
  go_wp2_with fail
  obtain ⟨V2,hV2⟩:∃ V,w2.alloc (.cells #[.slice a1 n c1] 24)=V:=⟨_,rfl⟩
  have hbV2:Below w2.heap.size w2 V2:=by rw [← hV2];exact Wc.b1 w2 _
  obtain ⟨X1,HX1⟩:∃ X,Hid (w2.heap.size=X):=⟨_,(rfl:w2.heap.size=_)⟩
  have HXB:Hid (V2.heap[X1]? = some (.cells #[.slice a1 n c1] 24)):=by rw [Hid,← hV2,← HX1.out];exact (MapKept.heap_alloc w2 _).1
  have HXA:Hid (V2.heap[X0]? = some (.cells #[.slice a0 n c0] 24)):=(hbV2.block X0 hX2l).trans hX2
  have hw2:Below w1.heap.size w1 V2:=(hbV1.trans (hb2.mono hbV1.size)).trans (hbV2.mono (Nat.le_trans hbV1.size hb2.size))
  have hzV:V1.heap.size≤w2.heap.size:=hb2.size
  rw [hV2]
  simp only [HX1.out]
  clear hV2 x0 x0' hX2
  refine (HEQ.out V2 a1 a0 c1 c0 (HC1.out V2 hbV2) (HC0.out V2 hw2)).mono ?_
  rintro e w3 ⟨rfl,hb3⟩
  have hw3:Below w1.heap.size w1 w3:=hw2.trans (hb3.mono hw2.size)
  have HO3:Hid (Rc.Own V1.heap.size w3 (.slice a1 n c1) E1):=(HO1.out.below hbV2).below hb3
  have h3B:=(hb3.block X1 (Array.getElem?_eq_some_iff.1 HXB.out).1).trans HXB.out
  have h3A:=(hb3.block X0 (Array.getElem?_eq_some_iff.1 HXA.out).1).trans HXA.out
  have y1:=(Rc.cell1 h3B).1
  clear hb3
  go_wp2_with fail
  refine (HMK.out w3 HO3.out).mono ?_
  rintro e w4 ⟨rfl,ho4,hf4⟩
  have hrows:∀ j,Rc.Rows (.slice a1 n c1) E1 j→V1.heap.size≤j∧j < w2.heap.size:=fun j hj=>HO1.out.rows hj
  have h4B:=(hf4.keep X1 (Array.getElem?_eq_some_iff.1 h3B).1 (fun h=>by have:=(hrows _ h).2;have:=HX1.out;omega)).trans h3B
  have h4A:=(hf4.keep X0 (Array.getElem?_eq_some_iff.1 h3A).1 (fun h=>by have:=(hrows _ h).1;omega)).trans h3A
  have hw4:Below w1.heap.size w1 w4:=hw3.trans (hf4.below hw3.size (fun k hk h=>by have:=(hrows _ h).1;have:=hbV1.size;omega))
  have HO4:Hid (Rc.Own V1.heap.size w4 (.slice a1 n c1) (Rc.mks 1 E1)):=ho4
  have y4:=(Rc.cell1 h4B).1
  clear ho4 hf4 y1 h3A h3B HO3 hrows
  go_wp2_with fail
  refine (HHD.out w4 HO4.out).mono ?_
  rintro e w5 ⟨rfl,hb5⟩
  have hw5:Below w1.heap.size w1 w5:=hw4.trans (hb5.mono hw4.size)
  have HO5:Hid (Rc.Own V1.heap.size w5 (.slice a1 n c1) (Rc.mks 1 E1)):=HO4.out.below hb5
  have h5B:=(hb5.block X1 (Array.getElem?_eq_some_iff.1 h4B).1).trans h4B
  have h5A:=(hb5.block X0 (Array.getElem?_eq_some_iff.1 h4A).1).trans h4A
  have hKn:¬ K < 0:=by omega
  have hKe:(K != K)=false:=by simp
  clear hb5 y4 h4A h4B HO4
  go_wp2_with fail
  refine (HIM.out w5 (hb1.trans (hw5.mono hb1.size))).mono ?_
  intro e w6 hpost
  obtain ⟨E2,a2,c2,b',rfl,ho2,hsay2,hb6⟩:=Rc.said hpost
  obtain ⟨rfl,hfs⟩:=HSAY.out.one hsay2
  have hn2:E2.length=n:=by rw [← Rc.fs_len,← hfs];exact HFL.out
  rw [hn2] at ho2 ⊢
  have HC2:Hid (∀ U,Below w6.heap.size w6 U→Cd.CodeAt U.heap.size U (.slice a2 n c2) (Rc.fs E0)):=fun U hU=>by
    have h:=Rc.code_n (by rw [hn2];exact ho2) hn2
    rw [← hfs] at h
    exact Cd.CodeAt.mono (h.below hU) hU.size
  have hw6:Below w1.heap.size w1 w6:=hw5.trans (hb6.mono hw5.size)
  have HO6:Hid (Rc.Own V1.heap.size w6 (.slice a1 n c1) (Rc.mks 1 E1)):=HO5.out.below hb6
  have h6B:=(hb6.block X1 (Array.getElem?_eq_some_iff.1 h5B).1).trans h5B
  have h6A:=(hb6.block X0 (Array.getElem?_eq_some_iff.1 h5A).1).trans h5A
  have x0:=(Rc.cell1 h6A).1
  have x0':(w6.alloc (.cells #[.slice a2 n c2] 24)).cell? ⟨X0,0,none⟩=some (.slice a0 n c0):=by rw [World.cell?_alloc_lt _ _ ⟨X0,0,none⟩ (Array.getElem?_eq_some_iff.1 h6A).1];exact x0
  clear ho2 hpost hsay2 hfs hn2 hb6 h5A h5B HO5
  go_wp2_with fail
  obtain ⟨V6,hV6⟩:∃ V,w6.alloc (.cells #[.slice a2 n c2] 24)=V:=⟨_,rfl⟩
  have hbV6:Below w6.heap.size w6 V6:=by rw [← hV6];exact Wc.b1 w6 _
  have hw6V:Below w1.heap.size w1 V6:=hw6.trans (hbV6.mono hw6.size)
  rw [hV6]
  clear hV6 x0 x0'
  refine (HEQ.out V6 a2 a0 c2 c0 (HC2.out V6 hbV6) (HC0.out V6 hw6V)).mono ?_
  rintro e w7 ⟨rfl,hb7⟩
  have hw7:Below w1.heap.size w1 w7:=hw6V.trans (hb7.mono hw6V.size)
  have HO7:Hid (Rc.Own V1.heap.size w7 (.slice a1 n c1) (Rc.mks 1 E1)):=(HO6.out.below hbV6).below hb7
  have hVB:=(hbV6.block X1 (Array.getElem?_eq_some_iff.1 h6B).1).trans h6B
  have h7B:=(hb7.block X1 (Array.getElem?_eq_some_iff.1 hVB).1).trans hVB
  have y7:=(Rc.cell1 h7B).1
  clear hb7 hVB h6A h6B HO6
  go_wp2_with fail
  refine (HHD.out w7 HO7.out).mono ?_
  rintro e w8 ⟨rfl,hb8⟩
  have hw8:Below w1.heap.size w1 w8:=hw7.trans (hb8.mono hw7.size)
  go_wp2_with fail
  go_ret
  exact ⟨rfl,hb1.trans (hw8.mono hb1.size)⟩
end Go.Proofs.YtbkhedpabfanoaaGreatDoor
