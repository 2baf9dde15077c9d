import Derived.Test.YtbkhedpabfanoaaGreatDoorKRcA
namespace Go.Proofs.YtbkhedpabfanoaaGreatDoor
open Go.RowKit

def Rc.insIn (i:Cd.Ins):Prop:=(0≤i.op∧i.op≤16)∧(0≤i.a∧i.a≤50000)∧(-9223372036854775808≤i.n∧i.n≤9223372036854775807)∧i.text.size≤3000
def Rc.InsPost (g:Nat) (s:ByteArray) (p:Nat) (bad:Bool) (w:World) (e:Ending) (w':World):Prop :=
  ∃ i p' bad',e = .returned (Cd.insV i)∧Rc.insIn i∧Rc.Dk g s p' bad' w'∧Rc.Rd Wc.ins Rc.insFit s p bad i p' bad'∧Rc.Fr (fun k=>k=g) w w'
theorem Rc.Rd.mk {α:Type} {enc:α→List UInt8} {fit:α→Prop} {s:ByteArray} {p:Nat} {bad:Bool} {x:α} {p':Nat} {bad':Bool} (h1:p≤p') (h2:p'≤s.size) (h:∀ y r,fit y→bad=false→s.data.toList.drop p=enc y++r→x=y∧bad'=false∧s.data.toList.drop p'=r):Rc.Rd enc fit s p bad x p' bad' :=
  ⟨⟨h1,h2⟩,fun y r h3 h4 h5=>by
    obtain ⟨e1,e2,e3⟩:=h y r h3 h4 h5
    refine ⟨e1,e2, ?_,e3⟩
    have l1:=congrArg List.length h5
    have l2:=congrArg List.length e3
    simp only [List.length_drop,List.length_append,Rc.ba_len] at l1 l2
    omega⟩
theorem Rc.u_small {n:Nat} {x:Int} (h0:0≤x) (h1:x≤1000000) (h:n=Wc.u x):(n:Int)=x:=by unfold Wc.u at h;omega
theorem Rc.u_le {x:Int} {m:Nat} (h0:0≤x) (h1:x≤(m:Int)) (hm:m≤1000000):Wc.u x≤m:=by unfold Wc.u;omega
theorem Rc.cells4 {w:World} {g:Nat} {a b c d:Value} {t:TypeId} (h:w.heap[g]? = some (.cells #[a,b,c,d] t)):(w.cell? ⟨g,0,none⟩=some a∧w.cell? ⟨g,1,none⟩=some b∧w.cell? ⟨g,2,none⟩=some c∧w.cell? ⟨g,3,none⟩=some d)∧(w.frozen? ⟨g,0,none⟩=false∧w.frozen? ⟨g,1,none⟩=false∧w.frozen? ⟨g,2,none⟩=false∧w.frozen? ⟨g,3,none⟩=false):=by
  refine ⟨⟨?_, ?_, ?_, ?_⟩, ?_, ?_, ?_, ?_⟩
  · rw [Lib.cell_of_heap h];rfl
  · rw [Lib.cell_of_heap h];rfl
  · rw [Lib.cell_of_heap h];rfl
  · rw [Lib.cell_of_heap h];rfl
  all_goals simp [World.frozen?,h]
theorem Rc.set_same {w:World} {g i:Nat} {arr:Array Value} {t:TypeId} {v:Value} (h:w.heap[g]? = some (.cells arr t)):(w.setCell ⟨g,i,none⟩ v).heap[g]? = some (.cells (arr.setIfInBounds i v) t):=by
  simp [World.setCell,Array.getElem?_modify,h]
theorem Rc.set_oth {w:World} {g i k:Nat} {v:Value} (h:k≠g):(w.setCell ⟨g,i,none⟩ v).heap[k]? = w.heap[k]?:=Below.heap_setCell _ _ _ _ h
theorem Rc.ins_head {s:ByteArray} {p:Nat} {y:Cd.Ins} {r:List UInt8} (h:s.data.toList.drop p=Wc.ins y++r):s.data.toList.drop p=Wc.num (Wc.u y.op)++(Wc.opt y++(Wc.lit y++r)):=by
  rw [h,Wc.ins,List.append_assoc,List.append_assoc]
theorem Rc.ins_noA {y:Cd.Ins} (h:Rc.insFit y) (hA:Cd.hasA y.op=false):Wc.opt y=[]∧Wc.lit y=[]∧(⟨y.op,0,0,⟨#[]⟩⟩:Cd.Ins)=y:=by
  obtain ⟨o,a,n,t⟩:=y
  obtain ⟨-,-,-,-,a5,a6,-,-⟩:=h
  simp only at a5 a6 hA
  have ho:¬ o=1:=fun e=>by rw [e] at hA;exact absurd hA (by decide)
  refine ⟨by simp [Wc.opt,hA],by simp [Wc.lit,ho], ?_⟩
  rw [a5 hA,(a6 ho).1,(a6 ho).2]
theorem Rc.ins_A {y:Cd.Ins} (hA:Cd.hasA y.op=true):Wc.opt y=Wc.num (Wc.u y.a):=by simp [Wc.opt,hA]
theorem Rc.ins_oth {y:Cd.Ins} (h:Rc.insFit y) (ho:¬ y.op=1):Wc.lit y=[]∧(⟨y.op,y.a,0,⟨#[]⟩⟩:Cd.Ins)=y:=by
  obtain ⟨o,a,n,t⟩:=y
  obtain ⟨-,-,-,-,-,a6,-,-⟩:=h
  simp only at a6 ho
  refine ⟨by simp [Wc.lit,ho], ?_⟩
  rw [(a6 ho).1,(a6 ho).2]
theorem Rc.ins_txt {y:Cd.Ins} (h:Rc.insFit y) (ho:y.op=1) (ha:y.a=2):Wc.lit y=Wc.txt y.text∧(⟨1,2,0,y.text⟩:Cd.Ins)=y:=by
  obtain ⟨o,a,n,t⟩:=y
  obtain ⟨-,-,-,-,-,-,a7,-⟩:=h
  simp only at a7 ho ha
  refine ⟨by simp [Wc.lit,ho,ha], ?_⟩
  rw [a7 ho ha,ho,ha]
theorem Rc.ins_num {y:Cd.Ins} (h:Rc.insFit y) (ho:y.op=1) (ha:¬ y.a=2):Wc.lit y=Wc.num (Wc.u y.n)∧(⟨1,y.a,y.n,⟨#[]⟩⟩:Cd.Ins)=y:=by
  obtain ⟨o,a,n,t⟩:=y
  obtain ⟨-,-,-,-,-,-,-,a8⟩:=h
  simp only at a8 ho ha
  refine ⟨by simp [Wc.lit,ho,ha], ?_⟩
  rw [a8 ho ha,ho]
structure Rc.InsSt (w:World) (g:Nat) (s:ByteArray) (p:Nat) (bad:Bool) (R X:Nat) (i:Cd.Ins) (U:World):Prop where
  dk:Rc.Dk g s p bad U
  rb:U.heap[R]? = some (.cells #[.int .i64 0,.int .i64 0,.int .i64 0,.string ⟨#[]⟩] 54)
  xb:U.heap[X]? = some (.cells #[.int .i64 i.op,.int .i64 i.a,.int .i64 i.n,.string i.text] 54)
  fr:Rc.Fr (fun k=>k=g) w U
  ne:R≠g∧X≠g∧R≠X∧w.heap.size≤R∧w.heap.size≤X
theorem Rc.Fr.new {S:Nat→Prop} {a b:World} (h:Rc.Fr S a b) (g i:Nat) (v:Value) (hg:a.heap.size≤g):Rc.Fr S a (b.setCell ⟨g,i,none⟩ v) :=
  ⟨h.os,h.tape,h.output,by simpa [World.setCell] using h.size,fun k hk hs=>(Below.heap_setCell _ _ _ _ (by show k≠g;omega)).trans (h.keep k hk hs)⟩
theorem Rc.InsSt.call {w:World} {g:Nat} {s:ByteArray} {p:Nat} {bad:Bool} {R X:Nat} {i:Cd.Ins} {U U':World} (h:Rc.InsSt w g s p bad R X i U) {p':Nat} {bad':Bool} (hd:Rc.Dk g s p' bad' U') (hf:Rc.Fr (fun k=>k=g) U U'):Rc.InsSt w g s p' bad' R X i U' :=
  ⟨hd,(hf.keep R (Array.getElem?_eq_some_iff.1 h.rb).1 h.ne.1).trans h.rb,(hf.keep X (Array.getElem?_eq_some_iff.1 h.xb).1 h.ne.2.1).trans h.xb,h.fr.trans hf,h.ne⟩
theorem Rc.InsSt.set {w:World} {g:Nat} {s:ByteArray} {p:Nat} {bad:Bool} {R X:Nat} {i:Cd.Ins} {U:World} (h:Rc.InsSt w g s p bad R X i U) (j:Nat) (v:Value) (i':Cd.Ins) (e:(#[.int .i64 i.op,.int .i64 i.a,.int .i64 i.n,.string i.text]:Array Value).setIfInBounds j v = #[.int .i64 i'.op,.int .i64 i'.a,.int .i64 i'.n,.string i'.text]):Rc.InsSt w g s p bad R X i' (U.setCell ⟨X,j,none⟩ v) :=
  ⟨h.dk.keep (Rc.set_oth h.ne.2.1.symm),(Rc.set_oth h.ne.2.2.1).trans h.rb,by rw [Rc.set_same h.xb,e],h.fr.new X j v h.ne.2.2.2.2,h.ne⟩
theorem Rc.InsSt.ret {w:World} {g:Nat} {s:ByteArray} {p:Nat} {bad:Bool} {R X:Nat} {i:Cd.Ins} {U:World} (h:Rc.InsSt w g s p bad R X i U) :
    ∃ U4,(((U.setCell ⟨R,0,none⟩ (.int .i64 i.op)).setCell ⟨R,1,none⟩ (.int .i64 i.a)).setCell ⟨R,2,none⟩ (.int .i64 i.n)).setCell ⟨R,3,none⟩ (.string i.text)=U4∧Rc.Dk g s p bad U4∧Rc.Fr (fun k=>k=g) w U4∧U4.cell? ⟨R,0,none⟩=some (.int .i64 i.op)∧U4.cell? ⟨R,1,none⟩=some (.int .i64 i.a)∧U4.cell? ⟨R,2,none⟩=some (.int .i64 i.n)∧U4.cell? ⟨R,3,none⟩=some (.string i.text):=by
  have hb:=Rc.set_same (i:=3) (v:=.string i.text) (Rc.set_same (i:=2) (v:=.int .i64 i.n) (Rc.set_same (i:=1) (v:=.int .i64 i.a) (Rc.set_same (i:=0) (v:=.int .i64 i.op) h.rb)))
  obtain ⟨⟨c0,c1,c2,c3⟩,-⟩:=Rc.cells4 (a:=.int .i64 i.op) (b:=.int .i64 i.a) (c:=.int .i64 i.n) (d:=.string i.text) hb
  have hn:=h.ne.2.2.2.1
  have hg:=h.ne.1.symm
  exact ⟨_,rfl,h.dk.keep ((Rc.set_oth hg).trans ((Rc.set_oth hg).trans ((Rc.set_oth hg).trans (Rc.set_oth hg)))),(((h.fr.new R 0 _ hn).new R 1 _ hn).new R 2 _ hn).new R 3 _ hn,c0,c1,c2,c3⟩
set_option maxRecDepth 100000 in
set_option maxHeartbeats 1000000 in
theorem Rc.ins_any (g:Nat) (s:ByteArray) (p:Nat) (bad:Bool) (hs:s.size≤1048576) (hp:p≤s.size) (w:World) (hD:Rc.Dk g s p bad w) :
    Calls Tryz.prog 19 #[.pointer (some ⟨g,0,none⟩)] w (Rc.InsPost g s p bad w):=by
  have hgw:g < w.heap.size:=hD.lt
  have HS:Hid (∀ (m p:Nat) (bad:Bool) (U:World),m≤1000000→p≤s.size→Rc.Dk g s p bad U→Calls Tryz.prog 9 #[.pointer (some ⟨g,0,none⟩),.int .i64 (m:Int)] U (Rc.SmallPost m g s p bad U)):=fun m p bad U h1 h2 h3=>Rc.small_any m g s p bad h1 hs h2 U h3
  obtain ⟨V,hV⟩:∃ V,w.alloc (.cells #[.int .i64 0,.int .i64 0,.int .i64 0,.string ⟨#[]⟩] 54)=V:=⟨_,rfl⟩
  have hbV:Below w.heap.size w V:=by rw [← hV];exact Wc.b1 w _
  have HVR:Hid (V.heap[w.heap.size]? = some (.cells #[.int .i64 0,.int .i64 0,.int .i64 0,.string ⟨#[]⟩] 54)):=by rw [Hid,← hV];exact (MapKept.heap_alloc w _).1
  have HDV:Hid (Rc.Dk g s p bad V):=hD.below hbV
  have HFV:Hid (Rc.Fr (fun k=>k=g) w V):=Rc.Fr.of_below hbV
  clear hD hbV
  go_enter Tryz.func19,Tryz.ntmps19
  go_wp2_with fail
  refine (HS.out 16 p bad V (by omega) hp HDV.out).mono ?_
  rintro e w1 ⟨n,p1,b1,rfl,hn,hD1,⟨⟨h1,h2⟩,h3⟩,hF1⟩
  obtain ⟨R,HR⟩:∃ R,Hid (w.heap.size=R):=⟨_,(rfl:w.heap.size=_)⟩
  obtain ⟨X,HX⟩:∃ X,Hid (w1.heap.size=X):=⟨_,(rfl:w1.heap.size=_)⟩
  clear hV
  rw [HR.out]
  go_wp2_with fail
  obtain ⟨V1,hV1⟩:∃ V,w1.alloc (.cells #[.int .i64 (n:Int),.int .i64 0,.int .i64 0,.string ⟨#[]⟩] 54)=V:=⟨_,rfl⟩
  have HIS:Hid (Rc.InsSt w g s p1 b1 R X ⟨n,0,0,⟨#[]⟩⟩ V1):=by
    have hb1:Below w1.heap.size w1 V1:=by rw [← hV1];exact Wc.b1 w1 _
    have hr1:w1.heap[w.heap.size]? = _:=(hF1.keep w.heap.size (Array.getElem?_eq_some_iff.1 HVR.out).1 (by omega)).trans HVR.out
    have hlt:=(Array.getElem?_eq_some_iff.1 hr1).1
    have:=(HFV.out.trans hF1).size
    rw [HX.out] at hlt this
    rw [HR.out] at hlt this hgw hr1
    exact ⟨hD1.below hb1,(hb1.block R (by rw [HX.out];exact hlt)).trans hr1,by rw [← hV1,← HX.out];exact (MapKept.heap_alloc w1 _).1,(HFV.out.trans hF1).trans (Rc.Fr.of_below hb1),by omega,by omega,by omega,by rw [HR.out];omega,by rw [HR.out];omega⟩
  have HR1:Hid (∀ y r,y≤16→bad=false→s.data.toList.drop p=Wc.num y++r→n=y∧b1=false∧p1=p+(Wc.num y).length∧s.data.toList.drop p1=r):=h3
  rw [hV1,HX.out]
  clear hD1 h3 hF1 hV1
  cases hA:Cd.hasA (n:Int) with
  | false =>
    have hn1:¬ (n:Int)=1:=fun e=>by rw [e] at hA;exact absurd hA (by decide)
    have hn1b:((n:Int) == 1)=false:=by simp [hn1]
    have HA:Hid (Cd.hasA (n:Int)=false):=hA
    clear hA
    obtain ⟨⟨c0,c1,c2,c3⟩,f0,f1,f2,f3⟩:=Rc.cells4 HIS.out.xb
    obtain ⟨⟨r0,r1,r2,r3⟩,g0,g1,g2,g3⟩:=Rc.cells4 HIS.out.rb
    simp only at c0 c1 c2 c3
    refine (Cd.hasA_is false _ HA _).mono ?_
    rintro e w' ⟨rfl,rfl⟩
    go_wp2_with fail
    obtain ⟨U4,hU4,hD4,hF4,d0,d1,d2,d3⟩:=HIS.out.ret
    simp only at hU4 d0 d1 d2 d3
    rw [hU4]
    clear hU4 c0 c1 c2 c3 f0 f1 f2 f3 r0 r1 r2 r3 g0 g1 g2 g3
    refine bodyPost_ret (v:=Cd.insV ⟨n,0,0,⟨#[]⟩⟩) (by simp [results,Tryz.results19,go_sem,d0,d1,d2,d3,Cd.insV]) rfl ⟨⟨n,0,0,⟨#[]⟩⟩,p1,b1,rfl,⟨⟨by simp only;omega,by simp only;omega⟩,⟨by simp only;omega,by simp only;omega⟩,⟨by simp only;omega,by simp only;omega⟩,Nat.zero_le _⟩,hD4,Rc.Rd.mk h1 h2 (fun y r hy h0 hd => ?_),hF4⟩
    obtain ⟨e1,e2,-,e3⟩:=HR1.out _ _ (Rc.u_le hy.1.1 hy.1.2 (by omega)) h0 (Rc.ins_head hd)
    have e4:=Rc.u_small hy.1.1 (by have:=hy.1.2;omega) e1
    obtain ⟨k1,k2,k3⟩:=Rc.ins_noA hy (by rw [← e4];exact HA.out)
    rw [k1,k2] at e3
    exact ⟨by rw [e4];exact k3,e2,e3⟩
  | true =>
    have HA:Hid (Cd.hasA (n:Int)=true):=hA
    clear hA
    refine (Cd.hasA_is true _ HA _).mono ?_
    rintro e w' ⟨rfl,rfl⟩
    go_wp2_with fail
    refine (HS.out 50000 p1 b1 V1 (by omega) h2 HIS.out.dk).mono ?_
    rintro e w2 ⟨a,p2,b2,rfl,ha,hD2,⟨⟨h3,h4⟩,h5⟩,hF2⟩
    have HIS2:Hid (Rc.InsSt w g s p2 b2 R X ⟨n,a,0,⟨#[]⟩⟩ (w2.setCell ⟨X,1,none⟩ (.int .i64 (a:Int)))):=(HIS.out.call hD2 hF2).set 1 _ _ rfl
    have HR2:Hid (∀ y r,Rc.insFit y→bad=false→s.data.toList.drop p=Wc.ins y++r→(n:Int)=y.op∧(a:Int)=y.a∧b2=false∧s.data.toList.drop p2=Wc.lit y++r):=fun y r hy h0 hd=>by
      obtain ⟨e1,e2,-,e3⟩:=HR1.out _ _ (Rc.u_le hy.1.1 hy.1.2 (by omega)) h0 (Rc.ins_head hd)
      have e4:=Rc.u_small hy.1.1 (by have:=hy.1.2;omega) e1
      rw [Rc.ins_A (by rw [← e4];exact HA.out)] at e3
      obtain ⟨e5,e6,-,e7⟩:=h5 _ _ (Rc.u_le hy.2.1.1 hy.2.1.2 (by omega)) e2 e3
      exact ⟨e4,Rc.u_small hy.2.1.1 (by have:=hy.2.1.2;omega) e5,e6,e7⟩
    have cx:=(Rc.cells4 (HIS.out.call hD2 hF2).xb).1.2.1
    have fx:=(Rc.cells4 (HIS.out.call hD2 hF2).xb).2.2.1
    simp only at cx
    obtain ⟨V2,hV2⟩:∃ V,w2.setCell ⟨X,1,none⟩ (.int .i64 (a:Int))=V:=⟨_,rfl⟩
    rw [hV2] at HIS2
    obtain ⟨⟨c0,c1,c2,c3⟩,f0,f1,f2,f3⟩:=Rc.cells4 HIS2.out.xb
    obtain ⟨⟨r0,r1,r2,r3⟩,g0,g1,g2,g3⟩:=Rc.cells4 HIS2.out.rb
    simp only at c0 c1 c2 c3
    clear HIS HR1 h5 hD2 hF2
    by_cases hn1:n=1
    · subst hn1
      have c0':V2.cell? ⟨X,0,none⟩=some (.int .i64 1):=c0
      clear c0
      by_cases ha2:a=2
      · subst ha2
        have hV2':w2.setCell ⟨X,1,none⟩ (.int .i64 2)=V2:=hV2
        have c1':V2.cell? ⟨X,1,none⟩=some (.int .i64 2):=c1
        clear hV2 c1
        go_wp2_with fail
        refine (Rc.text_any g s p2 b2 hs h4 V2 HIS2.out.dk).mono ?_
        rintro e w3 ⟨t,p3,b3,rfl,ht,hD3,⟨⟨h5,h6⟩,h7⟩,hF3⟩
        have HIS3:Hid (Rc.InsSt w g s p3 b3 R X ⟨1,2,0,t⟩ (w3.setCell ⟨X,3,none⟩ (.string t))):=(HIS2.out.call hD3 hF3).set 3 _ _ rfl
        have HR3:Hid (∀ y r,y.size≤3000→b2=false→s.data.toList.drop p2=Wc.txt y++r→t=y∧b3=false∧p3=p2+(Wc.txt y).length∧s.data.toList.drop p3=r):=h7
        have cx:=(Rc.cells4 (HIS2.out.call hD3 hF3).xb).1.2.2.2
        have fx:=(Rc.cells4 (HIS2.out.call hD3 hF3).xb).2.2.2.2
        simp only at cx
        obtain ⟨V3,hV3⟩:∃ V,w3.setCell ⟨X,3,none⟩ (.string t)=V:=⟨_,rfl⟩
        rw [hV3] at HIS3
        clear c0' c1' c2 c3 f0 f1 f2 f3 r0 r1 r2 r3 g0 g1 g2 g3
        obtain ⟨⟨c0,c1,c2,c3⟩,f0,f1,f2,f3⟩:=Rc.cells4 HIS3.out.xb
        obtain ⟨⟨r0,r1,r2,r3⟩,g0,g1,g2,g3⟩:=Rc.cells4 HIS3.out.rb
        simp only at c0 c1 c2 c3
        clear HIS2 h7 hD3 hF3
        go_wp2_with fail
        obtain ⟨U4,hU4,hD4,hF4,d0,d1,d2,d3⟩:=HIS3.out.ret
        simp only at hU4 d0 d1 d2 d3
        rw [hU4]
        clear hU4 c0 c1 c2 c3 f0 f1 f2 f3 r0 r1 r2 r3 g0 g1 g2 g3
        refine bodyPost_ret (v:=Cd.insV ⟨1,2,0,t⟩) (by simp [results,Tryz.results19,go_sem,d0,d1,d2,d3,Cd.insV]) rfl ⟨⟨1,2,0,t⟩,p3,b3,rfl,⟨⟨by simp only;omega,by simp only;omega⟩,⟨by simp only;omega,by simp only;omega⟩,⟨by simp only;omega,by simp only;omega⟩,ht⟩,hD4,Rc.Rd.mk (by omega) (by omega) (fun y r hy h0 hd => ?_),hF4⟩
        obtain ⟨e1,e2,e3,e4⟩:=HR2.out y r hy h0 hd
        obtain ⟨k1,k2⟩:=Rc.ins_txt hy e1.symm e2.symm
        rw [k1] at e4
        obtain ⟨k3,k4,-,k5⟩:=HR3.out _ _ hy.2.2.2.1 e3 e4
        exact ⟨by rw [k3];exact k2,k4,k5⟩
      · have ha2b:((a:Int) == 2)=false:=by simp;omega
        go_wp2_with fail
        refine (Rc.number_any g s p2 b2 hs h4 V2 HIS2.out.dk).mono ?_
        rintro e w3 ⟨k,p3,b3,rfl,hk,hD3,⟨⟨h5,h6⟩,h7⟩,hF3⟩
        obtain ⟨z,HZ⟩:∃ z,Hid (IntKind.i64.wrap ((k:Nat):Int)=z):=⟨_,(rfl:IntKind.i64.wrap ((k:Nat):Int)=_)⟩
        have hz : -9223372036854775808≤z∧z≤9223372036854775807:=by rw [← HZ.out,IntKind.wrap_i64];omega
        have hzw:IntKind.i64.wrap ((k:Nat):Int)=z:=HZ.out
        have HIS3:Hid (Rc.InsSt w g s p3 b3 R X ⟨1,a,z,⟨#[]⟩⟩ (w3.setCell ⟨X,2,none⟩ (.int .i64 z))):=(HIS2.out.call hD3 hF3).set 2 _ _ rfl
        have HR3:Hid (∀ y r,y < 18446744073709551616→b2=false→s.data.toList.drop p2=Wc.num y++r→k=y∧b3=false∧p3=p2+(Wc.num y).length∧s.data.toList.drop p3=r):=h7
        have cx:=(Rc.cells4 (HIS2.out.call hD3 hF3).xb).1.2.2.1
        have fx:=(Rc.cells4 (HIS2.out.call hD3 hF3).xb).2.2.2.1
        simp only at cx
        obtain ⟨V3,hV3⟩:∃ V,w3.setCell ⟨X,2,none⟩ (.int .i64 z)=V:=⟨_,rfl⟩
        rw [hV3] at HIS3
        clear c0' c1 c2 c3 f0 f1 f2 f3 r0 r1 r2 r3 g0 g1 g2 g3
        obtain ⟨⟨c0,c1,c2,c3⟩,f0,f1,f2,f3⟩:=Rc.cells4 HIS3.out.xb
        obtain ⟨⟨r0,r1,r2,r3⟩,g0,g1,g2,g3⟩:=Rc.cells4 HIS3.out.rb
        simp only at c0 c1 c2 c3
        clear HIS2 h7 hD3 hF3
        go_wp2_with fail
        obtain ⟨U4,hU4,hD4,hF4,d0,d1,d2,d3⟩:=HIS3.out.ret
        simp only at hU4 d0 d1 d2 d3
        rw [hU4]
        clear hU4 c0 c1 c2 c3 f0 f1 f2 f3 r0 r1 r2 r3 g0 g1 g2 g3
        refine bodyPost_ret (v:=Cd.insV ⟨1,a,z,⟨#[]⟩⟩) (by simp [results,Tryz.results19,go_sem,d0,d1,d2,d3,Cd.insV]) rfl ⟨⟨1,a,z,⟨#[]⟩⟩,p3,b3,rfl,⟨⟨by simp only;omega,by simp only;omega⟩,⟨by simp only;omega,by simp only;omega⟩,hz,Nat.zero_le _⟩,hD4,Rc.Rd.mk (by omega) (by omega) (fun y r hy h0 hd => ?_),hF4⟩
        obtain ⟨e1,e2,e3,e4⟩:=HR2.out y r hy h0 hd
        obtain ⟨k1,k2⟩:=Rc.ins_num hy e1.symm (by rw [← e2];omega)
        rw [k1] at e4
        obtain ⟨k3,k4,-,k5⟩:=HR3.out _ _ (Wc.u_lt _) e3 e4
        refine ⟨?_,k4,k5⟩
        have k6:z=y.n:=by rw [← HZ.out,k3,IntKind.wrap_i64];have:=hy.2.2.1;unfold Wc.u;omega
        rw [k6,e2];exact k2
    · have hn1b:((n:Int) == 1)=false:=by simp;omega
      go_wp2_with fail
      obtain ⟨U4,hU4,hD4,hF4,d0,d1,d2,d3⟩:=HIS2.out.ret
      simp only at hU4 d0 d1 d2 d3
      rw [hU4]
      clear hU4 c0 c1 c2 c3 f0 f1 f2 f3 r0 r1 r2 r3 g0 g1 g2 g3
      refine bodyPost_ret (v:=Cd.insV ⟨n,a,0,⟨#[]⟩⟩) (by simp [results,Tryz.results19,go_sem,d0,d1,d2,d3,Cd.insV]) rfl ⟨⟨n,a,0,⟨#[]⟩⟩,p2,b2,rfl,⟨⟨by simp only;omega,by simp only;omega⟩,⟨by simp only;omega,by simp only;omega⟩,⟨by simp only;omega,by simp only;omega⟩,Nat.zero_le _⟩,hD4,Rc.Rd.mk (by omega) (by omega) (fun y r hy h0 hd => ?_),hF4⟩
      obtain ⟨e1,e2,e3,e4⟩:=HR2.out y r hy h0 hd
      obtain ⟨k1,k2⟩:=Rc.ins_oth hy (by rw [← e1];omega)
      rw [k1] at e4
      exact ⟨by rw [e1,e2];exact k2,e3,e4⟩
end Go.Proofs.YtbkhedpabfanoaaGreatDoor
