import Derived.Test.YtbkhedpabfanoaaGreatDoorKRcI
namespace Go.Proofs.YtbkhedpabfanoaaGreatDoor
open Go.RowKit

set_option maxRecDepth 100000 in
set_option maxHeartbeats 1000000 in
theorem Rc.type_any (w0:World) (g:Nat) (r:ByteArray) (w:World) (hT:Rc.Tb w0) (hR:Rc.Rr w0 g r w) :
    Calls Tryz.prog 54 #[.pointer (some ⟨g,0,none⟩)] w (Rc.UPost 10 w0 g r w):=by
  have HC:Hid (Calls Tryz.prog 51 #[.pointer (some ⟨g,0,none⟩),.int .i64 10] w (Rc.UPost 10 w0 g r w)):=Rc.upTo_any 10 (by omega) w0 g r w hT hR
  clear hR hT
  go_enter Tryz.func54,Tryz.ntmps54
  go_wp2_with fail
  refine HC.out.mono ?_
  rintro e w1 (⟨n,rfl,hn,h1⟩ | ⟨a,rfl,h1⟩)
  · have H1:Hid (Rc.Rok w0 g r w Wc.num n w1):=h1
    clear h1
    go_wp2_with fail
    go_ret2
    exact .inl ⟨n,rfl,hn,H1.out⟩
  · have H1:Hid (Rc.Rno w0 g r w Wc.num (fun n=>n≤10) w1):=h1
    clear h1
    go_wp2_with fail
    go_ret2
    exact .inr ⟨a,rfl,H1.out⟩
def Rc.IPost (w0:World) (g:Nat) (r:ByteArray) (w:World) (e:Ending) (w':World):Prop :=
  (∃ i,e = .returned (.tuple #[Cd.insV i,.nilIface])∧Rc.insFit i∧Rc.Rok w0 g r w Wc.ins i w')∨(∃ i a,e = .returned (.tuple #[Cd.insV i,.iface 214 (.pointer (some a))])∧Rc.Rno w0 g r w Wc.ins Rc.insFit w')
structure Rc.ISt (w w0:World) (g:Nat) (r:ByteArray) (R:Nat) (U:World):Prop where
  rd:Rc.Rr w0 g r U
  rb:U.heap[R]? = some (.cells #[.int .i64 0,.int .i64 0,.int .i64 0,.string ⟨#[]⟩] 54)
  fr:Rc.Fr (fun k=>k=g) w U
  ne:R≠g∧w.heap.size≤R∧w0.heap.size≤R
theorem Rc.ISt.call {w w0:World} {g:Nat} {r r':ByteArray} {R:Nat} {U U':World} (h:Rc.ISt w w0 g r R U) (hr:Rc.Rr w0 g r' U') (hf:Rc.Fr (fun k=>k=g) U U'):Rc.ISt w w0 g r' R U' :=
  ⟨hr,(hf.keep R (Array.getElem?_eq_some_iff.1 h.rb).1 h.ne.1).trans h.rb,h.fr.trans hf,h.ne⟩
theorem Rc.Rr.oth {w0:World} {g:Nat} {r:ByteArray} {w:World} (h:Rc.Rr w0 g r w) {R j:Nat} {v:Value} (hg:R≠g) (hR:w0.heap.size≤R):Rc.Rr w0 g r (w.setCell ⟨R,j,none⟩ v) :=
  ⟨(Rc.set_oth hg.symm).trans h.blk,h.bel.trans ⟨rfl,rfl,rfl,by simp [World.setCell],fun k hk=>Rc.set_oth (by omega)⟩,h.lo,h.siz⟩
theorem Rc.ISt.ret {w w0:World} {g:Nat} {r:ByteArray} {R:Nat} {U:World} (h:Rc.ISt w w0 g r R U) (i:Cd.Ins) :
    ∃ U4,(((U.setCell ⟨R,0,none⟩ (.int .i64 i.op)).setCell ⟨R,1,none⟩ (.int .i64 i.a)).setCell ⟨R,2,none⟩ (.int .i64 i.n)).setCell ⟨R,3,none⟩ (.string i.text)=U4∧Rc.Rr w0 g r U4∧Rc.Fr (fun k=>k=g) w U4∧U4.cell? ⟨R,0,none⟩=some (.int .i64 i.op)∧U4.cell? ⟨R,1,none⟩=some (.int .i64 i.a)∧U4.cell? ⟨R,2,none⟩=some (.int .i64 i.n)∧U4.cell? ⟨R,3,none⟩=some (.string i.text):=by
  have hb:=Rc.set_same (i:=3) (v:=.string i.text) (Rc.set_same (i:=2) (v:=.int .i64 i.n) (Rc.set_same (i:=1) (v:=.int .i64 i.a) (Rc.set_same (i:=0) (v:=.int .i64 i.op) h.rb)))
  obtain ⟨⟨c0,c1,c2,c3⟩,-⟩:=Rc.cells4 (a:=.int .i64 i.op) (b:=.int .i64 i.a) (c:=.int .i64 i.n) (d:=.string i.text) hb
  obtain ⟨n1,n2,n3⟩:=h.ne
  exact ⟨_,rfl,(((h.rd.oth n1 n3).oth n1 n3).oth n1 n3).oth n1 n3,(((h.fr.new R 0 _ n2).new R 1 _ n2).new R 2 _ n2).new R 3 _ n2,c0,c1,c2,c3⟩
theorem Rc.ins_split {y:Cd.Ins} {r:List UInt8}:Wc.ins y++r=Wc.num (Wc.u y.op)++(Wc.opt y++(Wc.lit y++r)):=by
  rw [Wc.ins,List.append_assoc,List.append_assoc]
theorem Rc.no_op {l:List UInt8} (h:Rc.No Wc.num (fun n=>n≤16) l):Rc.No Wc.ins Rc.insFit l:=fun x t hx e=>h (Wc.u x.op) _ (Rc.u_le hx.1.1 hx.1.2 (by omega)) (e.trans Rc.ins_split)
theorem Rc.op_is {l l1:List UInt8} {n:Nat} (hl:l=Wc.num n++l1) {x:Cd.Ins} {t:List UInt8} (hx:Rc.insFit x) (e:l=Wc.ins x++t):(n:Int)=x.op∧l1=Wc.opt x++(Wc.lit x++t):=by
  obtain ⟨h1,h2⟩:=Rc.num_one (hl.symm.trans (e.trans Rc.ins_split))
  exact ⟨Rc.u_small hx.1.1 (by have:=hx.1.2;omega) h1,h2⟩
theorem Rc.no_a {l l1:List UInt8} {n:Nat} (hl:l=Wc.num n++l1) (hA:Cd.hasA (n:Int)=true) (h:Rc.No Wc.num (fun n=>n≤50000) l1):Rc.No Wc.ins Rc.insFit l:=fun x t hx e=>by
  obtain ⟨h1,h2⟩:=Rc.op_is hl hx e
  rw [Rc.ins_A (by rw [← h1];exact hA)] at h2
  exact h (Wc.u x.a) _ (Rc.u_le hx.2.1.1 hx.2.1.2 (by omega)) h2
theorem Rc.a_is {l l1 l2:List UInt8} {n a:Nat} (hl:l=Wc.num n++l1) (hA:Cd.hasA (n:Int)=true) (hl1:l1=Wc.num a++l2) {x:Cd.Ins} {t:List UInt8} (hx:Rc.insFit x) (e:l=Wc.ins x++t):(n:Int)=x.op∧(a:Int)=x.a∧l2=Wc.lit x++t:=by
  obtain ⟨h1,h2⟩:=Rc.op_is hl hx e
  rw [Rc.ins_A (by rw [← h1];exact hA),hl1] at h2
  obtain ⟨h3,h4⟩:=Rc.num_one h2
  exact ⟨h1,Rc.u_small hx.2.1.1 (by have:=hx.2.1.2;omega) h3,h4⟩
theorem Rc.no_txt {l l1 l2:List UInt8} (hl:l=Wc.num 1++l1) (hl1:l1=Wc.num 2++l2) (h:Rc.No Wc.txt (fun t=>t.size≤3000) l2):Rc.No Wc.ins Rc.insFit l:=fun x t hx e=>by
  obtain ⟨h1,h2,h3⟩:=Rc.a_is hl rfl hl1 hx e
  rw [(Rc.ins_txt hx h1.symm h2.symm).1] at h3
  exact h x.text t hx.2.2.2.1 h3
theorem Rc.no_num {l l1 l2:List UInt8} {a:Nat} (hl:l=Wc.num 1++l1) (hl1:l1=Wc.num a++l2) (ha:¬ a=2) (h:Rc.No Wc.num (fun n=>n < 18446744073709551616) l2):Rc.No Wc.ins Rc.insFit l:=fun x t hx e=>by
  obtain ⟨h1,h2,h3⟩:=Rc.a_is hl rfl hl1 hx e
  rw [(Rc.ins_num hx h1.symm (by rw [← h2];omega)).1] at h3
  exact h (Wc.u x.n) t (Wc.u_lt _) h3
theorem Rc.un (n:Nat) (h:n≤1000000):Wc.u (n:Int)=n:=Wc.u_nat n (by omega)
theorem Rc.enc_0 {n:Nat} (hn:n≤16) (hA:Cd.hasA (n:Int)=false):Wc.ins ⟨n,0,0,⟨#[]⟩⟩=Wc.num n∧Rc.insFit ⟨n,0,0,⟨#[]⟩⟩:=by
  have ho:¬ (n:Int)=1:=fun e=>by rw [e] at hA;exact absurd hA (by decide)
  refine ⟨?_,⟨by simp only;omega,by simp only;omega⟩,⟨by simp only;omega,by simp only;omega⟩,⟨by simp only;omega,by simp only;omega⟩,Nat.zero_le _,fun _=>rfl,fun _=>⟨rfl,rfl⟩,fun e=>absurd e ho,fun e=>absurd e ho⟩
  simp [Wc.ins,Wc.opt,Wc.lit,hA,ho,Rc.un n (by omega)]
theorem Rc.enc_a {n a:Nat} (hn:n≤16) (ha:a≤50000) (hA:Cd.hasA (n:Int)=true) (ho:¬ n=1):Wc.ins ⟨n,a,0,⟨#[]⟩⟩=Wc.num n++Wc.num a∧Rc.insFit ⟨n,a,0,⟨#[]⟩⟩:=by
  have ho':¬ (n:Int)=1:=by omega
  refine ⟨?_,⟨by simp only;omega,by simp only;omega⟩,⟨by simp only;omega,by simp only;omega⟩,⟨by simp only;omega,by simp only;omega⟩,Nat.zero_le _,fun h=>absurd (hA.symm.trans h) (by decide),fun _=>⟨rfl,rfl⟩,fun e=>absurd e ho',fun e=>absurd e ho'⟩
  simp [Wc.ins,Wc.opt,Wc.lit,hA,ho',Rc.un n (by omega),Rc.un a (by omega)]
theorem Rc.enc_t {t:ByteArray} (ht:t.size≤3000):Wc.ins ⟨1,2,0,t⟩=Wc.num 1++(Wc.num 2++Wc.txt t)∧Rc.insFit ⟨1,2,0,t⟩:=by
  refine ⟨?_,⟨by simp only;omega,by simp only;omega⟩,⟨by simp only;omega,by simp only;omega⟩,⟨by simp only;omega,by simp only;omega⟩,ht,fun h=>by simp only at h;exact absurd h (by decide),fun h=>absurd rfl h,fun _ _=>rfl,fun _ h=>absurd rfl h⟩
  have e1:Wc.u 1=1:=by decide
  have e2:Wc.u 2=2:=by decide
  have hA:Cd.hasA 1=true:=by decide
  simp [Wc.ins,Wc.opt,Wc.lit,hA,e1,e2]
theorem Rc.enc_n {a k:Nat} (ha:a≤50000) (ha2:¬ a=2) (hk:k < 18446744073709551616):Wc.ins ⟨1,a,IntKind.i64.wrap (k:Int),⟨#[]⟩⟩=Wc.num 1++(Wc.num a++Wc.num k)∧Rc.insFit ⟨1,a,IntKind.i64.wrap (k:Int),⟨#[]⟩⟩:=by
  have hz : -9223372036854775808≤IntKind.i64.wrap (k:Int)∧IntKind.i64.wrap (k:Int)≤9223372036854775807:=by rw [IntKind.wrap_i64];omega
  have ha':¬ (a:Int)=2:=by omega
  refine ⟨?_,⟨by simp only;omega,by simp only;omega⟩,⟨by simp only;omega,by simp only;omega⟩,hz,Nat.zero_le _,fun h=>by simp only at h;exact absurd h (by decide),fun h=>absurd rfl h,fun _ h=>absurd h ha',fun _ _=>rfl⟩
  have e1:Wc.u 1=1:=by decide
  have hA:Cd.hasA 1=true:=by decide
  have e3:Wc.u (IntKind.i64.wrap (k:Int))=k:=by rw [IntKind.wrap_i64];unfold Wc.u;omega
  simp [Wc.ins,Wc.opt,Wc.lit,hA,e1,ha',Rc.un a (by omega),e3]
theorem Rc.hasA_tab {w:World} (h:Rc.Tb w) (n:Nat) (hn:n≤16):w.cell? ⟨7,n * 5,none⟩=some (.bool (Cd.hasA (n:Int))):=by
  rcases Nat.eq_zero_or_pos n with rfl | hp
  · rw [Nat.zero_mul,h.zero];rfl
  · rw [h.ins.hasA n hp hn]
    have:∀ m:Fin 17,1≤m.val→(Cd.rowOf m.val).1=Cd.hasA ((m.val:Nat):Int):=by decide +kernel
    rw [this ⟨n,by omega⟩ hp]
set_option maxRecDepth 100000 in
set_option maxHeartbeats 1000000 in
theorem Rc.iins_any (w0:World) (g:Nat) (r:ByteArray) (w:World) (hT:Rc.Tb w0) (hR:Rc.Rr w0 g r w) :
    Calls Tryz.prog 56 #[.pointer (some ⟨g,0,none⟩)] w (Rc.IPost w0 g r w):=by
  have HU:Hid (∀ (m:Nat) (r:ByteArray) (U:World),m≤1000000→Rc.Rr w0 g r U→Calls Tryz.prog 51 #[.pointer (some ⟨g,0,none⟩),.int .i64 (m:Int)] U (Rc.UPost m w0 g r U)):=fun m r U hm h=>Rc.upTo_any m hm w0 g r U hT h
  have HTX:Hid (∀ (r:ByteArray) (U:World),Rc.Rr w0 g r U→Calls Tryz.prog 52 #[.pointer (some ⟨g,0,none⟩),.int .i64 3000] U (Rc.TPost 3000 w0 g r U)):=fun r U h=>Rc.itext_any 3000 (by omega) w0 g r U hT h
  have HNM:Hid (∀ (r:ByteArray) (U:World),Rc.Rr w0 g r U→Calls Tryz.prog 67 #[.pointer (some ⟨g,0,none⟩)] U (Rc.NPost w0 g r U)):=fun r U h=>Rc.inum_any w0 g r U hT h
  have HTB:Hid (∀ (r:ByteArray) (U:World),Rc.Rr w0 g r U→Rc.Tb U):=fun r U h=>hT.below h.bel
  obtain ⟨R,HRR⟩:∃ R,Hid (w.heap.size=R):=⟨_,(rfl:w.heap.size=_)⟩
  obtain ⟨V,hV⟩:∃ V,w.alloc (.cells #[.int .i64 0,.int .i64 0,.int .i64 0,.string ⟨#[]⟩] 54)=V:=⟨_,rfl⟩
  have HST:Hid (Rc.ISt w w0 g r R V):=by
    have hb:Below w.heap.size w V:=by rw [← hV];exact Wc.b1 w _
    have:=hR.lt
    have:=hR.bel.size
    have e:=HRR.out
    exact ⟨hR.keep hb,by rw [← hV,← e];exact (MapKept.heap_alloc w _).1,Rc.Fr.of_below hb,by omega,by omega,by omega⟩
  clear hR hT
  go_enter Tryz.func56,Tryz.ntmps56
  go_wp2_with fail
  rw [HRR.out]
  clear hV
  refine (HU.out 16 r V (by omega) HST.out.rd).mono ?_
  rintro e w1 (⟨n,rfl,hn,r1,hl,hR1,hF1⟩ | ⟨ea,rfl,hno,r1,hR1,hF1⟩)
  rotate_left
  · have HS1:Hid (Rc.ISt w w0 g r1 R w1):=HST.out.call hR1 hF1
    have HNO:Hid (Rc.No Wc.ins Rc.insFit r.data.toList):=Rc.no_op hno
    obtain ⟨⟨b0,b1,b2,b3⟩,g0,g1,g2,g3⟩:=Rc.cells4 HS1.out.rb
    clear hno hR1 hF1
    go_wp2_with fail
    obtain ⟨U4,hU4,hR4,hF4,d0,d1,d2,d3⟩:=HS1.out.ret ⟨0,0,0,⟨#[]⟩⟩
    simp only at hU4 d0 d1 d2 d3
    rw [hU4]
    clear hU4 b0 b1 b2 b3 g0 g1 g2 g3
    exact bodyPost_ret (v:=.tuple #[Cd.insV ⟨0,0,0,⟨#[]⟩⟩,.iface 214 (.pointer (some ea))]) (by simp [results,Tryz.results56,go_sem,d0,d1,d2,d3,Cd.insV]) rfl (.inr ⟨⟨0,0,0,⟨#[]⟩⟩,ea,rfl,HNO.out,_,hR4,hF4⟩)
  have HS1:Hid (Rc.ISt w w0 g r1 R w1):=HST.out.call hR1 hF1
  have hin:=Rc.hasA_tab (HTB.out r1 w1 hR1) n hn
  have HL:Hid (r.data.toList=Wc.num n++r1.data.toList):=hl
  have hnI:(n:Int) < 17:=by omega
  obtain ⟨bA,HBA⟩:∃ b,Hid (Cd.hasA (n:Int)=b):=⟨_,(rfl:Cd.hasA (n:Int)=_)⟩
  rw [HBA.out] at hin
  obtain ⟨⟨b0,b1,b2,b3⟩,g0,g1,g2,g3⟩:=Rc.cells4 HS1.out.rb
  clear hl hR1 hF1 HST
  cases bA with
  | false =>
    have HOK:Hid (Wc.ins ⟨n,0,0,⟨#[]⟩⟩=Wc.num n∧Rc.insFit ⟨n,0,0,⟨#[]⟩⟩):=Rc.enc_0 hn HBA.out
    go_wp2_with fail
    obtain ⟨U4,hU4,hR4,hF4,d0,d1,d2,d3⟩:=HS1.out.ret ⟨n,0,0,⟨#[]⟩⟩
    simp only at hU4 d0 d1 d2 d3
    rw [hU4]
    clear hU4 b0 b1 b2 b3 g0 g1 g2 g3
    exact bodyPost_ret (v:=.tuple #[Cd.insV ⟨n,0,0,⟨#[]⟩⟩,.nilIface]) (by simp [results,Tryz.results56,go_sem,d0,d1,d2,d3,Cd.insV]) rfl (.inl ⟨⟨n,0,0,⟨#[]⟩⟩,rfl,HOK.out.2,_,by rw [HOK.out.1];exact HL.out,hR4,hF4⟩)
  | true =>
    go_wp2_with fail
    refine (HU.out 50000 r1 w1 (by omega) HS1.out.rd).mono ?_
    rintro e w2 (⟨a,rfl,ha,r2,hl2,hR2,hF2⟩ | ⟨ea,rfl,hno,r2,hR2,hF2⟩)
    rotate_left
    · have HS2:Hid (Rc.ISt w w0 g r2 R w2):=HS1.out.call hR2 hF2
      have HNO:Hid (Rc.No Wc.ins Rc.insFit r.data.toList):=Rc.no_a HL.out HBA.out hno
      clear b0 b1 b2 b3 g0 g1 g2 g3
      obtain ⟨⟨b0,b1,b2,b3⟩,g0,g1,g2,g3⟩:=Rc.cells4 HS2.out.rb
      clear hno hR2 hF2
      go_wp2_with fail
      obtain ⟨U4,hU4,hR4,hF4,d0,d1,d2,d3⟩:=HS2.out.ret ⟨n,0,0,⟨#[]⟩⟩
      simp only at hU4 d0 d1 d2 d3
      rw [hU4]
      clear hU4 b0 b1 b2 b3 g0 g1 g2 g3
      exact bodyPost_ret (v:=.tuple #[Cd.insV ⟨n,0,0,⟨#[]⟩⟩,.iface 214 (.pointer (some ea))]) (by simp [results,Tryz.results56,go_sem,d0,d1,d2,d3,Cd.insV]) rfl (.inr ⟨⟨n,0,0,⟨#[]⟩⟩,ea,rfl,HNO.out,_,hR4,hF4⟩)
    have HS2:Hid (Rc.ISt w w0 g r2 R w2):=HS1.out.call hR2 hF2
    have HL2:Hid (r1.data.toList=Wc.num a++r2.data.toList):=hl2
    clear b0 b1 b2 b3 g0 g1 g2 g3
    obtain ⟨⟨b0,b1,b2,b3⟩,g0,g1,g2,g3⟩:=Rc.cells4 HS2.out.rb
    clear hl2 hR2 hF2 HS1 hin
    by_cases h1:n=1
    · subst h1
      by_cases h2:a=2
      · subst h2
        go_wp2_with fail
        refine (HTX.out r2 w2 HS2.out.rd).mono ?_
        rintro e w3 (⟨t,rfl,ht,r3,hl3,hR3,hF3⟩ | ⟨ea,rfl,hno,r3,hR3,hF3⟩)
        · have HS3:Hid (Rc.ISt w w0 g r3 R w3):=HS2.out.call hR3 hF3
          have HOK:Hid (Rc.insFit ⟨1,2,0,t⟩∧r.data.toList=Wc.ins ⟨1,2,0,t⟩++r3.data.toList):=⟨(Rc.enc_t ht).2,by rw [(Rc.enc_t ht).1,HL.out,HL2.out,hl3];simp⟩
          clear b0 b1 b2 b3 g0 g1 g2 g3
          obtain ⟨⟨b0,b1,b2,b3⟩,g0,g1,g2,g3⟩:=Rc.cells4 HS3.out.rb
          clear hl3 hR3 hF3
          go_wp2_with fail
          obtain ⟨U4,hU4,hR4,hF4,d0,d1,d2,d3⟩:=HS3.out.ret ⟨1,2,0,t⟩
          simp only at hU4 d0 d1 d2 d3
          rw [hU4]
          clear hU4 b0 b1 b2 b3 g0 g1 g2 g3
          exact bodyPost_ret (v:=.tuple #[Cd.insV ⟨1,2,0,t⟩,.nilIface]) (by simp [results,Tryz.results56,go_sem,d0,d1,d2,d3,Cd.insV]) rfl (.inl ⟨⟨1,2,0,t⟩,rfl,HOK.out.1,_,HOK.out.2,hR4,hF4⟩)
        · have HS3:Hid (Rc.ISt w w0 g r3 R w3):=HS2.out.call hR3 hF3
          have HNO:Hid (Rc.No Wc.ins Rc.insFit r.data.toList):=Rc.no_txt HL.out HL2.out hno
          clear b0 b1 b2 b3 g0 g1 g2 g3
          obtain ⟨⟨b0,b1,b2,b3⟩,g0,g1,g2,g3⟩:=Rc.cells4 HS3.out.rb
          clear hno hR3 hF3
          go_wp2_with fail
          obtain ⟨U4,hU4,hR4,hF4,d0,d1,d2,d3⟩:=HS3.out.ret ⟨1,2,0,⟨#[]⟩⟩
          simp only at hU4 d0 d1 d2 d3
          rw [hU4]
          clear hU4 b0 b1 b2 b3 g0 g1 g2 g3
          exact bodyPost_ret (v:=.tuple #[Cd.insV ⟨1,2,0,⟨#[]⟩⟩,.iface 214 (.pointer (some ea))]) (by simp [results,Tryz.results56,go_sem,d0,d1,d2,d3,Cd.insV]) rfl (.inr ⟨⟨1,2,0,⟨#[]⟩⟩,ea,rfl,HNO.out,_,hR4,hF4⟩)
      · have h2b:((a:Int) == 2)=false:=by simp;omega
        go_wp2_with fail
        refine (HNM.out r2 w2 HS2.out.rd).mono ?_
        rintro e w3 (⟨k,rfl,hk,r3,hl3,hR3,hF3⟩ | ⟨ea,rfl,hno,r3,hR3,hF3⟩)
        · have HS3:Hid (Rc.ISt w w0 g r3 R w3):=HS2.out.call hR3 hF3
          have HOK:Hid (Rc.insFit ⟨1,a,IntKind.i64.wrap (k:Int),⟨#[]⟩⟩∧r.data.toList=Wc.ins ⟨1,a,IntKind.i64.wrap (k:Int),⟨#[]⟩⟩++r3.data.toList):=⟨(Rc.enc_n ha h2 hk).2,by rw [(Rc.enc_n ha h2 hk).1,HL.out,HL2.out,hl3];simp⟩
          obtain ⟨z,HZ⟩:∃ z,Hid (IntKind.i64.wrap (k:Int)=z):=⟨_,(rfl:IntKind.i64.wrap (k:Int)=_)⟩
          have hz:IntKind.i64.wrap (k:Int)=z:=HZ.out
          rw [HZ.out] at HOK
          clear b0 b1 b2 b3 g0 g1 g2 g3
          obtain ⟨⟨b0,b1,b2,b3⟩,g0,g1,g2,g3⟩:=Rc.cells4 HS3.out.rb
          clear hl3 hR3 hF3
          go_wp2_with fail
          obtain ⟨U4,hU4,hR4,hF4,d0,d1,d2,d3⟩:=HS3.out.ret ⟨1,a,z,⟨#[]⟩⟩
          simp only at hU4 d0 d1 d2 d3
          rw [hU4]
          clear hU4 b0 b1 b2 b3 g0 g1 g2 g3
          exact bodyPost_ret (v:=.tuple #[Cd.insV ⟨1,a,z,⟨#[]⟩⟩,.nilIface]) (by simp [results,Tryz.results56,go_sem,d0,d1,d2,d3,Cd.insV]) rfl (.inl ⟨⟨1,a,z,⟨#[]⟩⟩,rfl,HOK.out.1,_,HOK.out.2,hR4,hF4⟩)
        · have HS3:Hid (Rc.ISt w w0 g r3 R w3):=HS2.out.call hR3 hF3
          have HNO:Hid (Rc.No Wc.ins Rc.insFit r.data.toList):=Rc.no_num HL.out HL2.out h2 hno
          clear b0 b1 b2 b3 g0 g1 g2 g3
          obtain ⟨⟨b0,b1,b2,b3⟩,g0,g1,g2,g3⟩:=Rc.cells4 HS3.out.rb
          clear hno hR3 hF3
          go_wp2_with fail
          obtain ⟨U4,hU4,hR4,hF4,d0,d1,d2,d3⟩:=HS3.out.ret ⟨1,a,0,⟨#[]⟩⟩
          simp only at hU4 d0 d1 d2 d3
          rw [hU4]
          clear hU4 b0 b1 b2 b3 g0 g1 g2 g3
          exact bodyPost_ret (v:=.tuple #[Cd.insV ⟨1,a,0,⟨#[]⟩⟩,.iface 214 (.pointer (some ea))]) (by simp [results,Tryz.results56,go_sem,d0,d1,d2,d3,Cd.insV]) rfl (.inr ⟨⟨1,a,0,⟨#[]⟩⟩,ea,rfl,HNO.out,_,hR4,hF4⟩)
    · have h1b:((n:Int) == 1)=false:=by simp;omega
      have h1c:((n:Int) != 1)=true:=by simp;omega
      have HOK:Hid (Rc.insFit ⟨n,a,0,⟨#[]⟩⟩∧r.data.toList=Wc.ins ⟨n,a,0,⟨#[]⟩⟩++r2.data.toList):=⟨(Rc.enc_a hn ha HBA.out h1).2,by rw [(Rc.enc_a hn ha HBA.out h1).1,HL.out,HL2.out];simp⟩
      go_wp2_with fail
      obtain ⟨U4,hU4,hR4,hF4,d0,d1,d2,d3⟩:=HS2.out.ret ⟨n,a,0,⟨#[]⟩⟩
      simp only at hU4 d0 d1 d2 d3
      rw [hU4]
      clear hU4 b0 b1 b2 b3 g0 g1 g2 g3
      exact bodyPost_ret (v:=.tuple #[Cd.insV ⟨n,a,0,⟨#[]⟩⟩,.nilIface]) (by simp [results,Tryz.results56,go_sem,d0,d1,d2,d3,Cd.insV]) rfl (.inl ⟨⟨n,a,0,⟨#[]⟩⟩,rfl,HOK.out.1,_,HOK.out.2,hR4,hF4⟩)
end Go.Proofs.YtbkhedpabfanoaaGreatDoor
