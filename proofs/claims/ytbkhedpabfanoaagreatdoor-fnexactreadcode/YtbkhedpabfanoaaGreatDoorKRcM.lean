import Derived.Test.YtbkhedpabfanoaaGreatDoorKRcK
namespace Go.Proofs.YtbkhedpabfanoaaGreatDoor
open Go.RowKit

theorem Rc.lenc_one {α:Type} {enc:α→List UInt8} {fit:α→Prop} (h:Rc.One enc fit) (m:Nat):Rc.One (Rc.lenc enc) (Rc.lfit m fit):=fun x y r s hx hy e=>by
  unfold Rc.lenc at e
  rw [List.append_assoc,List.append_assoc] at e
  obtain ⟨e1,e2⟩:=Rc.num_one e
  exact Rc.list_one h x y r s e1 hx.2 hy.2 e2
theorem Rc.fn_flat (y:Cd.Fn) (t:List UInt8):Wc.fn y++t=Wc.txt y.name++(Rc.lenc Rc.encT y.params++(Wc.num (Wc.u y.result)++(Wc.num (Wc.u y.slots)++(Rc.lenc Wc.ins y.ins++t)))):=by
  have e:y.params.flatMap Rc.encT=Wc.pars y.params:=rfl
  simp [Wc.fn,Wc.fnH,Rc.lenc,Wc.inss,e]
theorem Rc.fitP {y:Cd.Fn} (h:Rc.fnFit y):Rc.lfit 8 Rc.fitT y.params:=⟨h.2.1,h.2.2.1⟩
theorem Rc.fitI {y:Cd.Fn} (h:Rc.fnFit y):Rc.lfit 50000 Rc.insFit y.ins:=⟨h.2.2.2.2.2.1,h.2.2.2.2.2.2⟩
theorem Rc.no_f0 {l:List UInt8} (h:Rc.No Wc.txt (fun t=>t.size≤30) l):Rc.No Wc.fn Rc.fnFit l:=fun y t hy e=>h y.name _ hy.1 (e.trans (Rc.fn_flat y t))
theorem Rc.f1 {l l1:List UInt8} {nm:ByteArray} (h1:l=Wc.txt nm++l1) {y:Cd.Fn} {t:List UInt8} (e:l=Wc.fn y++t):nm=y.name∧l1=Rc.lenc Rc.encT y.params++(Wc.num (Wc.u y.result)++(Wc.num (Wc.u y.slots)++(Rc.lenc Wc.ins y.ins++t))):=Rc.txt_one _ _ _ _ trivial trivial (h1.symm.trans (e.trans (Rc.fn_flat y t)))
theorem Rc.no_f1 {l l1:List UInt8} {nm:ByteArray} (h1:l=Wc.txt nm++l1) (h:Rc.No (Rc.lenc Rc.encT) (Rc.lfit 8 Rc.fitT) l1):Rc.No Wc.fn Rc.fnFit l:=fun y _ hy e=>h y.params _ (Rc.fitP hy) (Rc.f1 h1 e).2
theorem Rc.f2 {l l1 l2:List UInt8} {nm:ByteArray} {ps:List Int} (h1:l=Wc.txt nm++l1) (hp:Rc.lfit 8 Rc.fitT ps) (h2:l1=Rc.lenc Rc.encT ps++l2) {y:Cd.Fn} {t:List UInt8} (hy:Rc.fnFit y) (e:l=Wc.fn y++t):l2=Wc.num (Wc.u y.result)++(Wc.num (Wc.u y.slots)++(Rc.lenc Wc.ins y.ins++t)):=(Rc.lenc_one Rc.encT_one 8 _ _ _ _ hp (Rc.fitP hy) (h2.symm.trans (Rc.f1 h1 e).2)).2
theorem Rc.no_f2 {l l1 l2:List UInt8} {nm:ByteArray} {ps:List Int} (h1:l=Wc.txt nm++l1) (hp:Rc.lfit 8 Rc.fitT ps) (h2:l1=Rc.lenc Rc.encT ps++l2) (h:Rc.No Wc.num (fun n=>n≤10) l2):Rc.No Wc.fn Rc.fnFit l:=fun y _ hy e=>h (Wc.u y.result) _ (Rc.u_le hy.2.2.2.1.1 hy.2.2.2.1.2 (by omega)) (Rc.f2 h1 hp h2 hy e)
theorem Rc.f3 {l l1 l2 l3:List UInt8} {nm:ByteArray} {ps:List Int} {rs:Nat} (h1:l=Wc.txt nm++l1) (hp:Rc.lfit 8 Rc.fitT ps) (h2:l1=Rc.lenc Rc.encT ps++l2) (h3:l2=Wc.num rs++l3) {y:Cd.Fn} {t:List UInt8} (hy:Rc.fnFit y) (e:l=Wc.fn y++t):l3=Wc.num (Wc.u y.slots)++(Rc.lenc Wc.ins y.ins++t):=(Rc.num_one (h3.symm.trans (Rc.f2 h1 hp h2 hy e))).2
theorem Rc.no_f3 {l l1 l2 l3:List UInt8} {nm:ByteArray} {ps:List Int} {rs:Nat} (h1:l=Wc.txt nm++l1) (hp:Rc.lfit 8 Rc.fitT ps) (h2:l1=Rc.lenc Rc.encT ps++l2) (h3:l2=Wc.num rs++l3) (h:Rc.No Wc.num (fun n=>n≤200) l3):Rc.No Wc.fn Rc.fnFit l:=fun y _ hy e=>h (Wc.u y.slots) _ (Rc.u_le hy.2.2.2.2.1.1 hy.2.2.2.2.1.2 (by omega)) (Rc.f3 h1 hp h2 h3 hy e)
theorem Rc.no_f4 {l l1 l2 l3 l4:List UInt8} {nm:ByteArray} {ps:List Int} {rs ss:Nat} (h1:l=Wc.txt nm++l1) (hp:Rc.lfit 8 Rc.fitT ps) (h2:l1=Rc.lenc Rc.encT ps++l2) (h3:l2=Wc.num rs++l3) (h4:l3=Wc.num ss++l4) (h:Rc.No (Rc.lenc Wc.ins) (Rc.lfit 50000 Rc.insFit) l4):Rc.No Wc.fn Rc.fnFit l:=fun y _ hy e=>h y.ins _ (Rc.fitI hy) (Rc.num_one (h4.symm.trans (Rc.f3 h1 hp h2 h3 hy e))).2
theorem Rc.f5 {l l1 l2 l3 l4 l5:List UInt8} {nm:ByteArray} {ps:List Int} {rs ss:Nat} {is:List Cd.Ins} (hn:nm.size≤30) (h1:l=Wc.txt nm++l1) (hp:Rc.lfit 8 Rc.fitT ps) (h2:l1=Rc.lenc Rc.encT ps++l2) (hr:rs≤10) (h3:l2=Wc.num rs++l3) (hs:ss≤200) (h4:l3=Wc.num ss++l4) (hi:Rc.lfit 50000 Rc.insFit is) (h5:l4=Rc.lenc Wc.ins is++l5):Rc.fnFit ⟨nm,ps,rs,ss,is⟩∧l=Wc.fn ⟨nm,ps,rs,ss,is⟩++l5:=by
  refine ⟨⟨hn,hp.1,hp.2,⟨by simp only;omega,by simp only;omega⟩,⟨by simp only;omega,by simp only;omega⟩,hi.1,hi.2⟩, ?_⟩
  rw [Rc.fn_flat,h1,h2,h3,h4,h5]
  simp only [Rc.un rs (by omega),Rc.un ss (by omega)]
structure Rc.FSt (w w0:World) (g:Nat) (r:ByteArray) (R X:Nat) (f:Cd.Fn) (pv iv:Value) (U:World):Prop where
  rd:Rc.Rr w0 g r U
  rb:U.heap[R]? = some (.cells #[.string ⟨#[]⟩,.slice none 0 0,.int .i64 0,.int .i64 0,.slice none 0 0] 37)
  xb:U.heap[X]? = some (.cells #[.string f.name,pv,.int .i64 f.result,.int .i64 f.slots,iv] 37)
  po:U.ownsRow w.heap.size 3 1 pv f.params.length (Cd.ints f.params)
  io:U.ownsRow w.heap.size 54 4 iv f.ins.length (Rc.insCs f.ins)
  fr:Rc.Fr (fun k=>k=g) w U
  ne:R≠X∧w.heap.size≤R∧w.heap.size≤X∧g < w.heap.size∧w0.heap.size≤w.heap.size
theorem Rc.FSt.call {w w0:World} {g:Nat} {r r':ByteArray} {R X:Nat} {f:Cd.Fn} {pv iv:Value} {U U':World} (h:Rc.FSt w w0 g r R X f pv iv U) (hr:Rc.Rr w0 g r' U') (hf:Rc.Fr (fun k=>k=g) U U'):Rc.FSt w w0 g r' R X f pv iv U' :=
  ⟨hr,(hf.keep R (Array.getElem?_eq_some_iff.1 h.rb).1 (by have:=h.ne;omega)).trans h.rb,(hf.keep X (Array.getElem?_eq_some_iff.1 h.xb).1 (by have:=h.ne;omega)).trans h.xb,
    Rc.own_keep h.po (fun k _ h1 h2=>hf.keep k h2 (by have:=h.ne;omega)),Rc.own_keep h.io (fun k _ h1 h2=>hf.keep k h2 (by have:=h.ne;omega)),h.fr.trans hf,h.ne⟩
theorem Rc.FSt.put {w w0:World} {g:Nat} {r:ByteArray} {R X:Nat} {f:Cd.Fn} {pv iv:Value} {U:World} (h:Rc.FSt w w0 g r R X f pv iv U) (j:Nat) (v:Value) (f':Cd.Fn) (pv' iv':Value) (e:(#[.string f.name,pv,.int .i64 f.result,.int .i64 f.slots,iv]:Array Value).setIfInBounds j v = #[.string f'.name,pv',.int .i64 f'.result,.int .i64 f'.slots,iv']) (hp:U.ownsRow w.heap.size 3 1 pv' f'.params.length (Cd.ints f'.params)) (hi:U.ownsRow w.heap.size 54 4 iv' f'.ins.length (Rc.insCs f'.ins)):Rc.FSt w w0 g r R X f' pv' iv' (U.setCell ⟨X,j,none⟩ v):=by
  obtain ⟨n1,n2,n3,n4,n5⟩:=h.ne
  exact ⟨h.rd.oth (by omega) (by omega),(Rc.set_oth n1).trans h.rb,by rw [Rc.set_same h.xb,e],Rc.own_set hp h.xb (by decide),Rc.own_set hi h.xb (by decide),h.fr.new X j v n3,h.ne⟩
theorem Rc.FSt.ret {w w0:World} {g:Nat} {r:ByteArray} {R X:Nat} {f:Cd.Fn} {pv iv:Value} {U:World} (h:Rc.FSt w w0 g r R X f pv iv U) (nm:ByteArray) (p:Value) (rs ss:Int) (i:Value) :
    ∃ U5,((((U.setCell ⟨R,0,none⟩ (.string nm)).setCell ⟨R,1,none⟩ p).setCell ⟨R,2,none⟩ (.int .i64 rs)).setCell ⟨R,3,none⟩ (.int .i64 ss)).setCell ⟨R,4,none⟩ i=U5∧Rc.Rr w0 g r U5∧Rc.Fr (fun k=>k=g) w U5∧U5.ownsRow w.heap.size 3 1 pv f.params.length (Cd.ints f.params)∧U5.ownsRow w.heap.size 54 4 iv f.ins.length (Rc.insCs f.ins)∧U5.cell? ⟨R,0,none⟩=some (.string nm)∧U5.cell? ⟨R,1,none⟩=some p∧U5.cell? ⟨R,2,none⟩=some (.int .i64 rs)∧U5.cell? ⟨R,3,none⟩=some (.int .i64 ss)∧U5.cell? ⟨R,4,none⟩=some i:=by
  have b1:=Rc.set_same (i:=0) (v:=.string nm) h.rb
  have b2:=Rc.set_same (i:=1) (v:=p) b1
  have b3:=Rc.set_same (i:=2) (v:=.int .i64 rs) b2
  have b4:=Rc.set_same (i:=3) (v:=.int .i64 ss) b3
  have b5:=Rc.set_same (i:=4) (v:=i) b4
  obtain ⟨⟨c0,c1,c2,c3,c4⟩,-⟩:=Rc.cells5 (a:=.string nm) (b:=p) (c:=.int .i64 rs) (d:=.int .i64 ss) (e:=i) b5
  obtain ⟨n1,n2,n3,n4,n5⟩:=h.ne
  have m1:R≠g:=by omega
  have m2:w0.heap.size≤R:=by omega
  exact ⟨_,rfl,((((h.rd.oth m1 m2).oth m1 m2).oth m1 m2).oth m1 m2).oth m1 m2,((((h.fr.new R 0 _ n2).new R 1 _ n2).new R 2 _ n2).new R 3 _ n2).new R 4 _ n2,Rc.own_set (Rc.own_set (Rc.own_set (Rc.own_set (Rc.own_set h.po h.rb (by decide)) b1 (by decide)) b2 (by decide)) b3 (by decide)) b4 (by decide),Rc.own_set (Rc.own_set (Rc.own_set (Rc.own_set (Rc.own_set h.io h.rb (by decide)) b1 (by decide)) b2 (by decide)) b3 (by decide)) b4 (by decide),c0,c1,c2,c3,c4⟩
def Rc.FPost (w0:World) (g:Nat) (r:ByteArray) (w:World) (e:Ending) (w':World):Prop :=
  (∃ f pa pc ia ic,e = .returned (.tuple #[Cd.fnV f (.slice pa f.params.length pc) (.slice ia f.ins.length ic),.nilIface])∧Rc.fnFit f∧w'.ownsRow w.heap.size 3 1 (.slice pa f.params.length pc) f.params.length (Cd.ints f.params)∧w'.ownsRow w.heap.size 54 4 (.slice ia f.ins.length ic) f.ins.length (Rc.insCs f.ins)∧Rc.Rok w0 g r w Wc.fn f w')∨(∃ f pa pn pc ia jn ic ea,e = .returned (.tuple #[Cd.fnV f (.slice pa pn pc) (.slice ia jn ic),.iface 214 (.pointer (some ea))])∧Rc.Rno w0 g r w Wc.fn Rc.fnFit w')
set_option maxRecDepth 100000 in
set_option maxHeartbeats 2000000 in
theorem Rc.ifn_any (w0:World) (g:Nat) (r:ByteArray) (w:World) (hT:Rc.Tb w0) (hR:Rc.Rr w0 g r w) :
    Calls Tryz.prog 39 #[.pointer (some ⟨g,0,none⟩)] w (Rc.FPost w0 g r w):=by
  have HU:Hid (∀ (m:Nat) (r:ByteArray) (U:World),m≤1000000→Rc.Rr w0 g r U→Calls Tryz.prog 51 #[.pointer (some ⟨g,0,none⟩),.int .i64 (m:Int)] U (Rc.UPost m w0 g r U)):=fun m r U hm h=>Rc.upTo_any m hm w0 g r U hT h
  have HTX:Hid (∀ (r:ByteArray) (U:World),Rc.Rr w0 g r U→Calls Tryz.prog 52 #[.pointer (some ⟨g,0,none⟩),.int .i64 30] U (Rc.TPost 30 w0 g r U)):=fun r U h=>Rc.itext_any 30 (by omega) w0 g r U hT h
  have HTY:Hid (∀ (r:ByteArray) (U:World),Rc.Rr w0 g r U→Calls Tryz.prog 54 #[.pointer (some ⟨g,0,none⟩)] U (Rc.UPost 10 w0 g r U)):=fun r U h=>Rc.type_any w0 g r U hT h
  have HSI:Hid (∀ (r:ByteArray) (U:World),Rc.Rr w0 g r U→Calls Tryz.prog 53 #[.pointer (some ⟨g,0,none⟩),.int .i64 8,.func (Fn.func 54) #[.pointer (some ⟨g,0,none⟩)] #[]] U (Rc.SintPost 8 w0 g r U)):=fun r U h=>Rc.sint_any 8 (by omega) w0 g r U hT h
  have HSN:Hid (∀ (r:ByteArray) (U:World),Rc.Rr w0 g r U→Calls Tryz.prog 55 #[.pointer (some ⟨g,0,none⟩),.int .i64 50000,.func (Fn.func 56) #[.pointer (some ⟨g,0,none⟩)] #[]] U (Rc.SinsPost 50000 w0 g r U)):=fun r U h=>Rc.sins_any 50000 (by omega) w0 g r U hT h
  obtain ⟨R,HRR⟩:∃ R,Hid (w.heap.size=R):=⟨_,(rfl:w.heap.size=_)⟩
  obtain ⟨V,hV⟩:∃ V,(w.alloc (.cells #[.string ⟨#[]⟩,.slice none 0 0,.int .i64 0,.int .i64 0,.slice none 0 0] 37)).alloc (.cells #[.string ⟨#[]⟩,.slice none 0 0,.int .i64 0,.int .i64 0,.slice none 0 0] 37)=V:=⟨_,rfl⟩
  have HS0:Hid (Rc.FSt w w0 g r R (R+1) ⟨⟨#[]⟩,[],0,0,[]⟩ (.slice none 0 0) (.slice none 0 0) V):=by
    have e1:=MapKept.heap_alloc w (.cells #[.string ⟨#[]⟩,.slice none 0 0,.int .i64 0,.int .i64 0,.slice none 0 0] 37)
    have e2:=MapKept.heap_alloc (w.alloc (.cells #[.string ⟨#[]⟩,.slice none 0 0,.int .i64 0,.int .i64 0,.slice none 0 0] 37)) (.cells #[.string ⟨#[]⟩,.slice none 0 0,.int .i64 0,.int .i64 0,.slice none 0 0] 37)
    have hb:Below w.heap.size w V:=by rw [← hV];exact ((Below.refl _ w).alloc (Nat.le_refl _) _).alloc (by simp) _
    rw [hV] at e2
    have e:=HRR.out
    have:=hR.lt
    have:=hR.bel.size
    simp only [World.size_alloc,e] at e1 e2
    exact ⟨hR.keep hb,(e2.2 R (by omega)).trans e1.1,e2.1,⟨rfl,.inl ⟨rfl,rfl⟩⟩,⟨rfl,.inl ⟨rfl,rfl⟩⟩,Rc.Fr.of_below hb,by omega,by omega,by omega,by omega,by omega⟩
  clear hR hT
  obtain ⟨X,HX⟩:∃ X,Hid (R+1=X):=⟨_,(rfl:R+1=_)⟩
  rw [HX.out] at HS0
  go_enter Tryz.func39,Tryz.ntmps39
  go_wp2_with fail
  rw [HRR.out,HX.out]
  clear hV
  refine (HTX.out r V HS0.out.rd).mono ?_
  rintro e w1 (⟨nm,rfl,hnm,r1,hl,hRr,hFr⟩ | ⟨ea,rfl,hno,r1,hRr,hFr⟩)
  rotate_left
  · have HNO:Hid (Rc.No Wc.fn Rc.fnFit r.data.toList):=Rc.no_f0 hno
    have HP:Hid (Rc.FSt w w0 g r1 R X ⟨⟨#[]⟩,[],0,0,[]⟩ (.slice none 0 0) (.slice none 0 0) w1):=HS0.out.call hRr hFr
    have HS1:Hid (Rc.FSt w w0 g r1 R X ⟨⟨#[]⟩,[],0,0,[]⟩ (.slice none 0 0) (.slice none 0 0) (w1.setCell ⟨X,0,none⟩ (.string ⟨#[]⟩))):=HP.out.put 0 _ _ _ _ rfl ⟨rfl,.inl ⟨rfl,rfl⟩⟩ ⟨rfl,.inl ⟨rfl,rfl⟩⟩
    have z1:=(Rc.cells5 HP.out.xb).1.1
    have z2:=(Rc.cells5 HP.out.xb).2.1
    try simp only at z1
    obtain ⟨V,hV⟩:∃ V,w1.setCell ⟨X,0,none⟩ (.string ⟨#[]⟩)=V:=⟨_,rfl⟩
    rw [hV] at HS1
    obtain ⟨⟨b0,b1,b2,b3,b4⟩,g0,g1,g2,g3,g4⟩:=Rc.cells5 HS1.out.rb
    clear hno hRr hFr HP
    go_wp2_with fail
    obtain ⟨U5,hU5,hR5,hF5,-,-,d0,d1,d2,d3,d4⟩:=HS1.out.ret ⟨#[]⟩ (.slice none 0 0) 0 0 (.slice none 0 0)
    rw [hU5]
    clear hU5 b0 b1 b2 b3 b4 g0 g1 g2 g3 g4 z1 z2 hV
    exact bodyPost_ret (v:=.tuple #[Cd.fnV ⟨⟨#[]⟩,[],0,0,[]⟩ (.slice none 0 0) (.slice none 0 0),.iface 214 (.pointer (some ea))]) (by simp [results,Tryz.results39,go_sem,d0,d1,d2,d3,d4,Cd.fnV]) rfl (.inr ⟨⟨⟨#[]⟩,[],0,0,[]⟩,none,0,0,none,0,0,ea,rfl,HNO.out,_,hR5,hF5⟩)
  have HP:Hid (Rc.FSt w w0 g r1 R X ⟨⟨#[]⟩,[],0,0,[]⟩ (.slice none 0 0) (.slice none 0 0) w1):=HS0.out.call hRr hFr
  have HS1:Hid (Rc.FSt w w0 g r1 R X ⟨nm,[],0,0,[]⟩ (.slice none 0 0) (.slice none 0 0) (w1.setCell ⟨X,0,none⟩ (.string nm))):=HP.out.put 0 _ _ _ _ rfl ⟨rfl,.inl ⟨rfl,rfl⟩⟩ ⟨rfl,.inl ⟨rfl,rfl⟩⟩
  have z1:=(Rc.cells5 HP.out.xb).1.1
  have z2:=(Rc.cells5 HP.out.xb).2.1
  try simp only at z1
  obtain ⟨V,hV⟩:∃ V,w1.setCell ⟨X,0,none⟩ (.string nm)=V:=⟨_,rfl⟩
  rw [hV] at HS1
  obtain ⟨⟨b0,b1,b2,b3,b4⟩,g0,g1,g2,g3,g4⟩:=Rc.cells5 HS1.out.rb
  have HL1:Hid (r.data.toList=Wc.txt nm++r1.data.toList):=hl
  clear hl hRr hFr HP HS0
  go_wp2_with fail
  clear b0 b1 b2 b3 b4 g0 g1 g2 g3 g4 z1 z2 hV
  refine (HSI.out r1 V HS1.out.rd).mono ?_
  rintro e w2 (⟨ps,pa,pc,rfl,hps,hpo,r2,hl,hRr,hFr⟩ | ⟨ea,rfl,hno,r2,hRr,hFr⟩)
  rotate_left
  · have HNO:Hid (Rc.No Wc.fn Rc.fnFit r.data.toList):=Rc.no_f1 HL1.out hno
    have HP:Hid (Rc.FSt w w0 g r2 R X ⟨nm,[],0,0,[]⟩ (.slice none 0 0) (.slice none 0 0) w2):=HS1.out.call hRr hFr
    have HS2:Hid (Rc.FSt w w0 g r2 R X ⟨nm,[],0,0,[]⟩ (.slice none 0 0) (.slice none 0 0) (w2.setCell ⟨X,1,none⟩ (.slice none 0 0))):=HP.out.put 1 _ _ _ _ rfl ⟨rfl,.inl ⟨rfl,rfl⟩⟩ ⟨rfl,.inl ⟨rfl,rfl⟩⟩
    have z1:=(Rc.cells5 HP.out.xb).1.2.1
    have z2:=(Rc.cells5 HP.out.xb).2.2.1
    try simp only at z1
    obtain ⟨V,hV⟩:∃ V,w2.setCell ⟨X,1,none⟩ (.slice none 0 0)=V:=⟨_,rfl⟩
    rw [hV] at HS2
    obtain ⟨⟨b0,b1,b2,b3,b4⟩,g0,g1,g2,g3,g4⟩:=Rc.cells5 HS2.out.rb
    clear hno hRr hFr HP
    go_wp2_with fail
    obtain ⟨U5,hU5,hR5,hF5,-,-,d0,d1,d2,d3,d4⟩:=HS2.out.ret ⟨#[]⟩ (.slice none 0 0) 0 0 (.slice none 0 0)
    rw [hU5]
    clear hU5 b0 b1 b2 b3 b4 g0 g1 g2 g3 g4 z1 z2 hV
    exact bodyPost_ret (v:=.tuple #[Cd.fnV ⟨⟨#[]⟩,[],0,0,[]⟩ (.slice none 0 0) (.slice none 0 0),.iface 214 (.pointer (some ea))]) (by simp [results,Tryz.results39,go_sem,d0,d1,d2,d3,d4,Cd.fnV]) rfl (.inr ⟨⟨⟨#[]⟩,[],0,0,[]⟩,none,0,0,none,0,0,ea,rfl,HNO.out,_,hR5,hF5⟩)
  have HP:Hid (Rc.FSt w w0 g r2 R X ⟨nm,[],0,0,[]⟩ (.slice none 0 0) (.slice none 0 0) w2):=HS1.out.call hRr hFr
  have HS2:Hid (Rc.FSt w w0 g r2 R X ⟨nm,ps,0,0,[]⟩ (.slice pa ps.length pc) (.slice none 0 0) (w2.setCell ⟨X,1,none⟩ (.slice pa ps.length pc))):=HP.out.put 1 _ _ _ _ rfl (Rc.own_mono hpo HS1.out.fr.size) ⟨rfl,.inl ⟨rfl,rfl⟩⟩
  have z1:=(Rc.cells5 HP.out.xb).1.2.1
  have z2:=(Rc.cells5 HP.out.xb).2.2.1
  try simp only at z1
  obtain ⟨V,hV⟩:∃ V,w2.setCell ⟨X,1,none⟩ (.slice pa ps.length pc)=V:=⟨_,rfl⟩
  rw [hV] at HS2
  obtain ⟨⟨b0,b1,b2,b3,b4⟩,g0,g1,g2,g3,g4⟩:=Rc.cells5 HS2.out.rb
  have HL2:Hid (r1.data.toList=Rc.lenc Rc.encT ps++r2.data.toList):=hl
  clear hl hRr hFr HP HS1
  go_wp2_with fail
  clear b0 b1 b2 b3 b4 g0 g1 g2 g3 g4 z1 z2 hV
  refine (HTY.out r2 V HS2.out.rd).mono ?_
  rintro e w3 (⟨rs,rfl,hrs,r3,hl,hRr,hFr⟩ | ⟨ea,rfl,hno,r3,hRr,hFr⟩)
  rotate_left
  · have HNO:Hid (Rc.No Wc.fn Rc.fnFit r.data.toList):=Rc.no_f2 HL1.out hps HL2.out hno
    have HP:Hid (Rc.FSt w w0 g r3 R X ⟨nm,ps,0,0,[]⟩ (.slice pa ps.length pc) (.slice none 0 0) w3):=HS2.out.call hRr hFr
    have HS3:Hid (Rc.FSt w w0 g r3 R X ⟨nm,ps,0,0,[]⟩ (.slice pa ps.length pc) (.slice none 0 0) (w3.setCell ⟨X,2,none⟩ (.int .i64 0))):=HP.out.put 2 _ _ _ _ rfl HP.out.po ⟨rfl,.inl ⟨rfl,rfl⟩⟩
    have z1:=(Rc.cells5 HP.out.xb).1.2.2.1
    have z2:=(Rc.cells5 HP.out.xb).2.2.2.1
    try simp only at z1
    obtain ⟨V,hV⟩:∃ V,w3.setCell ⟨X,2,none⟩ (.int .i64 0)=V:=⟨_,rfl⟩
    rw [hV] at HS3
    obtain ⟨⟨b0,b1,b2,b3,b4⟩,g0,g1,g2,g3,g4⟩:=Rc.cells5 HS3.out.rb
    clear hno hRr hFr HP
    go_wp2_with fail
    obtain ⟨U5,hU5,hR5,hF5,-,-,d0,d1,d2,d3,d4⟩:=HS3.out.ret ⟨#[]⟩ (.slice none 0 0) 0 0 (.slice none 0 0)
    rw [hU5]
    clear hU5 b0 b1 b2 b3 b4 g0 g1 g2 g3 g4 z1 z2 hV
    exact bodyPost_ret (v:=.tuple #[Cd.fnV ⟨⟨#[]⟩,[],0,0,[]⟩ (.slice none 0 0) (.slice none 0 0),.iface 214 (.pointer (some ea))]) (by simp [results,Tryz.results39,go_sem,d0,d1,d2,d3,d4,Cd.fnV]) rfl (.inr ⟨⟨⟨#[]⟩,[],0,0,[]⟩,none,0,0,none,0,0,ea,rfl,HNO.out,_,hR5,hF5⟩)
  have HP:Hid (Rc.FSt w w0 g r3 R X ⟨nm,ps,0,0,[]⟩ (.slice pa ps.length pc) (.slice none 0 0) w3):=HS2.out.call hRr hFr
  have HS3:Hid (Rc.FSt w w0 g r3 R X ⟨nm,ps,rs,0,[]⟩ (.slice pa ps.length pc) (.slice none 0 0) (w3.setCell ⟨X,2,none⟩ (.int .i64 (rs:Int)))):=HP.out.put 2 _ _ _ _ rfl HP.out.po ⟨rfl,.inl ⟨rfl,rfl⟩⟩
  have z1:=(Rc.cells5 HP.out.xb).1.2.2.1
  have z2:=(Rc.cells5 HP.out.xb).2.2.2.1
  try simp only at z1
  obtain ⟨V,hV⟩:∃ V,w3.setCell ⟨X,2,none⟩ (.int .i64 (rs:Int))=V:=⟨_,rfl⟩
  rw [hV] at HS3
  obtain ⟨⟨b0,b1,b2,b3,b4⟩,g0,g1,g2,g3,g4⟩:=Rc.cells5 HS3.out.rb
  have HL3:Hid (r2.data.toList=Wc.num rs++r3.data.toList):=hl
  clear hl hRr hFr HP HS2
  go_wp2_with fail
  clear b0 b1 b2 b3 b4 g0 g1 g2 g3 g4 z1 z2 hV
  refine (HU.out 200 r3 V (by omega) HS3.out.rd).mono ?_
  rintro e w4 (⟨ss,rfl,hss,r4,hl,hRr,hFr⟩ | ⟨ea,rfl,hno,r4,hRr,hFr⟩)
  rotate_left
  · have HNO:Hid (Rc.No Wc.fn Rc.fnFit r.data.toList):=Rc.no_f3 HL1.out hps HL2.out HL3.out hno
    have HP:Hid (Rc.FSt w w0 g r4 R X ⟨nm,ps,rs,0,[]⟩ (.slice pa ps.length pc) (.slice none 0 0) w4):=HS3.out.call hRr hFr
    have HS4:Hid (Rc.FSt w w0 g r4 R X ⟨nm,ps,rs,0,[]⟩ (.slice pa ps.length pc) (.slice none 0 0) (w4.setCell ⟨X,3,none⟩ (.int .i64 0))):=HP.out.put 3 _ _ _ _ rfl HP.out.po ⟨rfl,.inl ⟨rfl,rfl⟩⟩
    have z1:=(Rc.cells5 HP.out.xb).1.2.2.2.1
    have z2:=(Rc.cells5 HP.out.xb).2.2.2.2.1
    try simp only at z1
    obtain ⟨V,hV⟩:∃ V,w4.setCell ⟨X,3,none⟩ (.int .i64 0)=V:=⟨_,rfl⟩
    rw [hV] at HS4
    obtain ⟨⟨b0,b1,b2,b3,b4⟩,g0,g1,g2,g3,g4⟩:=Rc.cells5 HS4.out.rb
    clear hno hRr hFr HP
    go_wp2_with fail
    obtain ⟨U5,hU5,hR5,hF5,-,-,d0,d1,d2,d3,d4⟩:=HS4.out.ret ⟨#[]⟩ (.slice none 0 0) 0 0 (.slice none 0 0)
    rw [hU5]
    clear hU5 b0 b1 b2 b3 b4 g0 g1 g2 g3 g4 z1 z2 hV
    exact bodyPost_ret (v:=.tuple #[Cd.fnV ⟨⟨#[]⟩,[],0,0,[]⟩ (.slice none 0 0) (.slice none 0 0),.iface 214 (.pointer (some ea))]) (by simp [results,Tryz.results39,go_sem,d0,d1,d2,d3,d4,Cd.fnV]) rfl (.inr ⟨⟨⟨#[]⟩,[],0,0,[]⟩,none,0,0,none,0,0,ea,rfl,HNO.out,_,hR5,hF5⟩)
  have HP:Hid (Rc.FSt w w0 g r4 R X ⟨nm,ps,rs,0,[]⟩ (.slice pa ps.length pc) (.slice none 0 0) w4):=HS3.out.call hRr hFr
  have HS4:Hid (Rc.FSt w w0 g r4 R X ⟨nm,ps,rs,ss,[]⟩ (.slice pa ps.length pc) (.slice none 0 0) (w4.setCell ⟨X,3,none⟩ (.int .i64 (ss:Int)))):=HP.out.put 3 _ _ _ _ rfl HP.out.po ⟨rfl,.inl ⟨rfl,rfl⟩⟩
  have z1:=(Rc.cells5 HP.out.xb).1.2.2.2.1
  have z2:=(Rc.cells5 HP.out.xb).2.2.2.2.1
  try simp only at z1
  obtain ⟨V,hV⟩:∃ V,w4.setCell ⟨X,3,none⟩ (.int .i64 (ss:Int))=V:=⟨_,rfl⟩
  rw [hV] at HS4
  obtain ⟨⟨b0,b1,b2,b3,b4⟩,g0,g1,g2,g3,g4⟩:=Rc.cells5 HS4.out.rb
  have HL4:Hid (r3.data.toList=Wc.num ss++r4.data.toList):=hl
  clear hl hRr hFr HP HS3
  go_wp2_with fail
  clear b0 b1 b2 b3 b4 g0 g1 g2 g3 g4 z1 z2 hV
  refine (HSN.out r4 V HS4.out.rd).mono ?_
  rintro e w5 (⟨is,ia,ic,rfl,his,hio,r5,hl,hRr,hFr⟩ | ⟨ea,rfl,hno,r5,hRr,hFr⟩)
  · have HOK:Hid (Rc.fnFit ⟨nm,ps,rs,ss,is⟩∧r.data.toList=Wc.fn ⟨nm,ps,rs,ss,is⟩++r5.data.toList):=Rc.f5 hnm HL1.out hps HL2.out hrs HL3.out hss HL4.out his hl
    have HP:Hid (Rc.FSt w w0 g r5 R X ⟨nm,ps,rs,ss,[]⟩ (.slice pa ps.length pc) (.slice none 0 0) w5):=HS4.out.call hRr hFr
    have HS5:Hid (Rc.FSt w w0 g r5 R X ⟨nm,ps,rs,ss,is⟩ (.slice pa ps.length pc) (.slice ia is.length ic) (w5.setCell ⟨X,4,none⟩ (.slice ia is.length ic))):=HP.out.put 4 _ _ _ _ rfl HP.out.po (Rc.own_mono hio HS4.out.fr.size)
    have z1:=(Rc.cells5 HP.out.xb).1.2.2.2.2
    have z2:=(Rc.cells5 HP.out.xb).2.2.2.2.2
    try simp only at z1
    obtain ⟨V,hV⟩:∃ V,w5.setCell ⟨X,4,none⟩ (.slice ia is.length ic)=V:=⟨_,rfl⟩
    rw [hV] at HS5
    obtain ⟨⟨b0,b1,b2,b3,b4⟩,g0,g1,g2,g3,g4⟩:=Rc.cells5 HS5.out.rb
    obtain ⟨⟨x0,x1,x2,x3,x4⟩,y0,y1,y2,y3,y4⟩:=Rc.cells5 HS5.out.xb
    simp only at x0 x1 x2 x3 x4
    clear hl hRr hFr HP
    go_wp2_with fail
    obtain ⟨U5,hU5,hR5,hF5,hp5,hi5,d0,d1,d2,d3,d4⟩:=HS5.out.ret nm (.slice pa ps.length pc) rs ss (.slice ia is.length ic)
    rw [hU5]
    clear hU5 b0 b1 b2 b3 b4 g0 g1 g2 g3 g4 z1 z2 hV x0 x1 x2 x3 x4 y0 y1 y2 y3 y4
    exact bodyPost_ret (v:=.tuple #[Cd.fnV ⟨nm,ps,rs,ss,is⟩ (.slice pa ps.length pc) (.slice ia is.length ic),.nilIface]) (by simp [results,Tryz.results39,go_sem,d0,d1,d2,d3,d4,Cd.fnV]) rfl (.inl ⟨⟨nm,ps,rs,ss,is⟩,pa,pc,ia,ic,rfl,HOK.out.1,hp5,hi5,_,HOK.out.2,hR5,hF5⟩)
  · have HNO:Hid (Rc.No Wc.fn Rc.fnFit r.data.toList):=Rc.no_f4 HL1.out hps HL2.out HL3.out HL4.out hno
    have HP:Hid (Rc.FSt w w0 g r5 R X ⟨nm,ps,rs,ss,[]⟩ (.slice pa ps.length pc) (.slice none 0 0) w5):=HS4.out.call hRr hFr
    have HS5:Hid (Rc.FSt w w0 g r5 R X ⟨nm,ps,rs,ss,[]⟩ (.slice pa ps.length pc) (.slice none 0 0) (w5.setCell ⟨X,4,none⟩ (.slice none 0 0))):=HP.out.put 4 _ _ _ _ rfl HP.out.po ⟨rfl,.inl ⟨rfl,rfl⟩⟩
    have z1:=(Rc.cells5 HP.out.xb).1.2.2.2.2
    have z2:=(Rc.cells5 HP.out.xb).2.2.2.2.2
    try simp only at z1
    obtain ⟨V,hV⟩:∃ V,w5.setCell ⟨X,4,none⟩ (.slice none 0 0)=V:=⟨_,rfl⟩
    rw [hV] at HS5
    obtain ⟨⟨b0,b1,b2,b3,b4⟩,g0,g1,g2,g3,g4⟩:=Rc.cells5 HS5.out.rb
    obtain ⟨⟨x0,x1,x2,x3,x4⟩,y0,y1,y2,y3,y4⟩:=Rc.cells5 HS5.out.xb
    simp only at x0 x1 x2 x3 x4
    clear hno hRr hFr HP
    go_wp2_with fail
    obtain ⟨U5,hU5,hR5,hF5,hp5,hi5,d0,d1,d2,d3,d4⟩:=HS5.out.ret nm (.slice pa ps.length pc) rs ss (.slice none 0 0)
    rw [hU5]
    clear hU5 b0 b1 b2 b3 b4 g0 g1 g2 g3 g4 z1 z2 hV x0 x1 x2 x3 x4 y0 y1 y2 y3 y4
    exact bodyPost_ret (v:=.tuple #[Cd.fnV ⟨nm,ps,rs,ss,[]⟩ (.slice pa ps.length pc) (.slice none 0 0),.iface 214 (.pointer (some ea))]) (by simp [results,Tryz.results39,go_sem,d0,d1,d2,d3,d4,Cd.fnV]) rfl (.inr ⟨⟨nm,ps,rs,ss,[]⟩,pa,ps.length,pc,none,0,0,ea,rfl,HNO.out,_,hR5,hF5⟩)
end Go.Proofs.YtbkhedpabfanoaaGreatDoor
