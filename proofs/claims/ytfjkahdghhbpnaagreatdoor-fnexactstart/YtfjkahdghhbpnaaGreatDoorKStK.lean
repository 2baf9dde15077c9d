import Derived.Test.YtfjkahdghhbpnaaGreatDoorKTk
import Derived.Test.YtfjkahdghhbpnaaGreatDoorKStD
set_option maxRecDepth 100000
set_option maxHeartbeats 8000000
namespace Go.Proofs.YtfjkahdghhbpnaaGreatDoor
open Go.RowKit
structure Fx (A:Nat) (w:World) (cv v av ov fv slv stv iv sv:Value) (E:List B0) (arg:ByteArray) (outs:List ByteArray) (fn ns:Nat):Prop where
 cod:w.ownsRow A 38 1 cv 1 [v]
 own:A2 A w v E
 args:w.ownsRow A 9 1 av 1 (Be [arg])
 outs:w.ownsRow A 9 1 ov outs.length (Be outs)
 ne:∀ k,av.ownBlock=some k->ov.ownBlock≠some k
 frm:w.ownsRow A 56 5 fv 1 [.int .i64 0,.int .i64 (fn:Int),.int .i64 0,slv,stv]
 slo:w.ownsRow A 99 3 slv ns (Bj (B3 ns))
 stk:w.ownsRow A 99 3 stv 0 []
 fil:w.ownsRow A 119 2 iv 0 []
 sai:w.ownsRow A 9 1 sv 0 []
theorem Fx.keep {A:Nat} {w w':World} {cv v av ov fv slv stv iv sv:Value} {E:List B0} {arg:ByteArray} {outs:List ByteArray} {fn ns:Nat} (h:Fx A w cv v av ov fv slv stv iv sv E arg outs fn ns) (hk:∀ k,A<=k->k < w.heap.size->w'.heap[k]? = w.heap[k]?):Fx A w' cv v av ov fv slv stv iv sv E arg outs fn ns :=
 ⟨Ah h.cod (fun k _ h1 h2=>hk k h1 h2),h.own.keep hk,Ah h.args (fun k _ h1 h2=>hk k h1 h2),Ah h.outs (fun k _ h1 h2=>hk k h1 h2),h.ne,Ah h.frm (fun k _ h1 h2=>hk k h1 h2),Ah h.slo (fun k _ h1 h2=>hk k h1 h2),Ah h.stk (fun k _ h1 h2=>hk k h1 h2),Ah h.fil (fun k _ h1 h2=>hk k h1 h2),Ah h.sai (fun k _ h1 h2=>hk k h1 h2)⟩
def Kk (cv av ov fv iv sv:Value):Value:=.agg #[cv,av,ov,fv,.int .i64 1,.int .i64 0,.int .i64 0,.string ⟨#[]⟩,.string ⟨#[]⟩,.bool false,.int .i64 0,.string ⟨#[]⟩,iv,sv]
theorem El {w:World} {R:Nat} {z0 z1 z2 z3 z4 z5 z6 z7 z8 z9 z10 z11 z12 z13:Value} {t:TypeId} {B:Nat} {w0:World} (h:w.heap[R]? = some (.cells #[z0,z1,z2,z3,z4,z5,z6,z7,z8,z9,z10,z11,z12,z13] t)) (hb:Below B w0 w) (hR:B<=R) (x0 x1 x2 x3 x4 x5 x6 x7 x8 x9 x10 x11 x12 x13:Value) :
  ∃ U,((((((((((((((w.setCell ⟨R,0,none⟩ x0).setCell ⟨R,1,none⟩ x1).setCell ⟨R,2,none⟩ x2).setCell ⟨R,3,none⟩ x3).setCell ⟨R,4,none⟩ x4).setCell ⟨R,5,none⟩ x5).setCell ⟨R,6,none⟩ x6).setCell ⟨R,7,none⟩ x7).setCell ⟨R,8,none⟩ x8).setCell ⟨R,9,none⟩ x9).setCell ⟨R,10,none⟩ x10).setCell ⟨R,11,none⟩ x11).setCell ⟨R,12,none⟩ x12).setCell ⟨R,13,none⟩ x13)=U/\Below B w0 U/\(∀ k,k≠R->U.heap[k]? = w.heap[k]?)/\U.heap[R]? = some (.cells #[x0,x1,x2,x3,x4,x5,x6,x7,x8,x9,x10,x11,x12,x13] t):=by
 have a:=(A6 (i:=13) (v:=x13) (A6 (i:=12) (v:=x12) (A6 (i:=11) (v:=x11) (A6 (i:=10) (v:=x10) (A6 (i:=9) (v:=x9) (A6 (i:=8) (v:=x8) (A6 (i:=7) (v:=x7) (A6 (i:=6) (v:=x6) (A6 (i:=5) (v:=x5) (A6 (i:=4) (v:=x4) (A6 (i:=3) (v:=x3) (A6 (i:=2) (v:=x2) (A6 (i:=1) (v:=x1) (A6 (i:=0) (v:=x0) h))))))))))))))
 simp only[List.setIfInBounds_toArray,List.set_cons_zero,List.set_cons_succ]at a
 exact⟨_,rfl,((((((((((((((hb.setCell (p:=⟨R,0,none⟩) hR x0).setCell (p:=⟨R,1,none⟩) hR x1).setCell (p:=⟨R,2,none⟩) hR x2).setCell (p:=⟨R,3,none⟩) hR x3).setCell (p:=⟨R,4,none⟩) hR x4).setCell (p:=⟨R,5,none⟩) hR x5).setCell (p:=⟨R,6,none⟩) hR x6).setCell (p:=⟨R,7,none⟩) hR x7).setCell (p:=⟨R,8,none⟩) hR x8).setCell (p:=⟨R,9,none⟩) hR x9).setCell (p:=⟨R,10,none⟩) hR x10).setCell (p:=⟨R,11,none⟩) hR x11).setCell (p:=⟨R,12,none⟩) hR x12).setCell (p:=⟨R,13,none⟩) hR x13),fun k hk=>by rw[A7 hk,A7 hk,A7 hk,A7 hk,A7 hk,A7 hk,A7 hk,A7 hk,A7 hk,A7 hk,A7 hk,A7 hk,A7 hk,A7 hk],a⟩
theorem Vu (g gc cc ga ca fa0 fc gf sg oc:Nat) (oa:Option Addr) (c:List Ae) (ha:Option Addr) (cap:Nat) (arg:ByteArray) (outs:List ByteArray) (fn ns:Nat) (w:World)
  (hM:w.heap[g]? = some (.cells #[.slice oa outs.length oc,.int .i64 1,.int .i64 0,.slice none 0 0,.slice none 0 0,.slice (some ⟨gc,0,none⟩) 1 cc,.slice (some ⟨ga,0,none⟩) 1 ca,.slice (some ⟨fa0,0,none⟩) 1 fc,.int .i64 0,.string ⟨#[]⟩,.string ⟨#[]⟩,.pointer none] 77))
  (hcl:c.length<=1048576) (hS:∀ f ∈ c,Iz f) (hgc:w.cell? ⟨gc,0,none⟩=some (.slice ha c.length cap)) (hC:Ak w.heap.size w (.slice ha c.length cap) c)
  (hga:w.cell? ⟨ga,0,none⟩=some (.string arg)) (harg:arg.size<=1048576) (ho:Cx w (.slice oa outs.length oc) outs) (hol:outs.length<=1048576) (hox:∀ d ∈ outs,d.size<=1048576)
  (hfa:w.cell? ⟨fa0,0,none⟩=some (.pointer (some ⟨gf,0,none⟩))) (hgf:w.heap[gf]? = some (.cells #[.int .i64 0,.int .i64 (fn:Int),.int .i64 0,.slice (some ⟨sg,0,none⟩) ns ns,.slice none 0 0] 152)) (hsg:sg < w.heap.size) (hns:ns<=1000) (hsl:∀ i (hi:i < (B3 ns).length) j,j < 3->w.cell? ⟨sg,i * 3+j,none⟩=(Fq (B3 ns)[i])[j]?) :
  Calls Tryz.prog 29 #[.pointer (some ⟨g,0,none⟩)] w fun e w' => ∃ cv v av ov fv slv stv iv sv E,e = .returned (Kk cv av ov fv iv sv)/\D0 E=c/\Fx w.heap.size w' cv v av ov fv slv stv iv sv E arg outs fn ns/\Below w.heap.size w w':=by
 have N:(B3 ns).length=ns:=by simp[B3]
 have ac:Hid (∀ U:World,w.heap.size<=U.heap.size->Below w.heap.size w U->Calls Tryz.prog 56 #[.slice (some ⟨gc,0,none⟩) 1 cc,.func (Fn.func 57) #[] #[]] U fun e w' => ∃ a cc v E,e = .returned (.slice a 1 cc)/\w'.ownsRow U.heap.size 38 1 (.slice a 1 cc) 1 [v]/\D0 E=c/\A2 U.heap.size w' v E/\Below U.heap.size U w'):=fun U m h=>T9 c gc cc ha cap U hcl hS (by rw[h.cell (p:=⟨gc,0,none⟩) (Bv hgc)];exact hgc) ((hC.below h).mono m)
 have X:Hid (∀ U:World,w.heap.size<=U.heap.size->Below w.heap.size w U->Calls Tryz.prog 58 #[.slice (some ⟨ga,0,none⟩) 1 ca,.func (Fn.func 59) #[] #[]] U fun e w' => ∃ a c,e = .returned (.slice a 1 c)/\w'.ownsRow U.heap.size 9 1 (.slice a 1 c) 1 (Be [arg])/\Below U.heap.size U w'):=fun U m h=>L3 [arg] (some ⟨ga,0,none⟩) ca U (by simp) (fun d hd=>by simp at hd;subst hd;exact harg) (fun i hi=>by have bj:i=0:=(by simpa using hi);subst bj;exact⟨ga,0,rfl,Nat.lt_of_lt_of_le (Bv hga) m,by rw[h.cell (p:=⟨ga,0+0,none⟩) (Bv hga)];exact hga⟩)
 have y:Hid (∀ U:World,w.heap.size<=U.heap.size->Below w.heap.size w U->Calls Tryz.prog 58 #[.slice oa outs.length oc,.func (Fn.func 59) #[] #[]] U fun e w' => ∃ a c,e = .returned (.slice a outs.length c)/\w'.ownsRow U.heap.size 9 1 (.slice a outs.length c) outs.length (Be outs)/\Below U.heap.size U w'):=fun U m h=>L3 outs oa oc U hol hox (by
  obtain⟨a,cp,e,hh⟩:=ho.below h
  injection e with e1 e2 e3
  subst e1
  exact hh)
 have ae:Hid (∀ U:World,w.heap.size<=U.heap.size->Below w.heap.size w U->Calls Tryz.prog 60 #[.slice (some ⟨fa0,0,none⟩) 1 fc,.func (Fn.func 61) #[] #[]] U fun e w' => ∃ a cc O Q P R,e = .returned (.slice a 1 cc)/\w'.ownsRow U.heap.size 56 5 (.slice a 1 cc) 1 [.int .i64 0,.int .i64 (fn:Int),.int .i64 0,.slice O ns Q,.slice P 0 R]/\w'.ownsRow U.heap.size 99 3 (.slice O ns Q) ns (Bj (B3 ns))/\w'.ownsRow U.heap.size 99 3 (.slice P 0 R) 0 []/\Below U.heap.size U w'):=fun U m h=>by
  have:=Sf 0 (fn:Int) 0 (B3 ns) (some ⟨sg,0,none⟩) ns gf fa0 fc U (by rw[N];omega) (fun d hd=>by rw[(List.mem_replicate.1 hd).2];simp[ByteArray.size]) (by rw[h.cell (p:=⟨fa0,0,none⟩) (Bv hfa)];exact hfa) (by rw[N];exact(h.block gf (Array.getElem?_eq_some_iff.1 hgf).1).trans hgf) (fun i hi=>⟨sg,rfl,Nat.lt_of_lt_of_le hsg m,fun j hj=>by rw[h.cell (p:=⟨sg,i * 3+j,none⟩) hsg];exact hsl i hi j hj⟩)
  rw[N]at this
  exact this
 have ag:Hid (∀ U:World,Calls Tryz.prog 58 #[.slice none 0 0,.func (Fn.func 59) #[] #[]] U fun e w' => ∃ a c,e = .returned (.slice a 0 c)/\w'.ownsRow U.heap.size 9 1 (.slice a 0 c) 0 []/\Below U.heap.size U w'):=fun U=>L3 [] none 0 U (by simp) (fun d hd=>by simp at hd) (fun i hi=>by simp at hi)
 have ad:Hid (∀ U:World,Calls Tryz.prog 62 #[.slice none 0 0,.func (Fn.func 63) #[] #[]] U fun e w' => ∃ a c,e = .returned (.slice a 0 c)/\w'.ownsRow U.heap.size 119 2 (.slice a 0 c) 0 []/\Below U.heap.size U w'):=fun U=>Sd U
 have ab:Hid (∀ U:World,Calls Tryz.prog 59 #[.string ⟨#[]⟩] U fun e w'=>e = .returned (.string ⟨#[]⟩)/\Below U.heap.size U w'):=fun U=>Ie ⟨#[]⟩ U (by simp[ByteArray.size])
 clear hS hgc hC hga ho hox hfa hgf hsl hcl harg
 obtain⟨no,af⟩:∃ n,Hid (outs.length=n):=⟨_,(rfl:outs.length=_)⟩
 rw[af.out]at hM y
 have al:g < w.heap.size:=(Array.getElem?_eq_some_iff.1 hM).1
 have HM:Hid (w.heap[g]? = some (.cells #[.slice oa no oc,.int .i64 1,.int .i64 0,.slice none 0 0,.slice none 0 0,.slice (some ⟨gc,0,none⟩) 1 cc,.slice (some ⟨ga,0,none⟩) 1 ca,.slice (some ⟨fa0,0,none⟩) 1 fc,.int .i64 0,.string ⟨#[]⟩,.string ⟨#[]⟩,.pointer none] 77)):=hM
 clear hM
 have u:Hid (∀ U:World,Below w.heap.size w U->U.cell? ⟨g,0,none⟩=some (.slice oa no oc)/\U.cell? ⟨g,1,none⟩=some (.int .i64 1)/\U.cell? ⟨g,2,none⟩=some (.int .i64 0)/\U.cell? ⟨g,3,none⟩=some (.slice none 0 0)/\U.cell? ⟨g,4,none⟩=some (.slice none 0 0)/\U.cell? ⟨g,5,none⟩=some (.slice (some ⟨gc,0,none⟩) 1 cc)/\U.cell? ⟨g,6,none⟩=some (.slice (some ⟨ga,0,none⟩) 1 ca)/\U.cell? ⟨g,7,none⟩=some (.slice (some ⟨fa0,0,none⟩) 1 fc)/\U.cell? ⟨g,8,none⟩=some (.int .i64 0)/\U.cell? ⟨g,9,none⟩=some (.string ⟨#[]⟩)/\U.cell? ⟨g,10,none⟩=some (.string ⟨#[]⟩)):=fun U hU=>by
  have q:=(hU.block g al).trans HM.out
  exact⟨(Aa q 0 _ rfl).1,(Aa q 1 _ rfl).1,(Aa q 2 _ rfl).1,(Aa q 3 _ rfl).1,(Aa q 4 _ rfl).1,(Aa q 5 _ rfl).1,(Aa q 6 _ rfl).1,(Aa q 7 _ rfl).1,(Aa q 8 _ rfl).1,(Aa q 9 _ rfl).1,(Aa q 10 _ rfl).1⟩
 obtain⟨V,hV⟩:∃ V,w.alloc (.cells #[.slice none 0 0,.slice none 0 0,.slice none 0 0,.slice none 0 0,.int .i64 0,.int .i64 0,.int .i64 0,.string ⟨#[]⟩,.string ⟨#[]⟩,.bool false,.int .i64 0,.string ⟨#[]⟩,.slice none 0 0,.slice none 0 0] 34)=V:=⟨_,rfl⟩
 have b6:V.heap.size=w.heap.size+1:=by rw[<- hV];simp
 have aa:Hid (Below w.heap.size w V):=by rw[Hid,<- hV];exact Di w _
 have o:Hid (Below w.heap.size w V.drew):=aa.out.drew
 have ao:w.heap.size+1<=V.drew.heap.size:=by show w.heap.size+1<=V.heap.size;omega
 have ay:Hid (V.heap[w.heap.size]? = some (.cells #[.slice none 0 0,.slice none 0 0,.slice none 0 0,.slice none 0 0,.int .i64 0,.int .i64 0,.int .i64 0,.string ⟨#[]⟩,.string ⟨#[]⟩,.bool false,.int .i64 0,.string ⟨#[]⟩,.slice none 0 0,.slice none 0 0] 34)):=by rw[Hid,<- hV];exact(MapKept.heap_alloc w _).1
 have b5:=(Aa ((aa.out.block g al).trans HM.out) 11 _ rfl).1
 go_enter Tryz.func29,Tryz.ntmps29
 go_wp2_with fail
 clear b5
 refine wp_region_held_drew (S:=(fun W=>W.cell? ⟨g,0,none⟩=some (.slice oa no oc)/\W.cell? ⟨g,1,none⟩=some (.int .i64 1)/\W.cell? ⟨g,2,none⟩=some (.int .i64 0)/\W.cell? ⟨g,3,none⟩=some (.slice none 0 0)/\W.cell? ⟨g,4,none⟩=some (.slice none 0 0)/\W.cell? ⟨g,5,none⟩=some (.slice (some ⟨gc,0,none⟩) 1 cc)/\W.cell? ⟨g,6,none⟩=some (.slice (some ⟨ga,0,none⟩) 1 ca)/\W.cell? ⟨g,7,none⟩=some (.slice (some ⟨fa0,0,none⟩) 1 fc)/\W.cell? ⟨g,8,none⟩=some (.int .i64 0)/\W.cell? ⟨g,9,none⟩=some (.string ⟨#[]⟩)/\W.cell? ⟨g,10,none⟩=some (.string ⟨#[]⟩))) (by kernel_rfl) (u.out _ o.out) (fun hHeld => ?_)
 refine Tk 0 (.pointer (some ⟨g,0,none⟩)) rfl ?_
 try simp[Act.put]
 refine Tk 1 (.pointer (some ⟨g,0,none⟩)) rfl ?_
 try simp[Act.put]
 refine Tk 2 (.pointer (some ⟨g,5,none⟩)) rfl ?_
 try simp[Act.put]
 refine Tk 3 (.pointer (some ⟨g,5,none⟩)) rfl ?_
 try simp[Act.put]
 refine Tk 4 (.slice (some ⟨gc,0,none⟩) 1 cc) rfl ?_
 try simp[Act.put]
 refine Tk 6 (.pointer (some ⟨g,0,none⟩)) rfl ?_
 try simp[Act.put]
 refine Tk 7 (.pointer (some ⟨g,0,none⟩)) rfl ?_
 try simp[Act.put]
 refine Tk 8 (.pointer (some ⟨g,6,none⟩)) rfl ?_
 try simp[Act.put]
 refine Tk 9 (.pointer (some ⟨g,6,none⟩)) rfl ?_
 try simp[Act.put]
 refine Tk 10 (.slice (some ⟨ga,0,none⟩) 1 ca) rfl ?_
 try simp[Act.put]
 refine Tk 12 (.pointer (some ⟨g,0,none⟩)) rfl ?_
 try simp[Act.put]
 refine Tk 13 (.pointer (some ⟨g,0,none⟩)) rfl ?_
 try simp[Act.put]
 refine Tk 14 (.pointer (some ⟨g,0,none⟩)) rfl ?_
 try simp[Act.put]
 refine Tk 15 (.pointer (some ⟨g,0,none⟩)) rfl ?_
 try simp[Act.put]
 refine Tk 16 (.slice oa no oc) rfl ?_
 try simp[Act.put]
 refine Tk 18 (.pointer (some ⟨g,0,none⟩)) rfl ?_
 try simp[Act.put]
 refine Tk 19 (.pointer (some ⟨g,0,none⟩)) rfl ?_
 try simp[Act.put]
 refine Tk 20 (.pointer (some ⟨g,7,none⟩)) rfl ?_
 try simp[Act.put]
 refine Tk 21 (.pointer (some ⟨g,7,none⟩)) rfl ?_
 try simp[Act.put]
 refine Tk 22 (.slice (some ⟨fa0,0,none⟩) 1 fc) rfl ?_
 try simp[Act.put]
 refine Tk 24 (.pointer (some ⟨g,0,none⟩)) rfl ?_
 try simp[Act.put]
 refine Tk 25 (.pointer (some ⟨g,0,none⟩)) rfl ?_
 try simp[Act.put]
 refine Tk 26 (.pointer (some ⟨g,0,none⟩)) rfl ?_
 try simp[Act.put]
 refine Tk 27 (.pointer (some ⟨g,1,none⟩)) rfl ?_
 try simp[Act.put]
 refine Tk 28 (.int .i64 1) rfl ?_
 try simp[Act.put]
 refine Tk 29 (.pointer (some ⟨g,0,none⟩)) rfl ?_
 try simp[Act.put]
 refine Tk 30 (.pointer (some ⟨g,0,none⟩)) rfl ?_
 try simp[Act.put]
 refine Tk 31 (.pointer (some ⟨g,0,none⟩)) rfl ?_
 try simp[Act.put]
 refine Tk 32 (.pointer (some ⟨g,2,none⟩)) rfl ?_
 try simp[Act.put]
 refine Tk 33 (.int .i64 0) rfl ?_
 try simp[Act.put]
 refine Tk 34 (.pointer (some ⟨g,0,none⟩)) rfl ?_
 try simp[Act.put]
 refine Tk 35 (.pointer (some ⟨g,0,none⟩)) rfl ?_
 try simp[Act.put]
 refine Tk 36 (.pointer (some ⟨g,8,none⟩)) rfl ?_
 try simp[Act.put]
 refine Tk 37 (.pointer (some ⟨g,8,none⟩)) rfl ?_
 try simp[Act.put]
 refine Tk 38 (.int .i64 0) rfl ?_
 try simp[Act.put]
 refine Tk 39 (.pointer (some ⟨g,0,none⟩)) rfl ?_
 try simp[Act.put]
 refine Tk 40 (.pointer (some ⟨g,0,none⟩)) rfl ?_
 try simp[Act.put]
 refine Tk 41 (.pointer (some ⟨g,8,none⟩)) rfl ?_
 try simp[Act.put]
 refine Tk 42 (.pointer (some ⟨g,9,none⟩)) rfl ?_
 try simp[Act.put]
 refine Tk 43 (.string ⟨#[]⟩) rfl ?_
 try simp[Act.put]
 refine Tk 45 (.pointer (some ⟨g,0,none⟩)) rfl ?_
 try simp[Act.put]
 refine Tk 46 (.pointer (some ⟨g,0,none⟩)) rfl ?_
 try simp[Act.put]
 refine Tk 47 (.pointer (some ⟨g,8,none⟩)) rfl ?_
 try simp[Act.put]
 refine Tk 48 (.pointer (some ⟨g,10,none⟩)) rfl ?_
 try simp[Act.put]
 refine Tk 49 (.string ⟨#[]⟩) rfl ?_
 try simp[Act.put]
 refine Tk 51 (.pointer (some ⟨g,0,none⟩)) rfl ?_
 try simp[Act.put]
 refine Tk 52 (.pointer (some ⟨g,0,none⟩)) rfl ?_
 try simp[Act.put]
 refine Tk 53 (.pointer (some ⟨g,0,none⟩)) rfl ?_
 try simp[Act.put]
 refine Tk 54 (.pointer (some ⟨g,3,none⟩)) rfl ?_
 try simp[Act.put]
 refine Tk 55 (.slice none 0 0) rfl ?_
 try simp[Act.put]
 refine Tk 57 (.pointer (some ⟨g,0,none⟩)) rfl ?_
 try simp[Act.put]
 refine Tk 58 (.pointer (some ⟨g,0,none⟩)) rfl ?_
 try simp[Act.put]
 refine Tk 59 (.pointer (some ⟨g,0,none⟩)) rfl ?_
 try simp[Act.put]
 refine Tk 60 (.pointer (some ⟨g,4,none⟩)) rfl ?_
 try simp[Act.put]
 refine Tk 61 (.slice none 0 0) rfl ?_
 try simp[Act.put]
 refine wpAnyH_ready (rs:=[5]) (by kernel_rfl) (by simp) ?_
 refine AllReadyH.cons rfl (fun KK hK => ?_) AllReadyH.nil
 go_simp
 (go_at_call 56;refine(ac.out _ o.out.size o.out).mono ?_;rintro e w1 ⟨O,Q,v,E,rfl,bl,hE,hO,D⟩;have bz:=D.size;have r:Hid (Below w.heap.size w w1):=o.out.trans (D.mono o.out.size);have br:w.heap.size+1<=w1.heap.size:=Nat.le_trans ao bz)
 go_wp2
 refine hK.out _ _ (u.out w1 r.out) (fun hHeld => ?_)
 clear hK
 try simp[Act.put]
 refine wpAnyH_ready (rs:=[11]) (by kernel_rfl) (by simp) ?_
 refine AllReadyH.cons rfl (fun KK hK => ?_) AllReadyH.nil
 go_simp
 (go_at_call 58;refine(X.out _ r.out.size r.out).mono ?_;rintro e w2 ⟨P,R,rfl,am,F⟩;have ap:=F.size;have s:Hid (Below w.heap.size w w2):=r.out.trans (F.mono r.out.size);have bs:w.heap.size+1<=w2.heap.size:=Nat.le_trans br ap)
 go_wp2
 refine hK.out _ _ (u.out w2 s.out) (fun hHeld => ?_)
 clear hK
 try simp[Act.put]
 refine wpAnyH_ready (rs:=[17]) (by kernel_rfl) (by simp) ?_
 refine AllReadyH.cons rfl (fun KK hK => ?_) AllReadyH.nil
 go_simp
 (go_at_call 58;refine(y.out _ s.out.size s.out).mono ?_;rintro e w3 ⟨a3,c3,rfl,an,G⟩;have aq:=G.size;have t:Hid (Below w.heap.size w w3):=s.out.trans (G.mono s.out.size);have bt:w.heap.size+1<=w3.heap.size:=Nat.le_trans bs aq)
 go_wp2
 refine hK.out _ _ (u.out w3 t.out) (fun hHeld => ?_)
 clear hK
 try simp[Act.put]
 refine wpAnyH_ready (rs:=[23]) (by kernel_rfl) (by simp) ?_
 refine AllReadyH.cons rfl (fun KK hK => ?_) AllReadyH.nil
 go_simp
 (go_at_call 60;refine(ae.out _ t.out.size t.out).mono ?_;rintro e w4 ⟨a4,c4,az,a5,a0,a6,rfl,bm,bp,bq,H⟩;have ar:=H.size;have z:Hid (Below w.heap.size w w4):=t.out.trans (H.mono t.out.size);have bu:w.heap.size+1<=w4.heap.size:=Nat.le_trans bt ar)
 go_wp2
 refine hK.out _ _ (u.out w4 z.out) (fun hHeld => ?_)
 clear hK
 try simp[Act.put]
 refine wpAnyH_ready (rs:=[44]) (by kernel_rfl) (by simp) ?_
 refine AllReadyH.cons rfl (fun KK hK => ?_) AllReadyH.nil
 go_simp
 (go_at_call 59;refine(ab.out _).mono ?_;rintro e w5 ⟨rfl,I⟩;have au:=I.size;have A:Hid (Below w.heap.size w w5):=z.out.trans (I.mono z.out.size);have bv:w.heap.size+1<=w5.heap.size:=Nat.le_trans bu au)
 go_wp2
 refine hK.out _ _ (u.out w5 A.out) (fun hHeld => ?_)
 clear hK
 try simp[Act.put]
 refine wpAnyH_ready (rs:=[50]) (by kernel_rfl) (by simp) ?_
 refine AllReadyH.cons rfl (fun KK hK => ?_) AllReadyH.nil
 go_simp
 (go_at_call 59;refine(ab.out _).mono ?_;rintro e w6 ⟨rfl,J⟩;have aw:=J.size;have B:Hid (Below w.heap.size w w6):=A.out.trans (J.mono A.out.size);have bw:w.heap.size+1<=w6.heap.size:=Nat.le_trans bv aw)
 go_wp2
 refine hK.out _ _ (u.out w6 B.out) (fun hHeld => ?_)
 clear hK
 try simp[Act.put]
 refine wpAnyH_ready (rs:=[56]) (by kernel_rfl) (by simp) ?_
 refine AllReadyH.cons rfl (fun KK hK => ?_) AllReadyH.nil
 go_simp
 (go_at_call 62;refine(ad.out _).mono ?_;rintro e w7 ⟨a7,c7,rfl,bn,K⟩;have ax:=K.size;have C:Hid (Below w.heap.size w w7):=B.out.trans (K.mono B.out.size);have bx:w.heap.size+1<=w7.heap.size:=Nat.le_trans bw ax)
 go_wp2
 refine hK.out _ _ (u.out w7 C.out) (fun hHeld => ?_)
 clear hK
 try simp[Act.put]
 refine wpAnyH_ready (rs:=[62]) (by kernel_rfl) (by simp) ?_
 refine AllReadyH.cons rfl (fun KK hK => ?_) AllReadyH.nil
 go_simp
 (go_at_call 58;refine(ag.out _).mono ?_;rintro e T ⟨a8,c8,rfl,bo,L⟩;have b0:=L.size;have Z:Hid (Below w.heap.size w T):=C.out.trans (L.mono C.out.size);have b8:w.heap.size+1<=T.heap.size:=Nat.le_trans bx b0;have K7:=L;have K6:=K.trans (K7.mono ax);have K5:=J.trans (K6.mono aw);have K4:=I.trans (K5.mono au);have K3:=H.trans (K4.mono ar);have K2:=G.trans (K3.mono aq);have K1:=F.trans (K2.mono ap);have b:T.heap[w.heap.size]? = some (.cells #[.slice none 0 0,.slice none 0 0,.slice none 0 0,.slice none 0 0,.int .i64 0,.int .i64 0,.int .i64 0,.string ⟨#[]⟩,.string ⟨#[]⟩,.bool false,.int .i64 0,.string ⟨#[]⟩,.slice none 0 0,.slice none 0 0] 34):=(K1.block w.heap.size (by omega)).trans ((D.block w.heap.size (by show w.heap.size < V.heap.size;omega)).trans ay.out);have m0:=Aa b 0 _ rfl;have m1:=Aa b 1 _ rfl;have m2:=Aa b 2 _ rfl;have m3:=Aa b 3 _ rfl;have m4:=Aa b 4 _ rfl;have m5:=Aa b 5 _ rfl;have m6:=Aa b 6 _ rfl;have m7:=Aa b 7 _ rfl;have m8:=Aa b 8 _ rfl;have m9:=Aa b 9 _ rfl;have b1:=Aa b 10 _ rfl;have b2:=Aa b 11 _ rfl;have b3:=Aa b 12 _ rfl;have b4:=Aa b 13 _ rfl;obtain⟨Y,hY,M,bk,l⟩:=El b Z.out (Nat.le_refl _) (.slice O 1 Q) (.slice P 1 R) (.slice a3 no c3) (.slice a4 1 c4) (.int .i64 1) (.int .i64 0) (.int .i64 0) (.string ⟨#[]⟩) (.string ⟨#[]⟩) (.bool false) (.int .i64 0) (.string ⟨#[]⟩) (.slice a7 0 c7) (.slice a8 0 c8))
 go_wp2
 refine hK.out _ _ (u.out T Z.out) (fun hHeld => ?_)
 clear hK
 try simp[Act.put]
 refine Tk 63 (.agg #[.slice O 1 Q,.slice P 1 R,.slice a3 no c3,.slice a4 1 c4,.int .i64 1,.int .i64 0,.int .i64 0,.string ⟨#[]⟩,.string ⟨#[]⟩,.bool false,.int .i64 0,.string ⟨#[]⟩,.slice a7 0 c7,.slice a8 0 c8]) rfl ?_
 try simp[Act.put]
 refine wpAnyH_ready (rs:=[64]) (by kernel_rfl) (by simp) ?_
 refine AllReadyH.cons rfl (fun KK hK => ?_) AllReadyH.nil
 go_simp
 refine hK.out _ _ (by first|exact u.out _ M|(rw[hY];exact u.out Y M)) (fun hHeld => ?_)
 clear hK
 try simp[Act.put]
 refine wpAnyH_done (by kernel_rfl) ?_ _
 try rw[hY]
 go_wp2
 clear m0 m1 m2 m3 m4 m5 m6 m7 m8 m9 b1 b2 b3 b4 hY
 have a9:=Aa l 0 _ rfl
 have ba:=Aa l 1 _ rfl
 have bb:=Aa l 2 _ rfl
 have bc:=Aa l 3 _ rfl
 have bd:=Aa l 4 _ rfl
 have be:=Aa l 5 _ rfl
 have bf:=Aa l 6 _ rfl
 have bg:=Aa l 7 _ rfl
 have bh:=Aa l 8 _ rfl
 have bi:=Aa l 9 _ rfl
 have ah:=Aa l 10 _ rfl
 have ai:=Aa l 11 _ rfl
 have aj:=Aa l 12 _ rfl
 have ak:=Aa l 13 _ rfl
 refine bodyPost_ret (v:=Kk (.slice O 1 Q) (.slice P 1 R) (.slice a3 no c3) (.slice a4 1 c4) (.slice a7 0 c7) (.slice a8 0 c8)) (by simp[results,Tryz.results29,go_sem,Kk,a9.1,ba.1,bb.1,bc.1,bd.1,be.1,bf.1,bg.1,bh.1,bi.1,ah.1,ai.1,aj.1,ak.1]) rfl ⟨_,v,_,_,_,.slice az ns a5,.slice a0 0 a6,_,_,E,rfl,hE, ?_,M⟩
 have x:Hid (∀ k,w.heap.size+1<=k->k < T.heap.size->Y.heap[k]? = T.heap[k]?):=fun k m _=>bk k (by omega)
 have b7:w.heap.size+1<=V.drew.heap.size:=ao
 refine⟨?_, ?_, ?_, ?_, ?_, ?_, ?_, ?_, ?_, ?_⟩
 ·exact Bc (Ah (Ah bl (fun k _ _ hk=>K1.block k hk)) (fun k _ m h=>x.out k (by omega) h)) (by omega)
 ·exact((hO.keep (fun k _ hk=>K1.block k hk)).keep (fun k m h=>x.out k (by omega) h)).mono (by omega)
 ·exact Bc (Ah (Ah am (fun k _ _ hk=>K2.block k hk)) (fun k _ m h=>x.out k (by omega) h)) (by omega)
 ·rw[af.out];exact Bc (Ah (Ah an (fun k _ _ hk=>K3.block k hk)) (fun k _ m h=>x.out k (by omega) h)) (by omega)
 ·intro k m h
  have:=(A3 am m).1.2
  have:=(A3 an h).1.1
  omega
 ·exact Bc (Ah (Ah bm (fun k _ _ hk=>K4.block k hk)) (fun k _ m h=>x.out k (by omega) h)) (by omega)
 ·exact Bc (Ah (Ah bp (fun k _ _ hk=>K4.block k hk)) (fun k _ m h=>x.out k (by omega) h)) (by omega)
 ·exact Bc (Ah (Ah bq (fun k _ _ hk=>K4.block k hk)) (fun k _ m h=>x.out k (by omega) h)) (by omega)
 ·exact Bc (Ah (Ah bn (fun k _ _ hk=>K7.block k hk)) (fun k _ m h=>x.out k (by omega) h)) (by omega)
 ·exact Bc (Ah bo (fun k _ m h=>x.out k (by omega) h)) (by omega)
end Go.Proofs.YtfjkahdghhbpnaaGreatDoor
