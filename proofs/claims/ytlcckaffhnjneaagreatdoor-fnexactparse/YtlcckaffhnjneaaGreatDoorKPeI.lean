import Derived.Test.YtlcckaffhnjneaaGreatDoorKPeD
import Derived.Test.YtlcckaffhnjneaaGreatDoorKPeH
import Derived.Test.YtlcckaffhnjneaaGreatDoorKTreeLA
set_option maxRecDepth 100000
set_option maxHeartbeats 2000000
namespace Go.Proofs.YtlcckaffhnjneaaGreatDoor
open Go.RowKit
theorem markTree_any (v:Value) (n:Nat) (xs:List Value) (k:Int) (B:Nat) (w:World) (hown:w.ownsRow B 43 6 v n xs) (hl:n≤100000) (hk1:1≤k) (hk2:k≤10) :
  Calls Tryz.prog 8 #[.agg #[v],.int .i64 k] w fun e w'=>e = .returned (.int .i64 (k+6 * (n:Int)))∧w'.ownsRow B 43 6 v n (Pa.markTo k n xs)∧w.grownBy w' v.ownBlock:=by
 obtain ⟨va,vc,rfl⟩:=Mill.own_len hown
 have hb0:Below w.heap.size w (w.alloc (.cells #[.slice va n vc] 24)):=(Below.refl _ _).alloc (Nat.le_refl _) _
 go_enter Tryz.func8,Tryz.ntmps8
 go_wp2_with (go_at_call 20;refine (markNodeS_any _ n xs k B _ (hown.alloc _) hl hk1 hk2).mono ?_;rintro e w1 ⟨rfl,ho,_,hb⟩)
 go_ret
 exact ⟨rfl,ho,⟨hb.os.trans hb0.os,hb.tape.trans hb0.tape,hb.output.trans hb0.output,Nat.le_trans hb0.size hb.size,fun k hk hn=>(hb.block k (Nat.lt_of_lt_of_le hk hb0.size) hn).trans (hb0.block k hk)⟩⟩
theorem heldTree_any (v:Value) (n:Nat) (xs:List Value) (k:Int) (B:Nat) (w:World) (hown:w.ownsRow B 43 6 v n (Pa.markTo k n xs)) (hl:n≤100000) (hk1:1≤k) (hk2:k≤10) :
  Calls Tryz.prog 9 #[.agg #[v],.int .i64 k] w fun e w'=>e = .returned (.int .i64 (k+6 * (n:Int)))∧Below w.heap.size w w':=by
 obtain ⟨va,vc,rfl⟩:=Mill.own_len hown
 have hb0:Below w.heap.size w (w.alloc (.cells #[.slice va n vc] 24)):=(Below.refl _ _).alloc (Nat.le_refl _) _
 have hk3:¬ k+6 * (n:Int) < 0:=by omega
 go_enter Tryz.func9,Tryz.ntmps9
 go_wp2_with (go_at_call 21;refine (heldNodeS_any _ n xs k B _ (hown.alloc _) hl hk1 hk2).mono ?_;rintro e w1 ⟨rfl,hb⟩)
 go_ret
 exact ⟨rfl,hb0.trans (hb.mono (by simp))⟩
def Pa.nsOf : Pa.Res→List Mill.Nd
 | .no _ _=>[]
 | .yes ns=>ns
def Pa.cOf : Pa.Res→Int
 | .no c _=>c
 | .yes _=>0
def Pa.pOf : Pa.Res→Nat
 | .no _ p=>p
 | .yes _=>0
theorem Pa.Post.one {r:Pa.Res} {w w':World} {e:Ending} (h:Pa.Post r w e w'):∃ v,e = .returned (.tuple #[.agg #[v],.agg #[.int .i64 (Pa.cOf r),.int .i64 (Pa.pOf r:Int)]])∧w'.ownsRow w.heap.size 43 6 v (Pa.nsOf r).length (Mill.ndCs (Pa.nsOf r))∧Below w.heap.size w w':=by
 obtain ⟨hb,h⟩:=h
 cases r with
 | no c p=>exact ⟨_,h,⟨rfl,.inl ⟨rfl,rfl⟩⟩,hb⟩
 | yes ns =>
  obtain ⟨va,vc,h1,h2⟩:=h
  exact ⟨_,h1,h2,hb⟩
theorem Pa.res_len (src:ByteArray):(Pa.nsOf (Pa.res src)).length≤12001:=by
 unfold Pa.res
 split
 ·simp [Pa.nsOf]
 ·split
  ·unfold Pa.iends
   split
   ·simp [Pa.nsOf]
   ·split
    ·rename_i h
     simp only [Pa.nsOf]
     simp only [Mill.rootOk,Bool.and_eq_true,decide_eq_true_eq] at h
     exact h.1
    ·simp [Pa.nsOf]
  ·simp [Pa.nsOf]
structure Pa.Vr (b:Nat) (W:World) (v:Value) (c a:Int):Prop where
 tr:W.heap[b]? = some (.cells #[v] 24)
 fa:W.heap[b+1]? = some (.cells #[.int .i64 c,.int .i64 a] 26)
variable {b b2 Bg n:Nat} {w W W2:World} {v vw vg:Value} {c a:Int} {ns:List Mill.Nd} {xs ys:List Value}
theorem Pa.Vr.cells (h:Pa.Vr b W v c a):W.cell? ⟨b,0,none⟩=some v∧W.cell? ⟨b+1,0,none⟩=some (.int .i64 c)∧W.cell? ⟨b+1,1,none⟩=some (.int .i64 a):=by
 refine ⟨?_, ?_, ?_⟩
 ·rw [Lib.cell_of_heap h.tr];rfl
 ·rw [Lib.cell_of_heap h.fa];rfl
 ·rw [Lib.cell_of_heap h.fa];rfl
theorem Pa.Vr.lt (h:Pa.Vr b W v c a):b+1 < W.heap.size:=(Array.getElem?_eq_some_iff.1 h.fa).1
theorem Pa.Vr.below (h:Pa.Vr b W v c a) (hb:Below W.heap.size W W2):Pa.Vr b W2 v c a:=by
 have:=h.lt
 exact ⟨(hb.block _ (by omega)).trans h.tr,(hb.block _ (by omega)).trans h.fa⟩
theorem Pa.Vr.grown {r:Option Nat} (h:Pa.Vr b W v c a) (hg:W.grownBy W2 r) (h1:r≠some b) (h2:r≠some (b+1)):Pa.Vr b W2 v c a:=by
 have:=h.lt
 exact ⟨(hg.block _ (by omega) h1.symm).trans h.tr,(hg.block _ (by omega) h2.symm).trans h.fa⟩
theorem Pa.Vr.new (W:World) (v:Value) (c a:Int):Pa.Vr W.heap.size ((W.alloc (.cells #[v] 24)).alloc (.cells #[.int .i64 c,.int .i64 a] 26)) v c a:=by
 have hb:Below (W.alloc (.cells #[v] 24)).heap.size (W.alloc (.cells #[v] 24)) ((W.alloc (.cells #[v] 24)).alloc (.cells #[.int .i64 c,.int .i64 a] 26)):=(Below.refl _ _).alloc (Nat.le_refl _) _
 have h1:=heap_alloc_new W (.cells #[v] 24)
 have h2:=heap_alloc_new (W.alloc (.cells #[v] 24)) (.cells #[.int .i64 c,.int .i64 a] 26)
 rw [World.size_alloc] at h2
 exact ⟨(hb.block _ (by simp)).trans h1,h2⟩
theorem Pa.two (W:World) (v:Value) (c a:Int):Below W.heap.size W ((W.alloc (.cells #[v] 24)).alloc (.cells #[.int .i64 c,.int .i64 a] 26)):=((Below.refl _ _).alloc (Nat.le_refl _) _).alloc (by simp) _
theorem Pa.own_grown {B e size n:Nat} {v:Value} {xs:List Value} {r:Option Nat} (h:W.ownsRow B e size v n xs) (hg:W.grownBy W2 r) (hr:∀ k,v.ownBlock=some k→r≠some k):W2.ownsRow B e size v n xs :=
 Pa.own_keep h fun k hk _ hk2=>hg.block k hk2 (hr k hk).symm
structure Pa.Ls2 (w:World) (b b2 Bg n:Nat) (vw vg:Value) (ns:List Mill.Nd) (xs:List Value) (c a:Int) (W:World):Prop where
 B:Below w.heap.size w W
 V1:Pa.Vr b W vw c a
 V2:Pa.Vr b2 W vg c a
 ow:W.ownsRow w.heap.size 43 6 vw n (Mill.ndCs ns)
 og:W.ownsRow Bg 43 6 vg n xs
 lw:∀ k,vw.ownBlock=some k→k < b
 lg:∀ k,vg.ownBlock=some k→b+1 < k∧k < b2
theorem Pa.Ls2.below (h:Pa.Ls2 w b b2 Bg n vw vg ns xs c a W) (hb:Below W.heap.size W W2):Pa.Ls2 w b b2 Bg n vw vg ns xs c a W2 :=
 ⟨h.B.trans (hb.mono h.B.size),h.V1.below hb,h.V2.below hb,Mill.own_below h.ow hb,Mill.own_below h.og hb,h.lw,h.lg⟩
theorem Pa.Ls2.marked (h:Pa.Ls2 w b b2 Bg n vw vg ns xs c a W) (hwb:w.heap.size≤b) (ho:W2.ownsRow Bg 43 6 vg n ys) (hg:W.grownBy W2 vg.ownBlock):Pa.Ls2 w b b2 Bg n vw vg ns ys c a W2:=by
 have hne:∀ k,(k≤b+1∨b2≤k)→vg.ownBlock≠some k:=fun k hk e=>by have:=h.lg k e;omega
 exact ⟨h.B.trans ⟨hg.os,hg.tape,hg.output,hg.size,fun k hk=>hg.block k (Nat.lt_of_lt_of_le hk h.B.size) (hne k (.inl (by omega))).symm⟩,h.V1.grown hg (hne _ (.inl (by omega))) (hne _ (.inl (by omega))),h.V2.grown hg (hne _ (.inr (by omega))) (hne _ (.inr (by omega))),Pa.own_grown h.ow hg fun k hk=>hne k (.inl (by have:=h.lw k hk;omega)),ho,h.lw,h.lg⟩
theorem Pa.law_short (s:ByteArray) (hs:s.size≤1048576) (w:World) (hS:∀ W,Calls Tryz.prog 4 #[.string s] W (Pa.Post (Pa.res s) W)) (hI:∀ W,Below w.heap.size w W→Calls Tryz.prog 5 #[.string s] W (Pa.Post (Pa.res s) W)) :
  Calls Tryz.prog 3 #[.string s] w fun e w'=>e = .returned (.bool true)∧Below w.heap.size w w':=by
 have hn:=Pa.res_len s
 obtain ⟨ns,HR⟩:∃ ns,Hid (Pa.nsOf (Pa.res s)=ns):=⟨_,rfl⟩
 obtain ⟨c,HC⟩:∃ c,Hid (Pa.cOf (Pa.res s)=c):=⟨_,rfl⟩
 obtain ⟨a,HA⟩:∃ a:Int,Hid ((Pa.pOf (Pa.res s):Int)=a):=⟨_,rfl⟩
 obtain ⟨n,HN⟩:∃ n,Hid (ns.length=n):=⟨_,rfl⟩
 rw [HR.out,HN.out] at hn
 have HP:Hid (∀ (f:FuncId) (W:World),Calls Tryz.prog f #[.string s] W (Pa.Post (Pa.res s) W)→Calls Tryz.prog f #[.string s] W fun e w' => ∃ va vc,e = .returned (.tuple #[.agg #[.slice va n vc],.agg #[.int .i64 c,.int .i64 a]])∧w'.ownsRow W.heap.size 43 6 (.slice va n vc) n (Mill.ndCs ns)∧Below W.heap.size W w'):=fun f W h=>by
  refine h.mono fun e w' hp => ?_
  obtain ⟨v,h1,h2,h3⟩:=hp.one
  rw [HC.out,HA.out] at h1
  rw [HR.out,HN.out] at h2
  obtain ⟨va,vc,rfl⟩:=Mill.own_len h2
  exact ⟨va,vc,h1,h2,h3⟩
 have HSs:Hid (∀ W,Calls Tryz.prog 4 #[.string s] W (Pa.Post (Pa.res s) W)):=hS
 have HIi:Hid (∀ W,Below w.heap.size w W→Calls Tryz.prog 5 #[.string s] W (Pa.Post (Pa.res s) W)):=hI
 have HNA:Hid (∀ (W:World) (B:Nat) (v:Value),W.ownsRow B 43 6 v n (Mill.ndCs ns)→Mill.NodesAt W v ns):=fun W B v h=>Mill.nodesAt_own (by rw [HN.out];exact h)
 have HEQ:Hid (∀ (W:World) (v u:Value),Mill.NodesAt W v ns→Mill.NodesAt W u ns→Calls Tryz.prog 6 #[.agg #[v],.agg #[u]] W fun e w'=>e = .returned (.bool true)∧Below W.heap.size W w'):=fun W v u h1 h2=>eqTree_same ns v u W h1 h2 (by rw [HN.out];omega)
 clear hS hI
 have hqm:((1+6 * (n:Int)) != (1+6 * (n:Int)))=false:=by simp
 have mkA:True:=trivial
 have mkB:True:=trivial
 have mkC:True:=trivial
 have mkD:True:=trivial
 have mkE:True:=trivial
 go_enter Tryz.func3,Tryz.ntmps3
 go_wp2_with (first
  | (go_at_call 4;refine (HP.out _ _ (HSs.out w)).mono ?_;rintro e w1 ⟨va,vc,rfl,ow1,hb1⟩)
  | (have _t:=mkA;go_at_call 5;have hA:=hb1.trans ((Pa.two w1 (.slice va n vc) c a).mono hb1.size);have hV1:=Pa.Vr.new w1 (.slice va n vc) c a;have oA:=Mill.own_below ow1 (Pa.two w1 (.slice va n vc) c a);refine (HP.out _ _ (HIi.out _ hA)).mono ?_;rintro e w2 ⟨ga,gc,rfl,og2,hb2⟩;have hL:Pa.Ls2 w w1.heap.size w2.heap.size _ n _ _ ns _ c a _:=⟨(hA.trans (hb2.mono hA.size)).trans ((Pa.two w2 (.slice ga n gc) c a).mono (Nat.le_trans hA.size hb2.size)),(hV1.below hb2).below (Pa.two w2 (.slice ga n gc) c a),Pa.Vr.new w2 (.slice ga n gc) c a,Mill.own_below (Mill.own_below oA hb2) (Pa.two w2 (.slice ga n gc) c a),Mill.own_below og2 (Pa.two w2 (.slice ga n gc) c a),fun k hk=>(Pa.row_type ow1 hk).1.2,fun k hk=>(by have h1:=(Pa.row_type og2 hk).1;simp only [World.size_alloc] at h1;omega)⟩;obtain ⟨p0,p1,p2⟩:=hL.V1.cells;obtain ⟨q0,q1,q2⟩:=hL.V2.cells;clear mkA)
  | (have _t:=mkB;go_at_call 6;refine (HEQ.out _ _ _ (HNA.out _ _ _ hL.og) (HNA.out _ _ _ hL.ow)).mono ?_;rintro e w3 ⟨rfl,hb3⟩;replace hL:=hL.below hb3;clear p0 p1 p2 q0 q1 q2;obtain ⟨p0,p1,p2⟩:=hL.V1.cells;obtain ⟨q0,q1,q2⟩:=hL.V2.cells;clear mkB)
  | (have _t:=mkC;go_at_call 7;refine (eqFault_same c a _).mono ?_;rintro e w4 ⟨rfl,hb4⟩;replace hL:=hL.below hb4;clear p0 p1 p2 q0 q1 q2;obtain ⟨q0,q1,q2⟩:=hL.V2.cells;clear mkC)
  | (go_at_call 8;refine (markTree_any _ n _ 1 _ _ hL.og (by omega) (by omega) (by omega)).mono ?_;rintro e w5 ⟨rfl,og5,hg5⟩;replace hL:=hL.marked hb1.size og5 hg5;clear q0 q1 q2;obtain ⟨q0,q1,q2⟩:=hL.V2.cells)
  | (have _t:=mkD;go_at_call 9;refine (heldTree_any _ n _ 1 _ _ hL.og (by omega) (by omega) (by omega)).mono ?_;rintro e w6 ⟨rfl,hb6⟩;replace hL:=hL.below hb6;clear q0 q1 q2;obtain ⟨q0,q1,q2⟩:=hL.V2.cells;clear mkD)
  | (have _t:=mkE;go_at_call 5;refine (HP.out _ _ (HIi.out _ hL.B)).mono ?_;rintro e w7 ⟨ha,hc,rfl,oh7,hb7⟩;replace hL:=(hL.below hb7).below (Pa.two w7 (.slice ha n hc) c a);have hV3:=Pa.Vr.new w7 (.slice ha n hc) c a;have oh8:=Mill.own_below oh7 (Pa.two w7 (.slice ha n hc) c a);clear q0 q1 q2;obtain ⟨p0,p1,p2⟩:=hL.V1.cells;obtain ⟨q0,q1,q2⟩:=hV3.cells;clear mkE)
  | (go_at_call 6;refine (HEQ.out _ _ _ (HNA.out _ _ _ oh8) (HNA.out _ _ _ hL.ow)).mono ?_;rintro e w8 ⟨rfl,hb8⟩;replace hL:=hL.below hb8;replace hV3:=hV3.below hb8;clear p0 p1 p2 q0 q1 q2;obtain ⟨p0,p1,p2⟩:=hL.V1.cells;obtain ⟨q0,q1,q2⟩:=hV3.cells)
  | (go_at_call 7;refine (eqFault_same c a _).mono ?_;rintro e w9 ⟨rfl,hb9⟩;replace hL:=hL.below hb9;clear p0 p1 p2 q0 q1 q2;obtain ⟨q0,q1,q2⟩:=hL.V2.cells)
  | (go_at_call 9;refine (heldTree_any _ n _ 1 _ _ hL.og (by omega) (by omega) (by omega)).mono ?_;rintro e w10 ⟨rfl,hb10⟩;replace hL:=hL.below hb10))
 go_ret
 exact ⟨rfl,hL.B⟩
end Go.Proofs.YtlcckaffhnjneaaGreatDoor
