import Derived.Test.YtfoimmnlojjfbaaGreatDoorKTk
import Derived.Test.YtfoimmnlojjfbaaGreatDoorKGenE
set_option maxRecDepth 100000
set_option maxHeartbeats 4000000
namespace Go.Proofs.YtfoimmnlojjfbaaGreatDoor
open Go.RowKit
theorem Gn.Rd_keep {w w':World} {R p:Nat} (h:Mill.Rd w R p) (hk:∀ k,k≤R→w'.heap[k]? = w.heap[k]?):Mill.Rd w' R p:=by
 obtain ⟨v,n,h0,hn,hB⟩:=h.box
 refine ⟨v,n,(hk R (Nat.le_refl _)).trans h0,hn, ?_⟩
 rcases hB with e | ⟨b,off,cap,h1,h2,h3⟩
 ·exact .inl e
 ·refine .inr ⟨b,off,cap,h1,h2,fun i hi => ?_⟩
  obtain ⟨x,x0,x1,hx⟩:=h3 i hi
  exact ⟨x,x0,x1,by rw [World.cell?_of_block (a:=⟨b,off+i,none⟩) (hk b (by omega))];exact hx⟩
theorem Gn.St.grown {B g R P:Nat} {w w':World} {nv:Value} {nl:List (ByteArray × Int)} {fv:Value} {F:List Gn.Sg} {ret loops count size:Int} (h:Gn.St B g R P w nv nl fv F ret loops count size) {A n:Nat} {v:Value} {xs:List Value} (ho:w.ownsRow A 106 6 v n xs) (hA:g < A) (hg:w.grownBy w' v.ownBlock):Gn.St B g R P w' nv nl fv F ret loops count size:=by
 have hgl:g < w.heap.size:=(Array.getElem?_eq_some_iff.1 h.box).1
 have hlo:=h.lo
 have hk1:∀ k,k≤g→w'.heap[k]? = w.heap[k]?:=fun k hk=>hg.block k (by omega) (fun e=>by have:=(Gn.row_type ho e.symm).1.1;omega)
 have hk2:∀ {A e s n:Nat} {u:Value} {xs:List Value},w.ownsRow A e s u n xs→e≠106→w'.ownsRow A e s u n xs:=fun hu he=>Gn.own_keep hu (fun k hk _ hl=>hg.block k hl (fun e=>by
  obtain ⟨c1,h1⟩:=(Gn.row_type hu hk).2
  obtain ⟨c2,h2⟩:=(Gn.row_type ho e.symm).2
  rw [h1] at h2;injection h2 with h2;injection h2 with _ h2 _;exact he h2))
 obtain ⟨p,hp,hr⟩:=h.rd
 exact ⟨h.lo,⟨p,hp,Gn.Rd_keep hr (fun k hk=>hk1 k (by omega))⟩,(hk1 g (Nat.le_refl _)).trans h.box,hk2 h.names (by decide),h.nbd,⟨hk2 h.fns.row (by decide),fun s hs=>hk2 (h.fns.par s hs) (by decide),h.fns.bd⟩,h.bd⟩
theorem Gn.Fr.grown {B:Nat} {V w w':World} (h:Gn.Fr B V w) {A n:Nat} {v:Value} {xs:List Value} (ho:w.ownsRow A 106 6 v n xs) (hA:V.heap.size≤A) (hg:w.grownBy w' v.ownBlock):Gn.Fr B V w' :=
 ⟨hg.os.trans h.os,hg.tape.trans h.tape,hg.output.trans h.output,Nat.le_trans h.size hg.size,fun k hk hp=>(hg.block k (Nat.lt_of_lt_of_le hk h.size) (fun e=>by have:=(Gn.row_type ho e.symm).1.1;omega)).trans (h.keep k hk hp)⟩
theorem Gn.int_cell {B:Nat} {w:World} {a:Option Addr} {n c:Nat} {l:List Int} (h:w.ownsRow B 3 1 (.slice a n c) n (Gn.intCs l)) (hn:l.length=n) (i:Nat) (hi:i < n):∃ b,a=some ⟨b,0,none⟩∧w.cell? ⟨b,i,none⟩=some (.int .i64 (l[i]'(by omega))):=by
 rcases h.2 with ⟨he,h0⟩ | ⟨g,cap,cur,he,_⟩
 ·injection he with e1 e2 e3;omega
 ·injection he with e1 e2 e3
  subst e1;subst e3
  exact ⟨g,rfl,Gn.own_cells h rfl _ _ (by unfold Gn.intCs;rw [List.getElem?_map,List.getElem?_eq_getElem (by omega)];rfl)⟩
theorem Gn.fn_cell {B:Nat} {w:World} {a:Option Addr} {n c:Nat} {F:List Gn.Sg} (h:w.ownsRow B 124 3 (.slice a n c) F.length (Gn.sgCs F)) (hn:F.length=n) (i:Nat) (hi:i < n):∃ b,a=some ⟨b,0,none⟩∧w.cell? ⟨b,i * 3,none⟩=some (.string (F[i]'(by omega)).name)∧w.cell? ⟨b,i * 3+1,none⟩=some (F[i]'(by omega)).pv∧w.cell? ⟨b,i * 3+2,none⟩=some (.int .i64 (F[i]'(by omega)).result):=by
 rcases h.2 with ⟨he,h0⟩ | ⟨g,cap,cur,he,_⟩
 ·injection he with e1 e2 e3;omega
 ·injection he with e1 e2 e3
  subst e1;subst e3
  have hf:=fun j hj=>Gn.flat_at Gn.sgC 3 (fun _=>rfl) F i (by omega) j hj
  exact ⟨g,rfl,Gn.own_cells h rfl _ _ (hf 0 (by omega)),Gn.own_cells h rfl _ _ (hf 1 (by omega)),Gn.own_cells h rfl _ _ (hf 2 (by omega))⟩
def Gn.CallPost (B g R P Q K:Nat) (w:World) (nv:Value) (nl:List (ByteArray × Int)) (fv:Value) (F:List Gn.Sg) (ret loops count:Int) (e:Ending) (w':World):Prop := ∃ a n c b size,e = .returned (.tuple #[.slice a n c,.bool b])∧Gn.Row w.heap.size w' (.slice a n c) K∧Gn.St B g R (P+1+cond b (3 * Q) 0) w' nv nl fv F ret loops count size∧Gn.Fr B w w'
theorem Gn.call_any {B g R P d:Nat} {w:World} {nv:Value} {nl:List (ByteArray × Int)} {fv:Value} {F:List Gn.Sg} {ret loops count size:Int} (HE:Hid (Gn.ExprIs B g R d)) (h:Gn.St B g R P w nv nl fv F ret loops count size) (hP:P+3 * Gn.eb d+1≤700000000) (t:Int) :
  Calls Tryz.prog 119 #[.pointer (some ⟨g,0,none⟩),.int .i64 t,.int .i64 ((d:Int)+1)] w (Gn.CallPost B g R P (Gn.eb d) (3 * Gn.eb d+1) w nv nl fv F ret loops count):=by
 obtain ⟨i0,hi0,hy0,hy1,hy2⟩:=info_parts Gn.infoNode
 obtain ⟨fa,fc,rfl⟩:=Gn.rowLen h.fns.row
 have HS:Hid (Gn.St B g R P w nv nl (.slice fa F.length fc) F ret loops count size):=h
 obtain ⟨g0,-,g2,-⟩:=h.cells
 have hnl:F.length≤5:=h.fns.bd.1
 have HBD:Hid (∀ s ∈ F,s.name.size≤30∧s.params.length≤3∧∃ a c,s.pv = .slice a s.params.length c):=fun s hs=>⟨(h.fns.bd.2 s hs).1,(h.fns.bd.2 s hs).2.1,Gn.rowLen (h.fns.par s hs)⟩
 have hdb:d≤700000000:=by
  have:d < 5 ^ d:=Nat.lt_pow_self (by omega)
  unfold Gn.eb at hP;omega
 clear h
 obtain ⟨n,HN⟩:∃ n,Hid (F.length=n):=⟨_,(rfl:F.length=_)⟩
 rw [HN.out] at HS g2 hnl ⊢
 go_enter Tryz.func119,Tryz.ntmps119
 go_wp2_with fail
 refine (Gn.pickN HS.out n (by omega) (by omega)).mono ?_
 rintro e w1 ⟨v,rfl,hv,hv2,hs1,hf1⟩
 have HS1:Hid (Gn.St B g R (P+1) w1 nv nl (.slice fa n fc) F ret loops count size):=hs1
 have HF1:Hid (Gn.Fr B w w1):=hf1
 have hz1:=hf1.size
 clear hs1 hf1 g0 g2
 go_wp2_with fail
 go_loopw [10] (fun t wr => ∃ j:Nat,j≤n∧t = .int .i64 (j:Int)∧Gn.St B g R (P+1) wr nv nl (.slice fa n fc) F ret loops count size∧Below w1.heap.size w1 wr) (fun t _=>n - (intOf t).toNat)
 case atStart=>exact ⟨0,by omega,rfl,HS1.out,Below.refl _ _⟩
 case round =>
  obtain ⟨j,hj,rfl,hsr,hbr⟩:=hrel
  have HSR:Hid (Gn.St B g R (P+1) wr nv nl (.slice fa n fc) F ret loops count size):=hsr
  have HBR:Hid (Below w1.heap.size w1 wr):=hbr
  have hzr:=hbr.size
  by_cases hlt:j < n
  ·have hltI:(j:Int) < (n:Int):=by omega
   have hvn:=hv (by omega)
   obtain ⟨q,HQ⟩:∃ q,Hid ((v+j) % n=q):=⟨_,(rfl:(v+j) % n=_)⟩
   have hqn:q < n:=by rw [← HQ.out];exact Nat.mod_lt _ (by omega)
   have hql:q < F.length:=by rw [HN.out];exact hqn
   obtain ⟨b,rfl,hq0,hq1,hq2⟩:=Gn.fn_cell hsr.fns.row HN.out q hqn
   have hg1:=hsr.cells.2.2.1
   obtain ⟨hts,hpl,pa,pc,hpv⟩:=HBD.out F[q] (List.getElem_mem hql)
   have HPA:Hid (∀ (U:World) P' s',Gn.St B g R P' U nv nl (.slice (some ⟨b,0,none⟩) n fc) F ret loops count s'→U.ownsRow B 3 1 F[q].pv F[q].params.length (Gn.intCs F[q].params)):=fun U P' s' h=>h.fns.par F[q] (List.getElem_mem hql)
   obtain ⟨m,HM⟩:∃ m,Hid (F[q].params.length=m):=⟨_,(rfl:F[q].params.length=_)⟩
   obtain ⟨nm,HNM⟩:∃ m,Hid (F[q].name=m):=⟨_,(rfl:F[q].name=_)⟩
   obtain ⟨rs,HRS⟩:∃ m,Hid (F[q].result=m):=⟨_,(rfl:F[q].result=_)⟩
   rw [HM.out] at hpv hpl HPA
   rw [hpv] at hq1 HPA
   rw [HNM.out] at hq0 hts
   rw [HRS.out] at hq2
   have hqI:(q:Int) < (n:Int):=by omega
   have hw:IntKind.i64.wrap ((v:Int)+(j:Int))=(v:Int)+(j:Int):=(IntWalk.i64_left _).trans (IntWalk.wrap64_in _ (by omega))
   have hn0:((n:Int) == 0)=false:=by simp;omega
   have hn00:¬ n=0:=by omega
   have hrm:((v:Int)+(j:Int)).tmod (n:Int)=(q:Int):=by rw [← HQ.out,Int.tmod_eq_emod_of_nonneg (by omega)];push_cast;rfl
   clear hsr hbr hlt hvn HQ hv hpv HNM HRS
   go_wp2_with fail
   refine wp_region_held_drew (S:=(fun W=>W.cell? ⟨g,2,none⟩=some (.slice (some ⟨b,0,none⟩) n fc)∧W.cell? ⟨b,q * 3,none⟩=some (.string nm)∧W.cell? ⟨b,q * 3+1,none⟩=some (.slice pa m pc)∧W.cell? ⟨b,q * 3+2,none⟩=some (.int .i64 rs))) (by kernel_rfl) (⟨hg1,hq0,hq1,hq2⟩) (fun hHeld => ?_)
   refine Tk 0 (.pointer (some ⟨g,0,none⟩)) rfl ?_
   try simp [Act.put]
   refine Tk 1 (.pointer (some ⟨g,0,none⟩)) rfl ?_
   try simp [Act.put]
   refine Tk 2 (.pointer (some ⟨g,2,none⟩)) rfl ?_
   try simp [Act.put]
   refine Tk 3 (.slice (some ⟨b,0,none⟩) n fc) rfl ?_
   try simp [Act.put]
   refine Tk 4 (.int .i64 (v:Int)) rfl ?_
   try simp [Act.put]
   refine Tk 5 (.int .i64 (j:Int)) rfl ?_
   try simp [Act.put]
   refine Tk 6 (.int .i64 ((v:Int)+(j:Int))) rfl ?_
   try simp [Act.put]
   refine Tk 7 (.int .i64 (n:Int)) rfl ?_
   try simp [Act.put]
   refine Tk 8 (.int .i64 (q:Int)) rfl ?_
   try simp [Act.put]
   refine Tk 9 (.pointer (some ⟨b,q * 3,none⟩)) rfl ?_
   try simp [Act.put]
   refine Tk 10 (.agg #[.string nm,.slice pa m pc,.int .i64 rs]) rfl ?_
   try simp [Act.put]
   have hHeld0:=hHeld
   refine wpAnyH_ready (rs:=[11]) (by kernel_rfl) (by simp) ?_
   refine AllReadyH.cons rfl (fun KK hK => ?_) AllReadyH.nil
   go_simp
   refine hK.out _ _ (⟨Gn.ca hHeld.1,Gn.ca hHeld.2.1,Gn.ca hHeld.2.2.1,Gn.ca hHeld.2.2.2⟩) (fun hHeld => ?_)
   clear hK
   try simp [Act.put]
   refine wpAnyH_ready (rs:=[12]) (by kernel_rfl) (by simp) ?_
   refine AllReadyH.cons rfl (fun KK hK => ?_) AllReadyH.nil
   go_simp
   refine hK.out _ _ (⟨Gn.ca hHeld0.1,Gn.ca hHeld0.2.1,Gn.ca hHeld0.2.2.1,Gn.ca hHeld0.2.2.2⟩) (fun hHeld => ?_)
   clear hK
   try simp [Act.put]
   refine wpAnyH_done (by kernel_rfl) ?_ _
   obtain ⟨V,hV⟩:∃ V,(wr.alloc (.cells #[.string nm,.slice pa m pc,.int .i64 rs] 124)).drew=V:=⟨_,rfl⟩
   have hbV:Below wr.heap.size wr V:=by rw [← hV];exact ((Below.refl _ wr).alloc (Nat.le_refl _) _).drew
   have hxV:V.heap[wr.heap.size]? = some (.cells #[.string nm,.slice pa m pc,.int .i64 rs] 124):=by rw [← hV];exact World.alloc_heap_new wr _
   have hzV:wr.heap.size+1=V.heap.size:=by rw [← hV];simp [World.drew]
   have x0:V.cell? ⟨wr.heap.size,0,none⟩=some (.string nm):=by rw [Lib.cell_of_heap hxV];rfl
   have x1:V.cell? ⟨wr.heap.size,1,none⟩=some (.slice pa m pc):=by rw [Lib.cell_of_heap hxV];rfl
   have x2:V.cell? ⟨wr.heap.size,2,none⟩=some (.int .i64 rs):=by rw [Lib.cell_of_heap hxV];rfl
   rw [hV]
   have HBV:Hid (Below wr.heap.size wr V):=hbV
   have HXV:Hid (V.heap[wr.heap.size]? = some (.cells #[.string nm,.slice pa m pc,.int .i64 rs] 124)):=hxV
   clear hHeld hHeld0 hxV hbV hV hq0 hq1 hq2 hg1 hw hrm
   have HSV:Hid (Gn.St B g R (P+1) V nv nl (.slice (some ⟨b,0,none⟩) n fc) F ret loops count size):=HSR.out.below HBV.out
   obtain ⟨bb,HEQ⟩:∃ b,Hid ((rs != t)=b):=⟨_,(rfl:(rs != t)=_)⟩
   have he:=HEQ.out
   cases bb with
   | true =>
    go_wp2_with fail
    go_roundw
    case rel=>exact ⟨j+1,by omega,by go_num,HSV.out,HBR.out.trans (HBV.out.mono hzr)⟩
    case measure=>simp [intOf];omega
   | false =>
    go_wp2_with fail
    have HBW:Hid (Below w1.heap.size w1 V):=HBR.out.trans (HBV.out.mono hzr)
    obtain ⟨X,HX⟩:∃ X,Hid (wr.heap.size=X):=⟨_,(rfl:wr.heap.size=_)⟩
    rw [HX.out] at HXV hzV x0 x1 x2 hzr ⊢
    have hgV:g < V.heap.size:=(Array.getElem?_eq_some_iff.1 HSV.out.box).1
    clear HBR HSR HBV x0 x1 x2 HX
    go_loopw [12,13] (fun o t wr => ∃ (k:Nat) (l:List Mill.Nd) (s':Int),k≤m∧t = .int .i64 (k:Int)∧l.length≤k * Gn.eb d∧(∀ x ∈ l,x.text.size≤100)∧wr.ownsRow V.heap.size 106 6 o l.length (Mill.ndCs l)∧Gn.St B g R (P+1+k * Gn.eb d) wr nv nl (.slice (some ⟨b,0,none⟩) n fc) F ret loops count s'∧Gn.Fr B V wr) (fun _ t _=>m - (intOf t).toNat)
    case atStart =>
     refine ⟨0,[],size,by omega,rfl,by simp,by simp, ?_,by simpa using HSV.out.below ((Below.refl _ V).alloc (Nat.le_refl _) _),(Gn.Fr.refl B V).alloc _⟩
     exact Gn.new_row V V.heap.size (Nat.le_refl _) [] (by simp)
    case round =>
     obtain ⟨k,l,s',hk,rfl,hll,hlt2,hown,hsk,hfk⟩:=hrel
     obtain ⟨oa,oc,rfl⟩:=Gn.rowLen hown
     have HSK:Hid (Gn.St B g R (P+1+k * Gn.eb d) wr nv nl (.slice (some ⟨b,0,none⟩) n fc) F ret loops count s'):=hsk
     have HFK:Hid (Gn.Fr B V wr):=hfk
     have HOW:Hid (wr.ownsRow V.heap.size 106 6 (.slice oa l.length oc) l.length (Mill.ndCs l)):=hown
     have HLT:Hid (∀ x ∈ l,x.text.size≤100):=hlt2
     have hzk:=hfk.size
     have hbx:=(hfk.keep X (by omega) (.inr (fun cur t fr hc=>by rw [HXV.out] at hc;injection hc with hc;injection hc with _ hc _;rw [← hc];decide))).trans HXV.out
     have x1:wr.cell? ⟨X,1,none⟩=some (.slice pa m pc):=by rw [Lib.cell_of_heap hbx];rfl
     have x0:wr.cell? ⟨X,0,none⟩=some (.string nm):=by rw [Lib.cell_of_heap hbx];rfl
     clear hown hsk hfk hlt2
     have hep:=Gn.eb_pos d
     have hke:k * Gn.eb d≤3 * Gn.eb d:=Nat.mul_le_mul_right _ (by omega)
     by_cases hkm:k < m
     ·have hkI:(k:Int) < (m:Int):=by omega
      obtain ⟨b',rfl,hc⟩:=Gn.int_cell (HPA.out wr _ _ HSK.out) HM.out k hkm
      have hke2:k * Gn.eb d+Gn.eb d≤3 * Gn.eb d:=by have:=Nat.mul_le_mul_right (Gn.eb d) (show k+1≤3 by omega);rw [Nat.add_mul,Nat.one_mul] at this;exact this
      have hwd:wrap64 ((d:Int)+1 - 1)=(d:Int):=by rw [show (d:Int)+1 - 1=(d:Int) by omega];exact IntWalk.wrap64_in _ (by omega)
      have hwd2:(d:Int)+1 - 1=(d:Int):=by omega
      have HKE:Hid (k * Gn.eb d+Gn.eb d≤3 * Gn.eb d∧k * Gn.eb d≤3 * Gn.eb d):=⟨hke2,hke⟩
      have HLL:Hid (l.length≤k * Gn.eb d):=hll
      clear hbx hll hke hke2
      go_wp2_with fail
      refine (HE.out (P+1+k * Gn.eb d) wr nv nl _ F ret loops count s' _ HSK.out (by have:=HKE.out;omega)).mono ?_
      rintro e w5 ⟨a5,n5,c5,s5,rfl,hr5,hs5,hf5⟩
      obtain ⟨l5,hl5,ht5,ho5⟩:=hr5
      have hz5:=hf5.size
      have HO5:Hid (w5.ownsRow V.heap.size 106 6 (.slice oa l.length oc) l.length (Mill.ndCs l)):=hf5.row HOW.out (by decide)
      obtain ⟨a6,c6,e6⟩:=Gn.rowLen ho5
      injection e6 with e61 e62 e63
      subst e61;subst e62;subst e63
      have HS5:Hid (Gn.St B g R (P+1+k * Gn.eb d+Gn.eb d) w5 nv nl (.slice (some ⟨b,0,none⟩) n fc) F ret loops count s5):=hs5
      have HF5:Hid (Gn.Fr B V w5):=HFK.out.trans hf5
      have HR5:Hid (w5.ownsRow wr.heap.size 106 6 (.slice a5 l5.length c5) l5.length (Mill.ndCs l5)∧(∀ x ∈ l5,x.text.size≤100)∧l5.length≤Gn.eb d):=⟨ho5,ht5,hl5⟩
      clear hs5 hf5 ho5 ht5
      obtain ⟨q5,HQ5⟩:∃ q,Hid (l5.length=q):=⟨_,(rfl:l5.length=_)⟩
      rw [HQ5.out] at hl5 ⊢
      obtain ⟨q6,HQ6⟩:∃ q,Hid (l.length=q):=⟨_,(rfl:l.length=_)⟩
      rw [HQ6.out] at HO5 HLL HOW ⊢
      go_wp2_with (first | (at_builtin;(refine Gn.wp_append_any rfl _ _ 71 rfl V.heap.size 106 i0 (.agg #[.int .i64 0,.int .i64 0,.int .i64 0,.int .i64 0,.string ⟨#[]⟩,.int .i64 0]) 6 56 Tryz.underlying71 hi0 hy0 hy1 hy2 rfl (by decide) _ _ _ rfl HO5.out a5 q5 c5 rfl (Mill.ndCs l5) (by rw [Gn.nd_len,HQ5.out]) (by have:=Gn.own_src HR5.out.1;rw [HQ5.out] at this;exact this) (Gn.nd_one l5) (by have:=HLL.out;have:=HKE.out;unfold maxLen;omega) (by have:=HLL.out;have:=HKE.out;omega) (by omega) ?_;intro v6 w6 hown6 hg6)))
      obtain ⟨a7,c7,e7⟩:=Gn.rowLen hown6
      subst e7
      have HS6:Hid (Gn.St B g R (P+1+k * Gn.eb d+Gn.eb d) w6 nv nl (.slice (some ⟨b,0,none⟩) n fc) F ret loops count s5):=HS5.out.grown HO5.out hgV hg6
      have HF6:Hid (Gn.Fr B V w6):=HF5.out.grown HO5.out (Nat.le_refl _) hg6
      go_roundw
      case rel =>
       refine ⟨k+1,l++l5,s5,by omega,by go_num, ?_, ?_, ?_, ?_,HF6.out⟩
       ·rw [List.length_append,Nat.add_mul,Nat.one_mul,HQ6.out];have:=HLL.out;have:=HR5.out.2.2;omega
       ·intro x hx
        rcases List.mem_append.1 hx with hx | hx
        ·exact HLT.out x hx
        ·exact HR5.out.2.1 x hx
       ·rw [List.length_append,HQ6.out,HQ5.out,Mill.ndCs,List.flatMap_append];exact hown6
       ·rw [Nat.add_mul,Nat.one_mul,← Nat.add_assoc];exact HS6.out
      case measure=>simp [intOf];omega
     ·have hkI:¬ (k:Int) < (m:Int):=by omega
      have HLL:Hid (l.length≤3 * Gn.eb d):=by show l.length≤3 * Gn.eb d;omega
      have HSQ:Hid (Gn.St B g R (P+1+3 * Gn.eb d) wr nv nl (.slice (some ⟨b,0,none⟩) n fc) F ret loops count s'):=HSK.out.mono (by omega)
      have hll3:l.length≤2100000000:=by omega
      clear hbx hll hke
      obtain ⟨q6,HQ6⟩:∃ q,Hid (l.length=q):=⟨_,(rfl:l.length=_)⟩
      rw [HQ6.out] at HLL HOW hll3 ⊢
      obtain ⟨V2,hV2⟩:∃ Y,wr.alloc (.cells #[.int .i64 7,.int .i64 0,.int .i64 0,.int .i64 0,.string nm,.int .i64 (m:Int)] 106)=Y:=⟨_,rfl⟩
      have hb2:Below wr.heap.size wr V2:=by rw [← hV2];exact (Below.refl _ wr).alloc (Nat.le_refl _) _
      have hs2:V2.heap.size=wr.heap.size+1:=by rw [← hV2];simp
      have HO2:Hid (V2.ownsRow V.heap.size 106 6 (.slice oa q6 oc) q6 (Mill.ndCs l)):=Gn.own_keep HOW.out (fun k _ _ hl=>hb2.block k hl)
      have hsrc:Gn.Src V2 (some ⟨wr.heap.size,0,none⟩) 1 (Mill.ndC ⟨7,0,0,0,nm,(m:Int)⟩):=fun _=>⟨_,rfl,fun k u hk=>by
       rw [Gn.add_at,← hV2,Lib.cell_of_heap (World.alloc_heap_new wr _)]
       simpa [Mill.ndC] using hk⟩
      have HS2:Hid (Gn.St B g R (P+1+3 * Gn.eb d) V2 nv nl (.slice (some ⟨b,0,none⟩) n fc) F ret loops count s'):=HSQ.out.below hb2
      have HF2:Hid (Gn.Fr B V V2):=HFK.out.trans (Gn.Fr.of_below hb2)
      go_wp2_with (first | (at_builtin;(refine Gn.wp_append_any rfl _ _ 71 rfl V.heap.size 106 i0 (.agg #[.int .i64 0,.int .i64 0,.int .i64 0,.int .i64 0,.string ⟨#[]⟩,.int .i64 0]) 6 56 Tryz.underlying71 hi0 hy0 hy1 hy2 rfl (by decide) _ _ _ rfl HO2.out (some ⟨wr.heap.size,0,none⟩) 1 1 rfl (Mill.ndC ⟨7,0,0,0,nm,(m:Int)⟩) rfl hsrc (fun u hu=>Gn.nd_one [⟨7,0,0,0,nm,(m:Int)⟩] u (by simpa [Mill.ndCs] using hu)) (by unfold maxLen;omega) (by omega) (by omega) ?_;intro v6 w6 hown6 hg6)))
      obtain ⟨a7,c7,e7⟩:=Gn.rowLen hown6
      subst e7
      have HS6:=HS2.out.grown HO2.out hgV hg6
      have HF6:=HF2.out.grown HO2.out (Nat.le_refl _) hg6
      have hzw:w.heap.size≤V.heap.size:=by have:=HBW.out.size;omega
      refine bodyPost_ret (v:=.tuple #[.slice a7 (q6+1) c7,.bool true]) (by simp [results,Tryz.results119,go_sem]) rfl ⟨a7,_,c7,true,s',rfl,⟨l++[⟨7,0,0,0,nm,(m:Int)⟩], ?_, ?_, ?_⟩,HS6,(HF1.out.trans (Gn.Fr.of_below HBW.out)).trans HF6⟩
      ·have:=HLL.out;rw [List.length_append,HQ6.out];simp;omega
      ·intro x hx
       rcases List.mem_append.1 hx with hx | hx
       ·exact HLT.out x hx
       ·simp at hx;subst hx;simp only;omega
      ·have:=Gn.own_mono hown6 hzw
       rw [List.length_append,HQ6.out]
       simpa [Mill.ndCs,List.flatMap_append] using this
  ·have hltI:¬ (j:Int) < (n:Int):=by omega
   clear hsr hbr hv
   go_wp2_with fail
   have hbw:Below w1.heap.size w1 (wr.alloc (.cells #[] 106)):=HBR.out.alloc hzr _
   exact bodyPost_ret (v:=.tuple #[.slice (some ⟨wr.heap.size,0,none⟩) 0 0,.bool false]) (by simp [results,Tryz.results119,go_sem]) rfl ⟨_,_,_,false,size,rfl,(Gn.empty_row wr).mono (by omega) (by omega),HS1.out.below hbw,HF1.out.trans (Gn.Fr.of_below hbw)⟩
end Go.Proofs.YtfoimmnlojjfbaaGreatDoor
