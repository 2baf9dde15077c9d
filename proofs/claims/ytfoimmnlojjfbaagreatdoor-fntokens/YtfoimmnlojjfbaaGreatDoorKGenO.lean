import Derived.Test.YtfoimmnlojjfbaaGreatDoorKDecG
set_option maxRecDepth 100000
set_option maxHeartbeats 2000000
namespace Go.Proofs.YtfoimmnlojjfbaaGreatDoor
open Go.RowKit
def Gn.mb (n:Nat):Nat:=13000 * 12 ^ n
theorem Gn.mb_next (n:Nat):Gn.mb (n+1)=12 * Gn.mb n:=by unfold Gn.mb;rw [Nat.pow_succ];omega
theorem Gn.mb_pos (n:Nat):13000≤Gn.mb n:=by unfold Gn.mb;have:=Nat.one_le_pow n 12 (by omega);omega
def Gn.SPost (B g R P K:Nat) (m2:Int) (w:World) (nl:List (ByteArray × Int)) (fv:Value) (F:List Gn.Sg) (ret loops:Int) (e:Ending) (w':World):Prop := ∃ a m c k nv' nl' count' size',e = .returned (.tuple #[.slice a m c,.int .i64 k])∧(0≤k∧k≤m2)∧Gn.Row w.heap.size w' (.slice a m c) K∧Gn.St B g R P w' nv' nl' fv F ret loops count' size'∧nl.length≤nl'.length∧Gn.Fw B w w'
def Gn.StmtIs (B g R n:Nat):Prop := ∀ (d:Int),-1≤d→d.toNat=n→∀ (P:Nat) (w:World) (nv:Value) (nl:List (ByteArray × Int)) (fv:Value) (F:List Gn.Sg) (ret loops count size:Int),Gn.St B g R P w nv nl fv F ret loops count size→P+Gn.mb n≤700000000→Calls Tryz.prog 109 #[.pointer (some ⟨g,0,none⟩),.int .i64 d] w (Gn.SPost B g R (P+Gn.mb n) (Gn.mb n) 2 w nl fv F ret loops)
def Gn.SomeIs (B g R n:Nat):Prop := ∀ (d:Int),-1≤d→d.toNat=n→∀ (P:Nat) (w:World) (nv:Value) (nl:List (ByteArray × Int)) (fv:Value) (F:List Gn.Sg) (ret loops count size:Int),Gn.St B g R P w nv nl fv F ret loops count size→P+3 * Gn.mb n+10≤700000000→Calls Tryz.prog 101 #[.pointer (some ⟨g,0,none⟩),.int .i64 d] w (Gn.SPost B g R (P+3 * Gn.mb n+10) (3 * Gn.mb n+10) 6 w nl fv F ret loops)
theorem Gn.some_any (B g R n:Nat) (HST:Hid (Gn.StmtIs B g R n)):Gn.SomeIs B g R n:=by
 intro d hd hdn P w nv nl fv F ret loops count size h hP
 obtain ⟨i0,hi0,hy0,hy1,hy2⟩:=info_parts Gn.infoNode
 have HDN:Hid (d.toNat=n):=hdn
 have HS:Hid (Gn.St B g R P w nv nl fv F ret loops count size):=h
 have hmp:=Gn.mb_pos n
 have hgw:g < w.heap.size:=(Array.getElem?_eq_some_iff.1 h.box).1
 obtain ⟨V,hV⟩:∃ V,w.alloc (.cells #[] 106)=V:=⟨_,rfl⟩
 have hbV:Below w.heap.size w V:=by rw [← hV];exact (Below.refl _ w).alloc (Nat.le_refl _) _
 have HRV:Hid (V.ownsRow w.heap.size 106 6 (.slice (some ⟨w.heap.size,0,none⟩) 0 0) 0 (Mill.ndCs [])):=by rw [Hid,← hV];exact Gn.new_row w w.heap.size (Nat.le_refl _) [] (by simp)
 have HSV:Hid (Gn.St B g R P V nv nl fv F ret loops count size):=h.below hbV
 have HFV:Hid (Gn.Fw B w V):=Gn.Fw.of_below hbV
 have g0:=HSV.out.cells.1
 clear h hdn hbV
 go_enter Tryz.func101,Tryz.ntmps101
 go_wp2_with fail
 try rw [hV]
 refine (Gn.pick_anyW HSV.out 4 (by omega) (by omega) (by omega)).mono ?_
 rintro e w1 ⟨v,rfl,hv,hs1,hf1⟩
 have HS1:Hid (Gn.St B g R (P+1) w1 nv nl fv F ret loops count size):=hs1
 have HF1:Hid (Gn.Fw B w w1):=HFV.out.trans hf1
 have HR1:Hid (w1.ownsRow w.heap.size 106 6 (.slice (some ⟨w.heap.size,0,none⟩) 0 0) 0 (Mill.ndCs [])):=hf1.row HRV.out (by decide)
 clear hs1 hf1 g0 HRV HFV HSV
 go_wp2_with fail
 go_loopw [6,7,8] (fun o q t wr => ∃ (i:Nat) (l:List Mill.Nd) (kk:Int) (nv':Value) (nl':List (ByteArray × Int)) (count' size':Int),i≤v∧t = .int .i64 ((v:Int) - (i:Int))∧q = .int .i64 kk∧(0≤kk∧kk≤2 * (i:Int))∧l.length≤i * Gn.mb n∧(∀ x ∈ l,x.text.size≤100)∧wr.ownsRow w.heap.size 106 6 o l.length (Mill.ndCs l)∧Gn.St B g R (P+1+i * Gn.mb n) wr nv' nl' fv F ret loops count' size'∧nl.length≤nl'.length∧Gn.Fw B w wr) (fun _ _ t _=>(intOf t).toNat)
 case atStart=>exact ⟨0,[],0,nv,nl,count,size,by omega,by simp,rfl,by omega,by simp,by simp,HR1.out,by simpa using HS1.out,Nat.le_refl _,HF1.out⟩
 case round =>
  obtain ⟨i,l,kk,nv',nl',count',size',hiv,rfl,rfl,hkk,hll,hlt,hown,hsr,hnl,hfr⟩:=hrel
  obtain ⟨oa,oc,rfl⟩:=Gn.rowLen hown
  have k6:=hsr.cells.2.2.2.2.2.2
  have HSR:Hid (Gn.St B g R (P+1+i * Gn.mb n) wr nv' nl' fv F ret loops count' size'):=hsr
  have HFR:Hid (Gn.Fw B w wr):=hfr
  have HOW:Hid (wr.ownsRow w.heap.size 106 6 (.slice oa l.length oc) l.length (Mill.ndCs l)):=hown
  have HLT:Hid (∀ x ∈ l,x.text.size≤100):=hlt
  have hzr:=hfr.size
  have hie:i * Gn.mb n≤3 * Gn.mb n:=Nat.mul_le_mul_right _ (by omega)
  clear hsr hfr hown hlt
  by_cases hgo:i < v∧0 < size'
  ·have h1:(0:Int) < (v:Int) - (i:Int):=by omega
   have h2:(0:Int) < size':=hgo.2
   have hie2:i * Gn.mb n+Gn.mb n≤3 * Gn.mb n:=by have:=Nat.mul_le_mul_right (Gn.mb n) (show i+1≤3 by omega);rw [Nat.add_mul,Nat.one_mul] at this;exact this
   have HKE:Hid (i * Gn.mb n+Gn.mb n≤3 * Gn.mb n∧l.length≤i * Gn.mb n):=⟨hie2,hll⟩
   clear hll hie hie2
   go_wp2_with fail
   refine (HST.out d hd HDN.out _ wr nv' nl' fv F ret loops count' size' HSR.out (by have:=HKE.out;omega)).mono ?_
   rintro e w5 ⟨a5,n5,c5,k5,nv5,nl5,count5,size5,rfl,hk5,hr5,hs5,hn5,hf5⟩
   obtain ⟨l5,hl5,ht5,ho5⟩:=hr5
   have hz5:=hf5.size
   have HO5:Hid (w5.ownsRow w.heap.size 106 6 (.slice oa l.length oc) l.length (Mill.ndCs l)):=hf5.row HOW.out (by decide)
   obtain ⟨a6,c6,e6⟩:=Gn.rowLen ho5
   injection e6 with e61 e62 e63
   subst e61;subst e62;subst e63
   have HS5:Hid (Gn.St B g R (P+1+i * Gn.mb n+Gn.mb n) w5 nv5 nl5 fv F ret loops count5 size5):=hs5
   have HF5:Hid (Gn.Fw B w w5):=HFR.out.trans hf5
   have HR5:Hid (w5.ownsRow wr.heap.size 106 6 (.slice a5 l5.length c5) l5.length (Mill.ndCs l5)∧(∀ x ∈ l5,x.text.size≤100)∧l5.length≤Gn.mb n):=⟨ho5,ht5,hl5⟩
   clear hs5 hf5 ho5 ht5
   obtain ⟨q5,HQ5⟩:∃ q,Hid (l5.length=q):=⟨_,(rfl:l5.length=_)⟩
   rw [HQ5.out] at hl5 ⊢
   obtain ⟨q6,HQ6⟩:∃ q,Hid (l.length=q):=⟨_,(rfl:l.length=_)⟩
   rw [HQ6.out] at HO5 HKE HOW ⊢
   have hwk:wrap64 (kk+k5)=kk+k5:=IntWalk.wrap64_in _ (by omega)
   have hwv:wrap64 ((v:Int) - (i:Int) - 1)=(v:Int) - (i:Int) - 1:=IntWalk.wrap64_in _ (by omega)
   go_wp2_with (first | (at_builtin;(refine Gn.wp_append_any rfl _ _ 71 rfl w.heap.size 106 i0 (.agg #[.int .i64 0,.int .i64 0,.int .i64 0,.int .i64 0,.string ⟨#[]⟩,.int .i64 0]) 6 56 Tryz.underlying71 hi0 hy0 hy1 hy2 rfl (by decide) _ _ _ rfl HO5.out a5 q5 c5 rfl (Mill.ndCs l5) (by rw [Gn.nd_len,HQ5.out]) (by have:=Gn.own_src HR5.out.1;rw [HQ5.out] at this;exact this) (Gn.nd_one l5) (by have:=HKE.out;unfold maxLen;omega) (by have:=HKE.out;omega) (by omega) ?_;intro v6 w6 hown6 hg6)))
   obtain ⟨a7,c7,e7⟩:=Gn.rowLen hown6
   subst e7
   have HS6:Hid (Gn.St B g R (P+1+i * Gn.mb n+Gn.mb n) w6 nv5 nl5 fv F ret loops count5 size5):=HS5.out.grown HO5.out hgw hg6
   have HF6:Hid (Gn.Fw B w w6):=HF5.out.grown HO5.out (Nat.le_refl _) hg6
   go_roundw
   case rel =>
    refine ⟨i+1,l++l5,kk+k5,nv5,nl5,count5,size5,by omega, ?_,rfl,by omega, ?_, ?_, ?_, ?_,by omega,HF6.out⟩
    ·congr 1;omega
    ·rw [List.length_append,Nat.add_mul,Nat.one_mul,HQ6.out];have:=HKE.out;have:=HR5.out.2.2;omega
    ·intro x hx
     rcases List.mem_append.1 hx with hx | hx
     ·exact HLT.out x hx
     ·exact HR5.out.2.1 x hx
    ·rw [List.length_append,HQ6.out,HQ5.out,Mill.ndCs,List.flatMap_append];exact hown6
    ·rw [Nat.add_mul,Nat.one_mul,← Nat.add_assoc];exact HS6.out
   case measure=>simp [intOf];omega
  ·have hfin:Gn.SPost B g R (P+3 * Gn.mb n+10) (3 * Gn.mb n+10) 6 w nl fv F ret loops (.returned (.tuple #[.slice oa l.length oc,.int .i64 kk])) wr :=
    ⟨oa,_,oc,kk,nv',nl',count',size',rfl,by omega,⟨l,by omega,HLT.out,HOW.out⟩,HSR.out.mono (by omega),hnl,HFR.out⟩
   have HFIN:Hid (Gn.SPost B g R (P+3 * Gn.mb n+10) (3 * Gn.mb n+10) 6 w nl fv F ret loops (.returned (.tuple #[.slice oa l.length oc,.int .i64 kk])) wr):=hfin
   clear hfin hll hie
   obtain ⟨q6,HQ6⟩:∃ q,Hid (l.length=q):=⟨_,(rfl:l.length=_)⟩
   rw [HQ6.out] at HFIN ⊢
   by_cases hiv2:i < v
   ·have h1:(0:Int) < (v:Int) - (i:Int):=by omega
    have h2:¬ (0:Int) < size':=fun h=>hgo ⟨hiv2,h⟩
    go_wp2_with fail
    exact bodyPost_ret (v:=.tuple #[.slice oa q6 oc,.int .i64 kk]) (by simp [results,Tryz.results101,go_sem]) rfl HFIN.out
   ·have h1:¬ (0:Int) < (v:Int) - (i:Int):=by omega
    go_wp2_with fail
    exact bodyPost_ret (v:=.tuple #[.slice oa q6 oc,.int .i64 kk]) (by simp [results,Tryz.results101,go_sem]) rfl HFIN.out
def Gn.BPost (B g R P K:Nat) (w:World) (nl:List (ByteArray × Int)) (fv:Value) (F:List Gn.Sg) (ret loops:Int) (e:Ending) (w':World):Prop := ∃ a m c nv' nl' count' size',e = .returned (.slice a m c)∧Gn.Row w.heap.size w' (.slice a m c) K∧Gn.St B g R P w' nv' nl' fv F ret loops count' size'∧nl.length≤nl'.length∧Gn.Fw B w w'
theorem Gn.rowCap {w:World} {B e size n:Nat} {v:Value} {xs:List Value} (h:w.ownsRow B e size v n xs):∃ a cap,v = .slice a n cap∧n≤cap∧cap≤maxLen:=by
 rcases h.2 with ⟨rfl,h0⟩ | ⟨g,cap,cur,rfl,_,_,h1,h2,_⟩
 ·exact ⟨none,0,by rw [h0],by omega,by unfold maxLen;omega⟩
 ·exact ⟨_,_,rfl,h1,h2⟩
theorem Gn.block_any (B g R n:Nat) (HSM:Hid (Gn.SomeIs B g R n)) (d:Int) (hd : -1≤d) (hdn:d.toNat=n) {P:Nat} {w:World} {nv:Value} {nl:List (ByteArray × Int)} {fv:Value} {F:List Gn.Sg} {ret loops count size:Int} (h:Gn.St B g R P w nv nl fv F ret loops count size) (hP:P+3 * Gn.mb n+20≤700000000) :
  Calls Tryz.prog 126 #[.pointer (some ⟨g,0,none⟩),.int .i64 d] w (Gn.BPost B g R (P+3 * Gn.mb n+20) (3 * Gn.mb n+20) w nl fv F ret loops):=by
 obtain ⟨i0,hi0,hy0,hy1,hy2⟩:=info_parts Gn.infoNode
 have HDN:Hid (d.toNat=n):=hdn
 have HS:Hid (Gn.St B g R P w nv nl fv F ret loops count size):=h
 have hmp:=Gn.mb_pos n
 have hgw:g < w.heap.size:=(Array.getElem?_eq_some_iff.1 h.box).1
 have hnb:=h.nbd.1
 obtain ⟨na,nc,rfl⟩:=Gn.rowLen h.names
 have g1:=h.cells.2.1
 clear h hdn
 obtain ⟨q,HQ⟩:∃ q,Hid (nl.length=q):=⟨_,(rfl:nl.length=_)⟩
 rw [HQ.out] at g1 hnb
 go_enter Tryz.func126,Tryz.ntmps126
 go_wp2_with fail
 refine (HSM.out d hd HDN.out P w _ nl fv F ret loops count size HS.out (by omega)).mono ?_
 rintro e w1 ⟨a1,m1,c1,k,nv1,nl1,count1,size1,rfl,hk,hr1,hs1,hn1,hf1⟩
 obtain ⟨l,hl,hlt,hown⟩:=hr1
 obtain ⟨a2,c2,e2⟩:=Gn.rowLen hown
 injection e2 with e21 e22 e23
 subst e21;subst e22;subst e23
 obtain ⟨na1,nc1,rfl,hc1,hc2⟩:=Gn.rowCap hs1.names
 have k1:=hs1.cells.2.1
 have f1:=hs1.froz 1
 obtain ⟨hs2,hf2⟩:=hs1.cutName nl.length hn1
 rw [HQ.out] at hs2 hf2 hn1
 have HN1:Hid (q≤nl1.length):=hn1
 obtain ⟨q1,HQ1⟩:∃ q,Hid (nl1.length=q):=⟨_,(rfl:nl1.length=_)⟩
 rw [HQ1.out] at k1 hc1 hn1
 obtain ⟨q2,HQ2⟩:∃ q,Hid (l.length=q):=⟨_,(rfl:l.length=_)⟩
 rw [HQ2.out] at hown hl ⊢
 have hz1:=hf1.size
 obtain ⟨V,hV⟩:∃ V,w1.setCell ⟨g,1,none⟩ (.slice na1 q nc1)=V:=⟨_,rfl⟩
 rw [hV] at hs2 hf2
 have hz2:=hf2.size
 obtain ⟨V2,hV2⟩:∃ Y,V.alloc (.cells #[.int .i64 21,.int .i64 0,.int .i64 0,.int .i64 0,.string ⟨#[]⟩,.int .i64 k] 106)=Y:=⟨_,rfl⟩
 have hb2:Below V.heap.size V V2:=by rw [← hV2];exact (Below.refl _ V).alloc (Nat.le_refl _) _
 have hz3:V2.heap.size=V.heap.size+1:=by rw [← hV2];simp
 have HO2:Hid (V2.ownsRow w.heap.size 106 6 (.slice a1 q2 c1) q2 (Mill.ndCs l)):=Gn.own_keep (hf2.row hown (by decide)) (fun k _ _ hl=>hb2.block k hl)
 have hsrc:Gn.Src V2 (some ⟨V.heap.size,0,none⟩) 1 (Mill.ndC ⟨21,0,0,0,⟨#[]⟩,k⟩):=fun _=>⟨_,rfl,fun k u hk=>by
  rw [Gn.add_at,← hV2,Lib.cell_of_heap (World.alloc_heap_new V _)]
  simpa [Mill.ndC] using hk⟩
 have HS2:Hid (Gn.St B g R (P+3 * Gn.mb n+10) V2 (.slice na1 q nc1) (nl1.take q) fv F ret loops count1 size1):=hs2.below hb2
 have HF2:Hid (Gn.Fw B w V2):=(hf1.trans hf2).trans (Gn.Fw.of_below hb2)
 have HLT:Hid (∀ x ∈ l,x.text.size≤100):=hlt
 clear hs1 hs2 hf1 hf2 hown hlt g1
 have hm3:q2≤700000010:=by omega
 go_wp2_with (first | (at_builtin;(refine Gn.wp_append_any rfl _ _ 71 rfl w.heap.size 106 i0 (.agg #[.int .i64 0,.int .i64 0,.int .i64 0,.int .i64 0,.string ⟨#[]⟩,.int .i64 0]) 6 56 Tryz.underlying71 hi0 hy0 hy1 hy2 rfl (by decide) _ _ _ rfl HO2.out (some ⟨V.heap.size,0,none⟩) 1 1 rfl (Mill.ndC ⟨21,0,0,0,⟨#[]⟩,k⟩) rfl hsrc (fun u hu=>Gn.nd_one [⟨21,0,0,0,⟨#[]⟩,k⟩] u (by simpa [Mill.ndCs] using hu)) (by unfold maxLen;omega) (by omega) (by omega) ?_;intro v6 w6 hown6 hg6)))
 obtain ⟨a7,c7,e7⟩:=Gn.rowLen hown6
 subst e7
 have HS6:=HS2.out.grown HO2.out hgw hg6
 have HF6:=HF2.out.grown HO2.out (Nat.le_refl _) hg6
 go_ret
 refine ⟨a7,_,c7,_,_,_,_,rfl,⟨l++[⟨21,0,0,0,⟨#[]⟩,k⟩], ?_, ?_, ?_⟩,HS6.mono (by omega), ?_,HF6⟩
 ·rw [List.length_append,HQ2.out];simp;omega
 ·intro x hx
  rcases List.mem_append.1 hx with hx | hx
  ·exact HLT.out x hx
  ·simp at hx;subst hx;exact Gn.no_text
 ·rw [List.length_append,HQ2.out,Mill.ndCs,List.flatMap_append];simpa [Mill.ndCs] using hown6
 ·rw [List.length_take,HQ.out];have:=HN1.out;omega
theorem Gn.rows_sum {w:World}:∀ (ps:List (Value × Nat)),(∀ p ∈ ps,∃ A,Gn.Row A w p.1 p.2)→∃ L:List (List Mill.Nd),L.length=ps.length∧L.flatten.length≤(ps.map (·.2)).sum∧(∀ d ∈ L.flatten,d.text.size≤100)∧∀ i (hi:i < L.length),∃ a c,(ps.map (·.1))[i]? = some (.slice a L[i].length c)∧Gn.Src w a L[i].length (Mill.ndCs L[i])
 | [],_=>⟨[],rfl,by simp,by simp,fun i hi=>by simp at hi⟩
 | (v,K)::ps,h=>by
  obtain ⟨L,h1,h2,h3,h4⟩:=Gn.rows_sum ps (fun u hu=>h u (List.mem_cons_of_mem _ hu))
  obtain ⟨A,l,k1,k2,k3⟩:=h (v,K) (by simp)
  obtain ⟨a,c,e⟩:=Gn.rowLen k3
  simp only at e;subst e
  refine ⟨l::L,by simp [h1], ?_, ?_,fun i hi => ?_⟩
  ·simp only [List.flatten_cons,List.length_append,List.map_cons,List.sum_cons];simp only at k1;omega
  ·intro d hd
   simp only [List.flatten_cons,List.mem_append] at hd
   rcases hd with hd | hd
   ·exact k2 d hd
   ·exact h3 d hd
  ·cases i with
   | zero=>exact ⟨a,c,rfl,Gn.own_src k3⟩
   | succ i=>exact h4 i (by simpa using hi)
theorem Gn.over_sum (d:Mill.Nd) (hd:d.text.size≤100) (ps:List (Value × Nat)) (w:World) (hr:∀ p ∈ ps,∃ A,Gn.Row A w p.1 p.2) (hl:ps.length≤100) (hK:(ps.map (·.2)).sum≤1000000000) :
  Calls Tryz.prog 77 #[Mill.ndV d,.slice (some ⟨w.heap.size,0,none⟩) ps.length ps.length] (w.alloc (.cells (ps.map (·.1)).toArray 71)) (Gn.RPost ((ps.map (·.2)).sum+1) w):=by
 have hb:Below w.heap.size w (w.alloc (.cells (ps.map (·.1)).toArray 71)):=(Below.refl _ w).alloc (Nat.le_refl _) _
 obtain ⟨L,h1,h2,h3,h4⟩:=Gn.rows_sum (w:=w.alloc (.cells (ps.map (·.1)).toArray 71)) ps (fun p hp=>by obtain ⟨A,h⟩:=hr p hp;exact ⟨A,h.fw (B:=0) (Gn.Fw.of_below hb)⟩)
 have:=Gn.over_any d L (some ⟨w.heap.size,0,none⟩) ps.length (w.alloc (.cells (ps.map (·.1)).toArray 71)) (fun i hi=>by
  obtain ⟨a,c,k1,k2⟩:=h4 i hi
  obtain ⟨b,k3,k4⟩:=Gn.new_parts w (ps.map (·.1)) 71 i _ k1
  exact ⟨b,a,c,k3,k4,k2⟩) (by omega) (by unfold Gn.sum;omega)
 rw [h1] at this
 refine this.mono ?_
 rintro e w' ⟨a,c,rfl,ho,hb2⟩
 refine ⟨a,_,c,rfl,⟨L.flatten++[{ d with kids:=(ps.length:Int) }], ?_, ?_, ?_⟩,hb.trans (hb2.mono hb.size)⟩
 ·simp only [List.length_append,List.length_cons,List.length_nil];omega
 ·intro x hx
  simp only [List.mem_append,List.mem_singleton] at hx
  rcases hx with hx | rfl
  ·exact h3 x hx
  ·exact hd
 ·have e:(L.flatten++[{ d with kids:=(ps.length:Int) }]).length=Gn.sum L+1:=by simp [Gn.sum]
  rw [e]
  obtain ⟨o1,o2⟩:=ho
  refine ⟨o1, ?_⟩
  rcases o2 with o2 | ⟨gg,cap,cur,o3,o4,o5⟩
  ·exact .inl o2
  ·exact .inr ⟨gg,cap,cur,o3,by have:=hb.size;omega,o5⟩
theorem Gn.over2s (d:Mill.Nd) (hd:d.text.size≤100) {a a':Option Addr} {n c n' c' K K' A A':Nat} {w:World} (h:Gn.Row A w (.slice a n c) K) (h':Gn.Row A' w (.slice a' n' c') K') (hK:K+K'≤1000000000) :
  Calls Tryz.prog 77 #[.agg #[.int .i64 d.kind,.int .i64 d.op,.int .i64 d.type,.int .i64 d.n,.string d.text,.int .i64 d.kids],.slice (some ⟨w.heap.size,0,none⟩) 2 2] (w.alloc (.cells #[.slice a n c,.slice a' n' c'] 71)) (Gn.RPost (K+K'+1) w):=by
 have:=Gn.over_sum d hd [(.slice a n c,K),(.slice a' n' c',K')] w (fun v hv=>by simp at hv;rcases hv with rfl | rfl <;> first | exact ⟨A,h⟩ | exact ⟨A',h'⟩) (by simp) (by simp;omega)
 exact this.mono fun e w' ⟨a,n,c,h1,h2,h3⟩=>⟨a,n,c,h1,h2.mono (Nat.le_refl _) (by simp),h3⟩
theorem Gn.over3s (d:Mill.Nd) (hd:d.text.size≤100) {a a' a2:Option Addr} {n c n' c' n2 c2 K K' K2 A A' A2:Nat} {w:World} (h:Gn.Row A w (.slice a n c) K) (h':Gn.Row A' w (.slice a' n' c') K') (h2:Gn.Row A2 w (.slice a2 n2 c2) K2) (hK:K+K'+K2≤1000000000) :
  Calls Tryz.prog 77 #[.agg #[.int .i64 d.kind,.int .i64 d.op,.int .i64 d.type,.int .i64 d.n,.string d.text,.int .i64 d.kids],.slice (some ⟨w.heap.size,0,none⟩) 3 3] (w.alloc (.cells #[.slice a n c,.slice a' n' c',.slice a2 n2 c2] 71)) (Gn.RPost (K+K'+K2+1) w):=by
 have:=Gn.over_sum d hd [(.slice a n c,K),(.slice a' n' c',K'),(.slice a2 n2 c2,K2)] w (fun v hv=>by simp at hv;rcases hv with rfl | rfl | rfl <;> first | exact ⟨A,h⟩ | exact ⟨A',h'⟩ | exact ⟨A2,h2⟩) (by simp) (by simp;omega)
 exact this.mono fun e w' ⟨a,n,c,h1,h2,h3⟩=>⟨a,n,c,h1,h2.mono (Nat.le_refl _) (by simp;omega),h3⟩
def Gn.cb : Nat→Nat
 | 0=>7 * Gn.mb 0
 | n+1=>11 * Gn.mb n
theorem Gn.cb_le (n:Nat):Gn.cb n≤7 * Gn.mb n:=by
 cases n with
 | zero=>exact Nat.le_refl _
 | succ n=>have:=Gn.mb_next n;show 11 * Gn.mb n≤_;omega
def Gn.CondIs (B g R n:Nat):Prop := ∀ (P:Nat) (w:World) (nv:Value) (nl:List (ByteArray × Int)) (fv:Value) (F:List Gn.Sg) (ret loops count size:Int),Gn.St B g R P w nv nl fv F ret loops count size→P+Gn.cb n≤700000000→Calls Tryz.prog 120 #[.pointer (some ⟨g,0,none⟩),.int .i64 (n:Int)] w (Gn.BPost B g R (P+Gn.cb n) (Gn.cb n) w nl fv F ret loops)
theorem Gn.cond_step (B g R n m Z:Nat) (HSM:Hid (Gn.SomeIs B g R m)) (hm:((n:Int) - 1).toNat=m) (HC:Hid (0 < n→Gn.CondIs B g R (n - 1))) (HZ:Hid ((0 < n→Gn.cb (n - 1)+3 * Gn.mb m+3000≤Z)∧6 * Gn.mb m+3000≤Z)) (hn:n≤100) {P:Nat} {w:World} {nv:Value} {nl:List (ByteArray × Int)} {fv:Value} {F:List Gn.Sg} {ret loops count size:Int} (h:Gn.St B g R P w nv nl fv F ret loops count size) (hP:P+Z≤700000000) :
    Calls Tryz.prog 120 #[.pointer (some ⟨g,0,none⟩),.int .i64 (n:Int)] w (Gn.BPost B g R (P+Z) Z w nl fv F ret loops):=by
  have HE2:Hid (Gn.ExprW B g R 2):=Gn.expr_anyW B g R 2
  have e2:Gn.eb 2=2500:=rfl
  have HS:Hid (Gn.St B g R P w nv nl fv F ret loops count size):=h
  have hmp:=Gn.mb_pos m
  have HM:Hid (((n:Int) - 1).toNat=m):=hm
  have hz6:=HZ.out.2
  have hwd:wrap64 ((n:Int) - 1)=(n:Int) - 1:=IntWalk.wrap64_in _ (by omega)
  clear h hm
  go_enter Tryz.func120,Tryz.ntmps120
  go_wp2_with fail
  refine (HE2.out _ w nv nl _ F ret loops count size _ HS.out (by omega)).mono ?_
  rintro e w1 ⟨a1,n1,c1,s1,rfl,hr1,hs1,hf1⟩
  have hz1:=hf1.size
  go_wp2_with fail
  refine (Gn.block_any B g R m HSM ((n:Int) - 1) (by omega) HM.out hs1 (by omega)).mono ?_
  rintro e w2 ⟨a2,n2,c2,nv2,nl2,count2,s2,rfl,hr2,hs2,hn2,hf2⟩
  have hz2:=hf2.size
  have g0:=hs2.cells.1
  go_wp2_with fail
  refine (Gn.pick_anyW hs2 4 (by omega) (by omega) (by omega)).mono ?_
  rintro e w3 ⟨v,rfl,hv,hs3,hf3⟩
  have hz3:=hf3.size
  have HR1:Hid (Gn.Row w.heap.size w3 (.slice a1 n1 c1) 2500):=(hr1.fw hf2).fw hf3
  have HR2:Hid (Gn.Row w1.heap.size w3 (.slice a2 n2 c2) (3 * Gn.mb m+20)):=hr2.fw hf3
  have HF3:Hid (Gn.Fw B w w3):=(hf1.trans hf2).trans hf3
  have HS3:Hid (Gn.St B g R (P+2500+3 * Gn.mb m+20+1) w3 nv2 nl2 fv F ret loops count2 s2):=hs3
  clear hr1 hr2 hs1 hs2 hs3 hf1 hf2 hf3 g0
  have HFIN:Hid (∀ (w4 w5:World) (a5:Option Addr) (n5 c5 Q K:Nat) (nv4:Value) (nl4:List (ByteArray × Int)) (count4 s4:Int),Gn.Fw B w3 w4→Gn.St B g R Q w4 nv4 nl4 fv F ret loops count4 s4→Q≤P+Z→K≤Z→nl2.length≤nl4.length→Gn.Row w4.heap.size w5 (.slice a5 n5 c5) K→Below w4.heap.size w4 w5→Gn.BPost B g R (P+Z) Z w nl fv F ret loops (.returned (.slice a5 n5 c5)) w5):=by
    intro w4 w5 a5 n5 c5 Q K nv4 nl4 count4 s4 h1 h2 h3 h4 h5 h6 h7
    have:=h1.size
    exact ⟨a5,n5,c5,nv4,nl4,count4,s4,rfl,h6.mono (by omega) h4,(h2.below h7).mono h3,by omega,(HF3.out.trans h1).trans (Gn.Fw.of_below h7)⟩
  by_cases hv0:v=0
  · subst hv0
    go_wp2_with fail
    refine (Gn.over2s ⟨12,0,0,0,⟨#[]⟩,0⟩ Gn.no_text HR1.out HR2.out (by omega)).mono ?_
    rintro e w4 ⟨a4,n4,c4,rfl,hr4,hb4⟩
    go_wp2_with fail
    go_ret
    exact HFIN.out w3 w4 a4 n4 c4 _ _ _ _ _ _ (Gn.Fw.refl _ _) HS3.out (by omega) (by omega) (Nat.le_refl _) hr4 hb4
  · have hvI:((v:Int) == 0)=false:=by simp;omega
    by_cases hgo:v=1∧0 < n
    · obtain ⟨rfl,hn0⟩:=hgo
      have hnI:(0:Int) < (n:Int):=by omega
      have hzc:=HZ.out.1 hn0
      have ecast:((n:Int) - 1)=((n - 1:Nat):Int):=by omega
      go_wp2_with fail
      refine (HC.out hn0 _ w3 nv2 nl2 fv F ret loops count2 s2 HS3.out (by omega)).mono ?_
      clear ecast
      rintro e w4 ⟨a4,n4,c4,nv4,nl4,count4,s4,rfl,hr4,hs4,hn4,hf4⟩
      go_wp2_with fail
      refine (Gn.over3s ⟨12,0,0,0,⟨#[]⟩,0⟩ Gn.no_text (HR1.out.fw hf4) (HR2.out.fw hf4) hr4 (by omega)).mono ?_
      rintro e w5 ⟨a5,n5,c5,rfl,hr5,hb5⟩
      go_wp2_with fail
      go_ret
      exact HFIN.out w4 w5 a5 n5 c5 _ _ _ _ _ _ hf4 hs4 (by omega) (by omega) hn4 hr5 hb5
    · by_cases hv1:v=1
      · subst hv1
        have hnI:¬ (0:Int) < (n:Int):=by omega
        go_wp2_with fail
        refine (Gn.block_any B g R m HSM ((n:Int) - 1) (by omega) HM.out HS3.out (by omega)).mono ?_
        rintro e w4 ⟨a4,n4,c4,nv4,nl4,count4,s4,rfl,hr4,hs4,hn4,hf4⟩
        go_wp2_with fail
        refine (Gn.over3s ⟨12,0,0,0,⟨#[]⟩,0⟩ Gn.no_text (HR1.out.fw hf4) (HR2.out.fw hf4) hr4 (by omega)).mono ?_
        rintro e w5 ⟨a5,n5,c5,rfl,hr5,hb5⟩
        go_wp2_with fail
        go_ret
        exact HFIN.out w4 w5 a5 n5 c5 _ _ _ _ _ _ hf4 hs4 (by omega) (by omega) hn4 hr5 hb5
      · have hvJ:((v:Int) == 1)=false:=by simp;omega
        go_wp2_with fail
        refine (Gn.block_any B g R m HSM ((n:Int) - 1) (by omega) HM.out HS3.out (by omega)).mono ?_
        rintro e w4 ⟨a4,n4,c4,nv4,nl4,count4,s4,rfl,hr4,hs4,hn4,hf4⟩
        go_wp2_with fail
        refine (Gn.over3s ⟨12,0,0,0,⟨#[]⟩,0⟩ Gn.no_text (HR1.out.fw hf4) (HR2.out.fw hf4) hr4 (by omega)).mono ?_
        rintro e w5 ⟨a5,n5,c5,rfl,hr5,hb5⟩
        go_wp2_with fail
        go_ret
        exact HFIN.out w4 w5 a5 n5 c5 _ _ _ _ _ _ hf4 hs4 (by omega) (by omega) hn4 hr5 hb5
theorem Gn.cond_any (B g R:Nat):∀ n:Nat,n≤100→(∀ m,m≤n - 1→Gn.SomeIs B g R m)→Gn.CondIs B g R n:=by
 intro n
 induction n with
 | zero =>
  intro _ hs P w nv nl fv F ret loops count size h hP
  exact Gn.cond_step B g R 0 0 (Gn.cb 0) (hs 0 (by omega)) rfl (fun h=>absurd h (by omega)) ⟨fun h=>absurd h (by omega),by have:=Gn.mb_pos 0;show _≤7 * Gn.mb 0;omega⟩ (by omega) h hP
 | succ n ih =>
  intro hn hs P w nv nl fv F ret loops count size h hP
  exact Gn.cond_step B g R (n+1) n (Gn.cb (n+1)) (hs n (by omega)) (by omega) (fun _=>ih (by omega) (fun m hm=>hs m (by omega))) ⟨fun _=>by have:=Gn.mb_pos n;have:=Gn.cb_le n;simp only [Nat.add_sub_cancel];show _≤11 * Gn.mb n;omega,by have:=Gn.mb_pos n;show _≤11 * Gn.mb n;omega⟩ hn h hP
theorem Gn.infoName : (Tryz.prog.info? 140).map (fun i=>(i.zero,i.size,i.bytes))=some (some (.agg #[.string ⟨#[]⟩,.int .i64 0]),2,24):=by kernel_rfl
theorem Gn.wp_rows {w:World} {ops:Array Oper} {rest:List Oper} {o:Oper} {a:Act} {Q:Exit→Act→World→Prop} (hgd:o.guard=none) (s x:Operand)
  (ho:o.op = .call { callee:=.builtin .append,args := #[s,x],argTypes := #[71,71] }) {A1 A2 K1 K2 dn dc sn sc:Nat} {da sa:Option Addr} (hs:a.eval s = .slice da dn dc) (hx:a.eval x = .slice sa sn sc) (h1:Gn.Row A1 w (.slice da dn dc) K1) (h2:Gn.Row A2 w (.slice sa sn sc) K2) (hA:A1≤w.heap.size) (hK:K1+K2≤1000000000)
  (h:∀ a' n' c' w',Gn.Row A1 w' (.slice a' n' c') (K1+K2)→(∀ B w0,w0.heap.size≤A1→Gn.Fw B w0 w→Gn.Fw B w0 w')→(∀ B g R P nv nl fv F ret loops count size,g < A1→Gn.St B g R P w nv nl fv F ret loops count size→Gn.St B g R P w' nv nl fv F ret loops count size)→wpList Tryz.prog ops Q rest (a.put o.dst (.slice a' n' c')) w') :
  wpList Tryz.prog ops Q (o::rest) a w:=by
 obtain ⟨i0,hi0,hy0,hy1,hy2⟩:=info_parts Gn.infoNode
 obtain ⟨l1,p1,p2,p3⟩:=h1
 obtain ⟨l2,q1,q2,q3⟩:=h2
 obtain ⟨a3,c3,e3⟩:=Gn.rowLen q3
 injection e3 with e31 e32 e33
 subst e31;subst e32;subst e33
 refine Gn.wp_append_any hgd s x 71 ho A1 106 i0 (.agg #[.int .i64 0,.int .i64 0,.int .i64 0,.int .i64 0,.string ⟨#[]⟩,.int .i64 0]) 6 56 Tryz.underlying71 hi0 hy0 hy1 hy2 rfl (by decide) _ _ _ hs p3 sa l2.length sc hx (Mill.ndCs l2) (Gn.nd_len l2) (Gn.own_src q3) (Gn.nd_one l2) (by unfold maxLen;omega) (by omega) hA ?_
 intro v6 w6 hown6 hg6
 obtain ⟨a7,c7,e7⟩:=Gn.rowLen hown6
 subst e7
 refine h a7 _ c7 w6 ⟨l1++l2, ?_, ?_, ?_⟩ (fun B w0 hz hf=>hf.grown p3 hz hg6) (fun B g R P nv nl fv F ret loops count size hg hs=>hs.grown p3 hg hg6)
 ·rw [List.length_append];omega
 ·intro y hy
  rcases List.mem_append.1 hy with hy | hy
  ·exact p2 y hy
  ·exact q2 y hy
 ·rw [List.length_append,Mill.ndCs,List.flatMap_append];exact hown6
theorem Gn.wp_name {w:World} {ops:Array Oper} {rest:List Oper} {o:Oper} {a:Act} {Q:Exit→Act→World→Prop} (hgd:o.guard=none) (s x:Operand)
  (ho:o.op = .call { callee:=.builtin .append,args := #[s,x],argTypes := #[118,118] }) {B g R P:Nat} {nv:Value} {nl:List (ByteArray × Int)} {fv:Value} {F:List Gn.Sg} {ret loops count size:Int} (hst:Gn.St B g R P w nv nl fv F ret loops count size) (t:ByteArray) (ty:Int) (ht:t.size≤30) (hty:Gn.ty ty) (hP:P≤900000000) {V:World} (hV:w.alloc (.cells #[.string t,.int .i64 ty] 140)=V)
  (hs:a.eval s=nv) (hx:a.eval x = .slice (some ⟨w.heap.size,0,none⟩) 1 1)
  (h:∀ a' c' w',(w'.cell? ⟨g,1,none⟩=some nv∧w'.frozen? ⟨g,1,none⟩=false)→Gn.St B g R (P+1) (w'.setCell ⟨g,1,none⟩ (.slice a' (nl.length+1) c')) (.slice a' (nl.length+1) c') (nl++[(t,ty)]) fv F ret loops count size→Gn.Fw B w (w'.setCell ⟨g,1,none⟩ (.slice a' (nl.length+1) c'))→wpList Tryz.prog ops Q rest (a.put o.dst (.slice a' (nl.length+1) c')) w') :
  wpList Tryz.prog ops Q (o::rest) a V:=by
 obtain ⟨i0,hi0,hy0,hy1,hy2⟩:=info_parts Gn.infoName
 have hb:Below w.heap.size w V:=by rw [← hV];exact (Below.refl _ w).alloc (Nat.le_refl _) _
 have hsz:=hb.size
 have hV2:=hst.below hb
 have hgl:g < w.heap.size:=(Array.getElem?_eq_some_iff.1 hst.box).1
 have hsrc:Gn.Src V (some ⟨w.heap.size,0,none⟩) 1 [.string t,.int .i64 ty]:=fun _=>⟨_,rfl,fun k u hk=>by
  rw [Gn.add_at,← hV,Lib.cell_of_heap (World.alloc_heap_new w _)]
  simpa using hk⟩
 have hnb:=hst.nbd.1
 refine Gn.wp_append_any hgd s x 118 ho g 140 i0 (.agg #[.string ⟨#[]⟩,.int .i64 0]) 2 24 Tryz.underlying118 hi0 hy0 hy1 hy2 rfl (by decide) _ _ _ hs hV2.names (some ⟨w.heap.size,0,none⟩) 1 1 hx [.string t,.int .i64 ty] rfl hsrc (by intro u hu;simp at hu;rcases hu with rfl | rfl <;> rfl) (by unfold maxLen;omega) (by omega) (by omega) ?_
 intro v6 w6 hown6 hg6
 obtain ⟨hs5,hf5⟩:=hst.addName t ty ht hty hb hown6 hg6
 obtain ⟨a7,c7,e7⟩:=Gn.rowLen hown6
 subst e7
 have hbx:w6.heap[g]? = V.heap[g]?:=hg6.block g (by omega) (fun e=>by
  obtain ⟨_,c1,hc1⟩:=Gn.row_type hV2.names e.symm
  rw [hV2.box] at hc1;injection hc1 with hc1;injection hc1 with _ hc1 _;exact absurd hc1 (by decide))
 rw [hV2.box] at hbx
 exact h a7 c7 w6 ⟨by rw [Lib.cell_of_heap hbx];rfl,by simp [World.frozen?,hbx]⟩ hs5 hf5
end Go.Proofs.YtfoimmnlojjfbaaGreatDoor
