import Derived.Test.YtfoimmnlojjfbaaGreatDoorKTkR
import Derived.Test.YtfoimmnlojjfbaaGreatDoorKScanAA
import Derived.Laws.StructEq
import Derived.BigQuiet
import Derived.Deep.QuietTactic
set_option maxRecDepth 100000
set_option maxHeartbeats 4000000
namespace Go.Proofs.YtfoimmnlojjfbaaGreatDoor
open Go.RowKit
theorem Tk.eq_tok (k y n a:Int) (t:ByteArray) (w:World):(Op.equalIn 10000 30 (.agg #[.int .i64 k,.string t,.int .i64 y,.int .i64 n,.int .i64 a]) (.agg #[.int .i64 k,.string t,.int .i64 y,.int .i64 n,.int .i64 a])).run Tryz.prog w = .ok true w:=by
 have u3:=Tryz.underlying3
 have u2:=Tryz.underlying2
 have u9:=Tryz.underlying9
 have hS:Tryz.prog.underlying 30=some (.struct (Tryz.prog.fieldsOf 30)):=by kernel_rfl
 have hp:Tryz.prog.stoodInHeld 30=false:=by kernel_rfl
 rw [show (10000:Nat)=9999+1 from rfl,run_equalIn_agg w 9999 30 _ _ hS hp]
 simp only [Program.fieldsOf,Tryz.underlying30]
 go_simp
theorem Tk.guard_tok : Tryz.prog.eqGuardType Tryz.prog.depth 30=false:=by kernel_rfl
theorem Tk.eq_fault (c a:Int) (w:World):(Op.equalIn 10000 26 (.agg #[.int .i64 c,.int .i64 a]) (.agg #[.int .i64 c,.int .i64 a])).run Tryz.prog w = .ok true w:=by
 have u3:=Tryz.underlying3
 have hS:Tryz.prog.underlying 26=some (.struct (Tryz.prog.fieldsOf 26)):=by kernel_rfl
 have hp:Tryz.prog.stoodInHeld 26=false:=by kernel_rfl
 rw [show (10000:Nat)=9999+1 from rfl,run_equalIn_agg w 9999 26 _ _ hS hp]
 simp only [Program.fieldsOf,Tryz.underlying26]
 go_simp
theorem Tk.guard_fault : Tryz.prog.eqGuardType Tryz.prog.depth 26=false:=by kernel_rfl
theorem Tk.pc_len (F:List UInt8) (a:Nat) (ts:List (Mill.Piece × Nat)):(Tk.pc F a ts).length≤F.length:=by
 unfold Tk.pc;rw [List.length_take,List.length_drop];omega
theorem Tk.part_len (F:List UInt8):∀ (k:Nat) (ts:List (Mill.Piece × Nat)),(Tk.part F k ts).length≤k * (F.length+1)
 | 0,_=>by simp [Tk.part]
 | k+1,[]=>by simp [Tk.part]
 | k+1,(_,a)::ts=>by
  have h1:=Tk.part_len F k ts
  have h2:=Tk.pc_len F a ts
  rw [Tk.part,List.length_append,List.length_cons,Nat.add_mul];omega
theorem Tk.extract_pc (s:ByteArray) (a b:Nat) (ts:List (Mill.Piece × Nat)) (hb:Tk.next s.data.toList ts=b):s.extract a b=Mill.ba (Tk.pc s.data.toList a ts):=by
 apply ByteArray.ext
 apply Array.ext'
 rw [Mill.ba,Tk.pc,hb]
 simp [ByteArray.data_extract,Array.toList_extract,List.extract]
theorem Tk.ba_list (l:List UInt8):(Mill.ba l).data.toList=l:=by simp [Mill.ba]
def Tk.DrawIs : Prop := ∀ (w:World) (v:Value) (n:Nat),Mill.Bytes w w.heap.size v n→(∀ a m c,v = .slice a m c→m≤c)→n≤1048576→Calls Tryz.prog 4 #[v] w fun e w' => ∃ t:ByteArray,e = .returned (.string t)∧t.size≤3000000∧Below w.heap.size w w'
theorem Tk.scan_all (s:ByteArray):∃ ts c k,Mill.scan s=(ts,c,k)∧Tk.Good s.data.toList ts∧ts.length≤12000∧(0 < ts.length→s.size≤12000):=by
 rcases Tk.scan_cases s with ⟨c,k,h⟩ | ⟨ts,h,hg,hs⟩
 ·exact ⟨[],c,k,h,trivial,by simp,by simp⟩
 ·have h1:=Tk.good_len hg
  have h2:s.data.toList.length=s.size:=by rw [Array.length_toList];rfl
  rw [h2] at h1
  exact ⟨ts,0,0,h,hg,by omega,fun _=>hs⟩
theorem Tk.two_cells {w W:World} {c0 c1:Value} {t:TypeId} {B:Nat} (hB:w.heap.size < B) (hb:Below B (w.alloc (.cells #[c0,c1] t)) W):W.cell? ⟨w.heap.size,0,none⟩=some c0∧W.cell? ⟨w.heap.size,1,none⟩=some c1:=by
 refine ⟨?_, ?_⟩
 ·rw [hb.cell (p:=⟨w.heap.size,0,none⟩) hB];simp [go_sem]
 ·rw [hb.cell (p:=⟨w.heap.size,1,none⟩) hB];simp [go_sem]
theorem Tk.tok_cells {w:World} {B n g c:Nat} {ts:List (Mill.Piece × Nat)} (h:w.ownsRow B 30 5 (.slice (some ⟨g,0,none⟩) n c) n (Mill.tokCs ts)) (i:Nat) (hi:i < n) (hl:i < ts.length) :
  w.cell? ⟨g,i * 5,none⟩=some (.int .i64 ts[i].1.kind)∧w.cell? ⟨g,i * 5+1,none⟩=some (.string (Mill.ba ts[i].1.text))∧w.cell? ⟨g,i * 5+2,none⟩=some (.int .i64 ts[i].1.type)∧w.cell? ⟨g,i * 5+3,none⟩=some (.int .i64 ts[i].1.n)∧w.cell? ⟨g,i * 5+4,none⟩=some (.int .i64 (ts[i].2:Int)):=by
 have hA:∀ j,j < 5→w.cell? ⟨g,i * 5+j,none⟩=(Mill.tokC ts[i])[j]?:=fun j hj=>by
  rw [h.cellAt (i * 5+j) (by omega),Mill.tokCs_at ts i hl j hj]
 exact ⟨hA 0 (by omega),hA 1 (by omega),hA 2 (by omega),hA 3 (by omega),hA 4 (by omega)⟩
theorem Tk.law_in (hDS:Tk.DrawIs) (w:World) (av:Option Addr) (m cv:Nat) (hB:Mill.Bytes w w.heap.size (.slice av m cv) m) (hc:m≤cv) (hm:m≤1048576) (hG:Mill.Globs w) :
    Calls Tryz.prog 3 #[.slice av m cv] w fun e w'=>e = .returned (.bool true)∧Below w.heap.size w w':=by
  have HD:Hid (Calls Tryz.prog 4 #[.slice av m cv] w fun e w' => ∃ t:ByteArray,e = .returned (.string t)∧t.size≤3000000∧Below w.heap.size w w'):=hDS w _ m hB (fun a' m' c' h=>by injection h with _ h2 h3;omega) hm
  have HE:Hid (∀ (k y n a:Int) (t:ByteArray) (w:World),(Op.equalIn 10000 30 (.agg #[.int .i64 k,.string t,.int .i64 y,.int .i64 n,.int .i64 a]) (.agg #[.int .i64 k,.string t,.int .i64 y,.int .i64 n,.int .i64 a])).run Tryz.prog w = .ok true w):=Tk.eq_tok
  have hef:=Tk.eq_fault
  have hgf:=Tk.guard_fault
  have HGl:Hid (∀ W,Below w.heap.size w W→Mill.Globs W):=fun W h=>hG.below h
  clear hDS hB hG
  have t0:Tk.Mk:=trivial
  go_enter Tryz.func3,Tryz.ntmps3
  go_wp2_with (first
    | (go_at_call 4
       refine HD.out.mono ?_
       rintro e w1 ⟨s,rfl,hs,hb1⟩
       obtain ⟨ts,c,k,hsc,hgood,hlen,hsh⟩:=Tk.scan_all s
       have HS:Hid (Mill.scan s=(ts,c,k)):=hsc
       have HGd:Hid (Tk.Good s.data.toList ts):=hgood
       have HSh:Hid (0 < ts.length→s.size≤12000):=hsh
       obtain ⟨n,HN⟩:∃ n,Hid (ts.length=n):=⟨_,(rfl:ts.length=_)⟩
       have hn:n≤12000:=(by have:=HN.out;omega)
       clear hsc hgood hlen hsh)
    | (go_at_call 5
       have _t:=t0
       clear t0
       refine (implScan_any s w1 (HGl.out w1 hb1)).mono ?_
       rintro e w2 ⟨vg,rfl,og2,hb2⟩
       rw [HS.out] at og2 ⊢
       simp only [HN.out] at og2
       simp only [Mill.faultV]
       obtain ⟨ga,gc,hv⟩:=Mill.own_len og2
       subst hv
       obtain ⟨w3,hw3⟩:∃ V,w2.alloc (.cells #[.int .i64 c,.int .i64 (k:Int)] 26)=V:=⟨_,rfl⟩
       have hz3:w3.heap.size=w2.heap.size+1:=(by rw [← hw3];simp)
       have og3:w3.ownsRow w1.heap.size 30 5 (.slice ga n gc) n (Mill.tokCs ts):=(by rw [← hw3];exact og2.alloc _)
       have hu3:Below w1.heap.size w1 w3:=(by rw [← hw3];exact hb2.alloc hb2.size _)
       clear og2)
    | (go_at_call 6
       refine (specScan_any s w3).mono ?_
       rintro e w4 ⟨vw,rfl,ow4,hb4⟩
       rw [HS.out] at ow4 ⊢
       simp only [HN.out] at ow4
       simp only [Mill.faultV]
       obtain ⟨wa,wc,hv⟩:=Mill.own_len ow4
       subst hv
       obtain ⟨w5,hw5⟩:∃ V,w4.alloc (.cells #[.int .i64 c,.int .i64 (k:Int)] 26)=V:=⟨_,rfl⟩
       have hz5:w5.heap.size=w4.heap.size+1:=(by rw [← hw5];simp)
       have ow5:w5.ownsRow w3.heap.size 30 5 (.slice wa n wc) n (Mill.tokCs ts):=(by rw [← hw5];exact ow4.alloc _)
       have hu5:Below w3.heap.size w3 w5:=(by rw [← hw5];exact hb4.alloc hb4.size _)
       have og5:w5.ownsRow w1.heap.size 30 5 (.slice ga n gc) n (Mill.tokCs ts):=Mill.own_below og3 hu5
       obtain ⟨f0,f1⟩:=Tk.two_cells (w:=w2) (W:=w5) (B:=w3.heap.size) (c0:=.int .i64 c) (c1:=.int .i64 (k:Int)) (t:=26) (by omega) (by rw [hw3];exact hu5)
       obtain ⟨f2,f3⟩:=Tk.two_cells (w:=w4) (W:=w5) (B:=w5.heap.size) (c0:=.int .i64 c) (c1:=.int .i64 (k:Int)) (t:=26) (by omega) (by rw [hw5];exact Below.refl _ _)
       have hu:Below w.heap.size w w5:=(hb1.trans (hu3.mono hb1.size)).trans (hu5.mono (by have:=hb1.size;have:=hu3.size;omega))
       clear ow4 og3))
  have hz0:w.heap.size≤w5.heap.size:=hu.size
  have hz1:w.heap.size≤w1.heap.size:=hb1.size
  have hz2:w1.heap.size≤w3.heap.size:=hu3.size
  clear hef hgf f0 f1 f2 f3 hb2 hb4 hu3 hu5 hb1
  go_loopw [8,9] (fun o t wr => ∃ i:Nat,t = .int .i64 (i:Int)∧i≤n∧wr.ownsRow w5.heap.size 5 1 o (Tk.part s.data.toList i ts).length (Lib.byteCells (Tk.part s.data.toList i ts))∧Below w5.heap.size w5 wr) (fun _ t _=>n - (intOf t).toNat)
  case atStart =>
    refine ⟨0,rfl,by omega, ?_,Tk.up1 w5 _⟩
    have h:=World.ownsRow_made (base:=w5.heap.size) (e:=5) (size:=1) w5 #[] 0 (Nat.le_refl _) (by decide) rfl
    first
      | exact h
      | (rw [hz5] at h ⊢;exact h)
  case round =>
    obtain ⟨i,rfl,hi,hown,hbw⟩:=hrel
    have hzr:w5.heap.size≤wr.heap.size:=hbw.size
    by_cases hlt:i < n
    · have hil:i < ts.length:=by rw [HN.out];exact hlt
      obtain ⟨g,gc',hv,hg1,hg2⟩:=Mill.own_form og5 (by omega)
      injection hv with hv1 hv2 hv3
      subst hv1 hv3
      obtain ⟨h,wc',hv,hh1,hh2⟩:=Mill.own_form ow5 (by omega)
      injection hv with hv1 hv2 hv3
      subst hv1 hv3
      obtain ⟨a0,a1,a2,a3,a4⟩:=Tk.tok_cells (Mill.own_below og5 hbw) i hlt hil
      obtain ⟨b0,b1,b2,b3,b4⟩:=Tk.tok_cells (Mill.own_below ow5 hbw) i hlt hil
      obtain ⟨q1,q2,q3⟩:=HGd.out.get i hil
      obtain ⟨p,hp⟩:∃ p,ts[i].1=p:=⟨_,rfl⟩
      obtain ⟨a,ha⟩:∃ a,ts[i].2=a:=⟨_,rfl⟩
      obtain ⟨b,hb⟩:∃ b,Tk.next s.data.toList (ts.drop (i+1))=b:=⟨_,rfl⟩
      have hF:s.data.toList.length=s.size:=by rw [Array.length_toList];rfl
      have hs2:s.size≤12000:=HSh.out (by omega)
      rw [ha,hb] at q1
      rw [hb,hF] at q2
      rw [ha,hp] at q3
      rw [hp] at a0 a1 a2 a3 b0 b1 b2 b3
      rw [ha] at a4 b4
      have hex:s.extract a b=Mill.ba (Tk.pc s.data.toList a (ts.drop (i+1))):=Tk.extract_pc s a b _ hb
      have hone:Mill.scan (s.extract a b)=([(p,0)],0,0):=by
        rw [hex];exact Tk.scan_of q3 (Nat.le_trans (Tk.pc_len _ _ _) (by omega))
      have hnx:Tk.part s.data.toList (i+1) ts=Tk.part s.data.toList i ts++(s.extract a b).data.toList++[10]:=by
        rw [Tk.part_next _ _ _ hil,ha,hex,Tk.ba_list,List.append_assoc]
      have hpl:(Tk.part s.data.toList i ts).length≤144012000:=by
        refine Nat.le_trans (Tk.part_len _ _ _) ?_
        rw [hF];exact Nat.le_trans (Nat.mul_le_mul (show i≤12000 by omega) (show s.size+1≤12001 by omega)) (by decide)
      have hxl:(s.extract a b).size≤12000:=by rw [ByteArray.size_extract];omega
      have HOne:Hid (Mill.scan (s.extract a b)=([(p,0)],0,0)):=hone
      have HNx:Hid (Tk.part s.data.toList (i+1) ts=Tk.part s.data.toList i ts++(s.extract a b).data.toList++[10]):=hnx
      have hb4':(i+1 < n∧wr.cell? ⟨h,(i+1) * 5+4,none⟩=some (.int .i64 (b:Int)))∨(¬ i+1 < n∧b=s.size):=by
        rw [Tk.next_is] at hb
        by_cases h:i+1 < n
        · have hil2:i+1 < ts.length:=by rw [HN.out];exact h
          rw [dif_pos hil2] at hb
          refine .inl ⟨h, ?_⟩
          rw [← hb]
          exact (Tk.tok_cells (Mill.own_below ow5 hbw) (i+1) h hil2).2.2.2.2
        · rw [dif_neg (by rw [HN.out];exact h),hF] at hb
          exact .inr ⟨h,hb.symm⟩
      have HPi:Hid (ts[i].1=p):=hp
      clear hex hone hnx hF hp ha hb q3
      have k1:(0:Int)≤(a:Int):=by omega
      have k2:(a:Int)≤(b:Int):=by omega
      have k3:(b:Int)≤(s.size:Int):=by omega
      have het:=HE.out p.kind p.type p.n (a:Int) (Mill.ba p.text)
      have hgt:=Tk.guard_tok
      go_wp2_with fail
      go_quiet (fail)
      obtain ⟨Y,hY⟩:∃ Y,wr.drewN nq=Y:=⟨_,rfl⟩
      have hbY:Below w5.heap.size w5 Y:=by rw [← hY];exact below_drewN nq hbw
      have hownY:Y.ownsRow w5.heap.size 5 1 u8 (Tk.part s.data.toList i ts).length (Lib.byteCells (Tk.part s.data.toList i ts)):=by rw [← hY];exact hown
      have d4:Y.cell? ⟨h,i * 5+4,none⟩=some (.int .i64 (a:Int)):=by rw [← hY];exact b4
      have hd4':(i+1 < n∧Y.cell? ⟨h,(i+1) * 5+4,none⟩=some (.int .i64 (b:Int)))∨(¬ i+1 < n∧b=s.size):=by rw [← hY];exact hb4'
      rw [hY]
      clear hb4' hbw hown a0 a1 a2 a3 a4 b0 b1 b2 b3 b4 het hgt hY
      have hzY:w5.heap.size≤Y.heap.size:=hbY.size
      rcases hd4' with ⟨hx,e4⟩ | ⟨hx,rfl⟩
      · have t1:Tk.Mk:=trivial
        go_wp2_with (go_at_call 5
                     have _t:=t1
                     clear t1
                     refine (implScan_any (s.extract a b) Y (HGl.out Y (hu.trans (hbY.mono hz0)))).mono ?_
                     rintro e w6 ⟨vo,rfl,oo6,hb6⟩
                     rw [HOne.out] at oo6 ⊢
                     simp only [Mill.faultV]
                     obtain ⟨o,oc,hv,ho1,ho2⟩:=Mill.own_form oo6 (by simp)
                     subst hv
                     simp only [List.length_cons,List.length_nil,Nat.zero_add] at oo6 ⊢)
        obtain ⟨w7,hw7⟩:∃ V,w6.alloc (.cells #[.int .i64 0,.int .i64 0] 26)=V:=⟨_,rfl⟩
        have hb7:Below Y.heap.size Y w7:=by rw [← hw7];exact hb6.alloc hb6.size _
        have oo7:w7.ownsRow Y.heap.size 30 5 (.slice (some ⟨o,0,none⟩) 1 oc) 1 (Mill.tokCs [(p,0)]):=by rw [← hw7];exact oo6.alloc _
        obtain ⟨f0,f1⟩:=Tk.two_cells (w:=w6) (W:=w7) (B:=w6.heap.size+1) (c0:=.int .i64 0) (c1:=.int .i64 0) (t:=26) (by omega) (by rw [hw7];exact Below.refl _ _)
        rw [hw7]
        clear hw7 hb6 oo6 ho1 ho2 d4
        have hzw7:Y.heap.size≤w7.heap.size:=hb7.size
        have hb57:Below w5.heap.size w5 w7:=hbY.trans (hb7.mono hzY)
        have hown7:=Mill.own_below hownY hb7
        obtain ⟨c0,c1,c2,c3,c4⟩:=Tk.tok_cells oo7 0 (by omega) (by simp)
        obtain ⟨b0,b1,b2,b3,-⟩:=Tk.tok_cells (Mill.own_below ow5 hb57) i hlt hil
        simp only [List.getElem_cons_zero,Nat.zero_mul,Nat.zero_add,Int.natCast_zero] at c0 c1 c2 c3 c4
        rw [HPi.out] at b0 b1 b2 b3
        have hef:=Tk.eq_fault 0 0
        have hgf:=Tk.guard_fault
        have x0:(p.kind != p.kind)=false:=by simp
        have x2:(p.type != p.type)=false:=by simp
        have x3:(p.n != p.n)=false:=by simp
        go_quiet (fail)
        obtain ⟨Z,hZ⟩:∃ Z,w7.drewN nq=Z:=⟨_,rfl⟩
        have hbZ:Below w5.heap.size w5 Z:=by rw [← hZ];exact below_drewN nq hb57
        have hownZ:Z.ownsRow w5.heap.size 5 1 u8 (Tk.part s.data.toList i ts).length (Lib.byteCells (Tk.part s.data.toList i ts)):=by rw [← hZ];exact hown7
        rw [hZ]
        clear hZ hb57 hown7 hb7 oo7 c0 c1 c2 c3 c4 b0 b1 b2 b3 f0 f1 hef hgf hownY hbY
        have hzZ:w5.heap.size≤Z.heap.size:=hbZ.size
        have t2:Tk.Mk:=trivial
        obtain ⟨i0,hi0,hy0,hy1,hy2⟩:=info_parts Tryz.infoByte
        go_wp2_with (first
          | (at_builtin
             have _t:=t2
             clear t2
             refine Tk.app_str (w2:=w5) rfl _ _ rfl rfl hownZ (s.extract a b) rfl (by omega) hzZ ?_
             intro v8 w8 hown8 hg8
             have hb8:Below w5.heap.size w5 w8:=Below.grown hbZ hg8 hzZ (fun j hj=>(hownZ.lt _ hj).1)
             have hz8:w5.heap.size≤w8.heap.size:=hb8.size
             have hl8:(Tk.part s.data.toList i ts++(s.extract a b).data.toList).length≤200000000:=(by rw [Tk.len_app];omega)
             have m2:Tk.Mk:=trivial)
          | (at_builtin
             have _t:=m2
             clear m2
             refine wpList_append_own _ rfl _ _ 22 rfl w5.heap.size 5 i0 (.int .u8 0) 1 1 Tryz.underlying22 hi0 hy0 hy1 hy2 rfl (by decide) _ _ _ rfl (hown8.alloc _) ⟨w8.heap.size,0,none⟩ 1 1 [.int .u8 10] rfl rfl (cell_one_new _ _ _) (fun x hx=>by simp at hx;subst hx;rfl) (by unfold maxLen;omega) (by omega) (by simp;omega) ?_
             intro v9 w9 hown9 hg9 hnil9
             have hb9:Below w5.heap.size w5 w9:=Below.grown (hb8.alloc hz8 _) hg9 (by simp;omega) (fun j hj=>(hown8.lt _ hj).1)
             have m3:Tk.Mk:=trivial))
        have _t:=m3
        go_roundw
        case rel =>
          refine ⟨i+1,by go_num,by omega, ?_,hb9⟩
          rw [HNx.out,Mill.byteCells_snoc,List.length_append]
          exact hown9
        case measure=>simp [intOf];omega
      · have t1:Tk.Mk:=trivial
        go_wp2_with (go_at_call 5
                     have _t:=t1
                     clear t1
                     refine (implScan_any (s.extract a s.size) Y (HGl.out Y (hu.trans (hbY.mono hz0)))).mono ?_
                     rintro e w6 ⟨vo,rfl,oo6,hb6⟩
                     rw [HOne.out] at oo6 ⊢
                     simp only [Mill.faultV]
                     obtain ⟨o,oc,hv,ho1,ho2⟩:=Mill.own_form oo6 (by simp)
                     subst hv
                     simp only [List.length_cons,List.length_nil,Nat.zero_add] at oo6 ⊢)
        obtain ⟨w7,hw7⟩:∃ V,w6.alloc (.cells #[.int .i64 0,.int .i64 0] 26)=V:=⟨_,rfl⟩
        have hb7:Below Y.heap.size Y w7:=by rw [← hw7];exact hb6.alloc hb6.size _
        have oo7:w7.ownsRow Y.heap.size 30 5 (.slice (some ⟨o,0,none⟩) 1 oc) 1 (Mill.tokCs [(p,0)]):=by rw [← hw7];exact oo6.alloc _
        obtain ⟨f0,f1⟩:=Tk.two_cells (w:=w6) (W:=w7) (B:=w6.heap.size+1) (c0:=.int .i64 0) (c1:=.int .i64 0) (t:=26) (by omega) (by rw [hw7];exact Below.refl _ _)
        rw [hw7]
        clear hw7 hb6 oo6 ho1 ho2 d4
        have hzw7:Y.heap.size≤w7.heap.size:=hb7.size
        have hb57:Below w5.heap.size w5 w7:=hbY.trans (hb7.mono hzY)
        have hown7:=Mill.own_below hownY hb7
        obtain ⟨c0,c1,c2,c3,c4⟩:=Tk.tok_cells oo7 0 (by omega) (by simp)
        obtain ⟨b0,b1,b2,b3,-⟩:=Tk.tok_cells (Mill.own_below ow5 hb57) i hlt hil
        simp only [List.getElem_cons_zero,Nat.zero_mul,Nat.zero_add,Int.natCast_zero] at c0 c1 c2 c3 c4
        rw [HPi.out] at b0 b1 b2 b3
        have hef:=Tk.eq_fault 0 0
        have hgf:=Tk.guard_fault
        have x0:(p.kind != p.kind)=false:=by simp
        have x2:(p.type != p.type)=false:=by simp
        have x3:(p.n != p.n)=false:=by simp
        go_quiet (fail)
        obtain ⟨Z,hZ⟩:∃ Z,w7.drewN nq=Z:=⟨_,rfl⟩
        have hbZ:Below w5.heap.size w5 Z:=by rw [← hZ];exact below_drewN nq hb57
        have hownZ:Z.ownsRow w5.heap.size 5 1 u8 (Tk.part s.data.toList i ts).length (Lib.byteCells (Tk.part s.data.toList i ts)):=by rw [← hZ];exact hown7
        rw [hZ]
        clear hZ hb57 hown7 hb7 oo7 c0 c1 c2 c3 c4 b0 b1 b2 b3 f0 f1 hef hgf hownY hbY
        have hzZ:w5.heap.size≤Z.heap.size:=hbZ.size
        have t2:Tk.Mk:=trivial
        obtain ⟨i0,hi0,hy0,hy1,hy2⟩:=info_parts Tryz.infoByte
        go_wp2_with (first
          | (at_builtin
             have _t:=t2
             clear t2
             refine Tk.app_str (w2:=w5) rfl _ _ rfl rfl hownZ (s.extract a s.size) rfl (by omega) hzZ ?_
             intro v8 w8 hown8 hg8
             have hb8:Below w5.heap.size w5 w8:=Below.grown hbZ hg8 hzZ (fun j hj=>(hownZ.lt _ hj).1)
             have hz8:w5.heap.size≤w8.heap.size:=hb8.size
             have hl8:(Tk.part s.data.toList i ts++(s.extract a s.size).data.toList).length≤200000000:=(by rw [Tk.len_app];omega)
             have m2:Tk.Mk:=trivial)
          | (at_builtin
             have _t:=m2
             clear m2
             refine wpList_append_own _ rfl _ _ 22 rfl w5.heap.size 5 i0 (.int .u8 0) 1 1 Tryz.underlying22 hi0 hy0 hy1 hy2 rfl (by decide) _ _ _ rfl (hown8.alloc _) ⟨w8.heap.size,0,none⟩ 1 1 [.int .u8 10] rfl rfl (cell_one_new _ _ _) (fun x hx=>by simp at hx;subst hx;rfl) (by unfold maxLen;omega) (by omega) (by simp;omega) ?_
             intro v9 w9 hown9 hg9 hnil9
             have hb9:Below w5.heap.size w5 w9:=Below.grown (hb8.alloc hz8 _) hg9 (by simp;omega) (fun j hj=>(hown8.lt _ hj).1)
             have m3:Tk.Mk:=trivial))
        have _t:=m3
        go_roundw
        case rel =>
          refine ⟨i+1,by go_num,by omega, ?_,hb9⟩
          rw [HNx.out,Mill.byteCells_snoc,List.length_append]
          exact hown9
        case measure=>simp [intOf];omega
    · have hin:i=n:=by omega
      subst hin
      clear hlt hi
      have hall:=Tk.part_all s.data.toList ts
      rw [HN.out] at hall
      obtain ⟨ts2,hsc2,hmap⟩:=Tk.again HGd.out 0
      obtain ⟨A,hA⟩:∃ A,Tk.all s.data.toList ts=A:=⟨_,rfl⟩
      rw [hall,hA] at hown
      rw [hA] at hsc2
      obtain ⟨ua,uc,hv⟩:=Mill.own_len hown
      subst hv
      have hl2:ts2.length=i:=by
        have:=congrArg List.length hmap
        rw [List.length_map,List.length_map,HN.out] at this
        exact this
      have HN2:Hid (ts2.length=i):=hl2
      have HM:Hid (∀ j (h1:j < ts2.length) (h2:j < ts.length),ts2[j].1=ts[j].1):=fun j h1 h2=>by
        have h3:(ts2.map Prod.fst)[j]? = (ts.map Prod.fst)[j]?:=by rw [hmap]
        rw [List.getElem?_map,List.getElem?_map,List.getElem?_eq_getElem h1,List.getElem?_eq_getElem h2] at h3
        simpa using h3
      clear hall hA hmap hl2
      by_cases hlA:12000 < A.length
      · have hlA2:(12000:Int) < (A.length:Int):=by omega
        go_wp2_with fail
        go_ret
        exact ⟨rfl,hu.trans (hbw.mono hz0)⟩
      · have hlA2:¬ (12000:Int) < (A.length:Int):=by omega
        have HSc:Hid (Mill.scan ⟨A.toArray⟩=(ts2,0,0)):=Tk.scan_of hsc2 (by omega)
        have hcv:=Mill.conv_own (P:=Tryz.prog) (src:=22) (dst:=9) Tryz.underlying22 Tryz.underlying5 Tryz.underlying9 hown
        clear hsc2
        have hef:=Tk.eq_fault 0 0
        have hgf:=Tk.guard_fault
        have t1:Tk.Mk:=trivial
        go_wp2_with (go_at_call 5
                     have _t:=t1
                     clear t1 hcv
                     refine (implScan_any ⟨A.toArray⟩ wr (HGl.out wr (hu.trans (hbw.mono hz0)))).mono ?_
                     rintro e w6 ⟨vo,rfl,oo6,hb6⟩
                     rw [HSc.out] at oo6 ⊢
                     simp only [HN2.out] at oo6
                     simp only [Mill.faultV]
                     obtain ⟨oa,oc,hv⟩:=Mill.own_len oo6
                     subst hv)
        obtain ⟨w7,hw7⟩:∃ V,w6.alloc (.cells #[.int .i64 0,.int .i64 0] 26)=V:=⟨_,rfl⟩
        have hb7:Below wr.heap.size wr w7:=by rw [← hw7];exact hb6.alloc hb6.size _
        have oo7:w7.ownsRow wr.heap.size 30 5 (.slice oa i oc) i (Mill.tokCs ts2):=by rw [← hw7];exact oo6.alloc _
        have hb57:Below w5.heap.size w5 w7:=hbw.trans (hb7.mono hzr)
        have ow7:=Mill.own_below ow5 hb57
        have hz7:w5.heap.size≤w7.heap.size:=hb57.size
        rw [hw7]
        clear hw7 hb6 oo6 hb7 hef hgf hown hbw
        go_loopw [16] (fun t wq => ∃ j:Nat,t = .int .i64 (j:Int)∧j≤i∧Below w7.heap.size w7 wq) (fun t _=>i - (intOf t).toNat)
        case atStart=>exact ⟨0,rfl,by omega,Below.refl _ _⟩
        case round =>
          obtain ⟨j,rfl,hj,hbq⟩:=hrel
          by_cases hlt:j < i
          · have h1:j < ts2.length:=by rw [HN2.out];exact hlt
            have h2:j < ts.length:=by rw [HN.out];exact hlt
            obtain ⟨o,oc',hv,ho1,ho2⟩:=Mill.own_form oo7 (by omega)
            injection hv with hv1 hv2 hv3
            subst hv1 hv3
            obtain ⟨h,wc',hv,hh1,hh2⟩:=Mill.own_form ow7 (by omega)
            injection hv with hv1 hv2 hv3
            subst hv1 hv3
            obtain ⟨a0,a1,-,a3,-⟩:=Tk.tok_cells (Mill.own_below oo7 hbq) j hlt h1
            obtain ⟨b0,b1,-,b3,-⟩:=Tk.tok_cells (Mill.own_below ow7 hbq) j hlt h2
            rw [HM.out j h1 h2] at a0 a1 a3
            generalize ts[j].1=p at a0 a1 a3 b0 b1 b3
            clear h1 h2
            have x0:(p.kind != p.kind)=false:=by simp
            have x3:(p.n != p.n)=false:=by simp
            go_wp2_with fail
            go_quiet (fail)
            go_wp2_with fail
            go_roundw
            case rel=>exact ⟨j+1,by go_num,by omega,below_drewN nq hbq⟩
            case measure=>simp [intOf];omega
          · go_wp2_with fail
            go_ret
            exact ⟨rfl,(hu.trans (hb57.mono hz0)).trans (hbq.mono (by omega))⟩
end Go.Proofs.YtfoimmnlojjfbaaGreatDoor
