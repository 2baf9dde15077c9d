import Derived.Test.YtfoimmnlojjfbaaGreatDoorKTkP
import Derived.Test.YtfoimmnlojjfbaaGreatDoorKTkK
import Derived.Test.YtfoimmnlojjfbaaGreatDoorKTkA
import Derived.Test.YtfoimmnlojjfbaaGreatDoorKScanG
import Derived.Lib.AppendStr
set_option maxRecDepth 100000
set_option maxHeartbeats 4000000
namespace Go.Proofs.YtfoimmnlojjfbaaGreatDoor
open Go.RowKit
theorem Tk.Good.lt {F:List UInt8} {ts:List (Mill.Piece × Nat)} (h:Tk.Good F ts) (k:Nat) (hk:k < ts.length):ts[k].2 < Tk.next F (ts.drop (k+1)):=by
 obtain ⟨h1,_,h3⟩:=h.get k hk
 rcases Nat.lt_or_ge ts[k].2 (Tk.next F (ts.drop (k+1))) with h4 | h4
 ·exact h4
 ·exfalso
  have e:Tk.pc F ts[k].2 (ts.drop (k+1))=[]:=by
   unfold Tk.pc;rw [show Tk.next F (ts.drop (k+1)) - ts[k].2=0 by omega,List.take_zero]
  rw [e] at h3
  cases h3
theorem Tk.good_tail {F:List UInt8} {t:Mill.Piece × Nat} {ts:List (Mill.Piece × Nat)} (h:Tk.Good F (t::ts)):Tk.Good F ts:=by
 obtain ⟨p,a⟩:=t
 exact h.2.2.2.2
theorem Tk.good_len {F:List UInt8}:∀ {ts:List (Mill.Piece × Nat)},Tk.Good F ts→Tk.next F ts+ts.length≤F.length
 | [],_=>by simp [Tk.next]
 | (p,a)::ts,h=>by
  have h1:=Tk.good_len (Tk.good_tail h)
  have h2:a < Tk.next F ts:=h.lt 0 (by simp)
  have h3:Tk.next F ((p,a)::ts)=a:=rfl
  rw [h3,List.length_cons];omega
theorem Tk.next_at (F:List UInt8) (ts:List (Mill.Piece × Nat)) (k:Nat) (h:k < ts.length):Tk.next F (ts.drop k)=ts[k].2:=by
 rw [List.drop_eq_getElem_cons h];rfl
theorem Tk.next_end (F:List UInt8) (ts:List (Mill.Piece × Nat)):Tk.next F (ts.drop ts.length)=F.length:=by
 rw [List.drop_length];rfl
def Tk.zl : Value→Nat
 | .string b=>b.size
 | _=>0
theorem Tk.fw_grown {B:Nat} {V w w':World} (h:Gn.Fw B V w) {A e sz n:Nat} {v:Value} {xs:List Value} (ho:w.ownsRow A e sz v n xs) (hA:V.heap.size≤A) (hg:w.grownBy w' v.ownBlock):Gn.Fw B V w' :=
 ⟨hg.os.trans h.os,hg.tape.trans h.tape,hg.output.trans h.output,Nat.le_trans h.size hg.size,fun k hk hp=>(hg.block k (Nat.lt_of_lt_of_le hk h.size) (fun e=>by have:=(Gn.row_type ho e.symm).1.1;omega)).trans (h.keep k hk hp)⟩
theorem Tk.dw_grown {R P:Nat} {V w w':World} (h:Gn.Dw R P V w) {A e sz n:Nat} {v:Value} {xs:List Value} (ho:w.ownsRow A e sz v n xs) (hA:V.heap.size≤A) (hR:R < A) (hg:w.grownBy w' v.ownBlock):Gn.Dw R P V w':=by
 have hl:=h.lt
 obtain ⟨⟨p,hp,hr⟩,hf⟩:=h
 exact ⟨⟨p,hp,Gn.Rd_keep hr (fun k hk=>hg.block k (by omega) (fun e=>by have:=(Gn.row_type ho e.symm).1.1;omega))⟩,Tk.fw_grown hf ho hA hg⟩
theorem Tk.str_cells (acc:List UInt8) (z:ByteArray):Lib.byteCells acc++Lib.strCells z=Lib.byteCells (acc++z.data.toList):=by
 simp [Lib.byteCells,Lib.strCells]
theorem Tk.par_size (z:ByteArray):((⟨#[40]⟩:ByteArray)++z++(⟨#[41]⟩:ByteArray)).size=z.size+2:=by
 rw [ByteArray.size_append,ByteArray.size_append]
 have h1:(⟨#[40]⟩:ByteArray).size=1:=rfl
 have h2:(⟨#[41]⟩:ByteArray).size=1:=rfl
 omega
theorem Tk.x0 (x:Int):(x=0∧Tk.Mk)∨(¬ x=0∧Tk.Mk):=by
 simp only [Tk.Mk,and_true];omega
theorem Tk.len_app (acc:List UInt8) (z:ByteArray):(acc++z.data.toList).length=acc.length+z.size:=by
 rw [List.length_append,Array.length_toList];rfl
def Tk.Ls (R P:Nat) (w0 w2:World) (F:List UInt8) (ts:List (Mill.Piece × Nat)) (o:Value) (i:Nat) (wr:World):Prop :=
 ∃ acc:List UInt8,acc.length≤Tk.next F (ts.drop i)+14 * i∧wr.ownsRow w2.heap.size 5 1 o acc.length (Lib.byteCells acc)∧Gn.Dw R (P+2 * i) w0 wr∧Gn.Fw R w2 wr
theorem Tk.app_str {w2 wr:World} {acc:List UInt8} {ops:Array Oper} {rest:List Oper} {o:Oper} {a:Act} {Q:Exit→Act→World→Prop} (hgd:o.guard=none) (sl x:Operand)
  (ho:o.op = .call { callee:=.builtin .append,args := #[sl,x],argTypes := #[22,9] }) {v:Value} (hs:a.eval sl=v) (hown:wr.ownsRow w2.heap.size 5 1 v acc.length (Lib.byteCells acc)) (z:ByteArray) (hx:a.eval x = .string z)
  (hl:acc.length+z.size≤100000000000) (hb:w2.heap.size≤wr.heap.size)
  (h:∀ v' w',w'.ownsRow w2.heap.size 5 1 v' (acc++z.data.toList).length (Lib.byteCells (acc++z.data.toList))→wr.grownBy w' v.ownBlock→wpList Tryz.prog ops Q rest (a.put o.dst v') w'):wpList Tryz.prog ops Q (o::rest) a wr:=by
 obtain ⟨i0,hi,hz0,hz1,hz2⟩:=info_parts Tryz.infoByte
 refine Lib.wpList_append_own_string wr hgd sl x 22 9 ho w2.heap.size 5 i0 Tryz.underlying22 Tryz.underlying9 hi hz0 hz1 hz2 v _ _ hs hown z hx (by unfold maxLen;omega) (by omega) hb ?_
 intro v' w' h1 h2 _
 refine h v' w' ?_ h2
 rw [← Tk.str_cells,Tk.len_app];exact h1
theorem Tk.loose_bad {R P:Nat} {w w0:World} (s:ByteArray) (hD:Gn.Dw R P w0 w) (hs:s.size≤12000) {ts:List (Mill.Piece × Nat)} {c:Int} {k:Nat} (hsc:Mill.scan s=(ts,c,k)) (hc:¬ c=0):Calls Tryz.prog 44 #[.pointer (some ⟨R,0,none⟩),.string s] w fun e w' => ∃ t:ByteArray,e = .returned (.string t)∧t.size≤1000000∧Gn.Dw R (P+100000) w0 w'∧Gn.Fw R w w':=by
  have HS:Hid (Mill.scan s=(ts,c,k)):=hsc
  clear hsc
  go_enter Tryz.func44,Tryz.ntmps44
  go_wp2_with (go_at_call 6
               refine (specScan_any s w).mono ?_
               rintro e w1 ⟨v,rfl,ow1,hb1⟩
               rw [HS.out]
               simp only [Mill.faultV])
  go_ret
  exact ⟨s,rfl,by omega,(hD.below (hb1.alloc hb1.size _)).mono (by omega),Gn.Fw.of_below (hb1.alloc hb1.size _)⟩
theorem Tk.loose_good {R P:Nat} {w w0:World} (s:ByteArray) (hD:Gn.Dw R P w0 w) (hP:P≤700000000) (hs:s.size≤12000) {ts:List (Mill.Piece × Nat)} {k:Nat} (hsc:Mill.scan s=(ts,0,k)) (hg:Tk.Good s.data.toList ts):Calls Tryz.prog 44 #[.pointer (some ⟨R,0,none⟩),.string s] w fun e w' => ∃ t:ByteArray,e = .returned (.string t)∧t.size≤1000000∧Gn.Dw R (P+100000) w0 w'∧Gn.Fw R w w':=by
  have HS:Hid (Mill.scan s=(ts,0,k)):=hsc
  have HG:Hid (Tk.Good s.data.toList ts):=hg
  have hF:s.data.toList.length=s.size:=by rw [Array.length_toList];rfl
  have hlen:=Tk.good_len hg
  rw [hF] at hlen
  obtain ⟨n,HN⟩:∃ n,Hid (ts.length=n):=⟨_,(rfl:ts.length=_)⟩
  have hn:n≤s.size:=by have:=HN.out;omega
  have HF:Hid (s.data.toList.length=s.size):=hF
  clear hsc hg hlen hF
  have hR:R < w.heap.size:=hD.lt
  have hw0:w0.heap.size≤w.heap.size:=hD.2.size
  go_enter Tryz.func44,Tryz.ntmps44
  go_wp2_with (go_at_call 6
               refine (specScan_any s w).mono ?_
               rintro e w1 ⟨v,rfl,ow1,hb1⟩
               rw [HS.out] at ow1 ⊢
               simp only [HN.out] at ow1
               simp only [Mill.faultV]
               obtain ⟨va,vc,hv⟩:=Mill.own_len ow1
               subst hv)
  have hz1:w.heap.size≤w1.heap.size:=hb1.size
  obtain ⟨w2,hw2⟩:∃ V,w1.alloc (.cells #[.int .i64 0,.int .i64 (k:Int)] 26)=V:=⟨_,rfl⟩
  have hz2:w2.heap.size=w1.heap.size+1:=by rw [← hw2];simp
  have ow2:w2.ownsRow w.heap.size 30 5 (.slice va n vc) n (Mill.tokCs ts):=by rw [← hw2];exact ow1.alloc _
  have hb2:Below w.heap.size w w2:=by rw [← hw2];exact hb1.alloc hb1.size _
  have hD2:Gn.Dw R P w0 w2:=hD.below hb2
  clear ow1 hb1
  rw [hw2]
  go_loopw [7,8] (fun o t wr => ∃ i:Nat,t = .int .i64 (i:Int)∧i≤n∧Tk.Ls R P w0 w2 s.data.toList ts o i wr) (fun _ t _=>n - (intOf t).toNat)
  case atStart =>
    refine ⟨0,rfl,by omega,[],by simp, ?_,(hD2.below (Tk.up1 w2 _)).mono (by omega),Gn.Fw.of_below (Tk.up1 w2 _)⟩
    first
      | exact World.ownsRow_made (base:=w2.heap.size) (e:=5) (size:=1) w2 #[] 0 (Nat.le_refl _) (by decide) rfl
      | (have h:=World.ownsRow_made (base:=w2.heap.size) (e:=5) (size:=1) w2 #[] 0 (Nat.le_refl _) (by decide) rfl
         rw [hz2] at h ⊢
         exact h)
  case round =>
    obtain ⟨i,rfl,hi,acc,hacc,hown,hDr,hFr⟩:=hrel
    have hzr:w2.heap.size≤wr.heap.size:=hFr.size
    by_cases hlt:i < n
    · have hil:i < ts.length:=by rw [HN.out];exact hlt
      obtain ⟨g,vc',hv,hg1,hg2⟩:=Mill.own_form ow2 (by omega)
      injection hv with hv1 hv2 hv3
      subst hv1 hv3
      have owr:=hFr.row ow2 (by decide)
      have hA:∀ j,j < 5→wr.cell? ⟨g,i * 5+j,none⟩=(Mill.tokC ts[i])[j]?:=fun j hj=>by
        rw [owr.cellAt (i * 5+j) (by omega),Mill.tokCs_at ts i hil j hj]
      obtain ⟨h1,h2,_⟩:=HG.out.get i hil
      obtain ⟨a,ha⟩:∃ a,ts[i].2=a:=⟨_,rfl⟩
      obtain ⟨b,hb⟩:∃ b,Tk.next s.data.toList (ts.drop (i+1))=b:=⟨_,rfl⟩
      rw [ha,hb] at h1
      rw [hb,HF.out] at h2
      have hacc2:acc.length≤a+14 * i:=by rw [Tk.next_at _ _ _ hil,ha] at hacc;exact hacc
      have a0:=hA 0 (by omega)
      have a4:=hA 4 (by omega)
      obtain ⟨kd,hkd⟩:∃ kd,ts[i].1.kind=kd:=⟨_,rfl⟩
      simp only [Mill.tokC,List.getElem?_cons_zero,List.getElem?_cons_succ,Nat.add_zero,ha,hkd] at a0 a4
      have HB:Hid (Tk.next s.data.toList (ts.drop (i+1))=b):=hb
      have hb4:(i+1 < n∧wr.cell? ⟨g,(i+1) * 5+4,none⟩=some (.int .i64 (b:Int)))∨(¬ i+1 < n∧b=s.size):=by
        rw [Tk.next_is] at hb
        by_cases h:i+1 < n
        · have hil2:i+1 < ts.length:=by rw [HN.out];exact h
          rw [dif_pos hil2] at hb
          refine .inl ⟨h, ?_⟩
          rw [owr.cellAt ((i+1) * 5+4) (by omega),Mill.tokCs_at ts (i+1) hil2 4 (by omega),← hb]
          rfl
        · rw [dif_neg (by rw [HN.out];exact h),HF.out] at hb
          exact .inr ⟨h,hb.symm⟩
      clear hA ha hb hkd hacc
      have hA0:w0.heap.size≤w2.heap.size:=by omega
      have hA1:R < w2.heap.size:=by omega
      have k1:(0:Int)≤(a:Int):=by omega
      have k2:(a:Int)≤(b:Int):=by omega
      have k3:(b:Int)≤(s.size:Int):=by omega
      rcases hb4 with ⟨hx,b4⟩ | ⟨hx,rfl⟩
      · go_wp2_with fail
        go_loopw [10] (fun t W => ∃ z:ByteArray,t = .string z∧z.size≤b - a∧W=wr) (fun t _=>Tk.zl t)
        case atStart=>exact ⟨s.extract a b,rfl,by rw [ByteArray.size_extract];omega,rfl⟩
        case round =>
          obtain ⟨z,rfl,hz,hW⟩:=hrel
          subst hW
          by_cases hz0:z.size=0
          · have hzd:decide (0 < (z.size:Int))=false:=by rw [hz0];decide
            cases hk3:(kd == 3) with
            | true =>
              have hz40:((⟨#[40]⟩:ByteArray)++z++(⟨#[41]⟩:ByteArray)).size=z.size+2:=Tk.par_size z
              have t1:Tk.Mk:=trivial
              go_wp2_with (first
                | (go_at_call 8
                   have _t:=t1
                   clear t1
                   refine (Gn.pickW 4 hDr (by omega) (by decide) (by decide)).mono ?_
                   rintro e w4 ⟨x,rfl,hx,hd4,hf4⟩
                   have hF4:=hFr.trans hf4
                   have hown4:=hf4.row hown (by decide)
                   have hz4:w2.heap.size≤w4.heap.size:=hF4.size
                   rcases Tk.x0 x with ⟨rfl,m1⟩ | ⟨hx0,m2⟩)
                | (at_builtin
                   have _t:=m1
                   clear m1
                   refine Tk.app_str (w2:=w2) rfl _ _ rfl rfl hown4 ((⟨#[40]⟩:ByteArray)++z++(⟨#[41]⟩:ByteArray)) rfl (by omega) hz4 ?_
                   intro v5 w5 hown5 hg5
                   have hl5:(acc++(((⟨#[40]⟩:ByteArray)++z++(⟨#[41]⟩:ByteArray))).data.toList).length≤b+14 * i+2:=(by rw [Tk.len_app];omega)
                   generalize acc++(((⟨#[40]⟩:ByteArray)++z++(⟨#[41]⟩:ByteArray))).data.toList=acc5 at hown5 hl5
                   have hd5:=Tk.dw_grown (P:=P+2 * i+1) (hd4.mono (by omega)) hown4 hA0 hA1 hg5
                   have hF5:=Tk.fw_grown hF4 hown4 (Nat.le_refl _) hg5
                   have m5:Tk.Mk:=trivial)
                | (at_builtin
                   have _t:=m2
                   clear m2
                   refine Tk.app_str (w2:=w2) rfl _ _ rfl rfl hown4 z rfl (by omega) hz4 ?_
                   intro v5 w5 hown5 hg5
                   have hl5:(acc++(z).data.toList).length≤b+14 * i+2:=(by rw [Tk.len_app];omega)
                   generalize acc++(z).data.toList=acc5 at hown5 hl5
                   have hd5:=Tk.dw_grown (P:=P+2 * i+1) (hd4.mono (by omega)) hown4 hA0 hA1 hg5
                   have hF5:=Tk.fw_grown hF4 hown4 (Nat.le_refl _) hg5
                   have m5:Tk.Mk:=trivial)
                | (go_at_call 8
                   have _t:=m5
                   clear m5
                   refine (Gn.pickWN 5 (hd5.below (Tk.up1 w5 _)) (by omega) (by decide) (by decide)).mono ?_
                   rintro e w6 ⟨y,rfl,hy,hd6,hf6⟩
                   obtain ⟨u,hu,hus⟩:=Tk.tab_str (M:=12) (hf6.blk (World.alloc_heap_new w5 _) (by decide)) (by decide) y (by have h9:y < 5:=(by omega);simpa using h9)
                   have hF6:=(hF5.trans (Gn.Fw.of_below (Tk.up1 w5 _))).trans hf6
                   have hown6:=hf6.row (hown5.alloc _) (by decide)
                   have hz6:w2.heap.size≤w6.heap.size:=hF6.size
                   have m6:Tk.Mk:=trivial)
                | (at_builtin
                   have _t:=m6
                   clear m6
                   refine Tk.app_str (w2:=w2) rfl _ _ rfl rfl hown6 u rfl (by omega) hz6 ?_
                   intro v7 w7 hown7 hg7
                   have hl7:(acc5++u.data.toList).length≤b+14 * (i+1):=(by rw [Tk.len_app];omega)
                   have hd7:=Tk.dw_grown hd6 hown6 hA0 hA1 hg7
                   have hF7:=Tk.fw_grown hF6 hown6 (Nat.le_refl _) hg7
                   have m7:Tk.Mk:=trivial))
              all_goals
                have _t:=m7
                go_roundw
                case rel=>exact ⟨i+1,by go_num,by omega,_,by rw [HB.out];exact hl7,hown7,hd7.mono (by omega),hF7⟩
                case measure=>simp [intOf];omega
            | false =>
              cases hk4:(kd == 4) with
              | true =>
                have hz40:((⟨#[40]⟩:ByteArray)++z++(⟨#[41]⟩:ByteArray)).size=z.size+2:=Tk.par_size z
                have t1:Tk.Mk:=trivial
                go_wp2_with (first
                  | (go_at_call 8
                     have _t:=t1
                     clear t1
                     refine (Gn.pickW 4 hDr (by omega) (by decide) (by decide)).mono ?_
                     rintro e w4 ⟨x,rfl,hx,hd4,hf4⟩
                     have hF4:=hFr.trans hf4
                     have hown4:=hf4.row hown (by decide)
                     have hz4:w2.heap.size≤w4.heap.size:=hF4.size
                     rcases Tk.x0 x with ⟨rfl,m1⟩ | ⟨hx0,m2⟩)
                  | (at_builtin
                     have _t:=m1
                     clear m1
                     refine Tk.app_str (w2:=w2) rfl _ _ rfl rfl hown4 ((⟨#[40]⟩:ByteArray)++z++(⟨#[41]⟩:ByteArray)) rfl (by omega) hz4 ?_
                     intro v5 w5 hown5 hg5
                     have hl5:(acc++(((⟨#[40]⟩:ByteArray)++z++(⟨#[41]⟩:ByteArray))).data.toList).length≤b+14 * i+2:=(by rw [Tk.len_app];omega)
                     generalize acc++(((⟨#[40]⟩:ByteArray)++z++(⟨#[41]⟩:ByteArray))).data.toList=acc5 at hown5 hl5
                     have hd5:=Tk.dw_grown (P:=P+2 * i+1) (hd4.mono (by omega)) hown4 hA0 hA1 hg5
                     have hF5:=Tk.fw_grown hF4 hown4 (Nat.le_refl _) hg5
                     have m5:Tk.Mk:=trivial)
                  | (at_builtin
                     have _t:=m2
                     clear m2
                     refine Tk.app_str (w2:=w2) rfl _ _ rfl rfl hown4 z rfl (by omega) hz4 ?_
                     intro v5 w5 hown5 hg5
                     have hl5:(acc++(z).data.toList).length≤b+14 * i+2:=(by rw [Tk.len_app];omega)
                     generalize acc++(z).data.toList=acc5 at hown5 hl5
                     have hd5:=Tk.dw_grown (P:=P+2 * i+1) (hd4.mono (by omega)) hown4 hA0 hA1 hg5
                     have hF5:=Tk.fw_grown hF4 hown4 (Nat.le_refl _) hg5
                     have m5:Tk.Mk:=trivial)
                  | (go_at_call 8
                     have _t:=m5
                     clear m5
                     refine (Gn.pickWN 5 (hd5.below (Tk.up1 w5 _)) (by omega) (by decide) (by decide)).mono ?_
                     rintro e w6 ⟨y,rfl,hy,hd6,hf6⟩
                     obtain ⟨u,hu,hus⟩:=Tk.tab_str (M:=12) (hf6.blk (World.alloc_heap_new w5 _) (by decide)) (by decide) y (by have h9:y < 5:=(by omega);simpa using h9)
                     have hF6:=(hF5.trans (Gn.Fw.of_below (Tk.up1 w5 _))).trans hf6
                     have hown6:=hf6.row (hown5.alloc _) (by decide)
                     have hz6:w2.heap.size≤w6.heap.size:=hF6.size
                     have m6:Tk.Mk:=trivial)
                  | (at_builtin
                     have _t:=m6
                     clear m6
                     refine Tk.app_str (w2:=w2) rfl _ _ rfl rfl hown6 u rfl (by omega) hz6 ?_
                     intro v7 w7 hown7 hg7
                     have hl7:(acc5++u.data.toList).length≤b+14 * (i+1):=(by rw [Tk.len_app];omega)
                     have hd7:=Tk.dw_grown hd6 hown6 hA0 hA1 hg7
                     have hF7:=Tk.fw_grown hF6 hown6 (Nat.le_refl _) hg7
                     have m7:Tk.Mk:=trivial))
                all_goals
                  have _t:=m7
                  go_roundw
                  case rel=>exact ⟨i+1,by go_num,by omega,_,by rw [HB.out];exact hl7,hown7,hd7.mono (by omega),hF7⟩
                  case measure=>simp [intOf];omega
              | false =>
                have hz40:((⟨#[40]⟩:ByteArray)++z++(⟨#[41]⟩:ByteArray)).size=z.size+2:=Tk.par_size z
                have t1:Tk.Mk:=trivial
                go_wp2_with (first
                  | (at_builtin
                     have _t:=t1
                     clear t1
                     refine Tk.app_str (w2:=w2) rfl _ _ rfl rfl hown z rfl (by omega) hzr ?_
                     intro v5 w5 hown5 hg5
                     have hl5:(acc++(z).data.toList).length≤b+14 * i+2:=(by rw [Tk.len_app];omega)
                     generalize acc++(z).data.toList=acc5 at hown5 hl5
                     have hd5:=Tk.dw_grown (P:=P+2 * i+1) (hDr.mono (by omega)) hown hA0 hA1 hg5
                     have hF5:=Tk.fw_grown hFr hown (Nat.le_refl _) hg5
                     have m5:Tk.Mk:=trivial)
                  | (go_at_call 8
                     have _t:=m5
                     clear m5
                     refine (Gn.pickWN 5 (hd5.below (Tk.up1 w5 _)) (by omega) (by decide) (by decide)).mono ?_
                     rintro e w6 ⟨y,rfl,hy,hd6,hf6⟩
                     obtain ⟨u,hu,hus⟩:=Tk.tab_str (M:=12) (hf6.blk (World.alloc_heap_new w5 _) (by decide)) (by decide) y (by have h9:y < 5:=(by omega);simpa using h9)
                     have hF6:=(hF5.trans (Gn.Fw.of_below (Tk.up1 w5 _))).trans hf6
                     have hown6:=hf6.row (hown5.alloc _) (by decide)
                     have hz6:w2.heap.size≤w6.heap.size:=hF6.size
                     have m6:Tk.Mk:=trivial)
                  | (at_builtin
                     have _t:=m6
                     clear m6
                     refine Tk.app_str (w2:=w2) rfl _ _ rfl rfl hown6 u rfl (by omega) hz6 ?_
                     intro v7 w7 hown7 hg7
                     have hl7:(acc5++u.data.toList).length≤b+14 * (i+1):=(by rw [Tk.len_app];omega)
                     have hd7:=Tk.dw_grown hd6 hown6 hA0 hA1 hg7
                     have hF7:=Tk.fw_grown hF6 hown6 (Nat.le_refl _) hg7
                     have m7:Tk.Mk:=trivial))
                all_goals
                  have _t:=m7
                  go_roundw
                  case rel=>exact ⟨i+1,by go_num,by omega,_,by rw [HB.out];exact hl7,hown7,hd7.mono (by omega),hF7⟩
                  case measure=>simp [intOf];omega
          · obtain ⟨q,HQ⟩:∃ q,Hid (z.size=q+1):=⟨z.size - 1,by unfold Hid;omega⟩
            have hq1:(z.size:Int) - 1=(q:Int):=by have:=HQ.out;omega
            have hq2:q < z.size:=by have:=HQ.out;omega
            have hq3:IntKind.i64.wrap ((z.size:Int) - 1)=(q:Int):=by rw [hq1];exact wrap_small _ (by omega) (by omega)
            have hzd:0 < z.size:=by omega
            have hex:(z.extract 0 q).size=q:=by rw [ByteArray.size_extract];omega
            cases h32:((z[q].toNat:Int) == 32) with
            | true =>
              go_wp2_with fail
              go_roundw
              case rel=>exact ⟨z.extract 0 q,rfl,by omega,trivial⟩
              case measure=>show (z.extract 0 q).size < z.size;omega
            | false =>
              cases h10:((z[q].toNat:Int) == 10) with
              | true =>
                go_wp2_with fail
                go_roundw
                case rel=>exact ⟨z.extract 0 q,rfl,by omega,trivial⟩
                case measure=>show (z.extract 0 q).size < z.size;omega
              | false =>
                cases hk3:(kd == 3) with
                | true =>
                  have hz40:((⟨#[40]⟩:ByteArray)++z++(⟨#[41]⟩:ByteArray)).size=z.size+2:=Tk.par_size z
                  have t1:Tk.Mk:=trivial
                  go_wp2_with (first
                    | (go_at_call 8
                       have _t:=t1
                       clear t1
                       refine (Gn.pickW 4 hDr (by omega) (by decide) (by decide)).mono ?_
                       rintro e w4 ⟨x,rfl,hx,hd4,hf4⟩
                       have hF4:=hFr.trans hf4
                       have hown4:=hf4.row hown (by decide)
                       have hz4:w2.heap.size≤w4.heap.size:=hF4.size
                       rcases Tk.x0 x with ⟨rfl,m1⟩ | ⟨hx0,m2⟩)
                    | (at_builtin
                       have _t:=m1
                       clear m1
                       refine Tk.app_str (w2:=w2) rfl _ _ rfl rfl hown4 ((⟨#[40]⟩:ByteArray)++z++(⟨#[41]⟩:ByteArray)) rfl (by omega) hz4 ?_
                       intro v5 w5 hown5 hg5
                       have hl5:(acc++(((⟨#[40]⟩:ByteArray)++z++(⟨#[41]⟩:ByteArray))).data.toList).length≤b+14 * i+2:=(by rw [Tk.len_app];omega)
                       generalize acc++(((⟨#[40]⟩:ByteArray)++z++(⟨#[41]⟩:ByteArray))).data.toList=acc5 at hown5 hl5
                       have hd5:=Tk.dw_grown (P:=P+2 * i+1) (hd4.mono (by omega)) hown4 hA0 hA1 hg5
                       have hF5:=Tk.fw_grown hF4 hown4 (Nat.le_refl _) hg5
                       have m5:Tk.Mk:=trivial)
                    | (at_builtin
                       have _t:=m2
                       clear m2
                       refine Tk.app_str (w2:=w2) rfl _ _ rfl rfl hown4 z rfl (by omega) hz4 ?_
                       intro v5 w5 hown5 hg5
                       have hl5:(acc++(z).data.toList).length≤b+14 * i+2:=(by rw [Tk.len_app];omega)
                       generalize acc++(z).data.toList=acc5 at hown5 hl5
                       have hd5:=Tk.dw_grown (P:=P+2 * i+1) (hd4.mono (by omega)) hown4 hA0 hA1 hg5
                       have hF5:=Tk.fw_grown hF4 hown4 (Nat.le_refl _) hg5
                       have m5:Tk.Mk:=trivial)
                    | (go_at_call 8
                       have _t:=m5
                       clear m5
                       refine (Gn.pickWN 5 (hd5.below (Tk.up1 w5 _)) (by omega) (by decide) (by decide)).mono ?_
                       rintro e w6 ⟨y,rfl,hy,hd6,hf6⟩
                       obtain ⟨u,hu,hus⟩:=Tk.tab_str (M:=12) (hf6.blk (World.alloc_heap_new w5 _) (by decide)) (by decide) y (by have h9:y < 5:=(by omega);simpa using h9)
                       have hF6:=(hF5.trans (Gn.Fw.of_below (Tk.up1 w5 _))).trans hf6
                       have hown6:=hf6.row (hown5.alloc _) (by decide)
                       have hz6:w2.heap.size≤w6.heap.size:=hF6.size
                       have m6:Tk.Mk:=trivial)
                    | (at_builtin
                       have _t:=m6
                       clear m6
                       refine Tk.app_str (w2:=w2) rfl _ _ rfl rfl hown6 u rfl (by omega) hz6 ?_
                       intro v7 w7 hown7 hg7
                       have hl7:(acc5++u.data.toList).length≤b+14 * (i+1):=(by rw [Tk.len_app];omega)
                       have hd7:=Tk.dw_grown hd6 hown6 hA0 hA1 hg7
                       have hF7:=Tk.fw_grown hF6 hown6 (Nat.le_refl _) hg7
                       have m7:Tk.Mk:=trivial))
                  all_goals
                    have _t:=m7
                    go_roundw
                    case rel=>exact ⟨i+1,by go_num,by omega,_,by rw [HB.out];exact hl7,hown7,hd7.mono (by omega),hF7⟩
                    case measure=>simp [intOf];omega
                | false =>
                  cases hk4:(kd == 4) with
                  | true =>
                    have hz40:((⟨#[40]⟩:ByteArray)++z++(⟨#[41]⟩:ByteArray)).size=z.size+2:=Tk.par_size z
                    have t1:Tk.Mk:=trivial
                    go_wp2_with (first
                      | (go_at_call 8
                         have _t:=t1
                         clear t1
                         refine (Gn.pickW 4 hDr (by omega) (by decide) (by decide)).mono ?_
                         rintro e w4 ⟨x,rfl,hx,hd4,hf4⟩
                         have hF4:=hFr.trans hf4
                         have hown4:=hf4.row hown (by decide)
                         have hz4:w2.heap.size≤w4.heap.size:=hF4.size
                         rcases Tk.x0 x with ⟨rfl,m1⟩ | ⟨hx0,m2⟩)
                      | (at_builtin
                         have _t:=m1
                         clear m1
                         refine Tk.app_str (w2:=w2) rfl _ _ rfl rfl hown4 ((⟨#[40]⟩:ByteArray)++z++(⟨#[41]⟩:ByteArray)) rfl (by omega) hz4 ?_
                         intro v5 w5 hown5 hg5
                         have hl5:(acc++(((⟨#[40]⟩:ByteArray)++z++(⟨#[41]⟩:ByteArray))).data.toList).length≤b+14 * i+2:=(by rw [Tk.len_app];omega)
                         generalize acc++(((⟨#[40]⟩:ByteArray)++z++(⟨#[41]⟩:ByteArray))).data.toList=acc5 at hown5 hl5
                         have hd5:=Tk.dw_grown (P:=P+2 * i+1) (hd4.mono (by omega)) hown4 hA0 hA1 hg5
                         have hF5:=Tk.fw_grown hF4 hown4 (Nat.le_refl _) hg5
                         have m5:Tk.Mk:=trivial)
                      | (at_builtin
                         have _t:=m2
                         clear m2
                         refine Tk.app_str (w2:=w2) rfl _ _ rfl rfl hown4 z rfl (by omega) hz4 ?_
                         intro v5 w5 hown5 hg5
                         have hl5:(acc++(z).data.toList).length≤b+14 * i+2:=(by rw [Tk.len_app];omega)
                         generalize acc++(z).data.toList=acc5 at hown5 hl5
                         have hd5:=Tk.dw_grown (P:=P+2 * i+1) (hd4.mono (by omega)) hown4 hA0 hA1 hg5
                         have hF5:=Tk.fw_grown hF4 hown4 (Nat.le_refl _) hg5
                         have m5:Tk.Mk:=trivial)
                      | (go_at_call 8
                         have _t:=m5
                         clear m5
                         refine (Gn.pickWN 5 (hd5.below (Tk.up1 w5 _)) (by omega) (by decide) (by decide)).mono ?_
                         rintro e w6 ⟨y,rfl,hy,hd6,hf6⟩
                         obtain ⟨u,hu,hus⟩:=Tk.tab_str (M:=12) (hf6.blk (World.alloc_heap_new w5 _) (by decide)) (by decide) y (by have h9:y < 5:=(by omega);simpa using h9)
                         have hF6:=(hF5.trans (Gn.Fw.of_below (Tk.up1 w5 _))).trans hf6
                         have hown6:=hf6.row (hown5.alloc _) (by decide)
                         have hz6:w2.heap.size≤w6.heap.size:=hF6.size
                         have m6:Tk.Mk:=trivial)
                      | (at_builtin
                         have _t:=m6
                         clear m6
                         refine Tk.app_str (w2:=w2) rfl _ _ rfl rfl hown6 u rfl (by omega) hz6 ?_
                         intro v7 w7 hown7 hg7
                         have hl7:(acc5++u.data.toList).length≤b+14 * (i+1):=(by rw [Tk.len_app];omega)
                         have hd7:=Tk.dw_grown hd6 hown6 hA0 hA1 hg7
                         have hF7:=Tk.fw_grown hF6 hown6 (Nat.le_refl _) hg7
                         have m7:Tk.Mk:=trivial))
                    all_goals
                      have _t:=m7
                      go_roundw
                      case rel=>exact ⟨i+1,by go_num,by omega,_,by rw [HB.out];exact hl7,hown7,hd7.mono (by omega),hF7⟩
                      case measure=>simp [intOf];omega
                  | false =>
                    have hz40:((⟨#[40]⟩:ByteArray)++z++(⟨#[41]⟩:ByteArray)).size=z.size+2:=Tk.par_size z
                    have t1:Tk.Mk:=trivial
                    go_wp2_with (first
                      | (at_builtin
                         have _t:=t1
                         clear t1
                         refine Tk.app_str (w2:=w2) rfl _ _ rfl rfl hown z rfl (by omega) hzr ?_
                         intro v5 w5 hown5 hg5
                         have hl5:(acc++(z).data.toList).length≤b+14 * i+2:=(by rw [Tk.len_app];omega)
                         generalize acc++(z).data.toList=acc5 at hown5 hl5
                         have hd5:=Tk.dw_grown (P:=P+2 * i+1) (hDr.mono (by omega)) hown hA0 hA1 hg5
                         have hF5:=Tk.fw_grown hFr hown (Nat.le_refl _) hg5
                         have m5:Tk.Mk:=trivial)
                      | (go_at_call 8
                         have _t:=m5
                         clear m5
                         refine (Gn.pickWN 5 (hd5.below (Tk.up1 w5 _)) (by omega) (by decide) (by decide)).mono ?_
                         rintro e w6 ⟨y,rfl,hy,hd6,hf6⟩
                         obtain ⟨u,hu,hus⟩:=Tk.tab_str (M:=12) (hf6.blk (World.alloc_heap_new w5 _) (by decide)) (by decide) y (by have h9:y < 5:=(by omega);simpa using h9)
                         have hF6:=(hF5.trans (Gn.Fw.of_below (Tk.up1 w5 _))).trans hf6
                         have hown6:=hf6.row (hown5.alloc _) (by decide)
                         have hz6:w2.heap.size≤w6.heap.size:=hF6.size
                         have m6:Tk.Mk:=trivial)
                      | (at_builtin
                         have _t:=m6
                         clear m6
                         refine Tk.app_str (w2:=w2) rfl _ _ rfl rfl hown6 u rfl (by omega) hz6 ?_
                         intro v7 w7 hown7 hg7
                         have hl7:(acc5++u.data.toList).length≤b+14 * (i+1):=(by rw [Tk.len_app];omega)
                         have hd7:=Tk.dw_grown hd6 hown6 hA0 hA1 hg7
                         have hF7:=Tk.fw_grown hF6 hown6 (Nat.le_refl _) hg7
                         have m7:Tk.Mk:=trivial))
                    all_goals
                      have _t:=m7
                      go_roundw
                      case rel=>exact ⟨i+1,by go_num,by omega,_,by rw [HB.out];exact hl7,hown7,hd7.mono (by omega),hF7⟩
                      case measure=>simp [intOf];omega
      · go_wp2_with fail
        go_loopw [10] (fun t W => ∃ z:ByteArray,t = .string z∧z.size≤s.size - a∧W=wr) (fun t _=>Tk.zl t)
        case atStart=>exact ⟨s.extract a s.size,rfl,by rw [ByteArray.size_extract];omega,rfl⟩
        case round =>
          obtain ⟨z,rfl,hz,hW⟩:=hrel
          subst hW
          by_cases hz0:z.size=0
          · have hzd:decide (0 < (z.size:Int))=false:=by rw [hz0];decide
            cases hk3:(kd == 3) with
            | true =>
              have hz40:((⟨#[40]⟩:ByteArray)++z++(⟨#[41]⟩:ByteArray)).size=z.size+2:=Tk.par_size z
              have t1:Tk.Mk:=trivial
              go_wp2_with (first
                | (go_at_call 8
                   have _t:=t1
                   clear t1
                   refine (Gn.pickW 4 hDr (by omega) (by decide) (by decide)).mono ?_
                   rintro e w4 ⟨x,rfl,hx,hd4,hf4⟩
                   have hF4:=hFr.trans hf4
                   have hown4:=hf4.row hown (by decide)
                   have hz4:w2.heap.size≤w4.heap.size:=hF4.size
                   rcases Tk.x0 x with ⟨rfl,m1⟩ | ⟨hx0,m2⟩)
                | (at_builtin
                   have _t:=m1
                   clear m1
                   refine Tk.app_str (w2:=w2) rfl _ _ rfl rfl hown4 ((⟨#[40]⟩:ByteArray)++z++(⟨#[41]⟩:ByteArray)) rfl (by omega) hz4 ?_
                   intro v5 w5 hown5 hg5
                   have hl5:(acc++(((⟨#[40]⟩:ByteArray)++z++(⟨#[41]⟩:ByteArray))).data.toList).length≤s.size+14 * i+2:=(by rw [Tk.len_app];omega)
                   generalize acc++(((⟨#[40]⟩:ByteArray)++z++(⟨#[41]⟩:ByteArray))).data.toList=acc5 at hown5 hl5
                   have hd5:=Tk.dw_grown (P:=P+2 * i+1) (hd4.mono (by omega)) hown4 hA0 hA1 hg5
                   have hF5:=Tk.fw_grown hF4 hown4 (Nat.le_refl _) hg5
                   have m5:Tk.Mk:=trivial)
                | (at_builtin
                   have _t:=m2
                   clear m2
                   refine Tk.app_str (w2:=w2) rfl _ _ rfl rfl hown4 z rfl (by omega) hz4 ?_
                   intro v5 w5 hown5 hg5
                   have hl5:(acc++(z).data.toList).length≤s.size+14 * i+2:=(by rw [Tk.len_app];omega)
                   generalize acc++(z).data.toList=acc5 at hown5 hl5
                   have hd5:=Tk.dw_grown (P:=P+2 * i+1) (hd4.mono (by omega)) hown4 hA0 hA1 hg5
                   have hF5:=Tk.fw_grown hF4 hown4 (Nat.le_refl _) hg5
                   have m5:Tk.Mk:=trivial)
                | (go_at_call 8
                   have _t:=m5
                   clear m5
                   refine (Gn.pickWN 5 (hd5.below (Tk.up1 w5 _)) (by omega) (by decide) (by decide)).mono ?_
                   rintro e w6 ⟨y,rfl,hy,hd6,hf6⟩
                   obtain ⟨u,hu,hus⟩:=Tk.tab_str (M:=12) (hf6.blk (World.alloc_heap_new w5 _) (by decide)) (by decide) y (by have h9:y < 5:=(by omega);simpa using h9)
                   have hF6:=(hF5.trans (Gn.Fw.of_below (Tk.up1 w5 _))).trans hf6
                   have hown6:=hf6.row (hown5.alloc _) (by decide)
                   have hz6:w2.heap.size≤w6.heap.size:=hF6.size
                   have m6:Tk.Mk:=trivial)
                | (at_builtin
                   have _t:=m6
                   clear m6
                   refine Tk.app_str (w2:=w2) rfl _ _ rfl rfl hown6 u rfl (by omega) hz6 ?_
                   intro v7 w7 hown7 hg7
                   have hl7:(acc5++u.data.toList).length≤s.size+14 * (i+1):=(by rw [Tk.len_app];omega)
                   have hd7:=Tk.dw_grown hd6 hown6 hA0 hA1 hg7
                   have hF7:=Tk.fw_grown hF6 hown6 (Nat.le_refl _) hg7
                   have m7:Tk.Mk:=trivial))
              all_goals
                have _t:=m7
                go_roundw
                case rel=>exact ⟨i+1,by go_num,by omega,_,by rw [HB.out];exact hl7,hown7,hd7.mono (by omega),hF7⟩
                case measure=>simp [intOf];omega
            | false =>
              cases hk4:(kd == 4) with
              | true =>
                have hz40:((⟨#[40]⟩:ByteArray)++z++(⟨#[41]⟩:ByteArray)).size=z.size+2:=Tk.par_size z
                have t1:Tk.Mk:=trivial
                go_wp2_with (first
                  | (go_at_call 8
                     have _t:=t1
                     clear t1
                     refine (Gn.pickW 4 hDr (by omega) (by decide) (by decide)).mono ?_
                     rintro e w4 ⟨x,rfl,hx,hd4,hf4⟩
                     have hF4:=hFr.trans hf4
                     have hown4:=hf4.row hown (by decide)
                     have hz4:w2.heap.size≤w4.heap.size:=hF4.size
                     rcases Tk.x0 x with ⟨rfl,m1⟩ | ⟨hx0,m2⟩)
                  | (at_builtin
                     have _t:=m1
                     clear m1
                     refine Tk.app_str (w2:=w2) rfl _ _ rfl rfl hown4 ((⟨#[40]⟩:ByteArray)++z++(⟨#[41]⟩:ByteArray)) rfl (by omega) hz4 ?_
                     intro v5 w5 hown5 hg5
                     have hl5:(acc++(((⟨#[40]⟩:ByteArray)++z++(⟨#[41]⟩:ByteArray))).data.toList).length≤s.size+14 * i+2:=(by rw [Tk.len_app];omega)
                     generalize acc++(((⟨#[40]⟩:ByteArray)++z++(⟨#[41]⟩:ByteArray))).data.toList=acc5 at hown5 hl5
                     have hd5:=Tk.dw_grown (P:=P+2 * i+1) (hd4.mono (by omega)) hown4 hA0 hA1 hg5
                     have hF5:=Tk.fw_grown hF4 hown4 (Nat.le_refl _) hg5
                     have m5:Tk.Mk:=trivial)
                  | (at_builtin
                     have _t:=m2
                     clear m2
                     refine Tk.app_str (w2:=w2) rfl _ _ rfl rfl hown4 z rfl (by omega) hz4 ?_
                     intro v5 w5 hown5 hg5
                     have hl5:(acc++(z).data.toList).length≤s.size+14 * i+2:=(by rw [Tk.len_app];omega)
                     generalize acc++(z).data.toList=acc5 at hown5 hl5
                     have hd5:=Tk.dw_grown (P:=P+2 * i+1) (hd4.mono (by omega)) hown4 hA0 hA1 hg5
                     have hF5:=Tk.fw_grown hF4 hown4 (Nat.le_refl _) hg5
                     have m5:Tk.Mk:=trivial)
                  | (go_at_call 8
                     have _t:=m5
                     clear m5
                     refine (Gn.pickWN 5 (hd5.below (Tk.up1 w5 _)) (by omega) (by decide) (by decide)).mono ?_
                     rintro e w6 ⟨y,rfl,hy,hd6,hf6⟩
                     obtain ⟨u,hu,hus⟩:=Tk.tab_str (M:=12) (hf6.blk (World.alloc_heap_new w5 _) (by decide)) (by decide) y (by have h9:y < 5:=(by omega);simpa using h9)
                     have hF6:=(hF5.trans (Gn.Fw.of_below (Tk.up1 w5 _))).trans hf6
                     have hown6:=hf6.row (hown5.alloc _) (by decide)
                     have hz6:w2.heap.size≤w6.heap.size:=hF6.size
                     have m6:Tk.Mk:=trivial)
                  | (at_builtin
                     have _t:=m6
                     clear m6
                     refine Tk.app_str (w2:=w2) rfl _ _ rfl rfl hown6 u rfl (by omega) hz6 ?_
                     intro v7 w7 hown7 hg7
                     have hl7:(acc5++u.data.toList).length≤s.size+14 * (i+1):=(by rw [Tk.len_app];omega)
                     have hd7:=Tk.dw_grown hd6 hown6 hA0 hA1 hg7
                     have hF7:=Tk.fw_grown hF6 hown6 (Nat.le_refl _) hg7
                     have m7:Tk.Mk:=trivial))
                all_goals
                  have _t:=m7
                  go_roundw
                  case rel=>exact ⟨i+1,by go_num,by omega,_,by rw [HB.out];exact hl7,hown7,hd7.mono (by omega),hF7⟩
                  case measure=>simp [intOf];omega
              | false =>
                have hz40:((⟨#[40]⟩:ByteArray)++z++(⟨#[41]⟩:ByteArray)).size=z.size+2:=Tk.par_size z
                have t1:Tk.Mk:=trivial
                go_wp2_with (first
                  | (at_builtin
                     have _t:=t1
                     clear t1
                     refine Tk.app_str (w2:=w2) rfl _ _ rfl rfl hown z rfl (by omega) hzr ?_
                     intro v5 w5 hown5 hg5
                     have hl5:(acc++(z).data.toList).length≤s.size+14 * i+2:=(by rw [Tk.len_app];omega)
                     generalize acc++(z).data.toList=acc5 at hown5 hl5
                     have hd5:=Tk.dw_grown (P:=P+2 * i+1) (hDr.mono (by omega)) hown hA0 hA1 hg5
                     have hF5:=Tk.fw_grown hFr hown (Nat.le_refl _) hg5
                     have m5:Tk.Mk:=trivial)
                  | (go_at_call 8
                     have _t:=m5
                     clear m5
                     refine (Gn.pickWN 5 (hd5.below (Tk.up1 w5 _)) (by omega) (by decide) (by decide)).mono ?_
                     rintro e w6 ⟨y,rfl,hy,hd6,hf6⟩
                     obtain ⟨u,hu,hus⟩:=Tk.tab_str (M:=12) (hf6.blk (World.alloc_heap_new w5 _) (by decide)) (by decide) y (by have h9:y < 5:=(by omega);simpa using h9)
                     have hF6:=(hF5.trans (Gn.Fw.of_below (Tk.up1 w5 _))).trans hf6
                     have hown6:=hf6.row (hown5.alloc _) (by decide)
                     have hz6:w2.heap.size≤w6.heap.size:=hF6.size
                     have m6:Tk.Mk:=trivial)
                  | (at_builtin
                     have _t:=m6
                     clear m6
                     refine Tk.app_str (w2:=w2) rfl _ _ rfl rfl hown6 u rfl (by omega) hz6 ?_
                     intro v7 w7 hown7 hg7
                     have hl7:(acc5++u.data.toList).length≤s.size+14 * (i+1):=(by rw [Tk.len_app];omega)
                     have hd7:=Tk.dw_grown hd6 hown6 hA0 hA1 hg7
                     have hF7:=Tk.fw_grown hF6 hown6 (Nat.le_refl _) hg7
                     have m7:Tk.Mk:=trivial))
                all_goals
                  have _t:=m7
                  go_roundw
                  case rel=>exact ⟨i+1,by go_num,by omega,_,by rw [HB.out];exact hl7,hown7,hd7.mono (by omega),hF7⟩
                  case measure=>simp [intOf];omega
          · obtain ⟨q,HQ⟩:∃ q,Hid (z.size=q+1):=⟨z.size - 1,by unfold Hid;omega⟩
            have hq1:(z.size:Int) - 1=(q:Int):=by have:=HQ.out;omega
            have hq2:q < z.size:=by have:=HQ.out;omega
            have hq3:IntKind.i64.wrap ((z.size:Int) - 1)=(q:Int):=by rw [hq1];exact wrap_small _ (by omega) (by omega)
            have hzd:0 < z.size:=by omega
            have hex:(z.extract 0 q).size=q:=by rw [ByteArray.size_extract];omega
            cases h32:((z[q].toNat:Int) == 32) with
            | true =>
              go_wp2_with fail
              go_roundw
              case rel=>exact ⟨z.extract 0 q,rfl,by omega,trivial⟩
              case measure=>show (z.extract 0 q).size < z.size;omega
            | false =>
              cases h10:((z[q].toNat:Int) == 10) with
              | true =>
                go_wp2_with fail
                go_roundw
                case rel=>exact ⟨z.extract 0 q,rfl,by omega,trivial⟩
                case measure=>show (z.extract 0 q).size < z.size;omega
              | false =>
                cases hk3:(kd == 3) with
                | true =>
                  have hz40:((⟨#[40]⟩:ByteArray)++z++(⟨#[41]⟩:ByteArray)).size=z.size+2:=Tk.par_size z
                  have t1:Tk.Mk:=trivial
                  go_wp2_with (first
                    | (go_at_call 8
                       have _t:=t1
                       clear t1
                       refine (Gn.pickW 4 hDr (by omega) (by decide) (by decide)).mono ?_
                       rintro e w4 ⟨x,rfl,hx,hd4,hf4⟩
                       have hF4:=hFr.trans hf4
                       have hown4:=hf4.row hown (by decide)
                       have hz4:w2.heap.size≤w4.heap.size:=hF4.size
                       rcases Tk.x0 x with ⟨rfl,m1⟩ | ⟨hx0,m2⟩)
                    | (at_builtin
                       have _t:=m1
                       clear m1
                       refine Tk.app_str (w2:=w2) rfl _ _ rfl rfl hown4 ((⟨#[40]⟩:ByteArray)++z++(⟨#[41]⟩:ByteArray)) rfl (by omega) hz4 ?_
                       intro v5 w5 hown5 hg5
                       have hl5:(acc++(((⟨#[40]⟩:ByteArray)++z++(⟨#[41]⟩:ByteArray))).data.toList).length≤s.size+14 * i+2:=(by rw [Tk.len_app];omega)
                       generalize acc++(((⟨#[40]⟩:ByteArray)++z++(⟨#[41]⟩:ByteArray))).data.toList=acc5 at hown5 hl5
                       have hd5:=Tk.dw_grown (P:=P+2 * i+1) (hd4.mono (by omega)) hown4 hA0 hA1 hg5
                       have hF5:=Tk.fw_grown hF4 hown4 (Nat.le_refl _) hg5
                       have m5:Tk.Mk:=trivial)
                    | (at_builtin
                       have _t:=m2
                       clear m2
                       refine Tk.app_str (w2:=w2) rfl _ _ rfl rfl hown4 z rfl (by omega) hz4 ?_
                       intro v5 w5 hown5 hg5
                       have hl5:(acc++(z).data.toList).length≤s.size+14 * i+2:=(by rw [Tk.len_app];omega)
                       generalize acc++(z).data.toList=acc5 at hown5 hl5
                       have hd5:=Tk.dw_grown (P:=P+2 * i+1) (hd4.mono (by omega)) hown4 hA0 hA1 hg5
                       have hF5:=Tk.fw_grown hF4 hown4 (Nat.le_refl _) hg5
                       have m5:Tk.Mk:=trivial)
                    | (go_at_call 8
                       have _t:=m5
                       clear m5
                       refine (Gn.pickWN 5 (hd5.below (Tk.up1 w5 _)) (by omega) (by decide) (by decide)).mono ?_
                       rintro e w6 ⟨y,rfl,hy,hd6,hf6⟩
                       obtain ⟨u,hu,hus⟩:=Tk.tab_str (M:=12) (hf6.blk (World.alloc_heap_new w5 _) (by decide)) (by decide) y (by have h9:y < 5:=(by omega);simpa using h9)
                       have hF6:=(hF5.trans (Gn.Fw.of_below (Tk.up1 w5 _))).trans hf6
                       have hown6:=hf6.row (hown5.alloc _) (by decide)
                       have hz6:w2.heap.size≤w6.heap.size:=hF6.size
                       have m6:Tk.Mk:=trivial)
                    | (at_builtin
                       have _t:=m6
                       clear m6
                       refine Tk.app_str (w2:=w2) rfl _ _ rfl rfl hown6 u rfl (by omega) hz6 ?_
                       intro v7 w7 hown7 hg7
                       have hl7:(acc5++u.data.toList).length≤s.size+14 * (i+1):=(by rw [Tk.len_app];omega)
                       have hd7:=Tk.dw_grown hd6 hown6 hA0 hA1 hg7
                       have hF7:=Tk.fw_grown hF6 hown6 (Nat.le_refl _) hg7
                       have m7:Tk.Mk:=trivial))
                  all_goals
                    have _t:=m7
                    go_roundw
                    case rel=>exact ⟨i+1,by go_num,by omega,_,by rw [HB.out];exact hl7,hown7,hd7.mono (by omega),hF7⟩
                    case measure=>simp [intOf];omega
                | false =>
                  cases hk4:(kd == 4) with
                  | true =>
                    have hz40:((⟨#[40]⟩:ByteArray)++z++(⟨#[41]⟩:ByteArray)).size=z.size+2:=Tk.par_size z
                    have t1:Tk.Mk:=trivial
                    go_wp2_with (first
                      | (go_at_call 8
                         have _t:=t1
                         clear t1
                         refine (Gn.pickW 4 hDr (by omega) (by decide) (by decide)).mono ?_
                         rintro e w4 ⟨x,rfl,hx,hd4,hf4⟩
                         have hF4:=hFr.trans hf4
                         have hown4:=hf4.row hown (by decide)
                         have hz4:w2.heap.size≤w4.heap.size:=hF4.size
                         rcases Tk.x0 x with ⟨rfl,m1⟩ | ⟨hx0,m2⟩)
                      | (at_builtin
                         have _t:=m1
                         clear m1
                         refine Tk.app_str (w2:=w2) rfl _ _ rfl rfl hown4 ((⟨#[40]⟩:ByteArray)++z++(⟨#[41]⟩:ByteArray)) rfl (by omega) hz4 ?_
                         intro v5 w5 hown5 hg5
                         have hl5:(acc++(((⟨#[40]⟩:ByteArray)++z++(⟨#[41]⟩:ByteArray))).data.toList).length≤s.size+14 * i+2:=(by rw [Tk.len_app];omega)
                         generalize acc++(((⟨#[40]⟩:ByteArray)++z++(⟨#[41]⟩:ByteArray))).data.toList=acc5 at hown5 hl5
                         have hd5:=Tk.dw_grown (P:=P+2 * i+1) (hd4.mono (by omega)) hown4 hA0 hA1 hg5
                         have hF5:=Tk.fw_grown hF4 hown4 (Nat.le_refl _) hg5
                         have m5:Tk.Mk:=trivial)
                      | (at_builtin
                         have _t:=m2
                         clear m2
                         refine Tk.app_str (w2:=w2) rfl _ _ rfl rfl hown4 z rfl (by omega) hz4 ?_
                         intro v5 w5 hown5 hg5
                         have hl5:(acc++(z).data.toList).length≤s.size+14 * i+2:=(by rw [Tk.len_app];omega)
                         generalize acc++(z).data.toList=acc5 at hown5 hl5
                         have hd5:=Tk.dw_grown (P:=P+2 * i+1) (hd4.mono (by omega)) hown4 hA0 hA1 hg5
                         have hF5:=Tk.fw_grown hF4 hown4 (Nat.le_refl _) hg5
                         have m5:Tk.Mk:=trivial)
                      | (go_at_call 8
                         have _t:=m5
                         clear m5
                         refine (Gn.pickWN 5 (hd5.below (Tk.up1 w5 _)) (by omega) (by decide) (by decide)).mono ?_
                         rintro e w6 ⟨y,rfl,hy,hd6,hf6⟩
                         obtain ⟨u,hu,hus⟩:=Tk.tab_str (M:=12) (hf6.blk (World.alloc_heap_new w5 _) (by decide)) (by decide) y (by have h9:y < 5:=(by omega);simpa using h9)
                         have hF6:=(hF5.trans (Gn.Fw.of_below (Tk.up1 w5 _))).trans hf6
                         have hown6:=hf6.row (hown5.alloc _) (by decide)
                         have hz6:w2.heap.size≤w6.heap.size:=hF6.size
                         have m6:Tk.Mk:=trivial)
                      | (at_builtin
                         have _t:=m6
                         clear m6
                         refine Tk.app_str (w2:=w2) rfl _ _ rfl rfl hown6 u rfl (by omega) hz6 ?_
                         intro v7 w7 hown7 hg7
                         have hl7:(acc5++u.data.toList).length≤s.size+14 * (i+1):=(by rw [Tk.len_app];omega)
                         have hd7:=Tk.dw_grown hd6 hown6 hA0 hA1 hg7
                         have hF7:=Tk.fw_grown hF6 hown6 (Nat.le_refl _) hg7
                         have m7:Tk.Mk:=trivial))
                    all_goals
                      have _t:=m7
                      go_roundw
                      case rel=>exact ⟨i+1,by go_num,by omega,_,by rw [HB.out];exact hl7,hown7,hd7.mono (by omega),hF7⟩
                      case measure=>simp [intOf];omega
                  | false =>
                    have hz40:((⟨#[40]⟩:ByteArray)++z++(⟨#[41]⟩:ByteArray)).size=z.size+2:=Tk.par_size z
                    have t1:Tk.Mk:=trivial
                    go_wp2_with (first
                      | (at_builtin
                         have _t:=t1
                         clear t1
                         refine Tk.app_str (w2:=w2) rfl _ _ rfl rfl hown z rfl (by omega) hzr ?_
                         intro v5 w5 hown5 hg5
                         have hl5:(acc++(z).data.toList).length≤s.size+14 * i+2:=(by rw [Tk.len_app];omega)
                         generalize acc++(z).data.toList=acc5 at hown5 hl5
                         have hd5:=Tk.dw_grown (P:=P+2 * i+1) (hDr.mono (by omega)) hown hA0 hA1 hg5
                         have hF5:=Tk.fw_grown hFr hown (Nat.le_refl _) hg5
                         have m5:Tk.Mk:=trivial)
                      | (go_at_call 8
                         have _t:=m5
                         clear m5
                         refine (Gn.pickWN 5 (hd5.below (Tk.up1 w5 _)) (by omega) (by decide) (by decide)).mono ?_
                         rintro e w6 ⟨y,rfl,hy,hd6,hf6⟩
                         obtain ⟨u,hu,hus⟩:=Tk.tab_str (M:=12) (hf6.blk (World.alloc_heap_new w5 _) (by decide)) (by decide) y (by have h9:y < 5:=(by omega);simpa using h9)
                         have hF6:=(hF5.trans (Gn.Fw.of_below (Tk.up1 w5 _))).trans hf6
                         have hown6:=hf6.row (hown5.alloc _) (by decide)
                         have hz6:w2.heap.size≤w6.heap.size:=hF6.size
                         have m6:Tk.Mk:=trivial)
                      | (at_builtin
                         have _t:=m6
                         clear m6
                         refine Tk.app_str (w2:=w2) rfl _ _ rfl rfl hown6 u rfl (by omega) hz6 ?_
                         intro v7 w7 hown7 hg7
                         have hl7:(acc5++u.data.toList).length≤s.size+14 * (i+1):=(by rw [Tk.len_app];omega)
                         have hd7:=Tk.dw_grown hd6 hown6 hA0 hA1 hg7
                         have hF7:=Tk.fw_grown hF6 hown6 (Nat.le_refl _) hg7
                         have m7:Tk.Mk:=trivial))
                    all_goals
                      have _t:=m7
                      go_roundw
                      case rel=>exact ⟨i+1,by go_num,by omega,_,by rw [HB.out];exact hl7,hown7,hd7.mono (by omega),hF7⟩
                      case measure=>simp [intOf];omega
    · have hin:i=n:=by omega
      subst hin
      have hcv:=Mill.conv_own (P:=Tryz.prog) (src:=22) (dst:=9) Tryz.underlying22 Tryz.underlying5 Tryz.underlying9 hown
      have hacc2:acc.length≤1000000:=by
        have e:=Tk.next_end s.data.toList ts
        rw [HN.out] at e
        rw [e,HF.out] at hacc
        omega
      go_wp2
      go_ret
      exact ⟨⟨acc.toArray⟩,rfl,by show acc.toArray.size≤1000000;simpa using hacc2,hDr.mono (by omega),(Gn.Fw.of_below hb2).trans hFr⟩
theorem Tk.loose_is : Tk.LooseIs:=by
  intro R P w w0 s hD hP hs
  rcases Tk.scan_cases s with ⟨c,k,h⟩ | ⟨ts,h,hg,_⟩
  · by_cases hc:c=0
    · subst hc
      exact Tk.loose_good s hD hP hs h trivial
    · exact Tk.loose_bad s hD hs h hc
  · exact Tk.loose_good s hD hP hs h hg
end Go.Proofs.YtfoimmnlojjfbaaGreatDoor
