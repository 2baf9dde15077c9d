import Derived.Test.YtkikhpppkpelfaaGreatKBoxD
import Derived.Test.YtkikhpppkpelfaaGreatKRepA
import Derived.OwnWalk
import Derived.Deep.Cut
set_option maxRecDepth 100000
set_option maxHeartbeats 2000000
namespace Go.Proofs.YtkikhpppkpelfaaGreat
open Go.RowKit
theorem Bx.put_at {l r:List Bx.Fl} {a f:Bx.Fl} (h:∀ x ∈ l,Bx.lt x.name f.name=true) (ha:Bx.lt a.name f.name=false):Bx.put (l++a::r) f=l++(if a.name=f.name then f::r else f::a::r):=by
  induction l with
  | nil=>rw [List.nil_append,Bx.put,if_neg (by simp [ha])];rfl
  | cons b t ih=>rw [List.cons_append,Bx.put,if_pos (h b List.mem_cons_self),ih (fun x hx=>h x (List.mem_cons_of_mem _ hx))];rfl
def Bx.Pt (fs:List Bx.Fl) (f:Bx.Fl) (i:Nat) (done:Bool) (out:List Bx.Fl):Prop :=
  (done=false∧out=fs.take i∧∀ x ∈ fs.take i,Bx.lt x.name f.name=true) ∨
  (done=true∧∃ l a r,fs.take i=l++a::r∧(∀ x ∈ l,Bx.lt x.name f.name=true)∧Bx.lt a.name f.name=false∧out=l++(if a.name=f.name then f::r else f::a::r))
theorem Bx.Pt.start (fs:List Bx.Fl) (f:Bx.Fl):Bx.Pt fs f 0 false []:=.inl ⟨rfl,rfl,by simp⟩
theorem Bx.take_next (fs:List Bx.Fl) (i:Nat) (hi:i < fs.length):fs.take (i+1)=fs.take i++[fs[i]]:=by
  rw [List.take_add_one,List.getElem?_eq_getElem hi];rfl
theorem Bx.Pt.low {fs:List Bx.Fl} {f:Bx.Fl} {i:Nat} {out:List Bx.Fl} (h:Bx.Pt fs f i false out) (hi:i < fs.length) (hl:Bx.lt fs[i].name f.name=true):Bx.Pt fs f (i+1) false (out++[fs[i]]):=by
  rcases h with ⟨_,ho,ha⟩ | ⟨h,_⟩
  · refine .inl ⟨rfl,by rw [ho,Bx.take_next fs i hi],fun x hx => ?_⟩
    rw [Bx.take_next fs i hi] at hx
    rcases List.mem_append.1 hx with hx | hx
    · exact ha x hx
    · rw [List.mem_singleton.1 hx];exact hl
  · cases h
theorem Bx.Pt.here {fs:List Bx.Fl} {f:Bx.Fl} {i:Nat} {out:List Bx.Fl} (h:Bx.Pt fs f i false out) (hi:i < fs.length) (hl:Bx.lt fs[i].name f.name=false):Bx.Pt fs f (i+1) true (if fs[i].name=f.name then out++[f] else out++[f]++[fs[i]]):=by
  rcases h with ⟨_,ho,ha⟩ | ⟨h,_⟩
  · refine .inr ⟨rfl,fs.take i,fs[i],[],Bx.take_next fs i hi,ha,hl, ?_⟩
    rw [ho];split <;> simp
  · cases h
theorem Bx.Pt.high {fs:List Bx.Fl} {f:Bx.Fl} {i:Nat} {out:List Bx.Fl} (h:Bx.Pt fs f i true out) (hu:Bx.Up fs) (hi:i < fs.length):fs[i].name≠f.name∧Bx.Pt fs f (i+1) true (out++[fs[i]]):=by
  rcases h with ⟨h,_⟩ | ⟨_,l,a,r,ht,hl,ha,ho⟩
  · cases h
  · have hmem:a ∈ fs.take i:=by rw [ht];simp
    have hai:Bx.lt a.name fs[i].name=true:=by
      obtain ⟨j,hj,e⟩:=List.getElem_of_mem hmem
      rw [List.getElem_take] at e
      rw [← e]
      exact Bx.up_get hu j i (by simp at hj;omega) hi
    refine ⟨fun e=>(by rw [e,ha] at hai;cases hai),.inr ⟨rfl,l,a,r++[fs[i]],by rw [Bx.take_next fs i hi,ht];simp,hl,ha, ?_⟩⟩
    rw [ho];split <;> simp
theorem Bx.Pt.endF {fs:List Bx.Fl} {f:Bx.Fl} {out:List Bx.Fl} (h:Bx.Pt fs f fs.length false out):out++[f]=Bx.put fs f:=by
  rcases h with ⟨_,ho,ha⟩ | ⟨h,_⟩
  · rw [List.take_length] at ho ha;rw [ho,Bx.put_end ha]
  · cases h
theorem Bx.Pt.endT {fs:List Bx.Fl} {f:Bx.Fl} {out:List Bx.Fl} (h:Bx.Pt fs f fs.length true out):out=Bx.put fs f:=by
  rcases h with ⟨h,_⟩ | ⟨_,l,a,r,ht,hl,ha,ho⟩
  · cases h
  · rw [List.take_length] at ht;rw [ht,Bx.put_at hl ha,ho]
theorem Bx.Pt.len {fs:List Bx.Fl} {f:Bx.Fl} {i:Nat} {d:Bool} {out:List Bx.Fl} (h:Bx.Pt fs f i d out):out.length≤fs.length+1:=by
  rcases h with ⟨_,ho,_⟩ | ⟨_,l,a,r,ht,_,_,ho⟩
  · rw [ho,List.length_take];omega
  · have e:=congrArg List.length ht
    rw [List.length_take,List.length_append,List.length_cons] at e
    rw [ho,List.length_append];split <;> simp <;> omega
theorem Bx.beq_eq0 {a b:ByteArray}:(a.toList == b.toList)=decide (a=b):=by
  by_cases h:a=b
  · subst h;simp
  · simp only [h,decide_false,beq_eq_false_iff_ne];exact fun e=>h (Bx.list_eq e)
theorem Bx.fCs_one (out:List Bx.Fl) (f:Bx.Fl):Bx.fCs out++[.string f.name,.string f.text]=Bx.fCs (out++[f]):=by
  unfold Bx.fCs;rw [List.flatMap_append];rfl
theorem Bx.one_file (a b:ByteArray):∀ u ∈ ([.string a,.string b]:List Value),u.oneCell'=true:=fun u hu=>by
  simp at hu;rcases hu with rfl | rfl <;> rfl
theorem Bx.file_new (w:World) (a b:ByteArray):∀ j u,([.string a,.string b]:List Value)[j]? = some u→(w.alloc (.cells #[.string a,.string b] 36)).cell? ((⟨w.heap.size,0,none⟩:Addr).add j)=some u:=fun j u hj=>by
  have hadd:(Addr.add ⟨w.heap.size,0,none⟩ j)=⟨w.heap.size,0+j,none⟩:=by unfold Addr.add;split <;> simp_all
  rw [hadd,Nat.zero_add]
  have h:=(MapKept.heap_alloc w (.cells #[.string a,.string b] 36)).1
  simp only [World.cell?,h];simpa using hj
theorem Bx.row_nil (w:World):(w.alloc (.cells #[] 36)).ownsRow w.heap.size 36 2 (.slice (some ⟨w.heap.size,0,none⟩) 0 0) 0 (Bx.fCs []) :=
  ⟨rfl,.inr ⟨w.heap.size,0,#[],rfl,Nat.le_refl _,(MapKept.heap_alloc w _).1,Nat.le_refl _,Nat.zero_le _,rfl,rfl⟩⟩
theorem Bx.row_block {w:World} {B e size n:Nat} {v:Value} {xs:List Value} (h:w.ownsRow B e size v n xs):∀ k,v.ownBlock=some k→B≤k:=fun k hk=>by
  rcases h.2 with ⟨rfl,_⟩ | ⟨g,cap,cur,rfl,hg,_⟩
  · cases hk
  · have:g=k:=by simpa [Value.ownBlock] using hk
    omega
theorem Bx.l6put_any (fs:List Bx.Fl) (hu:Bx.Up fs) (v:Value) (x t:ByteArray) (w:World) (hl:fs.length≤1000) (hN:Bx.Off w v fs) :
    Calls Tryz.prog 25 #[v,.string x,.string t] w fun e w' => ∃ a c,e = .returned (.slice a (Bx.put fs ⟨x,t⟩).length c)∧w'.ownsRow w.heap.size 36 2 (.slice a (Bx.put fs ⟨x,t⟩).length c) (Bx.put fs ⟨x,t⟩).length (Bx.fCs (Bx.put fs ⟨x,t⟩))∧Below w.heap.size w w':=by
  obtain ⟨i0,hi0,hz0,hz1,hz2⟩:=info_parts Tryz.infoFile
  obtain ⟨p,cap,rfl,hc⟩:=hN
  obtain ⟨n,HN⟩:∃ n,Hid (fs.length=n):=⟨_,(rfl:fs.length=_)⟩
  have HC:Hid (∀ i (hi:i < fs.length),∃ g o,p=some ⟨g,o,none⟩∧g < w.heap.size∧w.cell? ⟨g,o+i * 2,none⟩=some (.string fs[i].name)∧w.cell? ⟨g,o+i * 2+1,none⟩=some (.string fs[i].text)):=hc
  have HU:Hid (Bx.Up fs):=hu
  clear hc hu
  rw [HN.out] at hl
  simp only [HN.out]
  go_enter Tryz.func25,Tryz.ntmps25
  go_wp2_with fail
  have hst:=Bx.row_nil w
  have hb0:Below w.heap.size w (w.alloc (.cells #[] 36)):=(Below.refl _ w).alloc (Nat.le_refl _) _
  have HLN:Hid (∀ i d out,Bx.Pt fs ⟨x,t⟩ i d out→out.length≤1001):=fun i d out h=>by have:=h.len;rw [HN.out] at this;omega
  go_loopw [7,8,9] (fun t7 t8 t9 wr => ∃ (i:Nat) (done:Bool) (a:Option Addr) (c m:Nat) (out:List Bx.Fl),i≤n∧t7 = .slice a m c∧t8 = .bool done∧t9 = .int .i64 (i:Int)∧out.length=m∧Bx.Pt fs ⟨x,t⟩ i done out∧wr.ownsRow w.heap.size 36 2 (.slice a m c) m (Bx.fCs out)∧Below w.heap.size w wr) (fun _ _ t9 _=>n - (intOf t9).toNat)
  case atStart=>exact ⟨0,false,_,_,_,[],by omega,rfl,rfl,rfl,rfl,Bx.Pt.start _ _,hst,hb0⟩
  case round =>
    obtain ⟨i,done,a,c,m,out,hi,rfl,rfl,rfl,hml,hpt,hown,hbw⟩:=hrel
    have hz:=hbw.size
    have hm1:m≤1001:=by rw [← hml];exact HLN.out _ _ _ hpt
    have HML:Hid (out.length=m):=hml
    have HO:Hid (wr.ownsRow w.heap.size 36 2 (.slice a m c) m (Bx.fCs out)):=hown
    have HB1:Hid (Below w.heap.size w wr):=hbw
    clear hml hown hst hb0
    by_cases hlt:i < n
    · have hil:i < fs.length:=by rw [HN.out];exact hlt
      obtain ⟨g,o,rfl,hg,k0,k1⟩:=HC.out i hil
      have e0:wr.cell? ⟨g,o+i * 2,none⟩=some (.string fs[i].name):=by rw [hbw.cell (p:=⟨g,o+i * 2,none⟩) hg,k0]
      have e1:wr.cell? ⟨g,o+i * 2+1,none⟩=some (.string fs[i].text):=by rw [hbw.cell (p:=⟨g,o+i * 2+1,none⟩) hg,k1]
      clear k0 k1 HC
      cases done with
      | true =>
        obtain ⟨hne,hp2⟩:=hpt.high HU.out hil
        have HP:Hid (Bx.Pt fs ⟨x,t⟩ (i+1) true (out++[⟨fs[i].name,fs[i].text⟩])):=hp2
        have hbe:(fs[i].name.toList == x.toList)=false:=by rw [Bx.beq_eq0];simpa using hne
        have hbn:(fs[i].name.toList != x.toList)=true:=by rw [bne,hbe];rfl
        clear hpt hp2 hne
        generalize fs[i]=d at *
        go_wp2_with (at_builtin;refine wpList_append_own _ rfl _ _ 23 rfl w.heap.size 36 i0 (.agg #[.string ByteArray.empty,.string ByteArray.empty]) 2 32 Tryz.underlying23 hi0 hz0 hz1 hz2 rfl (by decide) _ _ _ rfl (HO.out.alloc _) ⟨wr.heap.size,0,none⟩ 1 1 [.string d.name,.string d.text] rfl rfl (Bx.file_new _ _ _) (Bx.one_file _ _) (by unfold maxLen;omega) (by omega) (by simp;omega) ?_;intro v1 w1 hown1 hg1 _;rw [Bx.fCs_one out ⟨d.name,d.text⟩] at hown1;obtain ⟨a1,c1,hv1⟩:=Bx.rowLen hown1;subst hv1;have hb1:Below w.heap.size w w1:=(HB1.out.alloc (by have:=HB1.out.size;omega) _).grown hg1 (by have:=HB1.out.size;simp;omega) (Bx.row_block (HO.out)))
        go_roundw
        case rel=>exact ⟨i+1,true,a1,c1,m+1,_,by omega,rfl,rfl,by go_num,by rw [List.length_append,HML.out];rfl,HP.out,hown1,hb1⟩
        case measure=>simp [intOf];omega
      | false =>
        cases hL:Bx.lt fs[i].name x with
        | true =>
          have HP:Hid (Bx.Pt fs ⟨x,t⟩ (i+1) false (out++[⟨fs[i].name,fs[i].text⟩])):=hpt.low hil hL
          have hbe:(fs[i].name.toList == x.toList)=false:=by rw [Bx.beq_eq0];simpa using Bx.lt_ne hL
          have hbn:(fs[i].name.toList != x.toList)=true:=by rw [bne,hbe];rfl
          have hL2:Op.bytesLess fs[i].name.toList x.toList=true:=hL
          clear hpt hL
          generalize fs[i]=d at *
          go_wp2_with (at_builtin;refine wpList_append_own _ rfl _ _ 23 rfl w.heap.size 36 i0 (.agg #[.string ByteArray.empty,.string ByteArray.empty]) 2 32 Tryz.underlying23 hi0 hz0 hz1 hz2 rfl (by decide) _ _ _ rfl (HO.out.alloc _) ⟨wr.heap.size,0,none⟩ 1 1 [.string d.name,.string d.text] rfl rfl (Bx.file_new _ _ _) (Bx.one_file _ _) (by unfold maxLen;omega) (by omega) (by simp;omega) ?_;intro v1 w1 hown1 hg1 _;rw [Bx.fCs_one out ⟨d.name,d.text⟩] at hown1;obtain ⟨a1,c1,hv1⟩:=Bx.rowLen hown1;subst hv1;have hb1:Below w.heap.size w w1:=(HB1.out.alloc (by have:=HB1.out.size;omega) _).grown hg1 (by have:=HB1.out.size;simp;omega) (Bx.row_block (HO.out)))
          go_roundw
          case rel=>exact ⟨i+1,false,a1,c1,m+1,_,by omega,rfl,rfl,by go_num,by rw [List.length_append,HML.out];rfl,HP.out,hown1,hb1⟩
          case measure=>simp [intOf];omega
        | false =>
          have hP0:=hpt.here hil hL
          have hL2:Op.bytesLess fs[i].name.toList x.toList=false:=hL
          by_cases he:fs[i].name=x
          · have HP:Hid (Bx.Pt fs ⟨x,t⟩ (i+1) true (out++[⟨x,t⟩])):=by rw [if_pos he] at hP0;exact hP0
            have hbe:(fs[i].name.toList == x.toList)=true:=by rw [Bx.beq_eq0];simpa using he
            have hbn:(fs[i].name.toList != x.toList)=false:=by rw [bne,hbe];rfl
            have HE0:Hid (∀ W,Below wr.heap.size wr W→W.cell? ⟨g,o+i * 2,none⟩=some (.string fs[i].name)):=fun W hW=>by rw [hW.cell (p:=⟨g,o+i * 2,none⟩) (by simp only;omega)];exact e0
            clear hpt hP0 hL he
            generalize fs[i]=d at *
            go_wp2_with (at_builtin;refine wpList_append_own _ rfl _ _ 23 rfl w.heap.size 36 i0 (.agg #[.string ByteArray.empty,.string ByteArray.empty]) 2 32 Tryz.underlying23 hi0 hz0 hz1 hz2 rfl (by decide) _ _ _ rfl (HO.out.alloc _) ⟨wr.heap.size,0,none⟩ 1 1 [.string x,.string t] rfl rfl (Bx.file_new _ _ _) (Bx.one_file _ _) (by unfold maxLen;omega) (by omega) (by simp;omega) ?_;intro v1 w1 hown1 hg1 _;rw [Bx.fCs_one out ⟨x,t⟩] at hown1;obtain ⟨a1,c1,hv1⟩:=Bx.rowLen hown1;subst hv1;have hb1:Below w.heap.size w w1:=(HB1.out.alloc (by have:=HB1.out.size;omega) _).grown hg1 (by have:=HB1.out.size;simp;omega) (Bx.row_block (HO.out));have e2:w1.cell? ⟨g,o+i * 2,none⟩=some (.string d.name):=(by rw [hb1.cell (p:=⟨g,o+i * 2,none⟩) hg,← HB1.out.cell (p:=⟨g,o+i * 2,none⟩) hg];exact e0))
            go_roundw
            case rel=>exact ⟨i+1,true,a1,c1,m+1,_,by omega,rfl,rfl,by go_num,by rw [List.length_append,HML.out];rfl,HP.out,hown1,hb1⟩
            case measure=>simp [intOf];omega
          · have HP:Hid (Bx.Pt fs ⟨x,t⟩ (i+1) true (out++[⟨x,t⟩]++[⟨fs[i].name,fs[i].text⟩])):=by rw [if_neg he] at hP0;exact hP0
            have hbe:(fs[i].name.toList == x.toList)=false:=by rw [Bx.beq_eq0];simpa using he
            have hbn:(fs[i].name.toList != x.toList)=true:=by rw [bne,hbe];rfl
            clear hpt hP0 hL he
            generalize fs[i]=d at *
            go_upto_region 10 with ((at_builtin;refine wpList_append_own _ rfl _ _ 23 rfl w.heap.size 36 i0 (.agg #[.string ByteArray.empty,.string ByteArray.empty]) 2 32 Tryz.underlying23 hi0 hz0 hz1 hz2 rfl (by decide) _ _ _ rfl (HO.out.alloc _) ⟨wr.heap.size,0,none⟩ 1 1 [.string x,.string t] rfl rfl (Bx.file_new _ _ _) (Bx.one_file _ _) (by unfold maxLen;omega) (by omega) (by simp;omega) ?_;intro v1 w1 hown1 hg1 _;rw [Bx.fCs_one out ⟨x,t⟩] at hown1;obtain ⟨a1,c1,hv1⟩:=Bx.rowLen hown1;subst hv1;have hb1:Below w.heap.size w w1:=(HB1.out.alloc (by have:=HB1.out.size;omega) _).grown hg1 (by have:=HB1.out.size;simp;omega) (Bx.row_block (HO.out));have e2:w1.cell? ⟨g,o+i * 2,none⟩=some (.string d.name):=(by rw [hb1.cell (p:=⟨g,o+i * 2,none⟩) hg,← HB1.out.cell (p:=⟨g,o+i * 2,none⟩) hg];exact e0);have e3:w1.cell? ⟨g,o+i * 2+1,none⟩=some (.string d.text):=(by rw [hb1.cell (p:=⟨g,o+i * 2+1,none⟩) hg,← HB1.out.cell (p:=⟨g,o+i * 2+1,none⟩) hg];exact e1);have HB2:Hid (Below w.heap.size w w1):=hb1;have hzw1:=hb1.size;clear HO))
            go_wp2_with (at_builtin;refine wpList_append_own _ rfl _ _ 23 rfl w.heap.size 36 i0 (.agg #[.string ByteArray.empty,.string ByteArray.empty]) 2 32 Tryz.underlying23 hi0 hz0 hz1 hz2 rfl (by decide) _ _ _ rfl (hown1.alloc _) ⟨w1.heap.size,0,none⟩ 1 1 [.string d.name,.string d.text] rfl rfl (Bx.file_new _ _ _) (Bx.one_file _ _) (by unfold maxLen;omega) (by omega) (by simp;omega) ?_;intro v2 w2 hown2 hg2 _;rw [Bx.fCs_one (out++[Bx.Fl.mk x t]) ⟨d.name,d.text⟩] at hown2;obtain ⟨a2,c2,hv2⟩:=Bx.rowLen hown2;subst hv2;have hb2:Below w.heap.size w w2:=(HB2.out.alloc (by have:=HB2.out.size;omega) _).grown hg2 (by have:=HB2.out.size;simp;omega) (Bx.row_block (hown1)))
            go_roundw
            case rel=>exact ⟨i+1,true,a2,c2,m+1+1,_,by omega,rfl,rfl,by go_num,by rw [List.length_append,List.length_append,HML.out];rfl,HP.out,hown2,hb2⟩
            case measure=>simp [intOf];omega
    · have hie:i=n:=by omega
      subst hie
      clear HC
      cases done with
      | true =>
        have HE:Hid (out=Bx.put fs ⟨x,t⟩):=by have h:=hpt;rw [← HN.out] at h;exact h.endT
        clear hpt
        go_wp2
        go_ret
        have h:=HO.out
        rw [← HML.out,HE.out] at h
        exact ⟨a,c,by rw [← HML.out,HE.out];rfl,h,HB1.out⟩
      | false =>
        have HE:Hid (out++[⟨x,t⟩]=Bx.put fs ⟨x,t⟩):=by have h:=hpt;rw [← HN.out] at h;exact h.endF
        have HE2:Hid ((Bx.put fs ⟨x,t⟩).length=m+1):=by rw [Hid,← HE.out,List.length_append,HML.out];rfl
        clear hpt
        go_wp2_with (at_builtin;refine wpList_append_own _ rfl _ _ 23 rfl w.heap.size 36 i0 (.agg #[.string ByteArray.empty,.string ByteArray.empty]) 2 32 Tryz.underlying23 hi0 hz0 hz1 hz2 rfl (by decide) _ _ _ rfl (HO.out.alloc _) ⟨wr.heap.size,0,none⟩ 1 1 [.string x,.string t] rfl rfl (Bx.file_new _ _ _) (Bx.one_file _ _) (by unfold maxLen;omega) (by omega) (by simp;omega) ?_;intro v1 w1 hown1 hg1 _;rw [Bx.fCs_one out ⟨x,t⟩] at hown1;obtain ⟨a1,c1,hv1⟩:=Bx.rowLen hown1;subst hv1;have hb1:Below w.heap.size w w1:=(HB1.out.alloc (by have:=HB1.out.size;omega) _).grown hg1 (by have:=HB1.out.size;simp;omega) (Bx.row_block (HO.out)))
        go_ret
        rw [HE.out] at hown1
        exact ⟨a1,c1,by rw [HE2.out];rfl,by rw [HE2.out];exact hown1,hb1⟩
end Go.Proofs.YtkikhpppkpelfaaGreat
