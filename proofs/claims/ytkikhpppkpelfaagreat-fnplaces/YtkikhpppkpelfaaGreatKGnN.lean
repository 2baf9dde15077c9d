import Derived.Test.YtkikhpppkpelfaaGreatKGnL
import Derived.Test.YtkikhpppkpelfaaGreatKBoxJ
import Derived.Test.YtkikhpppkpelfaaGreatKLayS
import Derived.Test.YtkikhpppkpelfaaGreatKLayA
import Derived.Laws.StructEq
import Derived.Deep.QuietTactic
import Derived.Deep.DeepCutAuto
import Derived.Deep.RegionHeld3
set_option maxRecDepth 100000
set_option maxHeartbeats 1000000
namespace Go.Proofs.YtkikhpppkpelfaaGreat
open Go.RowKit
theorem Gn.lays_other : ∀ (ss:List Bx.Fl) {fs:List Bx.Fl} (_:Bx.Up fs) (x:ByteArray),(∀ d ∈ ss,d.name≠x)→Bx.look (Bx.lays fs ss) x=Bx.look fs x
  | [],_,_,_,_=>rfl
  | a::r,_,h,x,hn=>by
    have h1:=Gn.lays_other r (Bx.up_put h a) x (fun d hd=>hn d (List.mem_cons_of_mem _ hd))
    have h2:=Bx.look_put h a x
    rw [if_neg (hn a List.mem_cons_self)] at h2
    exact h1.trans h2
theorem Gn.lays_last : ∀ (ss:List Bx.Fl) {fs:List Bx.Fl} (_:Bx.Up fs) (j:Nat) (hj:j < ss.length),(∀ k (hk:k < ss.length),j < k→ss[k].name≠ss[j].name)→Bx.look (Bx.lays fs ss) ss[j].name=some ss[j]
  | a::r,_,h,0,_,hl=>by
    have h1:=Gn.lays_other r (Bx.up_put h a) a.name (fun d hd=>by
      obtain ⟨k,hk,rfl⟩:=List.getElem_of_mem hd
      exact hl (k+1) (by simpa using hk) (by omega))
    have h2:=Bx.look_put h a a.name
    rw [if_pos rfl] at h2
    exact h1.trans h2
  | _::r,_,h,j+1,hj,hl=>Gn.lays_last r (Bx.up_put h _) j (by simpa using hj) (fun k hk hjk=>hl (k+1) (by simpa using hk) (by omega))
theorem Gn.pre_less : ∀ (s p:List UInt8),p.isPrefixOf s=true→p≠s→Op.bytesLess p s=true
  | [],[],_,h=>absurd rfl h
  | _::_,[],_,_=>rfl
  | [],_::_,h,_=>by simp at h
  | b::s,a::p,h,hn=>by
    rw [List.isPrefixOf,Bool.and_eq_true,beq_iff_eq] at h
    obtain ⟨rfl,h⟩:=h
    have:=Gn.pre_less s p h (fun e=>hn (by rw [e]))
    simp [Op.bytesLess,this]
theorem Gn.list_head : ∀ {q:List Bx.Fl} (_:Bx.Up q) {x:ByteArray} (_:∃ d ∈ q,d.name=x),∃ r,Bx.listL q x=x.data.toList++10::r
  | [],_,_,⟨_,hd,_⟩=>absurd hd List.not_mem_nil
  | a::t,h,x,⟨d,hd,he⟩=>by
    have e0:Bx.listL (a::t) x=Bx.lineL x a++Bx.listL t x:=rfl
    by_cases ha:a.name=x
    · refine ⟨Bx.listL t x, ?_⟩
      have hp:Lib.hasPrefix a.name.data.toList x.data.toList=true:=by rw [ha];unfold Lib.hasPrefix;exact List.isPrefixOf_iff_prefix.2 (List.prefix_refl _)
      rw [e0,Bx.lineL,if_pos hp,ha];simp
    · have hdt:d ∈ t:=by
        rcases List.mem_cons.1 hd with rfl | hd
        · exact absurd he ha
        · exact hd
      obtain ⟨r,hr⟩:=Gn.list_head h.2 ⟨d,hdt,he⟩
      refine ⟨r, ?_⟩
      have hlt:Bx.lt a.name x=true:=by rw [← he];exact h.1 d hdt
      have hnp:¬ Lib.hasPrefix a.name.data.toList x.data.toList=true:=fun hp=>by
        have h1:=Gn.pre_less a.name.data.toList x.data.toList hp (fun e=>ha (ByteArray.ext (Array.toList_inj.1 e.symm)))
        have h2:Bx.lt x a.name=true:=by unfold Bx.lt;rw [ByteArray.toList_eq,ByteArray.toList_eq];exact h1
        rw [Bx.lt_asymm hlt] at h2;cases h2
      rw [e0,Bx.lineL,if_neg hnp,hr];rfl
theorem Gn.list_text {q:List Bx.Fl} (h:Bx.Up q) {x:ByteArray} (hx:∃ d ∈ q,d.name=x) (t:ByteArray) (ht:t=⟨(Bx.listL q x).toArray⟩):x.size < t.size∧t.extract 0 x.size=x∧t.data[x.size]? = some 10:=by
  obtain ⟨r,hr⟩:=Gn.list_head h hx
  have hl:x.data.toList.length=x.size:=by rw [Array.length_toList];rfl
  subst ht
  refine ⟨?_, ?_, ?_⟩
  · show x.size < (Bx.listL q x).toArray.size
    rw [List.size_toArray,hr,List.length_append,hl];simp
  · refine ByteArray.ext (Array.toList_inj.1 ?_)
    rw [ByteArray.data_extract,Array.toList_extract,hr]
    simp [List.extract,hl]
  · show (Bx.listL q x).toArray[x.size]? = some 10
    rw [hr,List.getElem?_toArray,List.getElem?_append_right (by omega),hl];simp
structure Gn.Laid (fs ss q:List Bx.Fl):Prop where
  okp:Bx.ok fs 40=true
  okq:Bx.ok q 40=true
  is:q=Bx.lays fs ss
theorem Gn.lay_zero {fs ss q:List Bx.Fl} (h:Bx.lay fs ss=(q,0)):Gn.Laid fs ss q:=by
  unfold Bx.lay at h
  split at h
  · simp at h
  · rename_i h1
    split at h
    · simp at h
    · rename_i h2
      simp only [not_or,Bool.not_eq_false] at h1
      obtain ⟨a1,a2,a3⟩:=h1
      injection h with h _
      subst h
      exact ⟨a1,Bx.ok_of (by omega) (Bx.lays_up (Bx.ok_up a1) ss) (Bx.lays_good (Bx.ok_good a1) a3),rfl⟩
theorem Gn.see1 {fs:List Bx.Fl} {x:ByteArray} {f:Bx.Fl} (ho:Bx.ok fs 40=true) (h:Bx.look fs x=some f):Bx.seeP fs 1 x=(0,f.text):=by
  unfold Bx.seeP Bx.see;rw [if_pos ho,h];simp
theorem Gn.see2 {fs:List Bx.Fl} {x:ByteArray} {f:Bx.Fl} (ho:Bx.ok fs 40=true) (h:Bx.look fs x=some f):Bx.seeP fs 2 x=(0,⟨#[]⟩):=by
  unfold Bx.seeP Bx.see;rw [if_pos ho,h];simp
theorem Gn.see3 {fs:List Bx.Fl} (x:ByteArray) (ho:Bx.ok fs 40=true):Bx.seeP fs 3 x=(0,⟨(Bx.listL fs x).toArray⟩):=by
  unfold Bx.seeP Bx.see;rw [if_pos ho];simp
theorem Gn.Laid.old {fs ss q:List Bx.Fl} (h:Gn.Laid fs ss q) (i:Nat) (hi:i < fs.length):Bx.seeP fs 1 fs[i].name=(0,fs[i].text):=Gn.see1 h.okp (Bx.look_self (Bx.ok_up h.okp) i hi)
theorem Gn.Laid.kept {fs ss q:List Bx.Fl} (h:Gn.Laid fs ss q) (i:Nat) (hi:i < fs.length) (hn:¬ ∃ d ∈ ss,d.name=fs[i].name):Bx.seeP q 1 fs[i].name=(0,fs[i].text):=Gn.see1 h.okq (by
  rw [h.is,Gn.lays_other ss (Bx.ok_up h.okp) _ (fun d hd e=>hn ⟨d,hd,e⟩)];exact Bx.look_self (Bx.ok_up h.okp) i hi)
theorem Gn.Laid.new {fs ss q:List Bx.Fl} (h:Gn.Laid fs ss q) (j:Nat) (hj:j < ss.length) (hl:∀ k (hk:k < ss.length),j < k→ss[k].name≠ss[j].name):Bx.seeP q 1 ss[j].name=(0,ss[j].text)∧Bx.seeP q 2 ss[j].name=(0,⟨#[]⟩)∧∃ t,Bx.seeP q 3 ss[j].name=(0,t)∧ss[j].name.size < t.size∧t.extract 0 ss[j].name.size=ss[j].name∧t.data[ss[j].name.size]? = some 10:=by
  have hk:=Gn.lays_last ss (Bx.ok_up h.okp) j hj hl
  rw [← h.is] at hk
  refine ⟨Gn.see1 h.okq hk,Gn.see2 h.okq hk,_,Gn.see3 _ h.okq, ?_⟩
  refine Gn.list_text (Bx.ok_up h.okq) ⟨ss[j],Bx.look_in hk,rfl⟩ _ rfl
def Gn.Last (ss:List Bx.Fl) (i k:Nat) (x t:ByteArray):Prop := ∃ j,∃ hj:j < ss.length,i≤j∧j < max k (i+1)∧ss[j].name=x∧ss[j].text=t∧∀ m (hm:m < ss.length),j < m→m < k→ss[m].name≠x
theorem Gn.Last.start {ss:List Bx.Fl} {i:Nat} (hi:i < ss.length):Gn.Last ss i i ss[i].name ss[i].text:=⟨i,hi,Nat.le_refl _,by omega,rfl,rfl,fun m _ h1 h2=>by omega⟩
theorem Gn.Last.same {ss:List Bx.Fl} {i k:Nat} {x t:ByteArray} (h:Gn.Last ss i k x t) (hk:k < ss.length) (hn:ss[k].name≠x):Gn.Last ss i (k+1) x t:=by
  obtain ⟨j,hj,h1,h2,h3,h4,h5⟩:=h
  refine ⟨j,hj,h1,by omega,h3,h4,fun m hm a b => ?_⟩
  by_cases e:m=k
  · subst e;exact hn
  · exact h5 m hm a (by omega)
theorem Gn.Last.next {ss:List Bx.Fl} {i k:Nat} {x t:ByteArray} (_:Gn.Last ss i k x t) (hk:k < ss.length) (hik:i≤k) (hn:ss[k].name=x):Gn.Last ss i (k+1) x ss[k].text:=⟨k,hk,hik,by omega,hn,rfl,fun m _ a b=>by omega⟩
theorem Gn.Last.done {fs ss q:List Bx.Fl} (hL:Gn.Laid fs ss q) {i:Nat} {x t:ByteArray} (h:Gn.Last ss i ss.length x t):Bx.seeP q 1 x=(0,t)∧Bx.seeP q 2 x=(0,⟨#[]⟩)∧∃ l,Bx.seeP q 3 x=(0,l)∧x.size < l.size∧l.extract 0 x.size=x∧l.data[x.size]? = some 10:=by
  obtain ⟨j,hj,_,_,rfl,rfl,h5⟩:=h
  exact hL.new j hj (fun k hk hjk=>h5 k hk hjk hk)
theorem Gn.eqReply (a c:Int) (b d:ByteArray) (w:World):(Op.equalIn 10000 33 (.agg #[.int .i64 a,.string b]) (.agg #[.int .i64 c,.string d])).run Tryz.prog w = .ok (a == c && b.toList == d.toList) w:=by
  have u3:=Tryz.underlying3
  have u9:=Tryz.underlying9
  have hS:Tryz.prog.underlying 33=some (.struct (Tryz.prog.fieldsOf 33)):=by kernel_rfl
  have hp:Tryz.prog.stoodInHeld 33=false:=by kernel_rfl
  rw [show (10000:Nat)=9999+1 from rfl,run_equalIn_agg w 9999 33 _ _ hS hp]
  simp only [Program.fieldsOf,Tryz.underlying33]
  go_simp
  by_cases h1:a=c <;> by_cases h2:b.toList=d.toList <;> simp [h1,h2]
theorem Gn.guardReply : Tryz.prog.eqGuardType Tryz.prog.depth 33=false:=by kernel_rfl
theorem Gn.eqFile (a b:ByteArray) (w:World):(Op.equalIn 10000 36 (.agg #[.string a,.string b]) (.agg #[.string a,.string b])).run Tryz.prog w = .ok true w:=by
  have u9:=Tryz.underlying9
  have hS:Tryz.prog.underlying 36=some (.struct (Tryz.prog.fieldsOf 36)):=by kernel_rfl
  have hp:Tryz.prog.stoodInHeld 36=false:=by kernel_rfl
  rw [show (10000:Nat)=9999+1 from rfl,run_equalIn_agg w 9999 36 _ _ hS hp]
  simp only [Program.fieldsOf,Tryz.underlying36]
  go_simp
theorem Gn.guardFile : Tryz.prog.eqGuardType Tryz.prog.depth 36=false:=by kernel_rfl
theorem Gn.wFiles_same (fs:List Bx.Fl) (va vb:Value) (w:World) (ha:Bx.Off w va fs) (hb:Bx.Off w vb fs) (hl:fs.length≤1048576) :
    Calls Tryz.prog 7 #[va,vb] w fun e w'=>e = .returned (.bool true)∧Below w.heap.size w w':=by
  obtain ⟨a,cap,rfl,hc⟩:=ha
  obtain ⟨b,cbp,rfl,hd⟩:=hb
  obtain ⟨n,HN⟩:∃ n,Hid (fs.length=n):=⟨_,(rfl:fs.length=_)⟩
  have HC:Hid (∀ i (hi:i < fs.length),∃ g o,a=some ⟨g,o,none⟩∧g < w.heap.size∧w.cell? ⟨g,o+i * 2,none⟩=some (.string fs[i].name)∧w.cell? ⟨g,o+i * 2+1,none⟩=some (.string fs[i].text)):=hc
  have HD:Hid (∀ i (hi:i < fs.length),∃ g o,b=some ⟨g,o,none⟩∧g < w.heap.size∧w.cell? ⟨g,o+i * 2,none⟩=some (.string fs[i].name)∧w.cell? ⟨g,o+i * 2+1,none⟩=some (.string fs[i].text)):=hd
  clear hc hd
  rw [HN.out] at hl
  simp only [HN.out]
  have hne:((n:Int) != (n:Int))=false:=by simp
  have hgd:=Gn.guardFile
  go_enter Tryz.func7,Tryz.ntmps7
  go_wp2
  go_loopw [5] (fun t wr => ∃ i:Nat,i≤n∧t = .int .i64 (i:Int)∧Below w.heap.size w wr) (fun t _=>n - (intOf t).toNat)
  case atStart=>exact ⟨0,by omega,rfl,Below.refl _ _⟩
  case round =>
    obtain ⟨i,hi,rfl,hbw⟩:=hrel
    by_cases hlt:i < n
    · have hil:i < fs.length:=by rw [HN.out];exact hlt
      obtain ⟨ga,oa,rfl,hga,hca,hca2⟩:=HC.out i hil
      obtain ⟨gb,ob,rfl,hgb,hcb,hcb2⟩:=HD.out i hil
      have hA:wr.cell? ⟨ga,oa+i * 2,none⟩=some (.string fs[i].name):=by rw [hbw.cell (p:=⟨ga,oa+i * 2,none⟩) hga,hca]
      have hA2:wr.cell? ⟨ga,oa+i * 2+1,none⟩=some (.string fs[i].text):=by rw [hbw.cell (p:=⟨ga,oa+i * 2+1,none⟩) hga,hca2]
      have hB:wr.cell? ⟨gb,ob+i * 2,none⟩=some (.string fs[i].name):=by rw [hbw.cell (p:=⟨gb,ob+i * 2,none⟩) hgb,hcb]
      have hB2:wr.cell? ⟨gb,ob+i * 2+1,none⟩=some (.string fs[i].text):=by rw [hbw.cell (p:=⟨gb,ob+i * 2+1,none⟩) hgb,hcb2]
      generalize fs[i]=d at *
      obtain ⟨da,db⟩:=d
      simp only at hA hA2 hB hB2
      clear hca hcb hca2 hcb2 HC HD
      have hEQ:=fun w=>Gn.eqFile da db w
      go_wp2_with fail
      go_quiet (fail)
      go_wp2
      go_roundw
      case rel=>exact ⟨i+1,by omega,by go_num,Jb.below_drewN _ hbw⟩
      case measure=>simp [intOf];omega
    · clear HC HD
      go_wp2
      go_ret
      exact ⟨rfl,hbw⟩
theorem Gn.Bd.big {N:Nat} {fs:List Bx.Fl} (h:Gn.Bd N fs):∀ d ∈ fs,d.name.size≤1048576∧d.text.size≤1048576:=fun d hd=>⟨Nat.le_trans (h.2 d hd).1 (by decide),Nat.le_trans (h.2 d hd).2 (by decide)⟩
theorem Gn.lay_bd {fs ss L:List Bx.Fl} {C:Int} (h:Bx.lay fs ss=(L,C)) (hf:Gn.Bd 50 fs) (hs:Gn.Bd 50 ss):Gn.Bd 100 L:=by
  unfold Bx.lay at h
  split at h
  · injection h with h _;subst h;exact ⟨Nat.zero_le _,fun d hd=>absurd hd List.not_mem_nil⟩
  · split at h
    · injection h with h _;subst h;exact ⟨Nat.zero_le _,fun d hd=>absurd hd List.not_mem_nil⟩
    · injection h with h _;subst h
      refine ⟨Nat.le_trans (Bx.lays_len fs ss) (by have:=hf.1;have:=hs.1;omega),fun d hd => ?_⟩
      rcases Bx.lays_mem hd with hd | hd
      · exact hf.2 d hd
      · exact hs.2 d hd
theorem Gn.lay_i {fs ss L:List Bx.Fl} {C:Int} (h:Hid (Bx.lay fs ss=(L,C))) (hf:Gn.Bd 50 fs) (hs:Gn.Bd 50 ss):Hid (∀ w v u,Bx.Off w v fs→Bx.Off w u ss→Calls Tryz.prog 5 #[.agg #[v],u] w (Bx.LayPost L C w)):=fun w v u h1 h2=>by
  have:=Bx.implLay_any fs ss v u w (by have:=hf.1;omega) hf.big (by have:=hs.1;omega) hs.big h1 h2
  rw [h.out] at this;exact this
theorem Gn.lay_s {fs ss L:List Bx.Fl} {C:Int} (h:Hid (Bx.lay fs ss=(L,C))) (hf:Gn.Bd 50 fs) (hs:Gn.Bd 50 ss):Hid (∀ w v u,Bx.Off w v fs→Bx.Off w u ss→Calls Tryz.prog 6 #[.agg #[v],u] w (Bx.LayPost L C w)):=fun w v u h1 h2=>by
  have:=Bx.specLay_any fs ss v u w (by have:=hf.1;omega) hf.big (by have:=hs.1;omega) hs.big h1 h2
  rw [h.out] at this;exact this
structure Gn.Pz (W:World) (bp bq:Nat) (pv qv sv:Value) (fs ss L:List Bx.Fl):Prop where
  p:W.cell? ⟨bp,0,none⟩=some pv
  q:W.cell? ⟨bq,0,none⟩=some qv
  lp:bp < W.heap.size
  lq:bq < W.heap.size
  fp:Bx.Off W pv fs
  fq:Bx.Off W qv L
  fs:Bx.Off W sv ss
theorem Gn.Pz.below {W W':World} {bp bq:Nat} {pv qv sv:Value} {fs ss L:List Bx.Fl} (h:Gn.Pz W bp bq pv qv sv fs ss L) (hb:Below W.heap.size W W'):Gn.Pz W' bp bq pv qv sv fs ss L :=
  ⟨by rw [hb.cell (p:=⟨bp,0,none⟩) h.lp];exact h.p,by rw [hb.cell (p:=⟨bq,0,none⟩) h.lq];exact h.q,Nat.lt_of_lt_of_le h.lp hb.size,Nat.lt_of_lt_of_le h.lq hb.size,h.fp.below hb,h.fq.below hb,h.fs.below hb⟩
theorem Gn.new1 (w:World) (v:Value) (t:TypeId):(w.alloc (.cells #[v] t)).cell? ⟨w.heap.size,0,none⟩=some v:=Bx.row1 (Below.refl _ _)
theorem Gn.up1 (w:World) (o:Obj):Below w.heap.size w (w.alloc o):=(Below.refl _ w).alloc (Nat.le_refl _) o
theorem Gn.lt1 (w:World) (o:Obj):w.heap.size < (w.alloc o).heap.size:=by simp
theorem Gn.bl {a b c:World} {A B:Nat} (h1:Below A a b) (h2:Below B b c) (h:A≤B):Below A a c:=h1.trans (h2.mono h)
theorem Gn.Bd.le {fs:List Bx.Fl} {N pn:Nat} {w:World} {a:Option Addr} {c:Nat} (h:Gn.Bd N fs) (ho:Bx.Off w (.slice a pn c) fs):pn=fs.length∧pn≤N:=by
  obtain ⟨p,k,e⟩:=ho.slice
  injection e with _ e _
  exact ⟨e,by rw [e];exact h.1⟩
theorem Gn.pz_mk {w1 w2:World} {pv qv sv:Value} {fs ss L:List Bx.Fl} {B:Nat} {t u:TypeId} (hfp:Bx.Off w1 pv fs) (hfs:Bx.Off w1 sv ss) (hb:Below (w1.alloc (.cells #[pv] t)).heap.size (w1.alloc (.cells #[pv] t)) w2) (ho:w2.ownsRow B 36 2 qv L.length (Bx.fCs L)):Gn.Pz (w2.alloc (.cells #[qv] u)) w1.heap.size w2.heap.size pv qv sv fs ss L:=by
  have h0:w2.cell? ⟨w1.heap.size,0,none⟩=some pv:=by rw [hb.cell (p:=⟨w1.heap.size,0,none⟩) (Gn.lt1 _ _)];exact Gn.new1 _ _ _
  have hl:w1.heap.size < w2.heap.size:=Nat.lt_of_lt_of_le (Gn.lt1 _ _) hb.size
  have hk:=Gn.up1 w2 (.cells #[qv] u)
  exact ⟨by rw [hk.cell (p:=⟨w1.heap.size,0,none⟩) hl];exact h0,Gn.new1 _ _ _,Nat.lt_trans hl (Gn.lt1 _ _),Gn.lt1 _ _,((hfp.below (Gn.up1 _ _)).below hb).below hk,(Bx.own_off ho).below hk,((hfs.below (Gn.up1 _ _)).below hb).below hk⟩
theorem Gn.lay_no {fs ss L:List Bx.Fl} {C:Int} (h:Hid (Bx.lay fs ss=(L,C))) (hC:C≠0):L.length=0:=by
  have h:=h.out
  unfold Bx.lay at h
  split at h
  · injection h with h _;subst h;rfl
  · split at h
    · injection h with h _;subst h;rfl
    · injection h with _ h;exact absurd h.symm hC
theorem Gn.see_i {fs:List Bx.Fl} {N:Nat} (hN:N≤1000) (h:Gn.Bd N fs) (k:Int) (x:ByteArray) (hx:x.size≤1048576) (rc:Int) (rt:ByteArray) (hr:Bx.seeP fs k x=(rc,rt)) (w:World) (v:Value) (ho:Bx.Off w v fs):Calls Tryz.prog 9 #[.agg #[v],.int .i64 k,.string x] w fun e w'=>e = .returned (.agg #[.int .i64 rc,.string rt])∧Below w.heap.size w w':=by
  have:=Bx.implSee_any fs v k x w (by have:=h.1;omega) h.big hx ho
  rw [hr] at this;exact this
theorem Gn.laid_of {fs ss L:List Bx.Fl} {C:Int} (h:Hid (Bx.lay fs ss=(L,C))) (hC0:(C != 0)=false):Hid (Gn.Laid fs ss L):=Gn.lay_zero (h.out.trans (by rw [show C=0 by simpa using hC0]))
theorem Gn.rep_cells {w w2:World} (hb:Below (w.alloc (.cells #[.int .i64 0,.string ⟨#[]⟩] 33)).drew.heap.size (w.alloc (.cells #[.int .i64 0,.string ⟨#[]⟩] 33)).drew w2):w2.cell? ⟨w.heap.size,0,none⟩=some (.int .i64 0)∧w2.cell? ⟨w.heap.size,1,none⟩=some (.string ⟨#[]⟩)∧w2.frozen? ⟨w.heap.size,0,none⟩=false∧w2.frozen? ⟨w.heap.size,1,none⟩=false:=by
  have h1:w2.heap[w.heap.size]? = some (.cells #[.int .i64 0,.string ⟨#[]⟩] 33):=(hb.block w.heap.size (Gn.lt1 _ _)).trans (MapKept.heap_alloc w _).1
  exact ⟨by simp [World.cell?,h1],by simp [World.cell?,h1],by simp [World.frozen?,h1],by simp [World.frozen?,h1]⟩
theorem Gn.rep_new (w:World) (c:Int) (t:ByteArray) (ty:TypeId):(w.alloc (.cells #[.int .i64 c,.string t] ty)).cell? ⟨w.heap.size,0,none⟩=some (.int .i64 c)∧(w.alloc (.cells #[.int .i64 c,.string t] ty)).cell? ⟨w.heap.size,1,none⟩=some (.string t):=by
  have h1:=(MapKept.heap_alloc w (.cells #[.int .i64 c,.string t] ty)).1
  exact ⟨by unfold World.cell?;simp only [h1];rfl,by unfold World.cell?;simp only [h1];rfl⟩
theorem Gn.rep_set {w w2:World} (hb:Below (w.alloc (.cells #[.int .i64 0,.string ⟨#[]⟩] 33)).drew.heap.size (w.alloc (.cells #[.int .i64 0,.string ⟨#[]⟩] 33)).drew w2) (c:Int) (t:ByteArray):((w2.setCell ⟨w.heap.size,0,none⟩ (.int .i64 c)).setCell ⟨w.heap.size,1,none⟩ (.string t)).cell? ⟨w.heap.size,0,none⟩=some (.int .i64 c)∧((w2.setCell ⟨w.heap.size,0,none⟩ (.int .i64 c)).setCell ⟨w.heap.size,1,none⟩ (.string t)).cell? ⟨w.heap.size,1,none⟩=some (.string t):=by
  have h1:w2.heap[w.heap.size]? = some (.cells #[.int .i64 0,.string ⟨#[]⟩] 33):=(hb.block w.heap.size (Gn.lt1 _ _)).trans (MapKept.heap_alloc w _).1
  have h2:((w2.setCell ⟨w.heap.size,0,none⟩ (.int .i64 c)).setCell ⟨w.heap.size,1,none⟩ (.string t)).heap[w.heap.size]? = some (.cells #[.int .i64 c,.string t] 33):=by
    simp only [World.setCell,Array.getElem?_modify,h1,if_true,Option.map_some];rfl
  exact ⟨by unfold World.cell?;simp only [h2];rfl,by unfold World.cell?;simp only [h2];rfl⟩
theorem Gn.cut_text {l nm:ByteArray} (h1:nm.size < l.size) (h2:l.extract 0 nm.size=nm) (w:World):(Instr.slice 9 (.string l) none (some (.int .i64 (nm.size:Int))) none).run Tryz.prog w = .ok (.string nm) w:=by
  rw [run_slice_string_to_if w 9 l .i64 _ Tryz.underlying9,if_pos ⟨by omega,by omega⟩,Int.toNat_natCast,h2]
theorem Gn.at_text {l nm:ByteArray} (h1:nm.size < l.size) (h2:l.data[nm.size]? = some 10) (w:World):(Instr.index 9 (.string l) (.int .i64 (nm.size:Int))).run Tryz.prog w = .ok (.int .u8 10) w:=by
  rw [run_index_string w 9 l .i64 _ Tryz.underlying9]
  rw [dif_pos ⟨by omega,by omega⟩]
  obtain ⟨_,h3⟩:=Array.getElem?_eq_some_iff.1 h2
  have h4:(l[nm.size]'h1).toNat=10:=by rw [show l[nm.size]'h1=l.data[nm.size] from rfl,h3];rfl
  simp only [Int.toNat_natCast,h4];rfl
theorem Gn.valid_i {fs ss L:List Bx.Fl} {C:Int} (h:Hid (Bx.lay fs ss=(L,C))) (hC0:(C != 0)=false) (hb:Gn.Bd 100 L) (w:World) (v:Value) (ho:Bx.Off w v L):Calls Tryz.prog 8 #[.agg #[v]] w fun e w'=>e = .returned (.bool true)∧Below w.heap.size w w':=by
  have hC:C=0:=by simpa using hC0
  have hL:=Gn.lay_zero (h.out.trans (by rw [hC]))
  have:=Bx.implPlace_any L v w (by have:=hb.1;omega) hb.big ho
  rw [hL.okq] at this;exact this
end Go.Proofs.YtkikhpppkpelfaaGreat
