import Derived.Test.YtkikhpppkpelfaaGreatKTk
import Derived.Test.YtkikhpppkpelfaaGreatKLayA
import Derived.Test.YtkikhpppkpelfaaGreatKBoxD
import Derived.Maps.AppendAt
import Derived.Deep.RegionHeld3
set_option maxRecDepth 100000
set_option maxHeartbeats 2000000
namespace Go.Proofs.YtkikhpppkpelfaaGreat
open Go.RowKit
theorem Bx.run_append_zero {P:Program} {w:World} (base:Nat) (t ty e:TypeId) (i:TypeInfo) (size:Nat) (ht:P.underlying t=some (.slice e)) (hi:P.info? e=some i) (v:Value) (n:Nat) (xs:List Value) (hown:w.ownsRow base e size v n xs) (ao:Option Addr) (c:Nat) :
    (Builtin.append_ #[t,t] ty #[v,.slice ao 0 c]).run P w = .ok v w:=by
  rcases hown.2 with ⟨rfl,rfl⟩ | ⟨g,cap,cur,rfl,_,_,hnc,_⟩
  · cases ao <;> simp [Builtin.append_,run_underlying ht,sizeOf,typeInfo,hi,Builtin.lenOf,Builtin.firstCells,loadCells,loadCellsFrom]
  · cases ao <;> simp [Builtin.append_,run_underlying ht,sizeOf,typeInfo,hi,Builtin.lenOf,Builtin.firstCells,hnc,storeCells,loadCells,loadCellsFrom]
theorem Bx.fCs_ones {xs:List Bx.Fl}:∀ u ∈ Bx.fCs xs,u.oneCell'=true:=by
  intro u hu
  unfold Bx.fCs at hu
  obtain ⟨z,_,hz⟩:=List.mem_flatMap.1 hu
  simp [Bx.fC] at hz
  rcases hz with rfl | rfl <;> rfl
theorem Bx.fCs_app (a b:List Bx.Fl):Bx.fCs (a++b)=Bx.fCs a++Bx.fCs b:=by unfold Bx.fCs;rw [List.flatMap_append]
theorem Bx.run_append_files {P:Program} {w:World} (base:Nat) (t ty e:TypeId) (i:TypeInfo) (z:Value) (ht:P.underlying t=some (.slice e)) (hi:P.info? e=some i) (hz:i.zero=some z) (hsize:i.size=2) (hby:i.bytes=32) (hzs:z.cells.size=2)
    (v:Value) (n:Nat) (xs:List Bx.Fl) (hown:w.ownsRow base e 2 v n (Bx.fCs xs)) (src:Value) (news:List Bx.Fl) (hsrc:Bx.Off w src news) (hsmall:n+news.length≤1048576) (hbase:base≤w.heap.size) :
    ∃ v' w',(Builtin.append_ #[t,t] ty #[v,src]).run P w = .ok v' w'∧w'.ownsRow base e 2 v' (n+news.length) (Bx.fCs (xs++news))∧w.grownBy w' v.ownBlock:=by
  obtain ⟨ao,c,rfl,hc⟩:=hsrc
  by_cases h0:news.length=0
  · have hn:news=[]:=List.eq_nil_of_length_eq_zero h0
    subst hn
    refine ⟨v,w,Bx.run_append_zero base t ty e i 2 ht hi v n _ hown ao c, ?_,⟨rfl,rfl,rfl,Nat.le_refl _,fun _ _ _=>rfl⟩⟩
    simpa using hown
  · obtain ⟨g,o,rfl,_,_,_⟩:=hc 0 (by omega)
    obtain ⟨v',w',h1,h2,h3,_⟩:=run_append_own_at (P:=P) (w:=w) base t ty e i z 2 32 ht hi hz hsize hby hzs (by decide) v n (Bx.fCs xs) hown ⟨g,o,none⟩ news.length c (Bx.fCs news) (Bx.fCs_length news) (fun j u hu=>by
      have hj:j < news.length * 2:=by have h:=(List.getElem?_eq_some_iff.1 hu).1;rw [Bx.fCs_length] at h;exact h
      obtain ⟨g2,o2,e2,_,hc1,hc2⟩:=hc (j / 2) (by omega)
      injection e2 with e2;injection e2 with e3 e4
      subst e3 e4
      have hadd:(Addr.add ⟨g,o,none⟩ j)=⟨g,o+j,none⟩:=by unfold Addr.add;split <;> simp_all
      rw [hadd]
      obtain ⟨a1,a2⟩:=Bx.fCs_at news (j / 2) (by omega)
      rcases Nat.mod_two_eq_zero_or_one j with e | e
      · have ej:j / 2 * 2=j:=by omega
        rw [ej] at hc1 a1;rw [hc1,← a1];exact hu
      · have ej:j / 2 * 2+1=j:=by omega
        rw [Nat.add_assoc,ej] at hc2;rw [ej] at a2;rw [hc2,← a2];exact hu) Bx.fCs_ones (by unfold maxLen;omega) (by omega) hbase
    exact ⟨v',w',h1,by rw [Bx.fCs_app];exact h2,h3⟩
theorem Bx.wp_append_files {P:Program} {w:World} {ops:Array Oper} {rest:List Oper} {o:Oper} {a:Act} {Q:Exit→Act→World→Prop} (hgd:o.guard=none) (s x:Operand) (t:TypeId)
    (ho:o.op = .call { callee:=.builtin .append,args := #[s,x],argTypes := #[t,t] }) (base:Nat) (e:TypeId) (i:TypeInfo) (z:Value) (ht:P.underlying t=some (.slice e)) (hi:P.info? e=some i) (hz:i.zero=some z) (hsize:i.size=2) (hby:i.bytes=32) (hzs:z.cells.size=2)
    (v:Value) (n:Nat) (xs:List Bx.Fl) (hs:a.eval s=v) (hown:w.ownsRow base e 2 v n (Bx.fCs xs)) (src:Value) (hx:a.eval x=src) (news:List Bx.Fl) (hsrc:Bx.Off w src news) (hsmall:n+news.length≤1048576) (hbase:base≤w.heap.size)
    (h:∀ v' w',w'.ownsRow base e 2 v' (n+news.length) (Bx.fCs (xs++news))→w.grownBy w' v.ownBlock→wpList P ops Q rest (a.put o.dst v') w') :
    wpList P ops Q (o::rest) a w:=by
  refine wpList_plain hgd fun K hK => ?_
  obtain ⟨v',w',hr,h2,h3⟩:=Bx.run_append_files (P:=P) (w:=w) base t o.type e i z ht hi hz hsize hby hzs v n xs hown src news hsrc hsmall hbase
  unfold Oper.wp execOp
  simp only [ho,resolve,invoke,builtin,Sem.run_bind,Sem.run_pure,Result.andThen_ok,List.map_toArray,List.map_cons,List.map_nil,hs,hx,hr]
  exact hK _ _ (h v' w' h2 h3)
def Bx.lays (fs ss:List Bx.Fl):List Bx.Fl:=ss.foldl Bx.put fs
def Bx.lay (fs ss:List Bx.Fl):List Bx.Fl × Int:=if Bx.ok fs 40=false∨40 < ss.length∨ss.all Bx.good=false then ([],1) else if 40 < (Bx.lays fs ss).length then ([],2) else (Bx.lays fs ss,0)
theorem Bx.lays_up {fs:List Bx.Fl} (h:Bx.Up fs) (ss:List Bx.Fl):Bx.Up (Bx.lays fs ss):=by
  unfold Bx.lays
  induction ss generalizing fs with
  | nil=>exact h
  | cons a r ih=>exact ih (Bx.up_put h a)
theorem Bx.lays_next (fs ss:List Bx.Fl) (i:Nat) (hi:i < ss.length):Bx.lays fs (ss.take (i+1))=Bx.put (Bx.lays fs (ss.take i)) ss[i]:=by
  unfold Bx.lays;rw [List.take_add_one,List.getElem?_eq_getElem hi,List.foldl_append];rfl
theorem Bx.lays_len (fs ss:List Bx.Fl):(Bx.lays fs ss).length≤fs.length+ss.length:=by
  unfold Bx.lays
  induction ss generalizing fs with
  | nil=>simp
  | cons a r ih =>
    have h1:=ih (Bx.put fs a)
    have h2:=Bx.put_len (fs:=fs) a
    simp only [List.foldl_cons,List.length_cons] at h1 ⊢;omega
theorem Bx.lays_good {fs:List Bx.Fl} (hg:∀ f ∈ fs,Bx.good f=true) {ss:List Bx.Fl} (hs:ss.all Bx.good=true):∀ f ∈ Bx.lays fs ss,Bx.good f=true:=by
  unfold Bx.lays
  induction ss generalizing fs with
  | nil=>exact hg
  | cons a r ih =>
    rw [List.all_cons,Bool.and_eq_true] at hs
    refine ih (fun f hf => ?_) hs.2
    rcases Bx.put_mem hf with rfl | hf
    · exact hs.1
    · exact hg f hf
def Bx.LayPost (L:List Bx.Fl) (c:Int) (w:World) (e:Ending) (w':World):Prop := ∃ a k,e = .returned (.tuple #[.agg #[.slice a L.length k],.int .i64 c])∧w'.ownsRow w.heap.size 36 2 (.slice a L.length k) L.length (Bx.fCs L)∧Below w.heap.size w w'
theorem Bx.LayPost.none {c:Int} {w w':World} (h:Below w.heap.size w w'):Bx.LayPost [] c w (.returned (.tuple #[.agg #[.slice none 0 0],.int .i64 c])) w':=⟨Option.none,0,rfl,⟨rfl,.inl ⟨rfl,rfl⟩⟩,h⟩
theorem Bx.res_cell {w w2:World} {o:Obj} {v:Value} {t:TypeId} (hb:Below (w.heap.size+1+1) ((w.alloc o).alloc (.cells #[v] t)) w2):w2.cell? ⟨w.heap.size+1,0,none⟩=some v∧w2.frozen? ⟨w.heap.size+1,0,none⟩=false:=by
  have h0:=(MapKept.heap_alloc (w.alloc o) (.cells #[v] t)).1
  rw [World.size_alloc] at h0
  have h1:=(hb.block (w.heap.size+1) (by omega)).trans h0
  exact ⟨by simp [World.cell?,h1],by simp [World.frozen?,h1]⟩
theorem Bx.place_cell0 {w w2:World} {v:Value} {o:Obj} {t:TypeId} (hb:Below (w.heap.size+1+1) ((w.alloc (.cells #[v] t)).alloc o) w2):w2.cell? ⟨w.heap.size,0,none⟩=some v:=by
  have h0:=(((Below.refl _ (w.alloc (.cells #[v] t))).alloc (Nat.le_refl _) o).block w.heap.size (by simp))
  have h1:=hb.block w.heap.size (by omega)
  rw [h0,(MapKept.heap_alloc w _).1] at h1
  simp [World.cell?,h1]
theorem Bx.specLay_any (fs ss:List Bx.Fl) (v u:Value) (w:World) (hn:fs.length≤1048576) (hx:∀ d ∈ fs,d.name.size≤1048576∧d.text.size≤1048576) (hm:ss.length≤1048576) (hy:∀ d ∈ ss,d.name.size≤1048576∧d.text.size≤1048576) (hN:Bx.Off w v fs) (hS:Bx.Off w u ss) :
    Calls Tryz.prog 6 #[.agg #[v],u] w (Bx.LayPost (Bx.lay fs ss).1 (Bx.lay fs ss).2 w):=by
  have HV:Hid (∀ b w1,Bx.ok fs 40=b→Bx.Off w1 v fs→Calls Tryz.prog 23 #[.agg #[v]] w1 fun e w'=>e = .returned (.bool b)∧Below w1.heap.size w1 w'):=fun b w1 hb h=>by
    have:=Bx.specPlace_any fs v w1 hn hx h
    rw [hb] at this;exact this
  have HN:Hid (∀ W,Below w.heap.size w W→Bx.Off W v fs):=fun W hW=>hN.below hW
  obtain ⟨p,cap,rfl⟩:=hN.slice
  obtain ⟨p2,cap2,rfl,hc⟩:=hS
  have HC:Hid (∀ i (hi:i < ss.length),∃ g o,p2=some ⟨g,o,none⟩∧g < w.heap.size∧w.cell? ⟨g,o+i * 2,none⟩=some (.string ss[i].name)∧w.cell? ⟨g,o+i * 2+1,none⟩=some (.string ss[i].text)):=hc
  clear hc
  have hal:∀ o1 o2:Obj,Below w.heap.size w ((w.alloc o1).alloc o2):=fun o1 o2=>((Below.refl _ w).alloc (Nat.le_refl _) o1).alloc (by simp) o2
  cases hok:Bx.ok fs 40 with
  | false =>
    have HR:Hid (Bx.lay fs ss=([],1)):=by rw [Hid,Bx.lay,if_pos (.inl hok)]
    have HVV:Hid (∀ w1,Bx.Off w1 (.slice p fs.length cap) fs→Calls Tryz.prog 23 #[.agg #[.slice p fs.length cap]] w1 fun e w'=>e = .returned (.bool false)∧Below w1.heap.size w1 w'):=fun w1 h=>HV.out false w1 hok h
    rw [HR.out]
    clear HV hok hx hn hN HR HC
    generalize ss.length=m at *
    revert HVV HN
    generalize fs.length=n
    intro HN HVV
    go_enter Tryz.func6,Tryz.ntmps6
    go_wp2_with (go_at_call 23;refine (HVV.out _ (HN.out _ (hal _ _))).mono ?_;rintro e w2 ⟨rfl,hb2⟩;simp only [World.size_alloc] at hb2;have HB:Below w.heap.size w w2:=(hal _ _).trans (hb2.mono (by omega));obtain ⟨r0,r1⟩:=Bx.res_cell hb2)
    exact bodyPost_ret (v:=.tuple #[.agg #[.slice none 0 0],.int .i64 1]) (by simp [results,Tryz.results6,go_sem,r0]) rfl (Bx.LayPost.none (HB.setCell (p:=⟨w.heap.size+1,0,none⟩) (by simp only;omega) _))
  | true =>
    have hu:=Bx.ok_up hok
    have hl:=Bx.ok_len hok
    have HVV:Hid (∀ w1,Bx.Off w1 (.slice p fs.length cap) fs→Calls Tryz.prog 23 #[.agg #[.slice p fs.length cap]] w1 fun e w'=>e = .returned (.bool true)∧Below w1.heap.size w1 w'):=fun w1 h=>HV.out true w1 hok h
    obtain ⟨m,HM⟩:∃ m,Hid (ss.length=m):=⟨_,(rfl:ss.length=_)⟩
    obtain ⟨n,HNN⟩:∃ n,Hid (fs.length=n):=⟨_,(rfl:fs.length=_)⟩
    rw [HM.out] at hm
    rw [HNN.out] at hl
    simp only [HM.out]
    simp only [HNN.out] at HVV HN ⊢
    clear HV
    by_cases hmm:40 < m
    · have HR:Hid (Bx.lay fs ss=([],1)):=by rw [Hid,Bx.lay,if_pos (.inr (.inl (by rw [HM.out];exact hmm)))]
      rw [HR.out]
      clear hx hN HR HC hok
      have hmm2:decide ((40:Int) < (m:Int))=true:=by simp;omega
      go_enter Tryz.func6,Tryz.ntmps6
      go_wp2_with (go_at_call 23;refine (HVV.out _ (HN.out _ (hal _ _))).mono ?_;rintro e w2 ⟨rfl,hb2⟩;simp only [World.size_alloc] at hb2;have HB:Below w.heap.size w w2:=(hal _ _).trans (hb2.mono (by omega));obtain ⟨r0,r1⟩:=Bx.res_cell hb2)
      exact bodyPost_ret (v:=.tuple #[.agg #[.slice none 0 0],.int .i64 1]) (by simp [results,Tryz.results6,go_sem,r0]) rfl (Bx.LayPost.none (HB.setCell (p:=⟨w.heap.size+1,0,none⟩) (by simp only;omega) _))
    · obtain ⟨i0,hi0,hz0,hz1,hz2⟩:=info_parts Tryz.infoFile
      have hmm2:decide ((40:Int) < (m:Int))=false:=by simp;omega
      have HPU0:Hid (∀ (L:List Bx.Fl) (u:Value) x t W,Bx.Up L→L.length≤1000→Bx.Off W u L→Calls Tryz.prog 25 #[u,.string x,.string t] W fun e w' => ∃ a c,e = .returned (.slice a (Bx.put L ⟨x,t⟩).length c)∧w'.ownsRow W.heap.size 36 2 (.slice a (Bx.put L ⟨x,t⟩).length c) (Bx.put L ⟨x,t⟩).length (Bx.fCs (Bx.put L ⟨x,t⟩))∧Below W.heap.size W w'):=fun L u x t W h1 h2 h3=>Bx.l6put_any L h1 u x t W h2 h3
      have HPA:Hid (∀ x:ByteArray,x.size≤1048576→∀ W,Calls Tryz.prog 24 #[.string x] W fun e w'=>e = .returned (.bool (Jb.name x))∧W=w'):=fun x hx W=>Jb.path_any x hx W
      have HU:Hid (Bx.Up fs):=hu
      have HOK:Hid (Bx.ok fs 40=true):=hok
      clear hx hN hok hu
      go_enter Tryz.func6,Tryz.ntmps6
      go_wp2_with (first | (go_at_call 23;refine (HVV.out _ (HN.out _ (hal _ _))).mono ?_;rintro e w2 ⟨rfl,hb2⟩;simp only [World.size_alloc] at hb2;have p0:=Bx.place_cell0 hb2;have hbw2:Below w.heap.size w w2:=(hal _ _).trans (hb2.mono (by omega));have hz2w:w.heap.size+1+1≤w2.heap.size:=(by have:=hb2.size;simpa using this);have hal2:Below w2.heap.size w2 (w2.alloc (.cells #[] 36)):=(Below.refl _ _).alloc (Nat.le_refl _) _;have p1:=Bx.row1n p0 (by omega) hal2) | (at_builtin;refine Bx.wp_append_files rfl _ _ 23 rfl (w.heap.size+1+1) 36 i0 (.agg #[.string ByteArray.empty,.string ByteArray.empty]) Tryz.underlying23 hi0 hz0 hz1 hz2 rfl _ 0 [] rfl (Bx.own_mono (Bx.row_nil w2) hz2w) _ rfl fs (HN.out _ (hbw2.trans (hal2.mono hbw2.size))) (by rw [HNN.out];omega) (by simp;omega) ?_;intro v3 w3 hown3 hg3;rw [HNN.out,Nat.zero_add,List.nil_append] at hown3;obtain ⟨a3,c3,hv3⟩:=Bx.rowLen hown3;subst hv3;have hb3:Below (w.heap.size+1+1) _ w3:=(hb2.alloc hz2w (.cells #[] 36)).grown hg3 (by simp;omega) (Bx.row_block (Bx.own_mono (Bx.row_nil w2) hz2w))))
      go_loopw [6,7] (fun t6 t7 wr => ∃ (i om oc:Nat) (oa:Option Addr),i≤m∧t6 = .slice oa om oc∧t7 = .int .i64 (i:Int)∧(Bx.lays fs (ss.take i)).length=om∧(∀ j (hj:j < ss.length),j < i→Bx.good ss[j]=true)∧wr.ownsRow (w.heap.size+1+1) 36 2 (.slice oa om oc) om (Bx.fCs (Bx.lays fs (ss.take i)))∧Below (w.heap.size+1+1) ((w.alloc (.cells #[.slice p n cap] 25)).alloc (.cells #[.slice none 0 0] 25)) wr) (fun _ t7 _=>m - (intOf t7).toNat)
      case atStart=>exact ⟨0,n,c3,a3,by omega,rfl,rfl,HNN.out,fun j _ hj=>by omega,hown3,hb3⟩
      case round =>
        obtain ⟨i,om,oc,oa,hi,rfl,rfl,hol,hgd,hown,hbr⟩:=hrel
        have HGD:Hid (∀ j (hj:j < ss.length),j < i→Bx.good ss[j]=true):=hgd
        have HOW:Hid (wr.ownsRow (w.heap.size+1+1) 36 2 (.slice oa om oc) om (Bx.fCs (Bx.lays fs (ss.take i)))):=hown
        have HOL:Hid ((Bx.lays fs (ss.take i)).length=om):=hol
        have hom:om≤80:=by
          have h1:=Bx.lays_len fs (ss.take i)
          rw [hol,HNN.out,List.length_take] at h1;omega
        clear hgd hown hol hown3 hb3 hg3
        have hbw:Below w.heap.size w wr:=(hal _ _).trans (hbr.mono (by omega))
        have hzr:w.heap.size+1+1≤wr.heap.size:=by have:=hbr.size;simpa using this
        obtain ⟨r0,r1⟩:=Bx.res_cell hbr
        by_cases hlt:i < m
        · have hil:i < ss.length:=by rw [HM.out];exact hlt
          obtain ⟨g2,o2,rfl,hg2,k0,k1⟩:=HC.out i hil
          have e0:wr.cell? ⟨g2,o2+i * 2,none⟩=some (.string ss[i].name):=by rw [hbw.cell (p:=⟨g2,o2+i * 2,none⟩) hg2,k0]
          have e1:wr.cell? ⟨g2,o2+i * 2+1,none⟩=some (.string ss[i].text):=by rw [hbw.cell (p:=⟨g2,o2+i * 2+1,none⟩) hg2,k1]
          obtain ⟨hyd,hyt⟩:=hy ss[i] (List.getElem_mem hil)
          have HBAD:Hid (Bx.good ss[i]=false→Bx.lay fs ss=([],1)):=fun hb=>by
            have hall:ss.all Bx.good=false:=by rw [List.all_eq_false];exact ⟨ss[i],List.getElem_mem hil,by simp [hb]⟩
            rw [Bx.lay,if_pos (.inr (.inr hall))]
          clear k0 k1 HC
          cases hnm:Jb.name ss[i].name with
          | false =>
            have HR:Hid (Bx.lay fs ss=([],1)):=HBAD.out (by unfold Bx.good;rw [hnm];rfl)
            have HPP:=HPA.out ss[i].name hyd wr
            rw [hnm] at HPP
            have HPQ:Hid (Calls Tryz.prog 24 #[.string ss[i].name] wr fun e w'=>e = .returned (.bool false)∧wr=w'):=HPP
            rw [HR.out]
            have HB:=hbw
            clear HPP hnm HBAD
            generalize ss[i]=d at *
            go_wp2_with (go_at_call 24;refine HPQ.out.mono ?_;rintro e w4 ⟨rfl,rfl⟩)
            exact bodyPost_ret (v:=.tuple #[.agg #[.slice none 0 0],.int .i64 1]) (by simp [results,Tryz.results6,go_sem,r0]) rfl (Bx.LayPost.none (HB.setCell (p:=⟨w.heap.size+1,0,none⟩) (by simp only;omega) _))
          | true =>
            have HPP:=HPA.out ss[i].name hyd wr
            rw [hnm] at HPP
            have HPQ:Hid (Calls Tryz.prog 24 #[.string ss[i].name] wr fun e w'=>e = .returned (.bool true)∧wr=w'):=HPP
            by_cases hT:(ss[i].text.size:Int)≤3000
            · have HG2:Hid (∀ j (hj:j < ss.length),j < i+1→Bx.good ss[j]=true):=fun j hj hji=>by
                by_cases e:j=i
                · subst e;unfold Bx.good;rw [hnm];simpa using hT
                · exact HGD.out j hj (by omega)
              have hT2:decide ((3000:Int) < (ss[i].text.size:Int))=false:=by simpa using hT
              have hT4:¬ (3000 < ss[i].text.size):=by omega
              obtain ⟨pl,HPL⟩:∃ pl,Hid ((Bx.put (Bx.lays fs (ss.take i)) ⟨ss[i].name,ss[i].text⟩).length=pl):=⟨_,(rfl:(Bx.put (Bx.lays fs (ss.take i)) ⟨ss[i].name,ss[i].text⟩).length=_)⟩
              have HNX:Hid (Bx.lays fs (ss.take (i+1))=Bx.put (Bx.lays fs (ss.take i)) ⟨ss[i].name,ss[i].text⟩):=Bx.lays_next fs ss i hil
              have HPU:Hid (∀ W,Below wr.heap.size wr W→Calls Tryz.prog 25 #[.slice oa om oc,.string ss[i].name,.string ss[i].text] W fun e w' => ∃ a c,e = .returned (.slice a (Bx.put (Bx.lays fs (ss.take i)) ⟨ss[i].name,ss[i].text⟩).length c)∧w'.ownsRow W.heap.size 36 2 (.slice a (Bx.put (Bx.lays fs (ss.take i)) ⟨ss[i].name,ss[i].text⟩).length c) (Bx.put (Bx.lays fs (ss.take i)) ⟨ss[i].name,ss[i].text⟩).length (Bx.fCs (Bx.put (Bx.lays fs (ss.take i)) ⟨ss[i].name,ss[i].text⟩))∧Below W.heap.size W w'):=fun W hW=>HPU0.out _ _ _ _ W (Bx.lays_up HU.out _) (by rw [HOL.out];omega) (by have h:=Bx.own_off (fs:=Bx.lays fs (ss.take i)) (by rw [HOL.out];exact HOW.out);exact h.below hW)
              have HSC:Hid (∀ W,Below wr.heap.size wr W→W.cell? ⟨g2,o2+i * 2,none⟩=some (.string ss[i].name)∧W.cell? ⟨g2,o2+i * 2+1,none⟩=some (.string ss[i].text)):=fun W hW=>⟨by rw [hW.cell (p:=⟨g2,o2+i * 2,none⟩) (by simp only;omega)];exact e0,by rw [hW.cell (p:=⟨g2,o2+i * 2+1,none⟩) (by simp only;omega)];exact e1⟩
              clear HPP hnm HBAD hT HGD
              generalize ss[i]=d at *
              go_upto_region 9 with (go_at_call 24;refine HPQ.out.mono ?_;rintro e w4 ⟨rfl,rfl⟩)
              refine wp_region_held_drew (S:=(fun W=>Below wr.heap.size wr W∧W.cell? ⟨g2,o2+i * 2,none⟩=some (.string d.name)∧W.cell? ⟨g2,o2+i * 2+1,none⟩=some (.string d.text))) (by kernel_rfl) (⟨(Below.refl _ _).drew,HSC.out _ (Below.refl _ _).drew⟩) (fun hHeld => ?_)
              refine Tk 0 (.slice oa om oc) rfl ?_
              try simp [Act.put]
              refine Tk 1 (.slice (some ⟨g2,o2,none⟩) m cap2) rfl ?_
              try simp [Act.put]
              refine Tk 2 (.int .i64 (i:Int)) rfl ?_
              try simp [Act.put]
              refine Tk 3 (.pointer (some ⟨g2,o2+i * 2,none⟩)) rfl ?_
              try simp [Act.put]
              refine Tk 4 (.pointer (some ⟨g2,o2+i * 2,none⟩)) rfl ?_
              try simp [Act.put]
              refine Tk 5 (.string d.name) rfl ?_
              try simp [Act.put]
              refine Tk 6 (.slice (some ⟨g2,o2,none⟩) m cap2) rfl ?_
              try simp [Act.put]
              refine Tk 7 (.int .i64 (i:Int)) rfl ?_
              try simp [Act.put]
              refine Tk 8 (.pointer (some ⟨g2,o2+i * 2,none⟩)) rfl ?_
              try simp [Act.put]
              refine Tk 9 (.pointer (some ⟨g2,o2+i * 2+1,none⟩)) rfl ?_
              try simp [Act.put]
              refine Tk 10 (.string d.text) rfl ?_
              try simp [Act.put]
              refine wpAnyH_ready (rs:=[11]) (by kernel_rfl) (by simp) ?_
              refine AllReadyH.cons rfl (fun KK hK => ?_) AllReadyH.nil
              go_simp
              (go_at_call 25;refine (HPU.out _ hHeld.1).mono ?_;rintro e w5 ⟨a5,c5,rfl,hown5,hb5⟩;have hb6:Below wr.heap.size wr w5:=hHeld.1.trans (hb5.mono hHeld.1.size);rw [HPL.out] at hown5 ⊢)
              go_wp2
              refine hK.out _ _ (⟨hb6,HSC.out _ hb6⟩) (fun hHeld => ?_)
              clear hK
              try simp [Act.put]
              refine Tk 12 (.slice a5 pl c5) rfl ?_
              try simp [Act.put]
              refine wpAnyH_done (by kernel_rfl) ?_ _
              go_wp2
              go_roundw
              case rel=>exact ⟨i+1,pl,c5,a5,by omega,rfl,by go_num,by rw [HNX.out];exact HPL.out,HG2.out,by rw [HNX.out];exact Bx.own_mono hown5 hzr,hbr.trans (hb6.mono hzr)⟩
              case measure=>simp [intOf];omega
            · have HR:Hid (Bx.lay fs ss=([],1)):=HBAD.out (by unfold Bx.good;rw [hnm];simpa using hT)
              have hT2:decide ((3000:Int) < (ss[i].text.size:Int))=true:=by simpa using hT
              have hT4:(3000 < ss[i].text.size):=by omega
              rw [HR.out]
              have HB:=hbw
              clear HPP hnm HBAD hT
              generalize ss[i]=d at *
              go_wp2_with (go_at_call 24;refine HPQ.out.mono ?_;rintro e w4 ⟨rfl,rfl⟩)
              exact bodyPost_ret (v:=.tuple #[.agg #[.slice none 0 0],.int .i64 1]) (by simp [results,Tryz.results6,go_sem,r0]) rfl (Bx.LayPost.none (HB.setCell (p:=⟨w.heap.size+1,0,none⟩) (by simp only;omega) _))
        · have hie:i=m:=by omega
          subst hie
          have ht:ss.take i=ss:=List.take_of_length_le (by rw [HM.out];omega)
          have hall:ss.all Bx.good=true:=by
            rw [List.all_eq_true];intro f hf
            obtain ⟨j,hj,rfl⟩:=List.getElem_of_mem hf
            exact HGD.out j hj (by have:=HM.out;omega)
          rw [ht] at HOW HOL
          have hno:¬ (Bx.ok fs 40=false∨40 < ss.length∨ss.all Bx.good=false):=by
            rw [HOK.out,hall,HM.out];simp;omega
          clear HC HGD
          by_cases ho:40 < om
          · have HR:Hid (Bx.lay fs ss=([],2)):=by rw [Hid,Bx.lay,if_neg hno,if_pos (by rw [HOL.out];exact ho)]
            have HB:=hbw
            go_wp2
            refine bodyPost_ret (v:=.tuple #[.agg #[.slice none 0 0],.int .i64 2]) (by simp [results,Tryz.results6,go_sem,r0]) rfl ?_
            rw [HR.out]
            exact Bx.LayPost.none (HB.setCell (p:=⟨w.heap.size+1,0,none⟩) (by simp only;omega) _)
          · have HR:Hid (Bx.lay fs ss=(Bx.lays fs ss,0)):=by rw [Hid,Bx.lay,if_neg hno,if_neg (by rw [HOL.out];exact ho)]
            go_wp2
            refine bodyPost_ret (v:=.tuple #[.agg #[.slice oa om oc],.int .i64 0]) (by simp [results,Tryz.results6,go_sem,r0]) rfl ?_
            rw [HR.out]
            refine ⟨oa,oc,by rw [HOL.out], ?_, ?_⟩
            · rw [HOL.out];exact Bx.own_mono (ownsRow_setCell_below HOW.out (a:=⟨w.heap.size+1,0,none⟩) (by simp only;omega) _) (by omega)
            · exact hbw.setCell (p:=⟨w.heap.size+1,0,none⟩) (by simp only;omega) _
end Go.Proofs.YtkikhpppkpelfaaGreat
