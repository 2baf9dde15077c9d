import Derived.Test.YtbkhedpabfanoaaGreatDoorKRcJ
namespace Go.Proofs.YtbkhedpabfanoaaGreatDoor
open Go.RowKit

def Rc.lenc {α:Type} (enc:α→List UInt8) (l:List α):List UInt8:=Wc.num l.length++l.flatMap enc
def Rc.lfit {α:Type} (m:Nat) (fit:α→Prop) (l:List α):Prop:=l.length≤m∧∀ x ∈ l,fit x
theorem Rc.no_count {α:Type} {enc:α→List UInt8} {fit:α→Prop} {m:Nat} {l:List UInt8} (h:Rc.No Wc.num (fun n=>n≤m) l):Rc.No (Rc.lenc enc) (Rc.lfit m fit) l:=fun x t hx e=>h x.length (x.flatMap enc++t) hx.1 (by rw [e,Rc.lenc,List.append_assoc])
theorem Rc.no_list {α:Type} {enc:α→List UInt8} {fit:α→Prop} (h1:Rc.One enc fit) {m n:Nat} {l l1 l2:List UInt8} (hl:l=Wc.num n++l1) {xs:List α} (hx:∀ x ∈ xs,fit x) (hl1:l1=xs.flatMap enc++l2) (hlt:xs.length < n) (h:Rc.No enc fit l2):Rc.No (Rc.lenc enc) (Rc.lfit m fit) l:=fun y t hy e=>by
  rw [Rc.lenc,List.append_assoc] at e
  obtain ⟨e1,e2⟩:=Rc.num_one (hl.symm.trans e)
  have hk:xs.length < y.length:=by omega
  have e3:y=y.take xs.length++y[xs.length]::y.drop (xs.length+1):=by rw [← List.drop_eq_getElem_cons hk,List.take_append_drop]
  have e4:xs.flatMap enc++l2=(y.take xs.length).flatMap enc++(enc y[xs.length]++((y.drop (xs.length+1)).flatMap enc++t)):=by
    rw [← hl1,e2]
    conv=>lhs;rw [e3]
    rw [List.flatMap_append,List.flatMap_cons]
    simp only [List.append_assoc]
  have e5:=(Rc.list_one h1 xs (y.take xs.length) _ _ (by rw [List.length_take];omega) hx (fun a ha=>hy.2 a (List.mem_of_mem_take ha)) e4).2
  exact h y[xs.length] _ (hy.2 _ (List.getElem_mem hk)) e5
theorem Rc.Rr.grown {w0 w:World} {g:Nat} {r:ByteArray} {U w3:World} {o:Obj} {row:Option Nat} (h:Rc.Rr w0 g r U) (hg:(U.alloc o).grownBy w3 row) (hr:∀ k,k < w.heap.size→some k≠row) (hgw:g < w.heap.size) (hw:w0.heap.size≤w.heap.size):Rc.Rr w0 g r w3 :=
  ⟨(Rc.grown_keep hg h.lt (hr g hgw)).trans h.blk,⟨hg.os.trans h.bel.os,hg.tape.trans h.bel.tape,hg.output.trans h.bel.output,Nat.le_trans h.bel.size (Nat.le_trans (by simp) hg.size),fun k hk=>(Rc.grown_keep hg (Nat.lt_of_lt_of_le hk h.bel.size) (hr k (by omega))).trans (h.bel.block k hk)⟩,h.lo,h.siz⟩
def Rc.fitT (t:Int):Prop:=0≤t∧t≤10
def Rc.encT (t:Int):List UInt8:=Wc.num (Wc.u t)
theorem Rc.encT_one : Rc.One Rc.encT Rc.fitT:=fun x y r s hx hy h=>Rc.int_one x y r s ⟨hx.1,by have:=hx.2;omega⟩ ⟨hy.1,by have:=hy.2;omega⟩ h
theorem Rc.no_type {l:List UInt8} (h:Rc.No Wc.num (fun n=>n≤10) l):Rc.No Rc.encT Rc.fitT l:=fun x t hx e=>h (Wc.u x) t (Rc.u_le hx.1 hx.2 (by omega)) e
theorem Rc.encT_nat {n:Nat} (h:n≤10):Rc.encT (n:Int)=Wc.num n:=by unfold Rc.encT;rw [Rc.un n (by omega)]
theorem Rc.lt_row {w W:World} {e size n:Nat} {v:Value} {xs:List Value} (h:W.ownsRow w.heap.size e size v n xs):∀ k,k < w.heap.size→some k≠v.ownBlock:=fun k hk e=>by have:=(Rc.row_type h e.symm).1.1;omega
def Rc.SintPost (m:Nat) (w0:World) (g:Nat) (r:ByteArray) (w:World) (e:Ending) (w':World):Prop :=
  (∃ (l:List Int) (a:Option Addr) (cap:Nat),e = .returned (.tuple #[.slice a l.length cap,.nilIface])∧Rc.lfit m Rc.fitT l∧w'.ownsRow w.heap.size 3 1 (.slice a l.length cap) l.length (Cd.ints l)∧Rc.Rok w0 g r w (Rc.lenc Rc.encT) l w')∨(∃ ea,e = .returned (.tuple #[.slice none 0 0,.iface 214 (.pointer (some ea))])∧Rc.Rno w0 g r w (Rc.lenc Rc.encT) (Rc.lfit m Rc.fitT) w')
set_option maxRecDepth 100000 in
set_option maxHeartbeats 1000000 in
theorem Rc.sint_any (m:Nat) (hm:m≤1000) (w0:World) (g:Nat) (r:ByteArray) (w:World) (hT:Rc.Tb w0) (hR:Rc.Rr w0 g r w) :
    Calls Tryz.prog 53 #[.pointer (some ⟨g,0,none⟩),.int .i64 (m:Int),.func (Fn.func 54) #[.pointer (some ⟨g,0,none⟩)] #[]] w (Rc.SintPost m w0 g r w):=by
  obtain ⟨i0,hi0,hz0,hz1,hz2⟩:=Cd.int_info
  have hgw:=hR.lt
  have hww:=hR.bel.size
  have HC:Hid (Calls Tryz.prog 51 #[.pointer (some ⟨g,0,none⟩),.int .i64 (m:Int)] w (Rc.UPost m w0 g r w)):=Rc.upTo_any m (by omega) w0 g r w hT hR
  have HRD:Hid (∀ (r:ByteArray) (U:World),Rc.Rr w0 g r U→Calls Tryz.prog 54 #[.pointer (some ⟨g,0,none⟩)] U (Rc.UPost 10 w0 g r U)):=fun r U h=>Rc.type_any w0 g r U hT h
  clear hT hR
  go_enter Tryz.func53,Tryz.ntmps53
  go_wp2_with fail
  refine HC.out.mono ?_
  rintro e w1 (⟨n,rfl,hn,r1,hl,hR1,hF1⟩ | ⟨ea,rfl,hno,r1,hR1,hF1⟩)
  rotate_left
  · have HNO:Hid (Rc.Rno w0 g r w (Rc.lenc Rc.encT) (Rc.lfit m Rc.fitT) w1):=⟨Rc.no_count hno,r1,hR1,hF1⟩
    clear hno hR1 hF1
    go_wp2_with fail
    go_ret2
    exact .inr ⟨ea,rfl,HNO.out⟩
  have HL:Hid (r.data.toList=Wc.num n++r1.data.toList):=hl
  have HR1:Hid (Rc.Rr w0 g r1 w1):=hR1
  have HF1:Hid (Rc.Fr (fun k=>k=g) w w1):=hF1
  clear hl hR1 hF1
  go_wp2_with fail
  go_loopw [10,23] (fun tl ti wr => ∃ (i:Nat) (l:List Int) (a:Option Addr) (cap:Nat) (ri:ByteArray),i≤n∧l.length=i∧tl = .slice a l.length cap∧ti = .int .i64 (i:Int)∧(∀ x ∈ l,Rc.fitT x)∧r1.data.toList=l.flatMap Rc.encT++ri.data.toList∧wr.ownsRow w.heap.size 3 1 (.slice a l.length cap) l.length (Cd.ints l)∧Rc.Rr w0 g ri wr∧Rc.Fr (fun k=>k=g) w wr) (fun _ ti _=>n - (intOf ti).toNat)
  case atStart=>exact ⟨0,[],none,0,r1,by omega,rfl,rfl,rfl,fun x hx=>by simp at hx,by simp,⟨rfl,.inl ⟨rfl,rfl⟩⟩,HR1.out,HF1.out⟩
  case round =>
    obtain ⟨i,l,a,cap,ri,hi,hli,rfl,rfl,hfit,hl1,hown,hRi,hFi⟩:=hrel
    have HFI:Hid (∀ x ∈ l,Rc.fitT x):=hfit
    have HL1:Hid (r1.data.toList=l.flatMap Rc.encT++ri.data.toList):=hl1
    have HOW:Hid (wr.ownsRow w.heap.size 3 1 (.slice a l.length cap) l.length (Cd.ints l)):=hown
    have HRI:Hid (Rc.Rr w0 g ri wr):=hRi
    have HFR:Hid (Rc.Fr (fun k=>k=g) w wr):=hFi
    have HLI:Hid (l.length=i):=hli
    have hln:l.length≤n:=by omega
    clear hfit hl1 hown hRi hFi hli HR1 HF1
    by_cases hlt:i < n
    · have hltI:(i:Int) < (n:Int):=by omega
      go_wp2_with fail
      refine (HRD.out ri wr HRI.out).mono ?_
      rintro e w2 (⟨t,rfl,ht,r2,hl2,hR2,hF2⟩ | ⟨ea,rfl,hno,r2,hR2,hF2⟩)
      rotate_left
      · have HNO:Hid (Rc.Rno w0 g r w (Rc.lenc Rc.encT) (Rc.lfit m Rc.fitT) w2):=⟨Rc.no_list Rc.encT_one HL.out HFI.out HL1.out (by rw [HLI.out];exact hlt) (Rc.no_type hno),r2,hR2,HFR.out.trans hF2⟩
        clear hno hR2 hF2
        try simp only
        go_wp2_with fail
        go_ret2
        exact .inr ⟨ea,rfl,HNO.out⟩
      have HO2:Hid (w2.ownsRow w.heap.size 3 1 (.slice a l.length cap) l.length (Cd.ints l)):=Rc.own_keep HOW.out (fun k _ h1 h2=>hF2.keep k h2 (by omega))
      have HF2:Hid (Rc.Fr (fun k=>k=g) w w2):=HFR.out.trans hF2
      have HR2:Hid (Rc.Rr w0 g r2 w2):=hR2
      have HFIT:Hid (Rc.fitT ((t:Int))):=⟨by omega,by omega⟩
      have HENC:Hid (ri.data.toList=Rc.encT ((t:Int))++r2.data.toList):=by rw [Hid,Rc.encT_nat ht];exact hl2
      clear hR2 hF2 hl2 HOW HRI HFR
      try simp only
      go_wp2_with (first | (at_builtin;refine wpList_append_own _ rfl _ _ 34 rfl w.heap.size 3 i0 (.int .i64 0) 1 8 Tryz.underlying34 hi0 hz0 hz1 hz2 rfl (by decide) _ _ _ rfl (HO2.out.alloc _) ⟨w2.heap.size,0,none⟩ 1 1 [.int .i64 (t:Int)] rfl rfl (Rc.cells_new _ [.int .i64 (t:Int)] _) (fun x hx=>by simp at hx;rcases hx with rfl <;> rfl) (by unfold maxLen;omega) (by omega) (by have:=HF2.out.size;simp;omega) ?_;intro v' w3 hown' hg3 _))
      obtain ⟨a3,c3,hv3⟩:=Cd.rowLen hown'
      subst hv3
      have HO3:Hid (w3.ownsRow w.heap.size 3 1 (.slice a3 (l.length+1) c3) (l.length+1) (Cd.ints (l++[(t:Int)]))):=by
        have e:Cd.ints (l++[(t:Int)])=Cd.ints l++[.int .i64 (t:Int)]:=by simp [Cd.ints]
        rw [Hid,e];exact hown'
      have HF3:Hid (Rc.Fr (fun k=>k=g) w w3):=Rc.grown_fr HF2.out hg3 (Rc.lt_row HO2.out)
      have HR3:Hid (Rc.Rr w0 g r2 w3):=HR2.out.grown hg3 (Rc.lt_row HO2.out) hgw hww
      have HFA:Hid (∀ x ∈ l++[(t:Int)],Rc.fitT x):=fun x hx=>by
        rcases List.mem_append.1 hx with h | h
        · exact HFI.out x h
        · rw [List.mem_singleton.1 h];exact HFIT.out
      have HLA:Hid (r1.data.toList=(l++[(t:Int)]).flatMap Rc.encT++r2.data.toList):=by
        rw [Hid,HL1.out,HENC.out,List.flatMap_append,List.append_assoc];simp
      clear hown' hg3 HO2 HF2 HR2 HFI HFIT HENC HL1
      go_roundw
      case rel=>exact ⟨i+1,l++[(t:Int)],a3,c3,r2,by omega,by simp [HLI.out],by rw [List.length_append];rfl,by go_num,HFA.out,HLA.out,by rw [List.length_append];exact HO3.out,HR3.out,HF3.out⟩
      case measure=>simp [intOf];omega
    · have hltI:¬ (i:Int) < (n:Int):=by omega
      have HOK:Hid (Rc.lfit m Rc.fitT l∧Rc.Rok w0 g r w (Rc.lenc Rc.encT) l wr):=⟨⟨by omega,HFI.out⟩,ri,by rw [HL.out,HL1.out,Rc.lenc,HLI.out,List.append_assoc,show i=n by omega],HRI.out,HFR.out⟩
      go_wp2_with fail
      go_ret2
      exact .inl ⟨l,a,cap,rfl,HOK.out.1,HOW.out,HOK.out.2⟩
def Rc.SinsPost (m:Nat) (w0:World) (g:Nat) (r:ByteArray) (w:World) (e:Ending) (w':World):Prop :=
  (∃ (l:List Cd.Ins) (a:Option Addr) (cap:Nat),e = .returned (.tuple #[.slice a l.length cap,.nilIface])∧Rc.lfit m Rc.insFit l∧w'.ownsRow w.heap.size 54 4 (.slice a l.length cap) l.length (Rc.insCs l)∧Rc.Rok w0 g r w (Rc.lenc Wc.ins) l w')∨(∃ ea,e = .returned (.tuple #[.slice none 0 0,.iface 214 (.pointer (some ea))])∧Rc.Rno w0 g r w (Rc.lenc Wc.ins) (Rc.lfit m Rc.insFit) w')
set_option maxRecDepth 100000 in
set_option maxHeartbeats 1000000 in
theorem Rc.sins_any (m:Nat) (hm:m≤100000) (w0:World) (g:Nat) (r:ByteArray) (w:World) (hT:Rc.Tb w0) (hR:Rc.Rr w0 g r w) :
    Calls Tryz.prog 55 #[.pointer (some ⟨g,0,none⟩),.int .i64 (m:Int),.func (Fn.func 56) #[.pointer (some ⟨g,0,none⟩)] #[]] w (Rc.SinsPost m w0 g r w):=by
  obtain ⟨i0,hi0,hz0,hz1,hz2⟩:=info_parts Rc.infoIns
  have hgw:=hR.lt
  have hww:=hR.bel.size
  have HC:Hid (Calls Tryz.prog 51 #[.pointer (some ⟨g,0,none⟩),.int .i64 (m:Int)] w (Rc.UPost m w0 g r w)):=Rc.upTo_any m (by omega) w0 g r w hT hR
  have HRD:Hid (∀ (r:ByteArray) (U:World),Rc.Rr w0 g r U→Calls Tryz.prog 56 #[.pointer (some ⟨g,0,none⟩)] U (Rc.IPost w0 g r U)):=fun r U h=>Rc.iins_any w0 g r U hT h
  clear hT hR
  go_enter Tryz.func55,Tryz.ntmps55
  go_wp2_with fail
  refine HC.out.mono ?_
  rintro e w1 (⟨n,rfl,hn,r1,hl,hR1,hF1⟩ | ⟨ea,rfl,hno,r1,hR1,hF1⟩)
  rotate_left
  · have HNO:Hid (Rc.Rno w0 g r w (Rc.lenc Wc.ins) (Rc.lfit m Rc.insFit) w1):=⟨Rc.no_count hno,r1,hR1,hF1⟩
    clear hno hR1 hF1
    go_wp2_with fail
    go_ret2
    exact .inr ⟨ea,rfl,HNO.out⟩
  have HL:Hid (r.data.toList=Wc.num n++r1.data.toList):=hl
  have HR1:Hid (Rc.Rr w0 g r1 w1):=hR1
  have HF1:Hid (Rc.Fr (fun k=>k=g) w w1):=hF1
  clear hl hR1 hF1
  go_wp2_with fail
  go_loopw [10,23] (fun tl ti wr => ∃ (i:Nat) (l:List Cd.Ins) (a:Option Addr) (cap:Nat) (ri:ByteArray),i≤n∧l.length=i∧tl = .slice a l.length cap∧ti = .int .i64 (i:Int)∧(∀ x ∈ l,Rc.insFit x)∧r1.data.toList=l.flatMap Wc.ins++ri.data.toList∧wr.ownsRow w.heap.size 54 4 (.slice a l.length cap) l.length (Rc.insCs l)∧Rc.Rr w0 g ri wr∧Rc.Fr (fun k=>k=g) w wr) (fun _ ti _=>n - (intOf ti).toNat)
  case atStart=>exact ⟨0,[],none,0,r1,by omega,rfl,rfl,rfl,fun x hx=>by simp at hx,by simp,⟨rfl,.inl ⟨rfl,rfl⟩⟩,HR1.out,HF1.out⟩
  case round =>
    obtain ⟨i,l,a,cap,ri,hi,hli,rfl,rfl,hfit,hl1,hown,hRi,hFi⟩:=hrel
    have HFI:Hid (∀ x ∈ l,Rc.insFit x):=hfit
    have HL1:Hid (r1.data.toList=l.flatMap Wc.ins++ri.data.toList):=hl1
    have HOW:Hid (wr.ownsRow w.heap.size 54 4 (.slice a l.length cap) l.length (Rc.insCs l)):=hown
    have HRI:Hid (Rc.Rr w0 g ri wr):=hRi
    have HFR:Hid (Rc.Fr (fun k=>k=g) w wr):=hFi
    have HLI:Hid (l.length=i):=hli
    have hln:l.length≤n:=by omega
    clear hfit hl1 hown hRi hFi hli HR1 HF1
    by_cases hlt:i < n
    · have hltI:(i:Int) < (n:Int):=by omega
      go_wp2_with fail
      refine (HRD.out ri wr HRI.out).mono ?_
      rintro e w2 (⟨⟨jo,ja,jn,jt⟩,rfl,hft,r2,hl2,hR2,hF2⟩ | ⟨⟨jo,ja,jn,jt⟩,ea,rfl,hno,r2,hR2,hF2⟩)
      rotate_left
      · have HNO:Hid (∀ o:Obj,Rc.Rno w0 g r w (Rc.lenc Wc.ins) (Rc.lfit m Rc.insFit) (w2.alloc o)):=fun o=>⟨Rc.no_list Rc.ins_one HL.out HFI.out HL1.out (by rw [HLI.out];exact hlt) (hno),r2,hR2.keep (Wc.b1 w2 o),(HFR.out.trans hF2).trans (Rc.Fr.of_below (Wc.b1 w2 o))⟩
        clear hno hR2 hF2
        unfold Cd.insV
        go_wp2_with fail
        go_ret2
        exact .inr ⟨ea,rfl,HNO.out _⟩
      have HO2:Hid (w2.ownsRow w.heap.size 54 4 (.slice a l.length cap) l.length (Rc.insCs l)):=Rc.own_keep HOW.out (fun k _ h1 h2=>hF2.keep k h2 (by omega))
      have HF2:Hid (Rc.Fr (fun k=>k=g) w w2):=HFR.out.trans hF2
      have HR2:Hid (Rc.Rr w0 g r2 w2):=hR2
      have HFIT:Hid (Rc.insFit ((⟨jo,ja,jn,jt⟩:Cd.Ins))):=hft
      have HENC:Hid (ri.data.toList=Wc.ins ((⟨jo,ja,jn,jt⟩:Cd.Ins))++r2.data.toList):=hl2
      clear hR2 hF2 hl2 HOW HRI HFR
      unfold Cd.insV
      go_wp2_with (first | (at_builtin;refine wpList_append_own _ rfl _ _ 35 rfl w.heap.size 54 i0 (.agg #[.int .i64 0,.int .i64 0,.int .i64 0,.string ⟨#[]⟩]) 4 40 Tryz.underlying35 hi0 hz0 hz1 hz2 rfl (by decide) _ _ _ rfl ((HO2.out.alloc _).alloc _) ⟨w2.heap.size+1,0,none⟩ 1 1 [.int .i64 jo,.int .i64 ja,.int .i64 jn,.string jt] rfl rfl ((fun j u hj=>by have h:=Rc.cells_new (w2.alloc (.cells #[.int .i64 jo,.int .i64 ja,.int .i64 jn,.string jt] 54)) [.int .i64 jo,.int .i64 ja,.int .i64 jn,.string jt] 54 j u hj;rw [World.size_alloc] at h;exact h)) (fun x hx=>by simp at hx;rcases hx with rfl | rfl | rfl | rfl <;> rfl) (by unfold maxLen;omega) (by omega) (by have:=HF2.out.size;simp;omega) ?_;intro v' w3 hown' hg3 _))
      obtain ⟨a3,c3,hv3⟩:=Cd.rowLen hown'
      subst hv3
      have HO3:Hid (w3.ownsRow w.heap.size 54 4 (.slice a3 (l.length+1) c3) (l.length+1) (Rc.insCs (l++[(⟨jo,ja,jn,jt⟩:Cd.Ins)]))):=by
        have e:Rc.insCs (l++[(⟨jo,ja,jn,jt⟩:Cd.Ins)])=Rc.insCs l++[.int .i64 jo,.int .i64 ja,.int .i64 jn,.string jt]:=by simp [Rc.insCs,Cd.insC]
        rw [Hid,e];exact hown'
      have HF3:Hid (Rc.Fr (fun k=>k=g) w w3):=Rc.grown_fr (HF2.out.trans (Rc.Fr.of_below (Wc.b1 w2 _))) hg3 (Rc.lt_row HO2.out)
      have HR3:Hid (Rc.Rr w0 g r2 w3):=(HR2.out.keep (Wc.b1 w2 _)).grown hg3 (Rc.lt_row HO2.out) hgw hww
      have HFA:Hid (∀ x ∈ l++[(⟨jo,ja,jn,jt⟩:Cd.Ins)],Rc.insFit x):=fun x hx=>by
        rcases List.mem_append.1 hx with h | h
        · exact HFI.out x h
        · rw [List.mem_singleton.1 h];exact HFIT.out
      have HLA:Hid (r1.data.toList=(l++[(⟨jo,ja,jn,jt⟩:Cd.Ins)]).flatMap Wc.ins++r2.data.toList):=by
        rw [Hid,HL1.out,HENC.out,List.flatMap_append,List.append_assoc];simp
      clear hown' hg3 HO2 HF2 HR2 HFI HFIT HENC HL1
      go_roundw
      case rel=>exact ⟨i+1,l++[(⟨jo,ja,jn,jt⟩:Cd.Ins)],a3,c3,r2,by omega,by simp [HLI.out],by rw [List.length_append];rfl,by go_num,HFA.out,HLA.out,by rw [List.length_append];exact HO3.out,HR3.out,HF3.out⟩
      case measure=>simp [intOf];omega
    · have hltI:¬ (i:Int) < (n:Int):=by omega
      have HOK:Hid (Rc.lfit m Rc.insFit l∧Rc.Rok w0 g r w (Rc.lenc Wc.ins) l wr):=⟨⟨by omega,HFI.out⟩,ri,by rw [HL.out,HL1.out,Rc.lenc,HLI.out,List.append_assoc,show i=n by omega],HRI.out,HFR.out⟩
      go_wp2_with fail
      go_ret2
      exact .inl ⟨l,a,cap,rfl,HOK.out.1,HOW.out,HOK.out.2⟩
end Go.Proofs.YtbkhedpabfanoaaGreatDoor
