import Derived.Test.YtkikhpppkpelfaaGreatKTk
import Derived.Test.YtkikhpppkpelfaaGreatKRepA
import Derived.Deep.QuietTactic
import Derived.BigQuiet
import Derived.Deep.RegionHeld3
import Derived.Laws.Cover1
set_option maxRecDepth 100000
set_option maxHeartbeats 1000000
namespace Go.Proofs.YtkikhpppkpelfaaGreat
open Go.RowKit
def Bx.good (f:Bx.Fl):Bool:=Jb.name f.name && decide ((f.text.size:Int)≤3000)
def Bx.okI (fs:List Bx.Fl) (i:Nat):Bool :=
  match fs[i]? with
  | none=>true
  | some x=>Bx.good x && (match i with | 0=>true | k+1=>(match fs[k]? with | none=>true | some y=>Op.bytesLess y.name.toList x.name.toList))
def Bx.okN (fs:List Bx.Fl):Nat→Bool
  | 0=>true
  | n+1=>Bx.okN fs n && Bx.okI fs n
def Bx.ok (fs:List Bx.Fl) (m:Nat):Bool:=decide (fs.length≤m) && Bx.okN fs fs.length
theorem Bx.okN_no (fs:List Bx.Fl) (i n:Nat) (h:i < n) (hi:Bx.okI fs i=false):Bx.okN fs n=false:=by
  induction n with
  | zero=>omega
  | succ n ih =>
    rw [Bx.okN]
    by_cases e:i=n
    · subst e;rw [hi,Bool.and_false]
    · rw [ih (by omega),Bool.false_and]
theorem Bx.ok_many (fs:List Bx.Fl) (m:Nat) (h:¬ (fs.length≤m)):Bx.ok fs m=false:=by unfold Bx.ok;simp only [h,decide_false,Bool.false_and]
theorem Bx.ok_is (fs:List Bx.Fl) (m:Nat) (h:fs.length≤m):Bx.ok fs m=Bx.okN fs fs.length:=by unfold Bx.ok;simp only [h,decide_true,Bool.true_and]
theorem Bx.okI_good {fs:List Bx.Fl} {i:Nat} (hi:i < fs.length) (h:Bx.good fs[i]=false):Bx.okI fs i=false:=by
  unfold Bx.okI;rw [List.getElem?_eq_getElem hi];simp only [h,Bool.false_and]
theorem Bx.okI_zero {fs:List Bx.Fl} (hi:0 < fs.length) (h:Bx.good fs[0]=true):Bx.okI fs 0=true:=by
  unfold Bx.okI;rw [List.getElem?_eq_getElem hi];simp only [h,Bool.true_and]
theorem Bx.okI_succ {fs:List Bx.Fl} {k:Nat} (hi:k+1 < fs.length) (h:Bx.good fs[k+1]=true):Bx.okI fs (k+1)=Op.bytesLess (fs[k]'(by omega)).name.toList fs[k+1].name.toList:=by
  unfold Bx.okI;rw [List.getElem?_eq_getElem hi];simp only [h,Bool.true_and];rw [List.getElem?_eq_getElem (by omega:k < fs.length)]
theorem Bx.isFile_any (a b:ByteArray) (ha:a.size≤1048576) (_hb:b.size≤1048576) (w:World) :
    Calls Tryz.prog 31 #[.agg #[.string a,.string b]] w fun e w'=>e = .returned (.bool (Bx.good ⟨a,b⟩))∧Below w.heap.size w w':=by
  unfold Bx.good
  simp only
  cases hn:Jb.name a with
  | false =>
    have HM:Hid (Jb.name a=false):=hn
    clear hn
    go_enter Tryz.func31,Tryz.ntmps31
    go_wp2_with (go_at_call 44;refine (Jb.file_is _ false HM ha _).mono ?_;rintro e w2 ⟨rfl,rfl⟩)
    all_goals go_ret
    all_goals exact ⟨rfl,(Below.refl _ w).alloc (Nat.le_refl _) _⟩
  | true =>
    have HM:Hid (Jb.name a=true):=hn
    clear hn
    by_cases h:(b.size:Int)≤3000
    · go_enter Tryz.func31,Tryz.ntmps31
      go_wp2_with (go_at_call 44;refine (Jb.file_is _ true HM ha _).mono ?_;rintro e w2 ⟨rfl,rfl⟩)
      all_goals go_ret
      all_goals exact ⟨by simp [h],(Below.refl _ w).alloc (Nat.le_refl _) _⟩
    · go_enter Tryz.func31,Tryz.ntmps31
      go_wp2_with (go_at_call 44;refine (Jb.file_is _ true HM ha _).mono ?_;rintro e w2 ⟨rfl,rfl⟩)
      all_goals go_ret
      all_goals exact ⟨by simp,(Below.refl _ w).alloc (Nat.le_refl _) _⟩
theorem Bx.specFiles_any (fs:List Bx.Fl) (m:Nat) (v:Value) (w:World) (hm:m≤1000) (hn:fs.length≤1048576) (hx:∀ d ∈ fs,d.name.size≤1048576∧d.text.size≤1048576) (hN:Bx.Off w v fs) :
    Calls Tryz.prog 37 #[v,.int .i64 (m:Int)] w fun e w'=>e = .returned (.bool (Bx.ok fs m))∧Below w.heap.size w w':=by
  obtain ⟨p,cap,rfl,hc⟩:=hN
  obtain ⟨n,HN⟩:∃ n,Hid (fs.length=n):=⟨_,(rfl:fs.length=_)⟩
  have HC:Hid (∀ i (hi:i < fs.length),∃ g o,p=some ⟨g,o,none⟩∧g < w.heap.size∧w.cell? ⟨g,o+i * 2,none⟩=some (.string fs[i].name)∧w.cell? ⟨g,o+i * 2+1,none⟩=some (.string fs[i].text)):=hc
  clear hc
  rw [HN.out] at hn
  by_cases h1:n≤m
  · have HV:Hid (Bx.ok fs m=Bx.okN fs n):=by have e:=Bx.ok_is fs m (by rw [HN.out];exact h1);rw [HN.out] at e;exact e
    simp only [HN.out]
    have hmn:decide (m < n)=false:=by simpa using h1
    go_enter Tryz.func37,Tryz.ntmps37
    go_wp2
    go_loopw [5] (fun t wr => ∃ i:Nat,i≤n∧t = .int .i64 (i:Int)∧Bx.okN fs i=true∧Below w.heap.size w wr) (fun t _=>n - (intOf t).toNat)
    case atStart=>exact ⟨0,by omega,rfl,rfl,Below.refl _ _⟩
    case round =>
      obtain ⟨i,hi,rfl,hok,hbb⟩:=hrel
      have hz:=hbb.size
      by_cases hlt:i < n
      · have hil:i < fs.length:=by rw [HN.out];exact hlt
        obtain ⟨g,o,rfl,hg,hcell,hcellb⟩:=HC.out i hil
        have hq:wr.cell? ⟨g,o+i * 2,none⟩=some (.string fs[i].name):=by rw [hbb.cell (p:=⟨g,o+i * 2,none⟩) hg,hcell]
        have hqb:wr.cell? ⟨g,o+i * 2+1,none⟩=some (.string fs[i].text):=by rw [hbb.cell (p:=⟨g,o+i * 2+1,none⟩) hg,hcellb]
        obtain ⟨hxd,hxt⟩:=hx fs[i] (List.getElem_mem hil)
        cases hnm:Jb.name fs[i].name with
        | false =>
          have HF:Hid (Bx.ok fs m=false):=by rw [Hid,HV.out];exact Bx.okN_no fs i n hlt (Bx.okI_good hil (by unfold Bx.good;rw [hnm];rfl))
          have HM:Hid (Jb.name fs[i].name=false):=hnm
          generalize fs[i]=xi at *
          clear hcell hcellb HC hnm hok HV
          go_wp2_with fail
          go_quiet (first | (go_at_call 24;refine Jb.quiet (Jb.path_is _ false HM hxd _)))
          go_wp2
          go_ret
          exact ⟨Jb.ret_bool HF.out.symm,Jb.below_drewN _ hbb⟩
        | true =>
          have HM:Hid (Jb.name fs[i].name=true):=hnm
          by_cases hT:(fs[i].text.size:Int)≤3000
          · have hgd:Bx.good fs[i]=true:=by unfold Bx.good;rw [hnm];simp [hT]
            have hT2:decide ((3000:Int) < (fs[i].text.size:Int))=false:=by simpa using hT
            have hT3:¬ ((3000:Int) < (fs[i].text.size:Int)):=by omega
            have hT4:¬ (3000 < fs[i].text.size):=by omega
            clear hT
            by_cases hi0:i=0
            · have HF:Hid (Bx.okN fs (i+1)=true):=by subst hi0;rw [Hid,Bx.okN,hok,Bx.okI_zero hil hgd];rfl
              have hpos:decide (0 < i)=false:=by simpa using hi0
              have hpos2:¬ (0 < i):=by omega
              clear hgd hi0
              generalize fs[i]=xi at *
              clear hcell hcellb HC hnm hok HV
              go_wp2_with fail
              go_quiet (first | (go_at_call 24;refine Jb.quiet (Jb.path_is _ true HM hxd _)))
              go_wp2
              go_roundw
              case rel=>exact ⟨i+1,by omega,by go_num,HF.out,Jb.below_drewN _ hbb⟩
              case measure=>simp [intOf];omega
            · obtain ⟨k,hik⟩:∃ k,i=k+1:=⟨i - 1,by omega⟩
              have hkl:k < fs.length:=by omega
              have hkn:k < n:=by omega
              have hi1:IntKind.i64.wrap ((i:Int) - 1)=(k:Int):=by rw [wrap_small _ (by omega) (by omega)];omega
              have hpos:decide (0 < i)=true:=by simpa using (by omega:0 < i)
              have hpos2:0 < i:=by omega
              have hwk:IntKind.i64.wrap (k:Int)=(k:Int):=wrap_small _ (by omega) (by omega)
              have HIK:Hid (i=k+1):=hik
              clear hik
              obtain ⟨g2,o2,e2,_,hcell2,_⟩:=HC.out k hkl
              cases e2
              have hq2:wr.cell? ⟨g,o+k * 2,none⟩=some (.string fs[k].name):=by rw [hbb.cell (p:=⟨g,o+k * 2,none⟩) hg,hcell2]
              cases hL:Op.bytesLess fs[k].name.toList fs[i].name.toList with
              | true =>
                have HF:Hid (Bx.okN fs (i+1)=true):=by have hik:=HIK.out;subst hik;rw [Hid,Bx.okN,hok,Bx.okI_succ hil hgd,hL];rfl
                clear hgd
                generalize fs[i]=xi at *
                generalize fs[k]=xk at *
                clear hcell hcellb hcell2 HC hnm hok HV
                go_wp2_with fail
                go_quiet (first | (go_at_call 24;refine Jb.quiet (Jb.path_is _ true HM hxd _)))
                go_wp2
                go_roundw
                case rel=>exact ⟨i+1,by omega,by go_num,HF.out,Jb.below_drewN _ hbb⟩
                case measure=>simp [intOf];omega
              | false =>
                have HF:Hid (Bx.ok fs m=false):=by rw [Hid,HV.out];have hik:=HIK.out;subst hik;exact Bx.okN_no fs (k+1) n hlt (by rw [Bx.okI_succ hil hgd,hL])
                clear hgd
                generalize fs[i]=xi at *
                generalize fs[k]=xk at *
                clear hcell hcellb hcell2 HC hnm hok HV
                go_wp2_with fail
                go_quiet (first | (go_at_call 24;refine Jb.quiet (Jb.path_is _ true HM hxd _)))
                go_wp2
                go_ret
                exact ⟨Jb.ret_bool HF.out.symm,Jb.below_drewN _ hbb⟩
          · have HF:Hid (Bx.ok fs m=false):=by rw [Hid,HV.out];exact Bx.okN_no fs i n hlt (Bx.okI_good hil (by unfold Bx.good;rw [hnm];simp;omega))
            have hT2:decide ((3000:Int) < (fs[i].text.size:Int))=true:=by simpa using hT
            have hT3:((3000:Int) < (fs[i].text.size:Int)):=by omega
            have hT4:(3000 < fs[i].text.size):=by omega
            clear hT
            generalize fs[i]=xi at *
            clear hcell hcellb HC hnm hok HV
            go_wp2_with fail
            go_quiet (first | (go_at_call 24;refine Jb.quiet (Jb.path_is _ true HM hxd _)))
            go_wp2
            go_ret
            exact ⟨Jb.ret_bool HF.out.symm,Jb.below_drewN _ hbb⟩
      · have hie:i=n:=by omega
        subst hie
        have HF:Hid (Bx.ok fs m=true):=by rw [Hid,HV.out];exact hok
        clear HC hok HV
        go_wp2
        go_ret
        exact ⟨Jb.ret_bool HF.out.symm,hbb⟩
  · have HV:Hid (Bx.ok fs m=false):=Bx.ok_many fs m (by rw [HN.out];exact h1)
    simp only [HN.out]
    go_enter Tryz.func37,Tryz.ntmps37
    go_wp2
    go_ret
    exact ⟨Jb.ret_bool HV.out.symm,Below.refl _ w⟩
theorem Bx.areFiles_any (fs:List Bx.Fl) (m:Nat) (v:Value) (w:World) (hm:m≤1000) (hn:fs.length≤1048576) (hx:∀ d ∈ fs,d.name.size≤1048576∧d.text.size≤1048576) (hN:Bx.Off w v fs) :
    Calls Tryz.prog 26 #[v,.int .i64 (m:Int)] w fun e w'=>e = .returned (.bool (Bx.ok fs m))∧Below w.heap.size w w':=by
  obtain ⟨p,cap,rfl,hc⟩:=hN
  obtain ⟨n,HN⟩:∃ n,Hid (fs.length=n):=⟨_,(rfl:fs.length=_)⟩
  have HC:Hid (∀ i (hi:i < fs.length),∃ g o,p=some ⟨g,o,none⟩∧g < w.heap.size∧w.cell? ⟨g,o+i * 2,none⟩=some (.string fs[i].name)∧w.cell? ⟨g,o+i * 2+1,none⟩=some (.string fs[i].text)):=hc
  clear hc
  rw [HN.out] at hn
  by_cases h1:n≤m
  · have HV:Hid (Bx.ok fs m=Bx.okN fs n):=by have e:=Bx.ok_is fs m (by rw [HN.out];exact h1);rw [HN.out] at e;exact e
    simp only [HN.out]
    have hmn:decide (m < n)=false:=by simpa using h1
    go_enter Tryz.func26,Tryz.ntmps26
    go_wp2
    go_loopw [13] (fun t wr => ∃ i:Nat,i≤n∧t = .int .i64 (i:Int)∧Bx.okN fs i=true∧Below w.heap.size w wr) (fun t _=>n - (intOf t).toNat)
    case atStart=>exact ⟨0,by omega,rfl,rfl,Below.refl _ _⟩
    case round =>
      obtain ⟨i,hi,rfl,hok,hbb⟩:=hrel
      have hz:=hbb.size
      by_cases hlt:i < n
      · have hil:i < fs.length:=by rw [HN.out];exact hlt
        obtain ⟨g,o,rfl,hg,hcell,hcellb⟩:=HC.out i hil
        have hq:wr.cell? ⟨g,o+i * 2,none⟩=some (.string fs[i].name):=by rw [hbb.cell (p:=⟨g,o+i * 2,none⟩) hg,hcell]
        have hqb:wr.cell? ⟨g,o+i * 2+1,none⟩=some (.string fs[i].text):=by rw [hbb.cell (p:=⟨g,o+i * 2+1,none⟩) hg,hcellb]
        obtain ⟨hxd,hxt⟩:=hx fs[i] (List.getElem_mem hil)
        have HI:Hid (∀ (b:Bool) (w:World),Bx.good fs[i]=b→Calls Tryz.prog 31 #[.agg #[.string fs[i].name,.string fs[i].text]] w fun e w'=>e = .returned (.bool b)∧Below w.heap.size w w'):=fun b w hb=>by
          have:=Bx.isFile_any fs[i].name fs[i].text hxd hxt w
          rw [← hb];exact this
        cases hgd:Bx.good fs[i] with
        | false =>
          have HF:Hid (Bx.ok fs m=false):=by rw [Hid,HV.out];exact Bx.okN_no fs i n hlt (Bx.okI_good hil hgd)
          have HJ:Hid (∀ (w:World),Calls Tryz.prog 31 #[.agg #[.string fs[i].name,.string fs[i].text]] w fun e w'=>e = .returned (.bool false)∧Below w.heap.size w w'):=fun w=>HI.out false w hgd
          clear HI hgd
          generalize fs[i]=xi at *
          clear hcell hcellb HC hok HV
          have HS:Hid (∀ W,Below (wr.heap.size+1) (wr.alloc (.cells #[.string xi.name,.string xi.text] 36)) W→W.cell? ⟨wr.heap.size,0,none⟩=some (.string xi.name)∧W.cell? ⟨wr.heap.size,1,none⟩=some (.string xi.text)):=fun W hW=>Rp.row2 hW
          go_wp2_with fail
          refine wp_region_held_drew (S:=(fun W=>Below (wr.heap.size+1) (wr.alloc (.cells #[.string xi.name,.string xi.text] 36)) W∧W.cell? ⟨wr.heap.size,0,none⟩=some (.string xi.name)∧W.cell? ⟨wr.heap.size,1,none⟩=some (.string xi.text))) (by kernel_rfl) (⟨(Below.refl _ _).drew,HS.out _ (Below.refl _ _).drew⟩) (fun hHeld => ?_)
          refine Tk 0 (.agg #[.string xi.name,.string xi.text]) rfl ?_
          try simp [Act.put]
          refine wpAnyH_ready (rs:=[1]) (by kernel_rfl) (by simp) ?_
          refine AllReadyH.cons rfl (fun K hK => ?_) AllReadyH.nil
          go_simp
          (go_at_call 31;refine (HJ.out _).mono ?_;rintro e w2 ⟨rfl,hb2⟩;have hb2':Below (wr.heap.size+1) (wr.alloc (.cells #[.string xi.name,.string xi.text] 36)) w2:=Below.trans hHeld.1 (hb2.mono (by simp)))
          go_wp2
          refine hK.out _ _ (⟨hb2',HS.out _ hb2'⟩) (fun hHeld => ?_)
          clear hK
          try simp [Act.put]
          refine Tk 2 (.bool true) rfl ?_
          try simp [Act.put]
          refine Tk 3 (.bool true) rfl ?_
          try simp [Act.put]
          refine wpAnyH_take (i:=4) (v:=undef) rfl (by kernel_rfl) (by kernel_rfl) (by kernel_rfl) (fun _ _ _ h=>h) (Or.inr ⟨by rfl,rfl⟩) (by assumption) ?_
          try simp [Act.put]
          refine wpAnyH_take (i:=5) (v:=undef) rfl (by kernel_rfl) (by kernel_rfl) (by kernel_rfl) (fun _ _ _ h=>h) (Or.inr ⟨by rfl,rfl⟩) (by assumption) ?_
          try simp [Act.put]
          refine wpAnyH_take (i:=6) (v:=undef) rfl (by kernel_rfl) (by kernel_rfl) (by kernel_rfl) (fun _ _ _ h=>h) (Or.inr ⟨by rfl,rfl⟩) (by assumption) ?_
          try simp [Act.put]
          refine wpAnyH_take (i:=7) (v:=undef) rfl (by kernel_rfl) (by kernel_rfl) (by kernel_rfl) (fun _ _ _ h=>h) (Or.inr ⟨by rfl,rfl⟩) (by assumption) ?_
          try simp [Act.put]
          refine wpAnyH_take (i:=8) (v:=undef) rfl (by kernel_rfl) (by kernel_rfl) (by kernel_rfl) (fun _ _ _ h=>h) (Or.inr ⟨by rfl,rfl⟩) (by assumption) ?_
          try simp [Act.put]
          refine wpAnyH_take (i:=9) (v:=undef) rfl (by kernel_rfl) (by kernel_rfl) (by kernel_rfl) (fun _ _ _ h=>h) (Or.inr ⟨by rfl,rfl⟩) (by assumption) ?_
          try simp [Act.put]
          refine wpAnyH_take (i:=10) (v:=undef) rfl (by kernel_rfl) (by kernel_rfl) (by kernel_rfl) (fun _ _ _ h=>h) (Or.inr ⟨by rfl,rfl⟩) (by assumption) ?_
          try simp [Act.put]
          refine wpAnyH_take (i:=11) (v:=undef) rfl (by kernel_rfl) (by kernel_rfl) (by kernel_rfl) (fun _ _ _ h=>h) (Or.inr ⟨by rfl,rfl⟩) (by assumption) ?_
          try simp [Act.put]
          refine wpAnyH_take (i:=12) (v:=undef) rfl (by kernel_rfl) (by kernel_rfl) (by kernel_rfl) (fun _ _ _ h=>h) (Or.inr ⟨by rfl,rfl⟩) (by assumption) ?_
          try simp [Act.put]
          refine wpAnyH_take (i:=13) (v:=undef) rfl (by kernel_rfl) (by kernel_rfl) (by kernel_rfl) (fun _ _ _ h=>h) (Or.inr ⟨by rfl,rfl⟩) (by assumption) ?_
          try simp [Act.put]
          refine wpAnyH_take (i:=14) (v:=undef) rfl (by kernel_rfl) (by kernel_rfl) (by kernel_rfl) (fun _ _ _ h=>h) (Or.inr ⟨by rfl,rfl⟩) (by assumption) ?_
          try simp [Act.put]
          refine wpAnyH_take (i:=15) (v:=undef) rfl (by kernel_rfl) (by kernel_rfl) (by kernel_rfl) (fun _ _ _ h=>h) (Or.inr ⟨by rfl,rfl⟩) (by assumption) ?_
          try simp [Act.put]
          refine wpAnyH_take (i:=16) (v:=undef) rfl (by kernel_rfl) (by kernel_rfl) (by kernel_rfl) (fun _ _ _ h=>h) (Or.inr ⟨by rfl,rfl⟩) (by assumption) ?_
          try simp [Act.put]
          refine Tk 17 (.bool true) rfl ?_
          try simp [Act.put]
          refine wpAnyH_done (by kernel_rfl) ?_ _
          go_wp2
          go_ret
          exact ⟨Jb.ret_bool HF.out.symm,(hbb.alloc hz _).trans (hb2'.mono (by omega))⟩
        | true =>
          have HJ:Hid (∀ (w:World),Calls Tryz.prog 31 #[.agg #[.string fs[i].name,.string fs[i].text]] w fun e w'=>e = .returned (.bool true)∧Below w.heap.size w w'):=fun w=>HI.out true w hgd
          clear HI
          by_cases hi0:i=0
          · have HF:Hid (Bx.okN fs (i+1)=true):=by subst hi0;rw [Hid,Bx.okN,hok,Bx.okI_zero hil hgd];rfl
            have hpos:decide (0 < i)=false:=by simpa using hi0
            have hpos2:¬ (0 < i):=by omega
            clear hgd hi0
            generalize fs[i]=xi at *
            clear hcell hcellb HC hok HV
            have HS:Hid (∀ W,Below (wr.heap.size+1) (wr.alloc (.cells #[.string xi.name,.string xi.text] 36)) W→W.cell? ⟨wr.heap.size,0,none⟩=some (.string xi.name)∧W.cell? ⟨wr.heap.size,1,none⟩=some (.string xi.text)):=fun W hW=>Rp.row2 hW
            go_wp2_with fail
            refine wp_region_held_drew (S:=(fun W=>Below (wr.heap.size+1) (wr.alloc (.cells #[.string xi.name,.string xi.text] 36)) W∧W.cell? ⟨wr.heap.size,0,none⟩=some (.string xi.name)∧W.cell? ⟨wr.heap.size,1,none⟩=some (.string xi.text))) (by kernel_rfl) (⟨(Below.refl _ _).drew,HS.out _ (Below.refl _ _).drew⟩) (fun hHeld => ?_)
            refine Tk 0 (.agg #[.string xi.name,.string xi.text]) rfl ?_
            try simp [Act.put]
            refine wpAnyH_ready (rs:=[1]) (by kernel_rfl) (by simp) ?_
            refine AllReadyH.cons rfl (fun K hK => ?_) AllReadyH.nil
            go_simp
            (go_at_call 31;refine (HJ.out _).mono ?_;rintro e w2 ⟨rfl,hb2⟩;have hb2':Below (wr.heap.size+1) (wr.alloc (.cells #[.string xi.name,.string xi.text] 36)) w2:=Below.trans hHeld.1 (hb2.mono (by simp)))
            go_wp2
            refine hK.out _ _ (⟨hb2',HS.out _ hb2'⟩) (fun hHeld => ?_)
            clear hK
            try simp [Act.put]
            refine Tk 2 (.bool false) rfl ?_
            try simp [Act.put]
            refine Tk 3 (.bool false) rfl ?_
            try simp [Act.put]
            refine Tk 4 (.int .i64 (i:Int)) rfl ?_
            try simp [Act.put]
            refine Tk 5 (.bool false) rfl ?_
            try simp [Act.put]
            refine Tk 6 (.bool false) rfl ?_
            try simp [Act.put]
            refine wpAnyH_take (i:=7) (v:=undef) rfl (by kernel_rfl) (by kernel_rfl) (by kernel_rfl) (fun _ _ _ h=>h) (Or.inr ⟨by rfl,rfl⟩) (by assumption) ?_
            try simp [Act.put]
            refine wpAnyH_take (i:=8) (v:=undef) rfl (by kernel_rfl) (by kernel_rfl) (by kernel_rfl) (fun _ _ _ h=>h) (Or.inr ⟨by rfl,rfl⟩) (by assumption) ?_
            try simp [Act.put]
            refine wpAnyH_take (i:=9) (v:=undef) rfl (by kernel_rfl) (by kernel_rfl) (by kernel_rfl) (fun _ _ _ h=>h) (Or.inr ⟨by rfl,rfl⟩) (by assumption) ?_
            try simp [Act.put]
            refine wpAnyH_take (i:=10) (v:=undef) rfl (by kernel_rfl) (by kernel_rfl) (by kernel_rfl) (fun _ _ _ h=>h) (Or.inr ⟨by rfl,rfl⟩) (by assumption) ?_
            try simp [Act.put]
            refine wpAnyH_take (i:=11) (v:=undef) rfl (by kernel_rfl) (by kernel_rfl) (by kernel_rfl) (fun _ _ _ h=>h) (Or.inr ⟨by rfl,rfl⟩) (by assumption) ?_
            try simp [Act.put]
            refine wpAnyH_take (i:=12) (v:=undef) rfl (by kernel_rfl) (by kernel_rfl) (by kernel_rfl) (fun _ _ _ h=>h) (Or.inr ⟨by rfl,rfl⟩) (by assumption) ?_
            try simp [Act.put]
            refine wpAnyH_take (i:=13) (v:=undef) rfl (by kernel_rfl) (by kernel_rfl) (by kernel_rfl) (fun _ _ _ h=>h) (Or.inr ⟨by rfl,rfl⟩) (by assumption) ?_
            try simp [Act.put]
            refine wpAnyH_take (i:=14) (v:=undef) rfl (by kernel_rfl) (by kernel_rfl) (by kernel_rfl) (fun _ _ _ h=>h) (Or.inr ⟨by rfl,rfl⟩) (by assumption) ?_
            try simp [Act.put]
            refine wpAnyH_take (i:=15) (v:=undef) rfl (by kernel_rfl) (by kernel_rfl) (by kernel_rfl) (fun _ _ _ h=>h) (Or.inr ⟨by rfl,rfl⟩) (by assumption) ?_
            try simp [Act.put]
            refine Tk 16 (.bool false) rfl ?_
            try simp [Act.put]
            refine Tk 17 (.bool false) rfl ?_
            try simp [Act.put]
            refine wpAnyH_done (by kernel_rfl) ?_ _
            go_wp2
            go_roundw
            case rel=>exact ⟨i+1,by omega,by go_num,HF.out,(hbb.alloc hz _).trans (hb2'.mono (by omega))⟩
            case measure=>simp [intOf];omega
          · obtain ⟨k,hik⟩:∃ k,i=k+1:=⟨i - 1,by omega⟩
            have hkl:k < fs.length:=by omega
            have hkn:k < n:=by omega
            have hi1:(i:Int) - 1=(k:Int):=by omega
            have hpos:decide (0 < i)=true:=by simpa using (by omega:0 < i)
            have hpos2:0 < i:=by omega
            have hwk:IntKind.i64.wrap (k:Int)=(k:Int):=wrap_small _ (by omega) (by omega)
            have HIK:Hid (i=k+1):=hik
            clear hik
            obtain ⟨g2,o2,e2,_,hcell2,_⟩:=HC.out k hkl
            cases e2
            have hq2:wr.cell? ⟨g,o+k * 2,none⟩=some (.string fs[k].name):=by rw [hbb.cell (p:=⟨g,o+k * 2,none⟩) hg,hcell2]
            have hgr:g < wr.heap.size:=by omega
            cases hL:Op.bytesLess fs[k].name.toList fs[i].name.toList with
            | true =>
              have HF:Hid (Bx.okN fs (i+1)=true):=by have hik:=HIK.out;subst hik;rw [Hid,Bx.okN,hok,Bx.okI_succ hil hgd,hL];rfl
              clear hgd
              generalize fs[i]=xi at *
              generalize fs[k]=xk at *
              have HL2:Hid ((Op.bytesLess xi.name.toList xk.name.toList || xi.name.toList == xk.name.toList)=false):=by rw [Hid,Jb.less_le,hL];rfl
              clear hcell hcellb hcell2 HC hok HV
              obtain ⟨hLa,hLb⟩:=Bool.or_eq_false_iff.1 HL2.out
              have HS:Hid (∀ W,Below (wr.heap.size+1) (wr.alloc (.cells #[.string xi.name,.string xi.text] 36)) W→W.cell? ⟨wr.heap.size,0,none⟩=some (.string xi.name)∧W.cell? ⟨wr.heap.size,1,none⟩=some (.string xi.text)∧W.cell? ⟨g,o+k * 2,none⟩=some (.string xk.name)):=fun W hW=>⟨(Rp.row2 hW).1,(Rp.row2 hW).2,by rw [(((Below.refl _ wr).alloc (Nat.le_refl _) _).trans (hW.mono (by omega))).cell (p:=⟨g,o+k * 2,none⟩) hgr];exact hq2⟩
              go_wp2_with fail
              refine wp_region_held_drew (S:=(fun W=>Below (wr.heap.size+1) (wr.alloc (.cells #[.string xi.name,.string xi.text] 36)) W∧W.cell? ⟨wr.heap.size,0,none⟩=some (.string xi.name)∧W.cell? ⟨wr.heap.size,1,none⟩=some (.string xi.text)∧W.cell? ⟨g,o+k * 2,none⟩=some (.string xk.name))) (by kernel_rfl) (⟨(Below.refl _ _).drew,HS.out _ (Below.refl _ _).drew⟩) (fun hHeld => ?_)
              refine Tk 0 (.agg #[.string xi.name,.string xi.text]) rfl ?_
              try simp [Act.put]
              refine wpAnyH_ready (rs:=[1]) (by kernel_rfl) (by simp) ?_
              refine AllReadyH.cons rfl (fun K hK => ?_) AllReadyH.nil
              go_simp
              (go_at_call 31;refine (HJ.out _).mono ?_;rintro e w2 ⟨rfl,hb2⟩;have hb2':Below (wr.heap.size+1) (wr.alloc (.cells #[.string xi.name,.string xi.text] 36)) w2:=Below.trans hHeld.1 (hb2.mono (by simp)))
              go_wp2
              refine hK.out _ _ (⟨hb2',HS.out _ hb2'⟩) (fun hHeld => ?_)
              clear hK
              try simp [Act.put]
              refine Tk 2 (.bool false) rfl ?_
              try simp [Act.put]
              refine Tk 3 (.bool false) rfl ?_
              try simp [Act.put]
              refine Tk 4 (.int .i64 (i:Int)) rfl ?_
              try simp [Act.put]
              refine Tk 5 (.bool true) rfl ?_
              try simp [Act.put]
              refine Tk 6 (.bool true) rfl ?_
              try simp [Act.put]
              refine Tk 7 (.pointer (some ⟨wr.heap.size,0,none⟩)) rfl ?_
              try simp [Act.put]
              refine Tk 8 (.string xi.name) rfl ?_
              try simp [Act.put]
              refine Tk 9 (.slice (some ⟨g,o,none⟩) n cap) rfl ?_
              try simp [Act.put]
              refine Tk 10 (.int .i64 (i:Int)) rfl ?_
              try simp [Act.put]
              refine Tk 11 (.int .i64 (k:Int)) rfl ?_
              try simp [Act.put]
              refine Tk 12 (.pointer (some ⟨g,o+k * 2,none⟩)) rfl ?_
              try simp [Act.put]
              refine Tk 13 (.pointer (some ⟨g,o+k * 2,none⟩)) rfl ?_
              try simp [Act.put]
              refine Tk 14 (.string xk.name) rfl ?_
              try simp [Act.put]
              refine Tk 15 (.bool false) rfl ?_
              try simp [Act.put]
              refine Tk 16 (.bool false) rfl ?_
              try simp [Act.put]
              refine Tk 17 (.bool false) rfl ?_
              try simp [Act.put]
              refine wpAnyH_done (by kernel_rfl) ?_ _
              go_wp2
              go_roundw
              case rel=>exact ⟨i+1,by omega,by go_num,HF.out,(hbb.alloc hz _).trans (hb2'.mono (by omega))⟩
              case measure=>simp [intOf];omega
            | false =>
              have HF:Hid (Bx.ok fs m=false):=by rw [Hid,HV.out];have hik:=HIK.out;subst hik;exact Bx.okN_no fs (k+1) n hlt (by rw [Bx.okI_succ hil hgd,hL])
              clear hgd
              generalize fs[i]=xi at *
              generalize fs[k]=xk at *
              have HL2:Hid ((Op.bytesLess xi.name.toList xk.name.toList || xi.name.toList == xk.name.toList)=true):=by rw [Hid,Jb.less_le,hL];rfl
              clear hcell hcellb hcell2 HC hok HV
              have hLL:=HL2.out
              cases hLa:Op.bytesLess xi.name.toList xk.name.toList <;> cases hLb:(xi.name.toList == xk.name.toList)
              all_goals try (exfalso;rw [hLa,hLb] at hLL;exact absurd hLL (by decide))
              all_goals try clear hLL
              all_goals
                have HS:Hid (∀ W,Below (wr.heap.size+1) (wr.alloc (.cells #[.string xi.name,.string xi.text] 36)) W→W.cell? ⟨wr.heap.size,0,none⟩=some (.string xi.name)∧W.cell? ⟨wr.heap.size,1,none⟩=some (.string xi.text)∧W.cell? ⟨g,o+k * 2,none⟩=some (.string xk.name)):=fun W hW=>⟨(Rp.row2 hW).1,(Rp.row2 hW).2,by rw [(((Below.refl _ wr).alloc (Nat.le_refl _) _).trans (hW.mono (by omega))).cell (p:=⟨g,o+k * 2,none⟩) hgr];exact hq2⟩
                go_wp2_with fail
                refine wp_region_held_drew (S:=(fun W=>Below (wr.heap.size+1) (wr.alloc (.cells #[.string xi.name,.string xi.text] 36)) W∧W.cell? ⟨wr.heap.size,0,none⟩=some (.string xi.name)∧W.cell? ⟨wr.heap.size,1,none⟩=some (.string xi.text)∧W.cell? ⟨g,o+k * 2,none⟩=some (.string xk.name))) (by kernel_rfl) (⟨(Below.refl _ _).drew,HS.out _ (Below.refl _ _).drew⟩) (fun hHeld => ?_)
                refine Tk 0 (.agg #[.string xi.name,.string xi.text]) rfl ?_
                try simp [Act.put]
                refine wpAnyH_ready (rs:=[1]) (by kernel_rfl) (by simp) ?_
                refine AllReadyH.cons rfl (fun K hK => ?_) AllReadyH.nil
                go_simp
                (go_at_call 31;refine (HJ.out _).mono ?_;rintro e w2 ⟨rfl,hb2⟩;have hb2':Below (wr.heap.size+1) (wr.alloc (.cells #[.string xi.name,.string xi.text] 36)) w2:=Below.trans hHeld.1 (hb2.mono (by simp)))
                go_wp2
                refine hK.out _ _ (⟨hb2',HS.out _ hb2'⟩) (fun hHeld => ?_)
                clear hK
                try simp [Act.put]
                refine Tk 2 (.bool false) rfl ?_
                try simp [Act.put]
                refine Tk 3 (.bool false) rfl ?_
                try simp [Act.put]
                refine Tk 4 (.int .i64 (i:Int)) rfl ?_
                try simp [Act.put]
                refine Tk 5 (.bool true) rfl ?_
                try simp [Act.put]
                refine Tk 6 (.bool true) rfl ?_
                try simp [Act.put]
                refine Tk 7 (.pointer (some ⟨wr.heap.size,0,none⟩)) rfl ?_
                try simp [Act.put]
                refine Tk 8 (.string xi.name) rfl ?_
                try simp [Act.put]
                refine Tk 9 (.slice (some ⟨g,o,none⟩) n cap) rfl ?_
                try simp [Act.put]
                refine Tk 10 (.int .i64 (i:Int)) rfl ?_
                try simp [Act.put]
                refine Tk 11 (.int .i64 (k:Int)) rfl ?_
                try simp [Act.put]
                refine Tk 12 (.pointer (some ⟨g,o+k * 2,none⟩)) rfl ?_
                try simp [Act.put]
                refine Tk 13 (.pointer (some ⟨g,o+k * 2,none⟩)) rfl ?_
                try simp [Act.put]
                refine Tk 14 (.string xk.name) rfl ?_
                try simp [Act.put]
                refine Tk 15 (.bool true) rfl ?_
                try simp [Act.put]
                refine Tk 16 (.bool true) rfl ?_
                try simp [Act.put]
                refine Tk 17 (.bool true) rfl ?_
                try simp [Act.put]
                refine wpAnyH_done (by kernel_rfl) ?_ _
                go_wp2
                go_ret
                exact ⟨Jb.ret_bool HF.out.symm,(hbb.alloc hz _).trans (hb2'.mono (by omega))⟩
      · have hie:i=n:=by omega
        subst hie
        have HF:Hid (Bx.ok fs m=true):=by rw [Hid,HV.out];exact hok
        clear HC hok HV
        go_wp2
        go_ret
        exact ⟨Jb.ret_bool HF.out.symm,hbb⟩
  · have HV:Hid (Bx.ok fs m=false):=Bx.ok_many fs m (by rw [HN.out];exact h1)
    simp only [HN.out]
    go_enter Tryz.func26,Tryz.ntmps26
    go_wp2
    go_ret
    exact ⟨Jb.ret_bool HV.out.symm,Below.refl _ w⟩
theorem Bx.specPlace_any (fs:List Bx.Fl) (v:Value) (w:World) (hn:fs.length≤1048576) (hx:∀ d ∈ fs,d.name.size≤1048576∧d.text.size≤1048576) (hN:Bx.Off w v fs) :
    Calls Tryz.prog 23 #[.agg #[v]] w fun e w'=>e = .returned (.bool (Bx.ok fs 40))∧Below w.heap.size w w':=by
  have HN1:Hid (∀ o,Bx.Off (w.alloc o) v fs):=fun o=>hN.below ((Below.refl w.heap.size w).alloc (Nat.le_refl _) o)
  have HZ:Hid (∀ w1,Bx.Off w1 v fs→Calls Tryz.prog 37 #[v,.int .i64 40] w1 fun e w'=>e = .returned (.bool (Bx.ok fs 40))∧Below w1.heap.size w1 w'):=fun w1 h=>Bx.specFiles_any fs 40 v w1 (by omega) hn hx h
  obtain ⟨b,HB⟩:∃ b,Hid (Bx.ok fs 40=b):=⟨_,(rfl:Bx.ok fs 40=_)⟩
  rw [HB.out] at HZ ⊢
  obtain ⟨a,c,rfl⟩:=hN.slice
  clear hN hx hn HB
  generalize fs.length=L at *
  go_enter Tryz.func23,Tryz.ntmps23
  go_wp2_with (go_at_call 37;(refine (HZ.out _ (HN1.out _)).mono ?_;rintro e w1 ⟨rfl,hb⟩;rw [World.size_alloc] at hb))
  go_ret
  exact ⟨rfl,((Below.refl w.heap.size w).alloc (Nat.le_refl _) _).trans (hb.mono (by omega))⟩
theorem Bx.implPlace_any (fs:List Bx.Fl) (v:Value) (w:World) (hn:fs.length≤1048576) (hx:∀ d ∈ fs,d.name.size≤1048576∧d.text.size≤1048576) (hN:Bx.Off w v fs) :
    Calls Tryz.prog 8 #[.agg #[v]] w fun e w'=>e = .returned (.bool (Bx.ok fs 40))∧Below w.heap.size w w':=by
  have HN1:Hid (∀ o,Bx.Off (w.alloc o) v fs):=fun o=>hN.below ((Below.refl w.heap.size w).alloc (Nat.le_refl _) o)
  have HZ:Hid (∀ w1,Bx.Off w1 v fs→Calls Tryz.prog 26 #[v,.int .i64 40] w1 fun e w'=>e = .returned (.bool (Bx.ok fs 40))∧Below w1.heap.size w1 w'):=fun w1 h=>Bx.areFiles_any fs 40 v w1 (by omega) hn hx h
  obtain ⟨b,HB⟩:∃ b,Hid (Bx.ok fs 40=b):=⟨_,(rfl:Bx.ok fs 40=_)⟩
  rw [HB.out] at HZ ⊢
  obtain ⟨a,c,rfl⟩:=hN.slice
  clear hN hx hn HB
  generalize fs.length=L at *
  go_enter Tryz.func8,Tryz.ntmps8
  go_wp2_with (go_at_call 26;(refine (HZ.out _ (HN1.out _)).mono ?_;rintro e w1 ⟨rfl,hb⟩;rw [World.size_alloc] at hb))
  go_ret
  exact ⟨rfl,((Below.refl w.heap.size w).alloc (Nat.le_refl _) _).trans (hb.mono (by omega))⟩
end Go.Proofs.YtkikhpppkpelfaaGreat
