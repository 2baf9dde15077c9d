import Derived.Test.YtkikhpppkpelfaaGreatKGnH
import Derived.Test.YtkikhpppkpelfaaGreatKGnJ
set_option maxRecDepth 100000
set_option maxHeartbeats 2000000
namespace Go.Proofs.YtkikhpppkpelfaaGreat
open Go.RowKit
theorem Gn.drawLay (w:World) (v:Value) (n:Nat) (hB:Mill.Bytes w w.heap.size v n) (hc:∀ a m c,v = .slice a m c→m≤c) (hn:n≤1048576) :
    Calls Tryz.prog 4 #[v] w (Gn.DLPost w):=Gn.drawLay_any Gn.spoil_any w v n hB hc hn
theorem Gn.wLaid_any (fs:List Bx.Fl) (v:Value) (x:ByteArray) (w:World) (hN:Bx.Off w v fs) (hl:fs.length≤1000) :
    Calls Tryz.prog 10 #[v,.string x] w fun e w'=>w'=w∧∃ b:Bool,e = .returned (.bool b)∧(b=true ↔ ∃ d ∈ fs,d.name=x):=by
  obtain ⟨a,cap,rfl,hc⟩:=hN
  have HC:Hid (∀ i (hi:i < fs.length),∃ g o,a=some ⟨g,o,none⟩∧g < w.heap.size∧w.cell? ⟨g,o+i * 2,none⟩=some (.string fs[i].name)∧w.cell? ⟨g,o+i * 2+1,none⟩=some (.string fs[i].text)):=hc
  clear hc
  obtain ⟨n,HN⟩:∃ n,Hid (fs.length=n):=⟨_,(rfl:fs.length=_)⟩
  rw [HN.out] at hl ⊢
  go_enter Tryz.func10,Tryz.ntmps10
  go_wp2_with fail
  go_loopw [5] (fun i wr=>wr=w∧∃ (j:Int),(0≤j∧j≤(n:Int))∧i = .int .i64 j∧∀ k (hk:k < fs.length),k < j.toNat→fs[k].name≠x) (fun i _=>((n:Int) - intOf i).toNat)
  case atStart=>exact ⟨rfl,0,by omega,rfl,fun k hk h=>absurd h (Nat.not_lt_zero _)⟩
  case round =>
    obtain ⟨rfl,j,hj,rfl,hno⟩:=hrel
    by_cases hlt:j < (n:Int)
    · obtain ⟨k,hk⟩:∃ k,j.toNat=k:=⟨_,rfl⟩
      have hkn:k < fs.length:=by rw [HN.out];omega
      obtain ⟨g,o,rfl,_,h1,_⟩:=HC.out k hkn
      have hwj:wrap64 (j+1)=j+1:=IntWalk.wrap64_in _ (by omega)
      go_wp2_with fail
      · rename_i hb
        rw [Bx.beq_eq0,decide_eq_true_eq] at hb
        go_ret
        exact ⟨rfl,true,rfl,iff_of_true rfl ⟨fs[k],List.getElem_mem hkn,hb⟩⟩
      · rename_i hb
        rw [Bx.beq_eq0,decide_eq_false_iff_not] at hb
        go_roundw
        case rel =>
          refine ⟨trivial,j+1,by omega,rfl,fun i hi hij => ?_⟩
          by_cases e:i=k
          · subst e;exact hb
          · exact hno i hi (by omega)
        case measure=>simp [intOf];omega
    · have hnot:¬ ∃ d ∈ fs,d.name=x:=by
        rintro ⟨d,hd,e⟩
        obtain ⟨i,hi,e2⟩:=List.getElem_of_mem hd
        have hin:i < n:=by rw [← HN.out];exact hi
        exact hno i hi (by omega) (by rw [e2];exact e)
      have hfin:wr=wr∧∃ b:Bool,Ending.returned (.bool false) = .returned (.bool b)∧(b=true ↔ ∃ d ∈ fs,d.name=x):=⟨rfl,false,rfl,iff_of_false (by decide) hnot⟩
      have HFIN:Hid (wr=wr∧∃ b:Bool,Ending.returned (.bool false) = .returned (.bool b)∧(b=true ↔ ∃ d ∈ fs,d.name=x)):=hfin
      clear hfin hnot
      go_wp2_with fail
      first | exact bodyPost_ret (v:=.bool false) (by simp [results,Tryz.results10,go_sem]) rfl HFIN.out | (go_ret;simpa using HFIN.out)
end Go.Proofs.YtkikhpppkpelfaaGreat
