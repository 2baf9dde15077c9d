import Derived.Test.YtlcckaffhnjneaaGreatDoorKScanL
import Derived.Test.YtlcckaffhnjneaaGreatDoorKPaF
import Derived.Deep.QuietTactic
set_option maxRecDepth 100000
set_option maxHeartbeats 1000000
namespace Go.Proofs.YtlcckaffhnjneaaGreatDoor
open Go.RowKit
def Pa.mk6 (c:Nat) (k:Int) (xs:List Value):List Value:=((((((xs.set c (.int .i64 (k))).set (c+1) (.int .i64 (k+1))).set (c+2) (.int .i64 (k+1+1))).set (c+3) (.int .i64 (k+1+1+1))).set (c+4) (.string (Mill.mark (k+1+1+1+1)))).set (c+5) (.int .i64 (k+1+1+1+1+1)))
def Pa.markTo (k:Int):Nat→List Value→List Value
 | 0,xs=>xs
 | i+1,xs=>Pa.mk6 (i * 6) (k+6 * (i:Int)) (Pa.markTo k i xs)
theorem Pa.markTo_length (k:Int) (i:Nat) (xs:List Value):(Pa.markTo k i xs).length=xs.length:=by
 induction i with
 | zero=>rfl
 | succ i ih=>simp [Pa.markTo,Pa.mk6,ih]
def Pa.six (k:Int):List Value:=[.int .i64 (k),.int .i64 (k+1),.int .i64 (k+1+1),.int .i64 (k+1+1+1),.string (Mill.mark (k+1+1+1+1)),.int .i64 (k+1+1+1+1+1)]
theorem Pa.mk6_other (c:Nat) (k:Int) (xs:List Value) (j:Nat) (h:j < c∨c+5 < j):(Pa.mk6 c k xs)[j]? = xs[j]?:=by
 unfold Pa.mk6
 rw [List.getElem?_set_ne (by omega),List.getElem?_set_ne (by omega),List.getElem?_set_ne (by omega),List.getElem?_set_ne (by omega),List.getElem?_set_ne (by omega),List.getElem?_set_ne (by omega)]
theorem Pa.mk6_at (c:Nat) (k:Int) (xs:List Value) (hc:c+6≤xs.length) (j:Nat) (hj:j < 6):(Pa.mk6 c k xs)[c+j]? = (Pa.six k)[j]?:=by
 unfold Pa.mk6
 match j,hj with
 | 0,_=>rw [List.getElem?_set_ne (by omega),List.getElem?_set_ne (by omega),List.getElem?_set_ne (by omega),List.getElem?_set_ne (by omega),List.getElem?_set_ne (by omega)];rw [Nat.add_zero,List.getElem?_set_self (by omega)];rfl
 | 1,_=>rw [List.getElem?_set_ne (by omega),List.getElem?_set_ne (by omega),List.getElem?_set_ne (by omega),List.getElem?_set_ne (by omega)];rw [List.getElem?_set_self (by simp;omega)];rfl
 | 2,_=>rw [List.getElem?_set_ne (by omega),List.getElem?_set_ne (by omega),List.getElem?_set_ne (by omega)];rw [List.getElem?_set_self (by simp;omega)];rfl
 | 3,_=>rw [List.getElem?_set_ne (by omega),List.getElem?_set_ne (by omega)];rw [List.getElem?_set_self (by simp;omega)];rfl
 | 4,_=>rw [List.getElem?_set_ne (by omega)];rw [List.getElem?_set_self (by simp;omega)];rfl
 | 5,_=>rw [List.getElem?_set_self (by simp;omega)];rfl
theorem Pa.markTo_at (k:Int) (n:Nat) (xs:List Value) (hn:n * 6≤xs.length) (i:Nat) (hi:i < n) (j:Nat) (hj:j < 6):(Pa.markTo k n xs)[i * 6+j]? = (Pa.six (k+6 * (i:Int)))[j]?:=by
 induction n with
 | zero=>omega
 | succ n ih =>
  rw [Pa.markTo]
  by_cases h:i=n
  ·subst h
   exact Pa.mk6_at _ _ _ (by rw [Pa.markTo_length];omega) j hj
  ·rw [Pa.mk6_other _ _ _ _ (by omega)]
   exact ih (by omega) (by omega)
theorem Pa.gb_set {w W:World} {g i:Nat} (h:w.grownBy W (some g)) (v:Value):w.grownBy (W.setCell ⟨g,i,none⟩ v) (some g) :=
 ⟨h.os,h.tape,h.output,by simpa [World.setCell] using h.size,fun k hk hn=>(Below.heap_setCell _ _ _ _ (fun e=>hn (by rw [e]))).trans (h.block k hk hn)⟩
theorem Pa.gb_below {w W W2:World} {r:Option Nat} (h:w.grownBy W r) (hb:Below W.heap.size W W2):w.grownBy W2 r :=
 ⟨hb.os.trans h.os,hb.tape.trans h.tape,hb.output.trans h.output,Nat.le_trans h.size hb.size,fun k hk hn=>(hb.block k (Nat.lt_of_lt_of_le hk h.size)).trans (h.block k hk hn)⟩
theorem markNodeS_any (v:Value) (n:Nat) (xs:List Value) (k:Int) (B:Nat) (w:World) (hown:w.ownsRow B 43 6 v n xs) (hl:n≤100000) (hk1:1≤k) (hk2:k≤10) :
  Calls Tryz.prog 20 #[v,.int .i64 k] w fun e w'=>e = .returned (.int .i64 (k+6 * (n:Int)))∧w'.ownsRow B 43 6 v n (Pa.markTo k n xs)∧Below B w w'∧w.grownBy w' v.ownBlock:=by
 by_cases hn:0 < n
 ·obtain ⟨g,cap,rfl,hg,hg2⟩:=Mill.own_form hown hn
  go_enter Tryz.func20,Tryz.ntmps20
  go_wp2
  go_loopw [1,5] (fun c t wr => ∃ i:Nat,i≤n∧t = .int .i64 (i:Int)∧c = .int .i64 (k+6 * (i:Int))∧wr.ownsRow B 43 6 (.slice (some ⟨g,0,none⟩) n cap) n (Pa.markTo k i xs)∧Below B w wr∧w.grownBy wr (some g)) (fun _ t _=>n - (intOf t).toNat)
  case atStart=>exact ⟨0,by omega,rfl,by simp,hown,Below.refl _ _,⟨rfl,rfl,rfl,Nat.le_refl _,fun _ _ _=>rfl⟩⟩
  case round =>
   obtain ⟨i,hi,rfl,rfl,ho,hbw,hgb⟩:=hrel
   by_cases hlt:i < n
   ·have hlen:=ho.1
    have c0:∃ y,wr.cell? ⟨g,i * 6,none⟩=some y:=by rw [ho.cellAt (i * 6) (by omega)];exact ⟨_,List.getElem?_eq_getElem (by omega)⟩
    obtain ⟨y0,c0⟩:=c0
    have f0:=ho.frozenAt (i * 6)
    have c1:∃ y,wr.cell? ⟨g,i * 6+1,none⟩=some y:=by rw [ho.cellAt (i * 6+1) (by omega)];exact ⟨_,List.getElem?_eq_getElem (by omega)⟩
    obtain ⟨y1,c1⟩:=c1
    have f1:=ho.frozenAt (i * 6+1)
    have c2:∃ y,wr.cell? ⟨g,i * 6+2,none⟩=some y:=by rw [ho.cellAt (i * 6+2) (by omega)];exact ⟨_,List.getElem?_eq_getElem (by omega)⟩
    obtain ⟨y2,c2⟩:=c2
    have f2:=ho.frozenAt (i * 6+2)
    have c3:∃ y,wr.cell? ⟨g,i * 6+3,none⟩=some y:=by rw [ho.cellAt (i * 6+3) (by omega)];exact ⟨_,List.getElem?_eq_getElem (by omega)⟩
    obtain ⟨y3,c3⟩:=c3
    have f3:=ho.frozenAt (i * 6+3)
    generalize hK:k+6 * (i:Int)=K at *
    have own4:=((((ho.stored (i * 6) (.int .i64 (K))).1.stored (i * 6+1) (.int .i64 (K+1))).1.stored (i * 6+2) (.int .i64 (K+1+1))).1.stored (i * 6+3) (.int .i64 (K+1+1+1))).1
    have hK1:1≤K:=by omega
    have hK2:K≤700000:=by omega
    have HK:=hK
    clear hK
    have hsz:=hbw.size
    go_wp2_with (go_at_call 35;refine (markText_any _ _ (by omega) (by omega)).mono ?_;rintro e w1 ⟨rfl,hb1⟩;have own5:=Mill.own_below own4 hb1;obtain ⟨y4,c4⟩:=Mill.own_some own5 (i * 6+4) (by omega);obtain ⟨y5,c5⟩:=Mill.own_some own5 (i * 6+5) (by omega);have f4:=own5.frozenAt (i * 6+4);have f5:=own5.frozenAt (i * 6+5))
    have own6:=((own5.stored (i * 6+4) (.string (Mill.mark (K+1+1+1+1)))).1.stored (i * 6+5) (.int .i64 (K+1+1+1+1+1))).1
    have hb6:Below B w ((w1.setCell ⟨g,i * 6+4,none⟩ (.string (Mill.mark (K+1+1+1+1)))).setCell ⟨g,i * 6+5,none⟩ (.int .i64 (K+1+1+1+1+1))) :=
     ((((((hbw.setCell (p:=⟨g,i * 6,none⟩) hg _).setCell (p:=⟨g,i * 6+1,none⟩) hg _).setCell (p:=⟨g,i * 6+2,none⟩) hg _).setCell (p:=⟨g,i * 6+3,none⟩) hg _).trans (hb1.mono (by simp;omega))).setCell (p:=⟨g,i * 6+4,none⟩) hg _).setCell (p:=⟨g,i * 6+5,none⟩) hg _
    have hgb6:=Pa.gb_set (i:=i * 6+5) (Pa.gb_set (i:=i * 6+4) (Pa.gb_below (Pa.gb_set (i:=i * 6+3) (Pa.gb_set (i:=i * 6+2) (Pa.gb_set (i:=i * 6+1) (Pa.gb_set (i:=i * 6) hgb (.int .i64 (K))) (.int .i64 (K+1))) (.int .i64 (K+1+1))) (.int .i64 (K+1+1+1))) hb1) (.string (Mill.mark (K+1+1+1+1)))) (.int .i64 (K+1+1+1+1+1))
    go_roundw
    case rel =>
     refine ⟨i+1,by omega,by go_num, ?_, ?_,hb6,hgb6⟩
     ·rw [show k+6 * ((i+1:Nat):Int)=K+6 by omega];go_num
     ·rw [Pa.markTo,HK];exact own6
    case measure=>simp [intOf];omega
   ·have h0:i=n:=by omega
    subst h0
    go_wp2
    go_ret
    exact ⟨rfl,ho,hbw,by simpa [Value.ownBlock] using hgb⟩
 ·have h0:n=0:=by omega
  subst h0
  obtain ⟨ga,ca,rfl⟩:=Mill.own_len hown
  go_enter Tryz.func20,Tryz.ntmps20
  go_wp2
  refine wp_loop_rounds 1 ?_
  rw [rounds_succ]
  go_wp2
  go_ret
  exact ⟨Mill.ret_int (by simp),hown,Below.refl _ _,⟨rfl,rfl,rfl,Nat.le_refl _,fun _ _ _=>rfl⟩⟩
theorem heldNodeS_any (v:Value) (n:Nat) (xs:List Value) (k:Int) (B:Nat) (w:World) (hown:w.ownsRow B 43 6 v n (Pa.markTo k n xs)) (hl:n≤100000) (hk1:1≤k) (hk2:k≤10) :
  Calls Tryz.prog 21 #[v,.int .i64 k] w fun e w'=>e = .returned (.int .i64 (k+6 * (n:Int)))∧Below w.heap.size w w':=by
 by_cases hn:0 < n
 ·obtain ⟨g,cap,rfl,hg,hg2⟩:=Mill.own_form hown hn
  have hlen:n * 6≤xs.length:=by have:=hown.1;rw [Pa.markTo_length] at this;omega
  have hcl:∀ i,i < n→∀ j,j < 6→w.cell? ⟨g,i * 6+j,none⟩=(Pa.six (k+6 * (i:Int)))[j]?:=fun i hi j hj=>by
   rw [hown.cellAt _ (by omega),Pa.markTo_at k n xs hlen i hi j hj]
  clear hown
  go_enter Tryz.func21,Tryz.ntmps21
  go_wp2
  go_loopw [1,5] (fun c t wr => ∃ i:Nat,i≤n∧t = .int .i64 (i:Int)∧c = .int .i64 (k+6 * (i:Int))∧Below w.heap.size w wr) (fun _ t _=>n - (intOf t).toNat)
  case atStart=>exact ⟨0,by omega,rfl,by simp,Below.refl _ _⟩
  case round =>
   obtain ⟨i,hi,rfl,rfl,hbw⟩:=hrel
   by_cases hlt:i < n
   ·have hA:∀ (wx:World),Below w.heap.size w wx→∀ j,j < 6→wx.cell? ⟨g,i * 6+j,none⟩=(Pa.six (k+6 * (i:Int)))[j]?:=fun wx hx j hj=>by
     rw [hx.cell (p:=⟨g,i * 6+j,none⟩) hg2];exact hcl i hlt j hj
    clear hcl
    generalize hK:k+6 * (i:Int)=K at *
    have hK1:1≤K:=by omega
    have hK2:K≤700000:=by omega
    have HK:=hK
    clear hK
    have a0:=hA wr hbw 0 (by omega)
    have a1:=hA wr hbw 1 (by omega)
    have a2:=hA wr hbw 2 (by omega)
    have a3:=hA wr hbw 3 (by omega)
    have a4:=hA wr hbw 4 (by omega)
    have hsz:=hbw.size
    simp only [Pa.six,List.getElem?_cons_zero,List.getElem?_cons_succ,Nat.add_zero] at a0 a1 a2 a3 a4 hA
    have HA:Hid (∀ (wx:World),Below w.heap.size w wx→wx.cell? ⟨g,i * 6+4,none⟩=some (.string (Mill.mark (K+1+1+1+1)))∧wx.cell? ⟨g,i * 6+5,none⟩=some (.int .i64 (K+1+1+1+1+1))):=fun wx hx=>⟨hA wx hx 4 (by omega),hA wx hx 5 (by omega)⟩
    clear hA
    have hq:(i:Int) < (n:Int):=by omega
    have n0:∀ z:Int,(z != z)=false:=by simp
    go_wp2_with fail
    go_region_with (go_at_call 35;refine (markText_any _ _ (by omega) (by omega)).mono ?_;rintro e w1 ⟨rfl,hb1⟩;have hbw1:Below w.heap.size w w1:=hbw.trans ⟨hb1.os,hb1.tape,hb1.output,hb1.size,fun j hj=>hb1.block j (by have:=hbw.size;simp;omega)⟩;obtain ⟨c4,c5⟩:=HA.out w1 hbw1)
    all_goals
     go_wp2
     go_roundw
     case rel =>
      refine ⟨i+1,by omega,by go_num, ?_,hbw1⟩
      rw [show k+6 * ((i+1:Nat):Int)=K+6 by omega];go_num
     case measure=>simp [intOf];omega
   ·have h0:i=n:=by omega
    subst h0
    go_wp2
    go_ret
    exact ⟨rfl,hbw⟩
 ·have h0:n=0:=by omega
  subst h0
  obtain ⟨ga,ca,rfl⟩:=Mill.own_len hown
  go_enter Tryz.func21,Tryz.ntmps21
  go_wp2
  refine wp_loop_rounds 1 ?_
  rw [rounds_succ]
  go_wp2
  go_ret
  exact ⟨Mill.ret_int (by simp),Below.refl _ _⟩
end Go.Proofs.YtlcckaffhnjneaaGreatDoor
