import Derived.Test.YtlcckaffhnjneaaGreatDoorKTreeG
import Derived.OwnWalk
set_option maxRecDepth 100000
set_option maxHeartbeats 1000000
namespace Go.Proofs.YtlcckaffhnjneaaGreatDoor
open Go.RowKit
theorem eqNode_same (c o t y:Int) (x:ByteArray) (k:Int) (w:World) :
  Calls Tryz.prog 34 #[.agg #[.int .i64 c,.int .i64 o,.int .i64 t,.int .i64 y,.string x,.int .i64 k],.agg #[.int .i64 c,.int .i64 o,.int .i64 t,.int .i64 y,.string x,.int .i64 k]] w fun e w'=>e = .returned (.bool true)∧Below w.heap.size w w':=by
 have h1:(c != c)=false:=by simp
 have h2:(o != o)=false:=by simp
 have h3:(t != t)=false:=by simp
 have h4:(y != y)=false:=by simp
 have h5:(k != k)=false:=by simp
 go_enter Tryz.func34,Tryz.ntmps34
 go_wp2
 all_goals go_ret
 all_goals exact ⟨rfl,((Below.refl _ w).alloc (Nat.le_refl _) _).alloc (by simp) _⟩
theorem eqNodeS_same (ns:List Mill.Nd) (va vb:Value) (w:World) (ha:Mill.NodesAt w va ns) (hb:Mill.NodesAt w vb ns) (hl:ns.length≤1048576) :
  Calls Tryz.prog 19 #[va,vb] w fun e w'=>e = .returned (.bool true)∧Below w.heap.size w w':=by
 obtain ⟨a,cap,rfl,hc⟩:=ha
 obtain ⟨b,cbp,rfl,hd⟩:=hb
 obtain ⟨n,HN⟩:∃ n,Hid (ns.length=n):=⟨_,(rfl:ns.length=_)⟩
 have HC:Hid (∀ i (hi:i < ns.length),∃ g,a=some ⟨g,0,none⟩∧g < w.heap.size∧∀ j,j < 6→w.cell? ⟨g,i * 6+j,none⟩=(Mill.ndC ns[i])[j]?):=hc
 have HD:Hid (∀ i (hi:i < ns.length),∃ g,b=some ⟨g,0,none⟩∧g < w.heap.size∧∀ j,j < 6→w.cell? ⟨g,i * 6+j,none⟩=(Mill.ndC ns[i])[j]?):=hd
 clear hc hd
 rw [HN.out] at hl
 simp only [HN.out]
 have hne:((n:Int) != (n:Int))=false:=by simp
 go_enter Tryz.func19,Tryz.ntmps19
 go_wp2
 go_loopw [5] (fun t wr => ∃ i:Nat,i≤n∧t = .int .i64 (i:Int)∧Below w.heap.size w wr) (fun t _=>n - (intOf t).toNat)
 case atStart=>exact ⟨0,by omega,rfl,Below.refl _ _⟩
 case round =>
  obtain ⟨i,hi,rfl,hbw⟩:=hrel
  have hz:w.heap.size≤wr.heap.size:=hbw.size
  by_cases hlt:i < n
  ·have hil:i < ns.length:=by rw [HN.out];exact hlt
   obtain ⟨ga,rfl,hga,hca⟩:=HC.out i hil
   obtain ⟨gb,rfl,hgb,hcb⟩:=HD.out i hil
   have hA:∀ m,m < 6→wr.cell? ⟨ga,i * 6+m,none⟩=(Mill.ndC ns[i])[m]?:=fun m hm=>by rw [hbw.cell (p:=⟨ga,i * 6+m,none⟩) hga,hca m hm]
   have hB:∀ m,m < 6→wr.cell? ⟨gb,i * 6+m,none⟩=(Mill.ndC ns[i])[m]?:=fun m hm=>by rw [hbw.cell (p:=⟨gb,i * 6+m,none⟩) hgb,hcb m hm]
   generalize ns[i]=d at *
   have a0:=hA 0 (by omega);have a1:=hA 1 (by omega);have a2:=hA 2 (by omega);have a3:=hA 3 (by omega);have a4:=hA 4 (by omega);have a5:=hA 5 (by omega)
   have b0:=hB 0 (by omega);have b1:=hB 1 (by omega);have b2:=hB 2 (by omega);have b3:=hB 3 (by omega);have b4:=hB 4 (by omega);have b5:=hB 5 (by omega)
   simp only [Mill.ndC,List.getElem?_cons_zero,List.getElem?_cons_succ,Nat.add_zero] at a0 a1 a2 a3 a4 a5 b0 b1 b2 b3 b4 b5
   clear hA hB hca hcb HC HD
   go_wp2_with fail
   go_region_with (go_at_call 34;refine (eqNode_same _ _ _ _ _ _ _).mono ?_;rintro e w1 ⟨rfl,hb1⟩)
   all_goals
    have hbw2:Below w.heap.size w w1:=hbw.trans (by have:=hb1.mono (B':=w.heap.size) (by simpa using hz);exact ⟨this.os,this.tape,this.output,this.size,this.block⟩)
    clear a0 a1 a2 a3 a4 a5 b0 b1 b2 b3 b4 b5
    go_wp2
    go_roundw
    case rel=>exact ⟨i+1,by omega,by go_num,hbw2⟩
    case measure=>simp [intOf];omega
  ·clear HC HD
   go_wp2
   go_ret
   exact ⟨rfl,hbw⟩
theorem eqTree_same (ns:List Mill.Nd) (va vb:Value) (w:World) (ha:Mill.NodesAt w va ns) (hb:Mill.NodesAt w vb ns) (hl:ns.length≤1048576) :
  Calls Tryz.prog 6 #[.agg #[va],.agg #[vb]] w fun e w'=>e = .returned (.bool true)∧Below w.heap.size w w':=by
 have hbl:∀ o1 o2:Obj,Below w.heap.size w ((w.alloc o1).alloc o2):=fun o1 o2=>((Below.refl w.heap.size w).alloc (Nat.le_refl _) o1).alloc (by simp) o2
 have ha1:∀ o1 o2:Obj,Mill.NodesAt ((w.alloc o1).alloc o2) va ns:=fun o1 o2=>Mill.nodesAt_below ha (hbl o1 o2)
 have hb1:∀ o1 o2:Obj,Mill.NodesAt ((w.alloc o1).alloc o2) vb ns:=fun o1 o2=>Mill.nodesAt_below hb (hbl o1 o2)
 have hva:∃ a c,va = .slice a ns.length c:=by obtain ⟨a,c,h,_⟩:=ha;exact ⟨a,c,h⟩
 have hvb:∃ a c,vb = .slice a ns.length c:=by obtain ⟨a,c,h,_⟩:=hb;exact ⟨a,c,h⟩
 obtain ⟨a,c,rfl⟩:=hva
 obtain ⟨a2,c2,rfl⟩:=hvb
 have HA:Hid (∀ o1 o2:Obj,Mill.NodesAt ((w.alloc o1).alloc o2) (.slice a ns.length c) ns):=ha1
 have HB:Hid (∀ o1 o2:Obj,Mill.NodesAt ((w.alloc o1).alloc o2) (.slice a2 ns.length c2) ns):=hb1
 clear ha hb ha1 hb1
 go_enter Tryz.func6,Tryz.ntmps6
 go_wp2_with (go_at_call 19;(refine (eqNodeS_same ns _ _ _ (HA.out _ _) (HB.out _ _) hl).mono ?_;rintro e w1 ⟨rfl,hb⟩))
 go_ret
 exact ⟨rfl,(hbl _ _).trans (hb.mono (by simp only [World.size_alloc];omega))⟩
end Go.Proofs.YtlcckaffhnjneaaGreatDoor
