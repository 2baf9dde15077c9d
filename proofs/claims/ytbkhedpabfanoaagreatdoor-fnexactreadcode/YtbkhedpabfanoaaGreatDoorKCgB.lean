import Derived.Test.YtbkhedpabfanoaaGreatDoorKCdH
import Derived.Deep.RegionWith
import Derived.Test.YtbkhedpabfanoaaGreatDoorKCdN
import Derived.Test.YtbkhedpabfanoaaGreatDoorKCdT
namespace Go.Proofs.YtbkhedpabfanoaaGreatDoor
open Go.RowKit

def Cd.z0 (n:Nat) (l:Int):Int:=if l - (n:Int) < 0 then -1 else l - (n:Int)
end Go.Proofs.YtbkhedpabfanoaaGreatDoor
namespace Go.Proofs.YtbkhedpabfanoaaGreatDoor
open Go.RowKit

end Go.Proofs.YtbkhedpabfanoaaGreatDoor
namespace Go.Proofs.YtbkhedpabfanoaaGreatDoor
open Go.RowKit

end Go.Proofs.YtbkhedpabfanoaaGreatDoor
namespace Go.Proofs.YtbkhedpabfanoaaGreatDoor
open Go.RowKit

theorem Cd.cells5 {w:World} {g:Nat} {a b c d e:Value} {t:TypeId} (h:w.heap[g]? = some (.cells #[a,b,c,d,e] t)):(w.cell? ⟨g,0,none⟩=some a∧w.cell? ⟨g,1,none⟩=some b∧w.cell? ⟨g,2,none⟩=some c∧w.cell? ⟨g,3,none⟩=some d∧w.cell? ⟨g,4,none⟩=some e)∧(w.frozen? ⟨g,0,none⟩=false∧w.frozen? ⟨g,1,none⟩=false∧w.frozen? ⟨g,2,none⟩=false∧w.frozen? ⟨g,3,none⟩=false∧w.frozen? ⟨g,4,none⟩=false):=by
  refine ⟨⟨?_, ?_, ?_, ?_, ?_⟩, ?_, ?_, ?_, ?_, ?_⟩ <;> simp [World.cell?,World.frozen?,h]
end Go.Proofs.YtbkhedpabfanoaaGreatDoor
namespace Go.Proofs.YtbkhedpabfanoaaGreatDoor
open Go.RowKit

end Go.Proofs.YtbkhedpabfanoaaGreatDoor
namespace Go.Proofs.YtbkhedpabfanoaaGreatDoor
open Go.RowKit

set_option maxRecDepth 100000 in
set_option maxHeartbeats 1000000 in
theorem Cd.eqIntS_same (xs:List Int) (B:Nat) (va vb:Value) (w:World) (hB:B≤w.heap.size) (ha:Cd.IntsAt B w va xs) (hb:Cd.IntsAt B w vb xs) (hl:xs.length≤1048576) :
    Calls Tryz.prog 44 #[va,vb] w fun e w'=>e = .returned (.bool true)∧Below w.heap.size w w':=by
  obtain ⟨a,cap,rfl,hc⟩:=ha
  obtain ⟨b,cbp,rfl,hd⟩:=hb
  obtain ⟨n,HN⟩:∃ n,Hid (xs.length=n):=⟨_,(rfl:xs.length=_)⟩
  have HC:Hid (∀ i (hi:i < xs.length),∃ g o,a=some ⟨g,o,none⟩∧g < B∧w.cell? ⟨g,o+i,none⟩=some (.int .i64 xs[i])):=hc
  have HD:Hid (∀ i (hi:i < xs.length),∃ g o,b=some ⟨g,o,none⟩∧g < B∧w.cell? ⟨g,o+i,none⟩=some (.int .i64 xs[i])):=hd
  clear hc hd
  rw [HN.out] at hl
  simp only [HN.out]
  have hne:((n:Int) != (n:Int))=false:=by simp
  go_enter Tryz.func44,Tryz.ntmps44
  go_wp2
  go_loopw [5] (fun t wr => ∃ i:Nat,i≤n∧t = .int .i64 (i:Int)∧Below w.heap.size w wr) (fun t _=>n - (intOf t).toNat)
  case atStart=>exact ⟨0,by omega,rfl,Below.refl _ _⟩
  case round =>
    obtain ⟨i,hi,rfl,hbw⟩:=hrel
    have hz:w.heap.size≤wr.heap.size:=hbw.size
    by_cases hlt:i < n
    · have hil:i < xs.length:=by rw [HN.out];exact hlt
      obtain ⟨ga,oa,rfl,hga,hca⟩:=HC.out i hil
      obtain ⟨gb,ob,rfl,hgb,hcb⟩:=HD.out i hil
      have hA:wr.cell? ⟨ga,oa+i,none⟩=some (.int .i64 xs[i]):=by rw [hbw.cell (p:=⟨ga,oa+i,none⟩) (by show ga < w.heap.size;omega),hca]
      have hB:wr.cell? ⟨gb,ob+i,none⟩=some (.int .i64 xs[i]):=by rw [hbw.cell (p:=⟨gb,ob+i,none⟩) (by show gb < w.heap.size;omega),hcb]
      generalize xs[i]=d at *
      clear hca hcb HC HD
      have hnd:(d != d)=false:=by simp
      go_wp2
      go_region
      all_goals
        go_wp2
        go_roundw
        case rel=>exact ⟨i+1,by omega,by go_num,by first | exact hbw | exact ⟨hbw.os,hbw.tape,hbw.output,hbw.size,hbw.block⟩⟩
        case measure=>simp [intOf];omega
    · clear HC HD
      go_wp2
      go_ret
      exact ⟨rfl,hbw⟩
set_option maxRecDepth 100000 in
set_option maxHeartbeats 1000000 in
theorem Cd.eqIns_same (op a n:Int) (t:ByteArray) (w:World) :
    Calls Tryz.prog 59 #[.agg #[.int .i64 op,.int .i64 a,.int .i64 n,.string t],.agg #[.int .i64 op,.int .i64 a,.int .i64 n,.string t]] w fun e w'=>e = .returned (.bool true)∧Below w.heap.size w w':=by
  have h1:(op != op)=false:=by simp
  have h2:(a != a)=false:=by simp
  have h3:(n != n)=false:=by simp
  go_enter Tryz.func59,Tryz.ntmps59
  go_wp2
  all_goals go_ret
  all_goals exact ⟨rfl,Cd.b2 w _ _⟩
set_option maxRecDepth 100000 in
set_option maxHeartbeats 1000000 in
theorem Cd.eqInsS_same (xs:List Cd.Ins) (B:Nat) (va vb:Value) (w:World) (hB:B≤w.heap.size) (ha:Cd.InsAt B w va xs) (hb:Cd.InsAt B w vb xs) (hl:xs.length≤1048576) :
    Calls Tryz.prog 45 #[va,vb] w fun e w'=>e = .returned (.bool true)∧Below w.heap.size w w':=by
  have HA:Hid (Cd.InsAt B w va xs):=ha
  have HB:Hid (Cd.InsAt B w vb xs):=hb
  obtain ⟨a,cap,rfl,-⟩:=ha
  obtain ⟨b,cbp,rfl,-⟩:=hb
  have hne:((xs.length:Int) != (xs.length:Int))=false:=by simp
  go_enter Tryz.func45,Tryz.ntmps45
  go_wp2
  go_loopw [5] (fun t wr => ∃ i:Nat,i≤xs.length∧t = .int .i64 (i:Int)∧Below w.heap.size w wr) (fun t _=>xs.length - (intOf t).toNat)
  case atStart=>exact ⟨0,by omega,rfl,Below.refl _ _⟩
  case round =>
    obtain ⟨i,hi,rfl,hbw⟩:=hrel
    have hz:w.heap.size≤wr.heap.size:=hbw.size
    by_cases hlt:i < xs.length
    · have hltI:(i:Int) < (xs.length:Int):=by omega
      have cel:∀ {p:Option Addr} {q:Nat},Cd.InsAt B w (.slice p xs.length q) xs→∃ g,p=some ⟨g,0,none⟩∧wr.cell? ⟨g,i * 4,none⟩=some (.int .i64 xs[i].op)∧wr.cell? ⟨g,i * 4+1,none⟩=some (.int .i64 xs[i].a)∧wr.cell? ⟨g,i * 4+2,none⟩=some (.int .i64 xs[i].n)∧wr.cell? ⟨g,i * 4+3,none⟩=some (.string xs[i].text):=fun {p q} h=>by
        obtain ⟨a',cp,e,h⟩:=h.below (hbw.mono hB)
        injection e with e1
        subst e1
        obtain ⟨g,h1,-,h2⟩:=h i hlt
        exact ⟨g,h1,h2 0 (by omega),h2 1 (by omega),h2 2 (by omega),h2 3 (by omega)⟩
      obtain ⟨ga,hae,a0,a1,a2,a3⟩:=cel HA.out
      obtain ⟨gb,hbe,b0,b1,b2,b3⟩:=cel HB.out
      clear cel
      subst hae hbe
      obtain ⟨d,HD⟩:∃ d,Hid (xs[i]=d):=⟨_,(rfl:xs[i]=_)⟩
      rw [HD.out] at a0 a1 a2 a3 b0 b1 b2 b3
      obtain ⟨dop,da,dn,dt⟩:=d
      simp only at a0 a1 a2 a3 b0 b1 b2 b3
      clear HD
      go_wp2_with fail
      go_region_with (go_at_call 59;refine (Cd.eqIns_same _ _ _ _ _).mono ?_;rintro e w1 ⟨rfl,hb1⟩)
      all_goals
        have hbw2:Below w.heap.size w w1:=hbw.trans (by have:=hb1.mono (B':=w.heap.size) (by simpa using hz);exact ⟨this.os,this.tape,this.output,this.size,this.block⟩)
        clear a0 a1 a2 a3 b0 b1 b2 b3
        go_wp2
        go_roundw
        case rel=>exact ⟨i+1,by omega,by go_num,hbw2⟩
        case measure=>simp [intOf];omega
    · have hltI:¬ (i:Int) < (xs.length:Int):=by omega
      go_wp2
      go_ret
      exact ⟨rfl,hbw⟩
set_option maxRecDepth 100000 in
set_option maxHeartbeats 1000000 in
theorem Cd.eqFn_same (f:Cd.Fn) (B:Nat) (pa pb ia ib:Option Addr) (pc pd ic id':Nat) (w:World) (hB:B≤w.heap.size) (hp:Cd.IntsAt B w (.slice pa f.params.length pc) f.params) (hq:Cd.IntsAt B w (.slice pb f.params.length pd) f.params) (hi:Cd.InsAt B w (.slice ia f.ins.length ic) f.ins) (hj:Cd.InsAt B w (.slice ib f.ins.length id') f.ins) (h1:f.params.length≤1048576) (h2:f.ins.length≤1048576) :
    Calls Tryz.prog 27 #[.agg #[.string f.name,.slice pa f.params.length pc,.int .i64 f.result,.int .i64 f.slots,.slice ia f.ins.length ic],.agg #[.string f.name,.slice pb f.params.length pd,.int .i64 f.result,.int .i64 f.slots,.slice ib f.ins.length id']] w fun e w'=>e = .returned (.bool true)∧Below w.heap.size w w':=by
  have n1:(f.result != f.result)=false:=by simp
  have n2:(f.slots != f.slots)=false:=by simp
  have HI:Hid (∀ U,Below w.heap.size w U→Calls Tryz.prog 44 #[.slice pa f.params.length pc,.slice pb f.params.length pd] U fun e w'=>e = .returned (.bool true)∧Below U.heap.size U w'):=fun U hU=>Cd.eqIntS_same f.params B _ _ U (Nat.le_trans hB hU.size) (hp.below (hU.mono hB)) (hq.below (hU.mono hB)) h1
  have HJ:Hid (∀ U,Below w.heap.size w U→Calls Tryz.prog 45 #[.slice ia f.ins.length ic,.slice ib f.ins.length id'] U fun e w'=>e = .returned (.bool true)∧Below U.heap.size U w'):=fun U hU=>Cd.eqInsS_same f.ins B _ _ U (Nat.le_trans hB hU.size) (hi.below (hU.mono hB)) (hj.below (hU.mono hB)) h2
  obtain ⟨Y2,hY2⟩:∃ Y,(w.alloc (.cells #[.string f.name,.slice pa f.params.length pc,.int .i64 f.result,.int .i64 f.slots,.slice ia f.ins.length ic] 37)).alloc (.cells #[.string f.name,.slice pb f.params.length pd,.int .i64 f.result,.int .i64 f.slots,.slice ib f.ins.length id'] 37)=Y:=⟨_,rfl⟩
  have hb2:Below w.heap.size w Y2:=by rw [← hY2];exact Cd.b2 w _ _
  have hs2:Y2.heap.size=w.heap.size+2:=by rw [← hY2,World.size_alloc,World.size_alloc]
  have q0:Y2.heap[w.heap.size]? = some (.cells #[.string f.name,.slice pa f.params.length pc,.int .i64 f.result,.int .i64 f.slots,.slice ia f.ins.length ic] 37):=by rw [← hY2];exact Cd.keepH _ (Cd.new_at w _)
  have q1:Y2.heap[w.heap.size+1]? = some (.cells #[.string f.name,.slice pb f.params.length pd,.int .i64 f.result,.int .i64 f.slots,.slice ib f.ins.length id'] 37):=by
    rw [← hY2]
    have h:=Cd.new_at (w.alloc (.cells #[.string f.name,.slice pa f.params.length pc,.int .i64 f.result,.int .i64 f.slots,.slice ia f.ins.length ic] 37)) (.cells #[.string f.name,.slice pb f.params.length pd,.int .i64 f.result,.int .i64 f.slots,.slice ib f.ins.length id'] 37)
    rw [World.size_alloc] at h
    exact h
  have HC:Hid (∀ U,Below Y2.heap.size Y2 U→(U.cell? ⟨w.heap.size,2,none⟩=some (.int .i64 f.result)∧U.cell? ⟨w.heap.size,3,none⟩=some (.int .i64 f.slots)∧U.cell? ⟨w.heap.size,4,none⟩=some (.slice ia f.ins.length ic))∧(U.cell? ⟨w.heap.size+1,2,none⟩=some (.int .i64 f.result)∧U.cell? ⟨w.heap.size+1,3,none⟩=some (.int .i64 f.slots)∧U.cell? ⟨w.heap.size+1,4,none⟩=some (.slice ib f.ins.length id'))∧Below w.heap.size w U):=fun U hU=>by
    obtain ⟨⟨-,-,x2,x3,x4⟩,-⟩:=Cd.cells5 ((hU.block _ (by omega)).trans q0)
    obtain ⟨⟨-,-,y2,y3,y4⟩,-⟩:=Cd.cells5 ((hU.block _ (by omega)).trans q1)
    exact ⟨⟨x2,x3,x4⟩,⟨y2,y3,y4⟩,hb2.trans (hU.mono hb2.size)⟩
  obtain ⟨⟨a0,a1,-,-,-⟩,-⟩:=Cd.cells5 q0
  obtain ⟨⟨b0,b1,-,-,-⟩,-⟩:=Cd.cells5 q1
  clear hp hq hi hj q0 q1
  go_enter Tryz.func27,Tryz.ntmps27
  go_wp2_with (first
    | (go_at_call 44;refine (HI.out _ (by first | exact hb2 | exact hb2.drew | exact Cd.belowD _ hb2)).mono ?_;rintro e w1 ⟨rfl,hb1⟩;obtain ⟨⟨x2,x3,x4⟩,⟨y2,y3,y4⟩,hw1⟩:=HC.out w1 (⟨hb1.os,hb1.tape,hb1.output,hb1.size,hb1.block⟩))
    | (go_at_call 45;refine (HJ.out _ hw1).mono ?_;rintro e w2 ⟨rfl,hb3⟩))
  all_goals go_ret
  all_goals exact ⟨rfl,hw1.trans (hb3.mono hw1.size)⟩
end Go.Proofs.YtbkhedpabfanoaaGreatDoor
namespace Go.Proofs.YtbkhedpabfanoaaGreatDoor
open Go.RowKit

set_option maxRecDepth 100000 in
set_option maxHeartbeats 2000000 in
theorem Cd.eqFnS_same (c:List Cd.Fn) (B:Nat) (pa pb:Option Addr) (ca cb:Nat) (w:World) (hB:B≤w.heap.size) (ha:Cd.CodeAt B w (.slice pa c.length ca) c) (hb:Cd.CodeAt B w (.slice pb c.length cb) c) (hl:c.length≤1048576) (hx:∀ k (hk:k < c.length),c[k].params.length≤1048576∧c[k].ins.length≤1048576) :
    Calls Tryz.prog 14 #[.slice pa c.length ca,.slice pb c.length cb] w fun e w'=>e = .returned (.bool true)∧Below w.heap.size w w':=by
  have HA:Hid (Cd.CodeAt B w (.slice pa c.length ca) c):=ha
  have HB:Hid (Cd.CodeAt B w (.slice pb c.length cb) c):=hb
  clear ha hb
  have hne:((c.length:Int) != (c.length:Int))=false:=by simp
  go_enter Tryz.func14,Tryz.ntmps14
  go_wp2
  go_loopw [5] (fun t wr => ∃ i:Nat,i≤c.length∧t = .int .i64 (i:Int)∧Below w.heap.size w wr) (fun t _=>c.length - (intOf t).toNat)
  case atStart=>exact ⟨0,by omega,rfl,Below.refl _ _⟩
  case round =>
    obtain ⟨i,hi,rfl,hbw⟩:=hrel
    have hz:w.heap.size≤wr.heap.size:=hbw.size
    by_cases hlt:i < c.length
    · have hltI:(i:Int) < (c.length:Int):=by omega
      obtain ⟨ga,xa,ppa,ppc,iia,iic,ea,hga,a0,a1,a2,a3,a4,hPa,hIa⟩:=(HA.out.below (hbw.mono hB)).fn i hlt
      obtain ⟨gb,xb,qpa,qpc,jia,jic,eb,hgb,b0,b1,b2,b3,b4,hPb,hIb⟩:=(HB.out.below (hbw.mono hB)).fn i hlt
      injection ea with ea1 ea2 ea3
      injection eb with eb1 eb2 eb3
      subst ea1 ea3 eb1 eb3
      have HE:Hid (∀ U,Below wr.heap.size wr U→Calls Tryz.prog 27 #[.agg #[.string c[i].name,.slice ppa c[i].params.length ppc,.int .i64 c[i].result,.int .i64 c[i].slots,.slice iia c[i].ins.length iic],.agg #[.string c[i].name,.slice qpa c[i].params.length qpc,.int .i64 c[i].result,.int .i64 c[i].slots,.slice jia c[i].ins.length jic]] U fun e w'=>e = .returned (.bool true)∧Below U.heap.size U w'):=fun U hU=>by
        have hBU:Below B wr U:=hU.mono (by omega)
        exact Cd.eqFn_same c[i] B ppa qpa iia jia ppc qpc iic jic U (by have:=hU.size;omega) (hPa.below hBU) (hPb.below hBU) (hIa.below hBU) (hIb.below hBU) (hx i hlt).1 (hx i hlt).2
      clear hPa hPb hIa hIb ea2 eb2
      go_wp2_with fail
      go_region_with (go_at_call 27;refine (HE.out _ (by first | exact Below.refl _ _ | exact (Below.refl _ _).drew | exact (Below.refl _ _).drew.drew | exact Cd.belowD _ (Below.refl _ _))).mono ?_;rintro e w1 ⟨rfl,hb1⟩)
      all_goals
        have hbw2:Below w.heap.size w w1:=hbw.trans (by have:=hb1.mono (B':=w.heap.size) (by simpa using hz);exact ⟨this.os,this.tape,this.output,this.size,this.block⟩)
        clear a0 a1 a2 a3 a4 b0 b1 b2 b3 b4
        go_wp2
        go_roundw
        case rel=>exact ⟨i+1,by omega,by go_num,hbw2⟩
        case measure=>simp [intOf];omega
    · have hltI:¬ (i:Int) < (c.length:Int):=by omega
      go_wp2
      go_ret
      exact ⟨rfl,hbw⟩
set_option maxRecDepth 100000 in
set_option maxHeartbeats 1000000 in
theorem Cd.eqCode_same (c:List Cd.Fn) (B:Nat) (pa pb:Option Addr) (ca cb:Nat) (w:World) (hB:B≤w.heap.size) (ha:Cd.CodeAt B w (.slice pa c.length ca) c) (hb:Cd.CodeAt B w (.slice pb c.length cb) c) (hl:c.length≤1048576) (hx:∀ k (hk:k < c.length),c[k].params.length≤1048576∧c[k].ins.length≤1048576) :
    Calls Tryz.prog 6 #[.agg #[.slice pa c.length ca],.agg #[.slice pb c.length cb]] w fun e w'=>e = .returned (.bool true)∧Below w.heap.size w w':=by
  have HE:Hid (∀ o1 o2,Calls Tryz.prog 14 #[.slice pa c.length ca,.slice pb c.length cb] ((w.alloc o1).alloc o2) fun e w'=>e = .returned (.bool true)∧Below w.heap.size w w'):=fun o1 o2=>by
    have hb2:=Cd.b2 w o1 o2
    exact (Cd.eqFnS_same c B pa pb ca cb _ (Nat.le_trans hB hb2.size) (ha.below (hb2.mono hB)) (hb.below (hb2.mono hB)) hl hx).mono (fun e w' h=>⟨h.1,hb2.trans (h.2.mono hb2.size)⟩)
  clear ha hb
  go_enter Tryz.func6,Tryz.ntmps6
  go_wp2_with (first | (go_at_call 14;refine (HE.out _ _).mono ?_;rintro e w1 ⟨rfl,hb1⟩))
  go_ret
  exact ⟨rfl,hb1⟩
end Go.Proofs.YtbkhedpabfanoaaGreatDoor
