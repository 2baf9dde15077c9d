import Derived.Test.YtbkhedpabfanoaaGreatDoorKCdJ
namespace Go.Proofs.YtbkhedpabfanoaaGreatDoor
open Go.RowKit

set_option maxRecDepth 100000 in
set_option maxHeartbeats 1000000 in
theorem Cd.gives_5A (c:List Cd.Fn) (f:Cd.Fn) (a n:Int) (text:ByteArray) (s k:List Int) (ca ia sa ka:Option Addr) (cc ic sc kc:Nat) (pv:Value) (_hcl:c.length≤60) (_hil:f.ins.length≤50000) (_hsl:s.length≤200) (hkl:k.length=0) (hk600:k.length≤600) (w:World) (hS:Cd.IntsAt w.heap.size w (.slice sa s.length sc) s) (hK:Cd.IntsAt w.heap.size w (.slice ka k.length kc) k) :
    Calls Tryz.prog 65 #[.agg #[.slice ca c.length cc],Cd.fnV f pv (.slice ia f.ins.length ic),Cd.insV ⟨5,a,n,text⟩,Cd.shV 1 (.slice sa s.length sc) (.slice ka k.length kc)] w (Cd.GivesIs c f ⟨5,a,n,text⟩ s k w):=by
  obtain ⟨Y1,Y2,Y3,Z,hY1,hY2,hY3,hZ,hs1,hs2,hs3,hbZ,HZs,zc,zf,zi0,zi1,zs1,zs2,HSZ,HKZ⟩:=Cd.pre4 c f 5 a n text s k ca ia sa ka cc ic sc kc pv w hS hK
  clear hS hK
  obtain rfl:k=[]:=List.eq_nil_of_length_eq_zero hkl
  have HT:Hid (Cd.top []=0):=(rfl:Cd.top []=0)
  have HBL:Hid (Cd.below []=0):=(rfl:Cd.below []=0)
  simp only [List.length_nil] at hZ zs2 hk600 HKZ ⊢
  have HG:Hid (Cd.gives c f ⟨5,a,n,text⟩ s []=(1,[Cd.un a 0],(Cd.un a 0 != 0))):=by
    simp only [Hid,Cd.gives]
    rw [if_neg (by decide),if_neg (by decide),if_neg (by decide),if_pos (by decide),HT.out,Cd.ne_b]
  unfold Cd.GivesIs
  rw [HG.out]
  unfold Cd.fnV Cd.insV Cd.shV
  clear HG HSZ HKZ HT HBL
  go_enter Tryz.func65,Tryz.ntmps65
  obtain ⟨u,HU⟩:∃ u,Hid (Cd.un a 0=u):=⟨_,(rfl:Cd.un a 0=_)⟩
  simp only [HU.out]
  go_wp2_with fail
  go_at_call 79;refine (Cd.l3Un_any _ _ _).mono ?_;rintro e w' ⟨rfl,rfl⟩;rw [HU.out]
  go_wp2_with fail
  all_goals go_ret3
  all_goals exact ⟨⟨.slice (some ⟨Z.heap.size,0,none⟩) ([u]:List Int).length ([u]:List Int).length,by (first | rfl | (simp;done) | (simp [*];done) | (simp_all;done) | (simp;omega)),Cd.IntsAt.newZ (Z:=Z) (hs:=[u]) _ _ rfl⟩,by first | exact Cd.Below.new hbZ _ | exact Below.drew (Cd.Below.new hbZ _) | exact Below.drew (Below.drew (Cd.Below.new hbZ _))⟩
set_option maxRecDepth 100000 in
set_option maxHeartbeats 1000000 in
theorem Cd.gives_6A (c:List Cd.Fn) (f:Cd.Fn) (a n:Int) (text:ByteArray) (s k:List Int) (ca ia sa ka:Option Addr) (cc ic sc kc:Nat) (pv:Value) (_hcl:c.length≤60) (_hil:f.ins.length≤50000) (_hsl:s.length≤200) (hkl:k.length=0) (hk600:k.length≤600) (w:World) (hS:Cd.IntsAt w.heap.size w (.slice sa s.length sc) s) (hK:Cd.IntsAt w.heap.size w (.slice ka k.length kc) k) :
    Calls Tryz.prog 65 #[.agg #[.slice ca c.length cc],Cd.fnV f pv (.slice ia f.ins.length ic),Cd.insV ⟨6,a,n,text⟩,Cd.shV 1 (.slice sa s.length sc) (.slice ka k.length kc)] w (Cd.GivesIs c f ⟨6,a,n,text⟩ s k w):=by
  obtain ⟨Y1,Y2,Y3,Z,hY1,hY2,hY3,hZ,hs1,hs2,hs3,hbZ,HZs,zc,zf,zi0,zi1,zs1,zs2,HSZ,HKZ⟩:=Cd.pre4 c f 6 a n text s k ca ia sa ka cc ic sc kc pv w hS hK
  clear hS hK
  obtain rfl:k=[]:=List.eq_nil_of_length_eq_zero hkl
  have HT:Hid (Cd.top []=0):=(rfl:Cd.top []=0)
  have HBL:Hid (Cd.below []=0):=(rfl:Cd.below []=0)
  simp only [List.length_nil] at hZ zs2 hk600 HKZ ⊢
  have HG:Hid (Cd.gives c f ⟨6,a,n,text⟩ s []=(2,[Cd.bin a 0 0],(Cd.bin a 0 0 != 0))):=by
    simp only [Hid,Cd.gives]
    rw [if_neg (by decide),if_neg (by decide),if_neg (by decide),if_neg (by decide),if_pos (by decide),HT.out,HBL.out,Cd.ne_b]
  unfold Cd.GivesIs
  rw [HG.out]
  unfold Cd.fnV Cd.insV Cd.shV
  clear HG HSZ HKZ HT HBL
  go_enter Tryz.func65,Tryz.ntmps65
  obtain ⟨u,HU⟩:∃ u,Hid (Cd.bin a 0 0=u):=⟨_,(rfl:Cd.bin a 0 0=_)⟩
  simp only [HU.out]
  go_wp2_with fail
  go_at_call 80;refine (Cd.l3Bin_any _ _ _ _).mono ?_;rintro e w' ⟨rfl,rfl⟩;rw [HU.out]
  go_wp2_with fail
  all_goals go_ret3
  all_goals exact ⟨⟨.slice (some ⟨Z.heap.size,0,none⟩) ([u]:List Int).length ([u]:List Int).length,by (first | rfl | (simp;done) | (simp [*];done) | (simp_all;done) | (simp;omega)),Cd.IntsAt.newZ (Z:=Z) (hs:=[u]) _ _ rfl⟩,by first | exact Cd.Below.new hbZ _ | exact Below.drew (Cd.Below.new hbZ _) | exact Below.drew (Below.drew (Cd.Below.new hbZ _))⟩
set_option maxRecDepth 100000 in
set_option maxHeartbeats 1000000 in
theorem Cd.gives_7A (c:List Cd.Fn) (f:Cd.Fn) (a n:Int) (text:ByteArray) (s k:List Int) (ca ia sa ka:Option Addr) (cc ic sc kc:Nat) (pv:Value) (_hcl:c.length≤60) (_hil:f.ins.length≤50000) (_hsl:s.length≤200) (hkl:k.length=0) (hk600:k.length≤600) (w:World) (hS:Cd.IntsAt w.heap.size w (.slice sa s.length sc) s) (hK:Cd.IntsAt w.heap.size w (.slice ka k.length kc) k) :
    Calls Tryz.prog 65 #[.agg #[.slice ca c.length cc],Cd.fnV f pv (.slice ia f.ins.length ic),Cd.insV ⟨7,a,n,text⟩,Cd.shV 1 (.slice sa s.length sc) (.slice ka k.length kc)] w (Cd.GivesIs c f ⟨7,a,n,text⟩ s k w):=by
  obtain ⟨Y1,Y2,Y3,Z,hY1,hY2,hY3,hZ,hs1,hs2,hs3,hbZ,HZs,zc,zf,zi0,zi1,zs1,zs2,HSZ,HKZ⟩:=Cd.pre4 c f 7 a n text s k ca ia sa ka cc ic sc kc pv w hS hK
  clear hS hK
  obtain rfl:k=[]:=List.eq_nil_of_length_eq_zero hkl
  have HT:Hid (Cd.top []=0):=(rfl:Cd.top []=0)
  have HBL:Hid (Cd.below []=0):=(rfl:Cd.below []=0)
  simp only [List.length_nil] at hZ zs2 hk600 HKZ ⊢
  have HG:Hid (Cd.gives c f ⟨7,a,n,text⟩ s []=(1,[a],Cd.isInt 0)):=by
    rw [Hid,Cd.gives]
    simp [HT.out]
  unfold Cd.GivesIs
  rw [HG.out]
  unfold Cd.fnV Cd.insV Cd.shV
  clear HG HSZ HKZ HT HBL
  go_enter Tryz.func65,Tryz.ntmps65
  have P0:(fun w'=>w'.cell? ⟨w.heap.size+2,1,none⟩=some (.int .i64 a)) Z:=zi1
  have P1:(fun w'=>w'.cell? ⟨w.heap.size+2,1,none⟩=some (.int .i64 a)) Z.drew:=P0
  have P2:∀ o:Obj,(fun w'=>w'.cell? ⟨w.heap.size+2,1,none⟩=some (.int .i64 a)) (Z.alloc o):=fun o=>((Cd.b1 Z o).cell (p:=⟨w.heap.size+2,1,none⟩) (by show w.heap.size+2 < _;have:=HZs.out;omega)).trans zi1
  have P3:∀ o:Obj,(fun w'=>w'.cell? ⟨w.heap.size+2,1,none⟩=some (.int .i64 a)) (Z.drew.alloc o):=fun o=>P2 o
  have P4:∀ o:Obj,(fun w'=>w'.cell? ⟨w.heap.size+2,1,none⟩=some (.int .i64 a)) (Z.alloc o).drew:=fun o=>P2 o
  go_wp2_with fail
  go_region_held3 (fun w'=>w'.cell? ⟨w.heap.size+2,1,none⟩=some (.int .i64 a)) (with_reducible first | exact P0 | exact P1 | exact P2 _ | exact P3 _ | exact P4 _) (first | (go_at_call 77;refine (Cd.l1Integer_any _ _).mono ?_;rintro e w9 ⟨rfl,rfl⟩))
  all_goals go_wp2_with fail
  all_goals go_ret3
  all_goals exact ⟨⟨.slice (some ⟨Z.heap.size,0,none⟩) ([a]:List Int).length ([a]:List Int).length,by (first | rfl | (simp;done) | (simp [*];done) | (simp_all;done) | (simp;omega)),Cd.IntsAt.newZ (Z:=Z) (hs:=[a]) _ _ rfl⟩,by first | exact Cd.Below.new hbZ _ | exact Below.drew (Cd.Below.new hbZ _) | exact Below.drew (Below.drew (Cd.Below.new hbZ _))⟩
set_option maxRecDepth 100000 in
set_option maxHeartbeats 1000000 in
theorem Cd.gives_2A (c:List Cd.Fn) (f:Cd.Fn) (a n:Int) (text:ByteArray) (s k:List Int) (ca ia sa ka:Option Addr) (cc ic sc kc:Nat) (pv:Value) (_hcl:c.length≤60) (_hil:f.ins.length≤50000) (_hsl:s.length≤200) (hkl:k.length=0) (hk600:k.length≤600) (ha0:0≤a) (ha1:a < (s.length:Int)) (w:World) (hS:Cd.IntsAt w.heap.size w (.slice sa s.length sc) s) (hK:Cd.IntsAt w.heap.size w (.slice ka k.length kc) k) :
    Calls Tryz.prog 65 #[.agg #[.slice ca c.length cc],Cd.fnV f pv (.slice ia f.ins.length ic),Cd.insV ⟨2,a,n,text⟩,Cd.shV 1 (.slice sa s.length sc) (.slice ka k.length kc)] w (Cd.GivesIs c f ⟨2,a,n,text⟩ s k w):=by
  obtain ⟨Y1,Y2,Y3,Z,hY1,hY2,hY3,hZ,hs1,hs2,hs3,hbZ,HZs,zc,zf,zi0,zi1,zs1,zs2,HSZ,HKZ⟩:=Cd.pre4 c f 2 a n text s k ca ia sa ka cc ic sc kc pv w hS hK
  clear hS hK
  obtain rfl:k=[]:=List.eq_nil_of_length_eq_zero hkl
  have HT:Hid (Cd.top []=0):=(rfl:Cd.top []=0)
  have HBL:Hid (Cd.below []=0):=(rfl:Cd.below []=0)
  simp only [List.length_nil] at hZ zs2 hk600 HKZ ⊢
  obtain ⟨j,rfl⟩:∃ j:Nat,a=(j:Int):=⟨a.toNat,by omega⟩
  have hj:j < s.length:=by omega
  obtain ⟨t,ht⟩:∃ t,s[j]=t:=⟨_,rfl⟩
  have HGT:Hid (s[j]?.getD 0=t):=by rw [Hid,List.getElem?_eq_getElem hj,ht];rfl
  obtain ⟨gs,os,rfl,hgs,st⟩:∃ g o,sa=some ⟨g,o,none⟩∧g < w.heap.size∧Z.cell? ⟨g,o+j,none⟩=some (.int .i64 t):=by
    obtain ⟨a',cp,he,hc⟩:=HSZ.out
    injection he with e1
    subst e1
    have:=hc j hj
    rw [ht] at this
    exact this
  clear ht
  have HG:Hid (Cd.gives c f ⟨2,(j:Int),n,text⟩ s []=(0,[t],(t != 0))):=by
    simp only [Hid,Cd.gives]
    rw [if_neg (by decide),if_pos (by decide),Cd.ne_b]
    show (0,[s.getD (Int.toNat (j:Int)) 0],s.getD (Int.toNat (j:Int)) 0 != 0)=_
    rw [Int.toNat_natCast,List.getD_eq_getElem?_getD,HGT.out]
  unfold Cd.GivesIs
  rw [HG.out]
  unfold Cd.fnV Cd.insV Cd.shV
  clear HG HSZ HKZ HT HBL
  go_enter Tryz.func65,Tryz.ntmps65
  have P0:(fun w'=>w'.cell? ⟨w.heap.size+2,1,none⟩=some (.int .i64 (j:Int))∧w'.cell? ⟨w.heap.size+3,1,none⟩=some (.slice (some ⟨gs,os,none⟩) s.length sc)∧w'.cell? ⟨gs,os+j,none⟩=some (.int .i64 t)) Z:=⟨zi1,zs1,st⟩
  have P1:(fun w'=>w'.cell? ⟨w.heap.size+2,1,none⟩=some (.int .i64 (j:Int))∧w'.cell? ⟨w.heap.size+3,1,none⟩=some (.slice (some ⟨gs,os,none⟩) s.length sc)∧w'.cell? ⟨gs,os+j,none⟩=some (.int .i64 t)) Z.drew:=P0
  have P2:∀ o:Obj,(fun w'=>w'.cell? ⟨w.heap.size+2,1,none⟩=some (.int .i64 (j:Int))∧w'.cell? ⟨w.heap.size+3,1,none⟩=some (.slice (some ⟨gs,os,none⟩) s.length sc)∧w'.cell? ⟨gs,os+j,none⟩=some (.int .i64 t)) (Z.alloc o):=fun o=>⟨((Cd.b1 Z o).cell (p:=⟨w.heap.size+2,1,none⟩) (by show w.heap.size+2 < _;have:=HZs.out;omega)).trans zi1,((Cd.b1 Z o).cell (p:=⟨w.heap.size+3,1,none⟩) (by show w.heap.size+3 < _;have:=HZs.out;omega)).trans zs1,((Cd.b1 Z o).cell (p:=⟨gs,os+j,none⟩) (by show gs < _;have:=HZs.out;omega)).trans st⟩
  have P3:∀ o:Obj,(fun w'=>w'.cell? ⟨w.heap.size+2,1,none⟩=some (.int .i64 (j:Int))∧w'.cell? ⟨w.heap.size+3,1,none⟩=some (.slice (some ⟨gs,os,none⟩) s.length sc)∧w'.cell? ⟨gs,os+j,none⟩=some (.int .i64 t)) (Z.drew.alloc o):=fun o=>P2 o
  have P4:∀ o:Obj,(fun w'=>w'.cell? ⟨w.heap.size+2,1,none⟩=some (.int .i64 (j:Int))∧w'.cell? ⟨w.heap.size+3,1,none⟩=some (.slice (some ⟨gs,os,none⟩) s.length sc)∧w'.cell? ⟨gs,os+j,none⟩=some (.int .i64 t)) (Z.alloc o).drew:=fun o=>P2 o
  go_wp2_with fail
  go_region_held3 (fun w'=>w'.cell? ⟨w.heap.size+2,1,none⟩=some (.int .i64 (j:Int))∧w'.cell? ⟨w.heap.size+3,1,none⟩=some (.slice (some ⟨gs,os,none⟩) s.length sc)∧w'.cell? ⟨gs,os+j,none⟩=some (.int .i64 t)) (with_reducible first | exact P0 | exact P1 | exact P2 _ | exact P3 _ | exact P4 _) (fail)
  all_goals go_wp2_with fail
  all_goals go_ret3
  all_goals exact ⟨⟨.slice (some ⟨Z.heap.size,0,none⟩) ([t]:List Int).length ([t]:List Int).length,by (first | rfl | (simp;done) | (simp [*];done) | (simp_all;done) | (simp;omega)),Cd.IntsAt.newZ (Z:=Z) (hs:=[t]) _ _ rfl⟩,by first | exact Cd.Below.new hbZ _ | exact Below.drew (Cd.Below.new hbZ _) | exact Below.drew (Below.drew (Cd.Below.new hbZ _))⟩
set_option maxRecDepth 100000 in
set_option maxHeartbeats 1000000 in
theorem Cd.gives_12A0 (c:List Cd.Fn) (f:Cd.Fn) (n:Int) (text:ByteArray) (s k:List Int) (ca ia sa ka:Option Addr) (cc ic sc kc:Nat) (pv:Value) (_hcl:c.length≤60) (_hil:f.ins.length≤50000) (_hsl:s.length≤200) (hkl:k.length=0) (hk600:k.length≤600) (w:World) (hS:Cd.IntsAt w.heap.size w (.slice sa s.length sc) s) (hK:Cd.IntsAt w.heap.size w (.slice ka k.length kc) k) :
    Calls Tryz.prog 65 #[.agg #[.slice ca c.length cc],Cd.fnV f pv (.slice ia f.ins.length ic),Cd.insV ⟨12,0,n,text⟩,Cd.shV 1 (.slice sa s.length sc) (.slice ka k.length kc)] w (Cd.GivesIs c f ⟨12,0,n,text⟩ s k w):=by
  obtain ⟨Y1,Y2,Y3,Z,hY1,hY2,hY3,hZ,hs1,hs2,hs3,hbZ,HZs,zc,zf,zi0,zi1,zs1,zs2,HSZ,HKZ⟩:=Cd.pre4 c f 12 0 n text s k ca ia sa ka cc ic sc kc pv w hS hK
  clear hS hK
  obtain rfl:k=[]:=List.eq_nil_of_length_eq_zero hkl
  have HT:Hid (Cd.top []=0):=(rfl:Cd.top []=0)
  have HBL:Hid (Cd.below []=0):=(rfl:Cd.below []=0)
  simp only [List.length_nil] at hZ zs2 hk600 HKZ ⊢
  have HG:Hid (Cd.gives c f ⟨12,0,n,text⟩ s []=(0,[],true)):=by
    rw [Hid,Cd.gives]
    simp [HT.out]
  unfold Cd.GivesIs
  rw [HG.out]
  unfold Cd.fnV Cd.insV Cd.shV
  clear HG HSZ HKZ HT HBL
  go_enter Tryz.func65,Tryz.ntmps65
  have P0:(fun w'=>w'.cell? ⟨w.heap.size+2,1,none⟩=some (.int .i64 0)∧w'.cell? ⟨w.heap.size+1,2,none⟩=some (.int .i64 f.result)) Z:=⟨zi1,zf⟩
  have P1:(fun w'=>w'.cell? ⟨w.heap.size+2,1,none⟩=some (.int .i64 0)∧w'.cell? ⟨w.heap.size+1,2,none⟩=some (.int .i64 f.result)) Z.drew:=P0
  have P2:∀ o:Obj,(fun w'=>w'.cell? ⟨w.heap.size+2,1,none⟩=some (.int .i64 0)∧w'.cell? ⟨w.heap.size+1,2,none⟩=some (.int .i64 f.result)) (Z.alloc o):=fun o=>⟨((Cd.b1 Z o).cell (p:=⟨w.heap.size+2,1,none⟩) (by show w.heap.size+2 < _;have:=HZs.out;omega)).trans zi1,((Cd.b1 Z o).cell (p:=⟨w.heap.size+1,2,none⟩) (by show w.heap.size+1 < _;have:=HZs.out;omega)).trans zf⟩
  have P3:∀ o:Obj,(fun w'=>w'.cell? ⟨w.heap.size+2,1,none⟩=some (.int .i64 0)∧w'.cell? ⟨w.heap.size+1,2,none⟩=some (.int .i64 f.result)) (Z.drew.alloc o):=fun o=>P2 o
  have P4:∀ o:Obj,(fun w'=>w'.cell? ⟨w.heap.size+2,1,none⟩=some (.int .i64 0)∧w'.cell? ⟨w.heap.size+1,2,none⟩=some (.int .i64 f.result)) (Z.alloc o).drew:=fun o=>P2 o
  have hg0:((0:Int) == 0)=true:=rfl
  go_wp2_with fail
  go_region
  all_goals go_wp2_with fail
  all_goals go_ret3
  all_goals exact ⟨⟨.slice (some ⟨Z.heap.size,0,none⟩) ([]:List Int).length ([]:List Int).length,by (first | rfl | (simp;done) | (simp [*];done) | (simp_all;done) | (simp;omega)),Cd.IntsAt.newZ (Z:=Z) (hs:=[]) _ _ rfl⟩,by first | exact Cd.Below.new hbZ _ | exact Below.drew (Cd.Below.new hbZ _) | exact Below.drew (Below.drew (Cd.Below.new hbZ _))⟩
set_option maxRecDepth 100000 in
set_option maxHeartbeats 1000000 in
theorem Cd.gives_12A1 (c:List Cd.Fn) (f:Cd.Fn) (n:Int) (text:ByteArray) (s k:List Int) (ca ia sa ka:Option Addr) (cc ic sc kc:Nat) (pv:Value) (_hcl:c.length≤60) (_hil:f.ins.length≤50000) (_hsl:s.length≤200) (hkl:k.length=0) (hk600:k.length≤600) (w:World) (hS:Cd.IntsAt w.heap.size w (.slice sa s.length sc) s) (hK:Cd.IntsAt w.heap.size w (.slice ka k.length kc) k) :
    Calls Tryz.prog 65 #[.agg #[.slice ca c.length cc],Cd.fnV f pv (.slice ia f.ins.length ic),Cd.insV ⟨12,1,n,text⟩,Cd.shV 1 (.slice sa s.length sc) (.slice ka k.length kc)] w (Cd.GivesIs c f ⟨12,1,n,text⟩ s k w):=by
  obtain ⟨Y1,Y2,Y3,Z,hY1,hY2,hY3,hZ,hs1,hs2,hs3,hbZ,HZs,zc,zf,zi0,zi1,zs1,zs2,HSZ,HKZ⟩:=Cd.pre4 c f 12 1 n text s k ca ia sa ka cc ic sc kc pv w hS hK
  clear hS hK
  obtain rfl:k=[]:=List.eq_nil_of_length_eq_zero hkl
  have HT:Hid (Cd.top []=0):=(rfl:Cd.top []=0)
  have HBL:Hid (Cd.below []=0):=(rfl:Cd.below []=0)
  simp only [List.length_nil] at hZ zs2 hk600 HKZ ⊢
  have HG:Hid (Cd.gives c f ⟨12,1,n,text⟩ s []=(1,[],false)):=by
    rw [Hid,Cd.gives]
    simp [HT.out]
  unfold Cd.GivesIs
  rw [HG.out]
  unfold Cd.fnV Cd.insV Cd.shV
  clear HG HSZ HKZ HT HBL
  go_enter Tryz.func65,Tryz.ntmps65
  have P0:(fun w'=>w'.cell? ⟨w.heap.size+2,1,none⟩=some (.int .i64 1)∧w'.cell? ⟨w.heap.size+1,2,none⟩=some (.int .i64 f.result)) Z:=⟨zi1,zf⟩
  have P1:(fun w'=>w'.cell? ⟨w.heap.size+2,1,none⟩=some (.int .i64 1)∧w'.cell? ⟨w.heap.size+1,2,none⟩=some (.int .i64 f.result)) Z.drew:=P0
  have P2:∀ o:Obj,(fun w'=>w'.cell? ⟨w.heap.size+2,1,none⟩=some (.int .i64 1)∧w'.cell? ⟨w.heap.size+1,2,none⟩=some (.int .i64 f.result)) (Z.alloc o):=fun o=>⟨((Cd.b1 Z o).cell (p:=⟨w.heap.size+2,1,none⟩) (by show w.heap.size+2 < _;have:=HZs.out;omega)).trans zi1,((Cd.b1 Z o).cell (p:=⟨w.heap.size+1,2,none⟩) (by show w.heap.size+1 < _;have:=HZs.out;omega)).trans zf⟩
  have P3:∀ o:Obj,(fun w'=>w'.cell? ⟨w.heap.size+2,1,none⟩=some (.int .i64 1)∧w'.cell? ⟨w.heap.size+1,2,none⟩=some (.int .i64 f.result)) (Z.drew.alloc o):=fun o=>P2 o
  have P4:∀ o:Obj,(fun w'=>w'.cell? ⟨w.heap.size+2,1,none⟩=some (.int .i64 1)∧w'.cell? ⟨w.heap.size+1,2,none⟩=some (.int .i64 f.result)) (Z.alloc o).drew:=fun o=>P2 o
  have hg0:((1:Int) == 0)=false:=rfl
  go_wp2_with fail
  go_region
  all_goals go_wp2_with fail
  all_goals go_ret3
  all_goals exact ⟨⟨.slice (some ⟨Z.heap.size,0,none⟩) ([]:List Int).length ([]:List Int).length,by (first | rfl | (simp;done) | (simp [*];done) | (simp_all;done) | (simp;omega)),Cd.IntsAt.newZ (Z:=Z) (hs:=[]) _ _ rfl⟩,by first | exact Cd.Below.new hbZ _ | exact Below.drew (Cd.Below.new hbZ _) | exact Below.drew (Below.drew (Cd.Below.new hbZ _))⟩
set_option maxRecDepth 100000 in
set_option maxHeartbeats 1000000 in
theorem Cd.gives_5B (c:List Cd.Fn) (f:Cd.Fn) (a n:Int) (text:ByteArray) (s k:List Int) (ca ia sa ka:Option Addr) (cc ic sc kc:Nat) (pv:Value) (_hcl:c.length≤60) (_hil:f.ins.length≤50000) (_hsl:s.length≤200) (hkl:k.length=1) (hk600:k.length≤600) (w:World) (hS:Cd.IntsAt w.heap.size w (.slice sa s.length sc) s) (hK:Cd.IntsAt w.heap.size w (.slice ka k.length kc) k) :
    Calls Tryz.prog 65 #[.agg #[.slice ca c.length cc],Cd.fnV f pv (.slice ia f.ins.length ic),Cd.insV ⟨5,a,n,text⟩,Cd.shV 1 (.slice sa s.length sc) (.slice ka k.length kc)] w (Cd.GivesIs c f ⟨5,a,n,text⟩ s k w):=by
  obtain ⟨Y1,Y2,Y3,Z,hY1,hY2,hY3,hZ,hs1,hs2,hs3,hbZ,HZs,zc,zf,zi0,zi1,zs1,zs2,HSZ,HKZ⟩:=Cd.pre4 c f 5 a n text s k ca ia sa ka cc ic sc kc pv w hS hK
  clear hS hK
  obtain ⟨x,rfl⟩:∃ x,k=[x]:=by
    cases k with
    | nil=>simp at hkl
    | cons x r=>cases r with
      | nil=>exact ⟨x,rfl⟩
      | cons y q=>simp at hkl
  have HT:Hid (Cd.top [x]=x):=(rfl:Cd.top [x]=x)
  have HBL:Hid (Cd.below [x]=0):=(rfl:Cd.below [x]=0)
  obtain ⟨gk,ok,rfl,_,kx⟩:∃ g o,ka=some ⟨g,o,none⟩∧g < w.heap.size∧Z.cell? ⟨g,o,none⟩=some (.int .i64 x):=by
    obtain ⟨a',cp,he,hc⟩:=HKZ.out
    injection he with e1
    subst e1
    exact hc 0 (by simp)
  simp only [List.length_cons,List.length_nil,Nat.zero_add] at hZ zs2 hk600 HKZ ⊢
  have HG:Hid (Cd.gives c f ⟨5,a,n,text⟩ s [x]=(1,[Cd.un a x],(Cd.un a x != 0))):=by
    simp only [Hid,Cd.gives]
    rw [if_neg (by decide),if_neg (by decide),if_neg (by decide),if_pos (by decide),HT.out,Cd.ne_b]
  unfold Cd.GivesIs
  rw [HG.out]
  unfold Cd.fnV Cd.insV Cd.shV
  clear HG HSZ HKZ HT HBL
  go_enter Tryz.func65,Tryz.ntmps65
  obtain ⟨u,HU⟩:∃ u,Hid (Cd.un a x=u):=⟨_,(rfl:Cd.un a x=_)⟩
  simp only [HU.out]
  go_wp2_with fail
  go_at_call 79;refine (Cd.l3Un_any _ _ _).mono ?_;rintro e w' ⟨rfl,rfl⟩;rw [HU.out]
  go_wp2_with fail
  all_goals go_ret3
  all_goals exact ⟨⟨.slice (some ⟨Z.heap.size,0,none⟩) ([u]:List Int).length ([u]:List Int).length,by (first | rfl | (simp;done) | (simp [*];done) | (simp_all;done) | (simp;omega)),Cd.IntsAt.newZ (Z:=Z) (hs:=[u]) _ _ rfl⟩,by first | exact Cd.Below.new hbZ _ | exact Below.drew (Cd.Below.new hbZ _) | exact Below.drew (Below.drew (Cd.Below.new hbZ _))⟩
set_option maxRecDepth 100000 in
set_option maxHeartbeats 1000000 in
theorem Cd.gives_6B (c:List Cd.Fn) (f:Cd.Fn) (a n:Int) (text:ByteArray) (s k:List Int) (ca ia sa ka:Option Addr) (cc ic sc kc:Nat) (pv:Value) (_hcl:c.length≤60) (_hil:f.ins.length≤50000) (_hsl:s.length≤200) (hkl:k.length=1) (hk600:k.length≤600) (w:World) (hS:Cd.IntsAt w.heap.size w (.slice sa s.length sc) s) (hK:Cd.IntsAt w.heap.size w (.slice ka k.length kc) k) :
    Calls Tryz.prog 65 #[.agg #[.slice ca c.length cc],Cd.fnV f pv (.slice ia f.ins.length ic),Cd.insV ⟨6,a,n,text⟩,Cd.shV 1 (.slice sa s.length sc) (.slice ka k.length kc)] w (Cd.GivesIs c f ⟨6,a,n,text⟩ s k w):=by
  obtain ⟨Y1,Y2,Y3,Z,hY1,hY2,hY3,hZ,hs1,hs2,hs3,hbZ,HZs,zc,zf,zi0,zi1,zs1,zs2,HSZ,HKZ⟩:=Cd.pre4 c f 6 a n text s k ca ia sa ka cc ic sc kc pv w hS hK
  clear hS hK
  obtain ⟨x,rfl⟩:∃ x,k=[x]:=by
    cases k with
    | nil=>simp at hkl
    | cons x r=>cases r with
      | nil=>exact ⟨x,rfl⟩
      | cons y q=>simp at hkl
  have HT:Hid (Cd.top [x]=x):=(rfl:Cd.top [x]=x)
  have HBL:Hid (Cd.below [x]=0):=(rfl:Cd.below [x]=0)
  obtain ⟨gk,ok,rfl,_,kx⟩:∃ g o,ka=some ⟨g,o,none⟩∧g < w.heap.size∧Z.cell? ⟨g,o,none⟩=some (.int .i64 x):=by
    obtain ⟨a',cp,he,hc⟩:=HKZ.out
    injection he with e1
    subst e1
    exact hc 0 (by simp)
  simp only [List.length_cons,List.length_nil,Nat.zero_add] at hZ zs2 hk600 HKZ ⊢
  have HG:Hid (Cd.gives c f ⟨6,a,n,text⟩ s [x]=(2,[Cd.bin a 0 x],(Cd.bin a 0 x != 0))):=by
    simp only [Hid,Cd.gives]
    rw [if_neg (by decide),if_neg (by decide),if_neg (by decide),if_neg (by decide),if_pos (by decide),HT.out,HBL.out,Cd.ne_b]
  unfold Cd.GivesIs
  rw [HG.out]
  unfold Cd.fnV Cd.insV Cd.shV
  clear HG HSZ HKZ HT HBL
  go_enter Tryz.func65,Tryz.ntmps65
  obtain ⟨u,HU⟩:∃ u,Hid (Cd.bin a 0 x=u):=⟨_,(rfl:Cd.bin a 0 x=_)⟩
  simp only [HU.out]
  go_wp2_with fail
  go_at_call 80;refine (Cd.l3Bin_any _ _ _ _).mono ?_;rintro e w' ⟨rfl,rfl⟩;rw [HU.out]
  go_wp2_with fail
  all_goals go_ret3
  all_goals exact ⟨⟨.slice (some ⟨Z.heap.size,0,none⟩) ([u]:List Int).length ([u]:List Int).length,by (first | rfl | (simp;done) | (simp [*];done) | (simp_all;done) | (simp;omega)),Cd.IntsAt.newZ (Z:=Z) (hs:=[u]) _ _ rfl⟩,by first | exact Cd.Below.new hbZ _ | exact Below.drew (Cd.Below.new hbZ _) | exact Below.drew (Below.drew (Cd.Below.new hbZ _))⟩
set_option maxRecDepth 100000 in
set_option maxHeartbeats 1000000 in
theorem Cd.gives_7B (c:List Cd.Fn) (f:Cd.Fn) (a n:Int) (text:ByteArray) (s k:List Int) (ca ia sa ka:Option Addr) (cc ic sc kc:Nat) (pv:Value) (_hcl:c.length≤60) (_hil:f.ins.length≤50000) (_hsl:s.length≤200) (hkl:k.length=1) (hk600:k.length≤600) (w:World) (hS:Cd.IntsAt w.heap.size w (.slice sa s.length sc) s) (hK:Cd.IntsAt w.heap.size w (.slice ka k.length kc) k) :
    Calls Tryz.prog 65 #[.agg #[.slice ca c.length cc],Cd.fnV f pv (.slice ia f.ins.length ic),Cd.insV ⟨7,a,n,text⟩,Cd.shV 1 (.slice sa s.length sc) (.slice ka k.length kc)] w (Cd.GivesIs c f ⟨7,a,n,text⟩ s k w):=by
  obtain ⟨Y1,Y2,Y3,Z,hY1,hY2,hY3,hZ,hs1,hs2,hs3,hbZ,HZs,zc,zf,zi0,zi1,zs1,zs2,HSZ,HKZ⟩:=Cd.pre4 c f 7 a n text s k ca ia sa ka cc ic sc kc pv w hS hK
  clear hS hK
  obtain ⟨x,rfl⟩:∃ x,k=[x]:=by
    cases k with
    | nil=>simp at hkl
    | cons x r=>cases r with
      | nil=>exact ⟨x,rfl⟩
      | cons y q=>simp at hkl
  have HT:Hid (Cd.top [x]=x):=(rfl:Cd.top [x]=x)
  have HBL:Hid (Cd.below [x]=0):=(rfl:Cd.below [x]=0)
  obtain ⟨gk,ok,rfl,_,kx⟩:∃ g o,ka=some ⟨g,o,none⟩∧g < w.heap.size∧Z.cell? ⟨g,o,none⟩=some (.int .i64 x):=by
    obtain ⟨a',cp,he,hc⟩:=HKZ.out
    injection he with e1
    subst e1
    exact hc 0 (by simp)
  simp only [List.length_cons,List.length_nil,Nat.zero_add] at hZ zs2 hk600 HKZ ⊢
  have HG:Hid (Cd.gives c f ⟨7,a,n,text⟩ s [x]=(1,[a],Cd.isInt x)):=by
    rw [Hid,Cd.gives]
    simp [HT.out]
  unfold Cd.GivesIs
  rw [HG.out]
  unfold Cd.fnV Cd.insV Cd.shV
  clear HG HSZ HKZ HT HBL
  go_enter Tryz.func65,Tryz.ntmps65
  have P0:(fun w'=>w'.cell? ⟨w.heap.size+2,1,none⟩=some (.int .i64 a)) Z:=zi1
  have P1:(fun w'=>w'.cell? ⟨w.heap.size+2,1,none⟩=some (.int .i64 a)) Z.drew:=P0
  have P2:∀ o:Obj,(fun w'=>w'.cell? ⟨w.heap.size+2,1,none⟩=some (.int .i64 a)) (Z.alloc o):=fun o=>((Cd.b1 Z o).cell (p:=⟨w.heap.size+2,1,none⟩) (by show w.heap.size+2 < _;have:=HZs.out;omega)).trans zi1
  have P3:∀ o:Obj,(fun w'=>w'.cell? ⟨w.heap.size+2,1,none⟩=some (.int .i64 a)) (Z.drew.alloc o):=fun o=>P2 o
  have P4:∀ o:Obj,(fun w'=>w'.cell? ⟨w.heap.size+2,1,none⟩=some (.int .i64 a)) (Z.alloc o).drew:=fun o=>P2 o
  go_wp2_with fail
  go_region_held3 (fun w'=>w'.cell? ⟨w.heap.size+2,1,none⟩=some (.int .i64 a)) (with_reducible first | exact P0 | exact P1 | exact P2 _ | exact P3 _ | exact P4 _) (first | (go_at_call 77;refine (Cd.l1Integer_any _ _).mono ?_;rintro e w9 ⟨rfl,rfl⟩))
  all_goals go_wp2_with fail
  all_goals go_ret3
  all_goals exact ⟨⟨.slice (some ⟨Z.heap.size,0,none⟩) ([a]:List Int).length ([a]:List Int).length,by (first | rfl | (simp;done) | (simp [*];done) | (simp_all;done) | (simp;omega)),Cd.IntsAt.newZ (Z:=Z) (hs:=[a]) _ _ rfl⟩,by first | exact Cd.Below.new hbZ _ | exact Below.drew (Cd.Below.new hbZ _) | exact Below.drew (Below.drew (Cd.Below.new hbZ _))⟩
set_option maxRecDepth 100000 in
set_option maxHeartbeats 1000000 in
theorem Cd.gives_2B (c:List Cd.Fn) (f:Cd.Fn) (a n:Int) (text:ByteArray) (s k:List Int) (ca ia sa ka:Option Addr) (cc ic sc kc:Nat) (pv:Value) (_hcl:c.length≤60) (_hil:f.ins.length≤50000) (_hsl:s.length≤200) (hkl:k.length=1) (hk600:k.length≤600) (ha0:0≤a) (ha1:a < (s.length:Int)) (w:World) (hS:Cd.IntsAt w.heap.size w (.slice sa s.length sc) s) (hK:Cd.IntsAt w.heap.size w (.slice ka k.length kc) k) :
    Calls Tryz.prog 65 #[.agg #[.slice ca c.length cc],Cd.fnV f pv (.slice ia f.ins.length ic),Cd.insV ⟨2,a,n,text⟩,Cd.shV 1 (.slice sa s.length sc) (.slice ka k.length kc)] w (Cd.GivesIs c f ⟨2,a,n,text⟩ s k w):=by
  obtain ⟨Y1,Y2,Y3,Z,hY1,hY2,hY3,hZ,hs1,hs2,hs3,hbZ,HZs,zc,zf,zi0,zi1,zs1,zs2,HSZ,HKZ⟩:=Cd.pre4 c f 2 a n text s k ca ia sa ka cc ic sc kc pv w hS hK
  clear hS hK
  obtain ⟨x,rfl⟩:∃ x,k=[x]:=by
    cases k with
    | nil=>simp at hkl
    | cons x r=>cases r with
      | nil=>exact ⟨x,rfl⟩
      | cons y q=>simp at hkl
  have HT:Hid (Cd.top [x]=x):=(rfl:Cd.top [x]=x)
  have HBL:Hid (Cd.below [x]=0):=(rfl:Cd.below [x]=0)
  obtain ⟨gk,ok,rfl,_,kx⟩:∃ g o,ka=some ⟨g,o,none⟩∧g < w.heap.size∧Z.cell? ⟨g,o,none⟩=some (.int .i64 x):=by
    obtain ⟨a',cp,he,hc⟩:=HKZ.out
    injection he with e1
    subst e1
    exact hc 0 (by simp)
  simp only [List.length_cons,List.length_nil,Nat.zero_add] at hZ zs2 hk600 HKZ ⊢
  obtain ⟨j,rfl⟩:∃ j:Nat,a=(j:Int):=⟨a.toNat,by omega⟩
  have hj:j < s.length:=by omega
  obtain ⟨t,ht⟩:∃ t,s[j]=t:=⟨_,rfl⟩
  have HGT:Hid (s[j]?.getD 0=t):=by rw [Hid,List.getElem?_eq_getElem hj,ht];rfl
  obtain ⟨gs,os,rfl,hgs,st⟩:∃ g o,sa=some ⟨g,o,none⟩∧g < w.heap.size∧Z.cell? ⟨g,o+j,none⟩=some (.int .i64 t):=by
    obtain ⟨a',cp,he,hc⟩:=HSZ.out
    injection he with e1
    subst e1
    have:=hc j hj
    rw [ht] at this
    exact this
  clear ht
  have HG:Hid (Cd.gives c f ⟨2,(j:Int),n,text⟩ s [x]=(0,[t],(t != 0))):=by
    simp only [Hid,Cd.gives]
    rw [if_neg (by decide),if_pos (by decide),Cd.ne_b]
    show (0,[s.getD (Int.toNat (j:Int)) 0],s.getD (Int.toNat (j:Int)) 0 != 0)=_
    rw [Int.toNat_natCast,List.getD_eq_getElem?_getD,HGT.out]
  unfold Cd.GivesIs
  rw [HG.out]
  unfold Cd.fnV Cd.insV Cd.shV
  clear HG HSZ HKZ HT HBL
  go_enter Tryz.func65,Tryz.ntmps65
  have P0:(fun w'=>w'.cell? ⟨w.heap.size+2,1,none⟩=some (.int .i64 (j:Int))∧w'.cell? ⟨w.heap.size+3,1,none⟩=some (.slice (some ⟨gs,os,none⟩) s.length sc)∧w'.cell? ⟨gs,os+j,none⟩=some (.int .i64 t)) Z:=⟨zi1,zs1,st⟩
  have P1:(fun w'=>w'.cell? ⟨w.heap.size+2,1,none⟩=some (.int .i64 (j:Int))∧w'.cell? ⟨w.heap.size+3,1,none⟩=some (.slice (some ⟨gs,os,none⟩) s.length sc)∧w'.cell? ⟨gs,os+j,none⟩=some (.int .i64 t)) Z.drew:=P0
  have P2:∀ o:Obj,(fun w'=>w'.cell? ⟨w.heap.size+2,1,none⟩=some (.int .i64 (j:Int))∧w'.cell? ⟨w.heap.size+3,1,none⟩=some (.slice (some ⟨gs,os,none⟩) s.length sc)∧w'.cell? ⟨gs,os+j,none⟩=some (.int .i64 t)) (Z.alloc o):=fun o=>⟨((Cd.b1 Z o).cell (p:=⟨w.heap.size+2,1,none⟩) (by show w.heap.size+2 < _;have:=HZs.out;omega)).trans zi1,((Cd.b1 Z o).cell (p:=⟨w.heap.size+3,1,none⟩) (by show w.heap.size+3 < _;have:=HZs.out;omega)).trans zs1,((Cd.b1 Z o).cell (p:=⟨gs,os+j,none⟩) (by show gs < _;have:=HZs.out;omega)).trans st⟩
  have P3:∀ o:Obj,(fun w'=>w'.cell? ⟨w.heap.size+2,1,none⟩=some (.int .i64 (j:Int))∧w'.cell? ⟨w.heap.size+3,1,none⟩=some (.slice (some ⟨gs,os,none⟩) s.length sc)∧w'.cell? ⟨gs,os+j,none⟩=some (.int .i64 t)) (Z.drew.alloc o):=fun o=>P2 o
  have P4:∀ o:Obj,(fun w'=>w'.cell? ⟨w.heap.size+2,1,none⟩=some (.int .i64 (j:Int))∧w'.cell? ⟨w.heap.size+3,1,none⟩=some (.slice (some ⟨gs,os,none⟩) s.length sc)∧w'.cell? ⟨gs,os+j,none⟩=some (.int .i64 t)) (Z.alloc o).drew:=fun o=>P2 o
  go_wp2_with fail
  go_region_held3 (fun w'=>w'.cell? ⟨w.heap.size+2,1,none⟩=some (.int .i64 (j:Int))∧w'.cell? ⟨w.heap.size+3,1,none⟩=some (.slice (some ⟨gs,os,none⟩) s.length sc)∧w'.cell? ⟨gs,os+j,none⟩=some (.int .i64 t)) (with_reducible first | exact P0 | exact P1 | exact P2 _ | exact P3 _ | exact P4 _) (fail)
  all_goals go_wp2_with fail
  all_goals go_ret3
  all_goals exact ⟨⟨.slice (some ⟨Z.heap.size,0,none⟩) ([t]:List Int).length ([t]:List Int).length,by (first | rfl | (simp;done) | (simp [*];done) | (simp_all;done) | (simp;omega)),Cd.IntsAt.newZ (Z:=Z) (hs:=[t]) _ _ rfl⟩,by first | exact Cd.Below.new hbZ _ | exact Below.drew (Cd.Below.new hbZ _) | exact Below.drew (Below.drew (Cd.Below.new hbZ _))⟩
set_option maxRecDepth 100000 in
set_option maxHeartbeats 1000000 in
theorem Cd.gives_12B0 (c:List Cd.Fn) (f:Cd.Fn) (n:Int) (text:ByteArray) (s k:List Int) (ca ia sa ka:Option Addr) (cc ic sc kc:Nat) (pv:Value) (_hcl:c.length≤60) (_hil:f.ins.length≤50000) (_hsl:s.length≤200) (hkl:k.length=1) (hk600:k.length≤600) (w:World) (hS:Cd.IntsAt w.heap.size w (.slice sa s.length sc) s) (hK:Cd.IntsAt w.heap.size w (.slice ka k.length kc) k) :
    Calls Tryz.prog 65 #[.agg #[.slice ca c.length cc],Cd.fnV f pv (.slice ia f.ins.length ic),Cd.insV ⟨12,0,n,text⟩,Cd.shV 1 (.slice sa s.length sc) (.slice ka k.length kc)] w (Cd.GivesIs c f ⟨12,0,n,text⟩ s k w):=by
  obtain ⟨Y1,Y2,Y3,Z,hY1,hY2,hY3,hZ,hs1,hs2,hs3,hbZ,HZs,zc,zf,zi0,zi1,zs1,zs2,HSZ,HKZ⟩:=Cd.pre4 c f 12 0 n text s k ca ia sa ka cc ic sc kc pv w hS hK
  clear hS hK
  obtain ⟨x,rfl⟩:∃ x,k=[x]:=by
    cases k with
    | nil=>simp at hkl
    | cons x r=>cases r with
      | nil=>exact ⟨x,rfl⟩
      | cons y q=>simp at hkl
  have HT:Hid (Cd.top [x]=x):=(rfl:Cd.top [x]=x)
  have HBL:Hid (Cd.below [x]=0):=(rfl:Cd.below [x]=0)
  obtain ⟨gk,ok,rfl,_,kx⟩:∃ g o,ka=some ⟨g,o,none⟩∧g < w.heap.size∧Z.cell? ⟨g,o,none⟩=some (.int .i64 x):=by
    obtain ⟨a',cp,he,hc⟩:=HKZ.out
    injection he with e1
    subst e1
    exact hc 0 (by simp)
  simp only [List.length_cons,List.length_nil,Nat.zero_add] at hZ zs2 hk600 HKZ ⊢
  have HG:Hid (Cd.gives c f ⟨12,0,n,text⟩ s [x]=(0,[],true)):=by
    rw [Hid,Cd.gives]
    simp [HT.out]
  unfold Cd.GivesIs
  rw [HG.out]
  unfold Cd.fnV Cd.insV Cd.shV
  clear HG HSZ HKZ HT HBL
  go_enter Tryz.func65,Tryz.ntmps65
  have P0:(fun w'=>w'.cell? ⟨w.heap.size+2,1,none⟩=some (.int .i64 0)∧w'.cell? ⟨w.heap.size+1,2,none⟩=some (.int .i64 f.result)) Z:=⟨zi1,zf⟩
  have P1:(fun w'=>w'.cell? ⟨w.heap.size+2,1,none⟩=some (.int .i64 0)∧w'.cell? ⟨w.heap.size+1,2,none⟩=some (.int .i64 f.result)) Z.drew:=P0
  have P2:∀ o:Obj,(fun w'=>w'.cell? ⟨w.heap.size+2,1,none⟩=some (.int .i64 0)∧w'.cell? ⟨w.heap.size+1,2,none⟩=some (.int .i64 f.result)) (Z.alloc o):=fun o=>⟨((Cd.b1 Z o).cell (p:=⟨w.heap.size+2,1,none⟩) (by show w.heap.size+2 < _;have:=HZs.out;omega)).trans zi1,((Cd.b1 Z o).cell (p:=⟨w.heap.size+1,2,none⟩) (by show w.heap.size+1 < _;have:=HZs.out;omega)).trans zf⟩
  have P3:∀ o:Obj,(fun w'=>w'.cell? ⟨w.heap.size+2,1,none⟩=some (.int .i64 0)∧w'.cell? ⟨w.heap.size+1,2,none⟩=some (.int .i64 f.result)) (Z.drew.alloc o):=fun o=>P2 o
  have P4:∀ o:Obj,(fun w'=>w'.cell? ⟨w.heap.size+2,1,none⟩=some (.int .i64 0)∧w'.cell? ⟨w.heap.size+1,2,none⟩=some (.int .i64 f.result)) (Z.alloc o).drew:=fun o=>P2 o
  have hg0:((0:Int) == 0)=true:=rfl
  go_wp2_with fail
  go_region
  all_goals go_wp2_with fail
  all_goals go_ret3
  all_goals exact ⟨⟨.slice (some ⟨Z.heap.size,0,none⟩) ([]:List Int).length ([]:List Int).length,by (first | rfl | (simp;done) | (simp [*];done) | (simp_all;done) | (simp;omega)),Cd.IntsAt.newZ (Z:=Z) (hs:=[]) _ _ rfl⟩,by first | exact Cd.Below.new hbZ _ | exact Below.drew (Cd.Below.new hbZ _) | exact Below.drew (Below.drew (Cd.Below.new hbZ _))⟩
set_option maxRecDepth 100000 in
set_option maxHeartbeats 1000000 in
theorem Cd.gives_12B1 (c:List Cd.Fn) (f:Cd.Fn) (n:Int) (text:ByteArray) (s k:List Int) (ca ia sa ka:Option Addr) (cc ic sc kc:Nat) (pv:Value) (_hcl:c.length≤60) (_hil:f.ins.length≤50000) (_hsl:s.length≤200) (hkl:k.length=1) (hk600:k.length≤600) (w:World) (hS:Cd.IntsAt w.heap.size w (.slice sa s.length sc) s) (hK:Cd.IntsAt w.heap.size w (.slice ka k.length kc) k) :
    Calls Tryz.prog 65 #[.agg #[.slice ca c.length cc],Cd.fnV f pv (.slice ia f.ins.length ic),Cd.insV ⟨12,1,n,text⟩,Cd.shV 1 (.slice sa s.length sc) (.slice ka k.length kc)] w (Cd.GivesIs c f ⟨12,1,n,text⟩ s k w):=by
  obtain ⟨Y1,Y2,Y3,Z,hY1,hY2,hY3,hZ,hs1,hs2,hs3,hbZ,HZs,zc,zf,zi0,zi1,zs1,zs2,HSZ,HKZ⟩:=Cd.pre4 c f 12 1 n text s k ca ia sa ka cc ic sc kc pv w hS hK
  clear hS hK
  obtain ⟨x,rfl⟩:∃ x,k=[x]:=by
    cases k with
    | nil=>simp at hkl
    | cons x r=>cases r with
      | nil=>exact ⟨x,rfl⟩
      | cons y q=>simp at hkl
  have HT:Hid (Cd.top [x]=x):=(rfl:Cd.top [x]=x)
  have HBL:Hid (Cd.below [x]=0):=(rfl:Cd.below [x]=0)
  obtain ⟨gk,ok,rfl,_,kx⟩:∃ g o,ka=some ⟨g,o,none⟩∧g < w.heap.size∧Z.cell? ⟨g,o,none⟩=some (.int .i64 x):=by
    obtain ⟨a',cp,he,hc⟩:=HKZ.out
    injection he with e1
    subst e1
    exact hc 0 (by simp)
  simp only [List.length_cons,List.length_nil,Nat.zero_add] at hZ zs2 hk600 HKZ ⊢
  have HG:Hid (Cd.gives c f ⟨12,1,n,text⟩ s [x]=(1,[],decide (x=f.result))):=by
    rw [Hid,Cd.gives]
    simp [HT.out]
  unfold Cd.GivesIs
  rw [HG.out]
  unfold Cd.fnV Cd.insV Cd.shV
  clear HG HSZ HKZ HT HBL
  go_enter Tryz.func65,Tryz.ntmps65
  have P0:(fun w'=>w'.cell? ⟨w.heap.size+2,1,none⟩=some (.int .i64 1)∧w'.cell? ⟨w.heap.size+1,2,none⟩=some (.int .i64 f.result)) Z:=⟨zi1,zf⟩
  have P1:(fun w'=>w'.cell? ⟨w.heap.size+2,1,none⟩=some (.int .i64 1)∧w'.cell? ⟨w.heap.size+1,2,none⟩=some (.int .i64 f.result)) Z.drew:=P0
  have P2:∀ o:Obj,(fun w'=>w'.cell? ⟨w.heap.size+2,1,none⟩=some (.int .i64 1)∧w'.cell? ⟨w.heap.size+1,2,none⟩=some (.int .i64 f.result)) (Z.alloc o):=fun o=>⟨((Cd.b1 Z o).cell (p:=⟨w.heap.size+2,1,none⟩) (by show w.heap.size+2 < _;have:=HZs.out;omega)).trans zi1,((Cd.b1 Z o).cell (p:=⟨w.heap.size+1,2,none⟩) (by show w.heap.size+1 < _;have:=HZs.out;omega)).trans zf⟩
  have P3:∀ o:Obj,(fun w'=>w'.cell? ⟨w.heap.size+2,1,none⟩=some (.int .i64 1)∧w'.cell? ⟨w.heap.size+1,2,none⟩=some (.int .i64 f.result)) (Z.drew.alloc o):=fun o=>P2 o
  have P4:∀ o:Obj,(fun w'=>w'.cell? ⟨w.heap.size+2,1,none⟩=some (.int .i64 1)∧w'.cell? ⟨w.heap.size+1,2,none⟩=some (.int .i64 f.result)) (Z.alloc o).drew:=fun o=>P2 o
  have hg0:((1:Int) == 0)=false:=rfl
  go_wp2_with fail
  go_region
  all_goals go_wp2_with fail
  all_goals go_ret3
  all_goals exact ⟨⟨.slice (some ⟨Z.heap.size,0,none⟩) ([]:List Int).length ([]:List Int).length,by (first | rfl | (simp;done) | (simp [*];done) | (simp_all;done) | (simp;omega)),Cd.IntsAt.newZ (Z:=Z) (hs:=[]) _ _ rfl⟩,by first | exact Cd.Below.new hbZ _ | exact Below.drew (Cd.Below.new hbZ _) | exact Below.drew (Below.drew (Cd.Below.new hbZ _))⟩
set_option maxRecDepth 100000 in
set_option maxHeartbeats 1000000 in
theorem Cd.gives_5C (c:List Cd.Fn) (f:Cd.Fn) (a n:Int) (text:ByteArray) (s k:List Int) (m:Nat) (ca ia sa ka:Option Addr) (cc ic sc kc:Nat) (pv:Value) (_hcl:c.length≤60) (_hil:f.ins.length≤50000) (_hsl:s.length≤200) (hkl:k.length=m+2) (hk600:k.length≤600) (w:World) (hS:Cd.IntsAt w.heap.size w (.slice sa s.length sc) s) (hK:Cd.IntsAt w.heap.size w (.slice ka k.length kc) k) :
    Calls Tryz.prog 65 #[.agg #[.slice ca c.length cc],Cd.fnV f pv (.slice ia f.ins.length ic),Cd.insV ⟨5,a,n,text⟩,Cd.shV 1 (.slice sa s.length sc) (.slice ka k.length kc)] w (Cd.GivesIs c f ⟨5,a,n,text⟩ s k w):=by
  obtain ⟨Y1,Y2,Y3,Z,hY1,hY2,hY3,hZ,hs1,hs2,hs3,hbZ,HZs,zc,zf,zi0,zi1,zs1,zs2,HSZ,HKZ⟩:=Cd.pre4 c f 5 a n text s k ca ia sa ka cc ic sc kc pv w hS hK
  clear hS hK
  obtain ⟨y,hy⟩:∃ y,k[m]'(by omega)=y:=⟨_,rfl⟩
  obtain ⟨x,hx⟩:∃ x,k[m+1]'(by omega)=x:=⟨_,rfl⟩
  have HT:Hid (Cd.top k=x):=by
    rw [Hid,Cd.top,List.getLast?_eq_getElem?,hkl,show m+2 - 1=m+1 by omega,List.getElem?_eq_getElem (by omega),hx];rfl
  have HBL:Hid (Cd.below k=y):=by
    rw [Hid,Cd.below,List.getLast?_eq_getElem?,List.length_take,hkl,show min (m+2 - 1) (m+2) - 1=m by omega,List.getElem?_take_of_lt (by omega),List.getElem?_eq_getElem (by omega),hy];rfl
  obtain ⟨gk,ok,rfl,_,ky,kx⟩:∃ g o,ka=some ⟨g,o,none⟩∧g < w.heap.size∧Z.cell? ⟨g,o+m,none⟩=some (.int .i64 y)∧Z.cell? ⟨g,o+(m+1),none⟩=some (.int .i64 x):=by
    obtain ⟨a',cp,he,hc⟩:=HKZ.out
    injection he with e1
    subst e1
    obtain ⟨g,o,ha,hg,c1⟩:=hc m (by omega)
    obtain ⟨g2,o2,ha2,hg2,c2⟩:=hc (m+1) (by omega)
    rw [ha] at ha2
    injection ha2 with e;injection e with e1 e2
    subst e1 e2
    exact ⟨g,o,ha,hg,by rw [c1,hy],by rw [c2,hx]⟩
  have HLEN:Hid (k.length=m+2):=hkl
  rw [HLEN.out] at hZ zs2 hk600 HKZ ⊢
  clear hkl hx hy
  have hw1:wrap64 ((m:Int)+2 - 1)=(m:Int)+1:=by rw [IntWalk.wrap64_in _ (by omega)];omega
  have hw2:wrap64 ((m:Int)+2 - 2)=(m:Int):=by rw [IntWalk.wrap64_in _ (by omega)];omega
  have HG:Hid (Cd.gives c f ⟨5,a,n,text⟩ s k=(1,[Cd.un a x],(Cd.un a x != 0))):=by
    simp only [Hid,Cd.gives]
    rw [if_neg (by decide),if_neg (by decide),if_neg (by decide),if_pos (by decide),HT.out,Cd.ne_b]
  unfold Cd.GivesIs
  rw [HG.out]
  unfold Cd.fnV Cd.insV Cd.shV
  clear HG HSZ HKZ HT HBL
  go_enter Tryz.func65,Tryz.ntmps65
  obtain ⟨u,HU⟩:∃ u,Hid (Cd.un a x=u):=⟨_,(rfl:Cd.un a x=_)⟩
  simp only [HU.out]
  go_wp2_with fail
  go_at_call 79;refine (Cd.l3Un_any _ _ _).mono ?_;rintro e w' ⟨rfl,rfl⟩;rw [HU.out]
  go_wp2_with fail
  all_goals go_ret3
  all_goals exact ⟨⟨.slice (some ⟨Z.heap.size,0,none⟩) ([u]:List Int).length ([u]:List Int).length,by (first | rfl | (simp;done) | (simp [*];done) | (simp_all;done) | (simp;omega)),Cd.IntsAt.newZ (Z:=Z) (hs:=[u]) _ _ rfl⟩,by first | exact Cd.Below.new hbZ _ | exact Below.drew (Cd.Below.new hbZ _) | exact Below.drew (Below.drew (Cd.Below.new hbZ _))⟩
set_option maxRecDepth 100000 in
set_option maxHeartbeats 1000000 in
theorem Cd.gives_6C (c:List Cd.Fn) (f:Cd.Fn) (a n:Int) (text:ByteArray) (s k:List Int) (m:Nat) (ca ia sa ka:Option Addr) (cc ic sc kc:Nat) (pv:Value) (_hcl:c.length≤60) (_hil:f.ins.length≤50000) (_hsl:s.length≤200) (hkl:k.length=m+2) (hk600:k.length≤600) (w:World) (hS:Cd.IntsAt w.heap.size w (.slice sa s.length sc) s) (hK:Cd.IntsAt w.heap.size w (.slice ka k.length kc) k) :
    Calls Tryz.prog 65 #[.agg #[.slice ca c.length cc],Cd.fnV f pv (.slice ia f.ins.length ic),Cd.insV ⟨6,a,n,text⟩,Cd.shV 1 (.slice sa s.length sc) (.slice ka k.length kc)] w (Cd.GivesIs c f ⟨6,a,n,text⟩ s k w):=by
  obtain ⟨Y1,Y2,Y3,Z,hY1,hY2,hY3,hZ,hs1,hs2,hs3,hbZ,HZs,zc,zf,zi0,zi1,zs1,zs2,HSZ,HKZ⟩:=Cd.pre4 c f 6 a n text s k ca ia sa ka cc ic sc kc pv w hS hK
  clear hS hK
  obtain ⟨y,hy⟩:∃ y,k[m]'(by omega)=y:=⟨_,rfl⟩
  obtain ⟨x,hx⟩:∃ x,k[m+1]'(by omega)=x:=⟨_,rfl⟩
  have HT:Hid (Cd.top k=x):=by
    rw [Hid,Cd.top,List.getLast?_eq_getElem?,hkl,show m+2 - 1=m+1 by omega,List.getElem?_eq_getElem (by omega),hx];rfl
  have HBL:Hid (Cd.below k=y):=by
    rw [Hid,Cd.below,List.getLast?_eq_getElem?,List.length_take,hkl,show min (m+2 - 1) (m+2) - 1=m by omega,List.getElem?_take_of_lt (by omega),List.getElem?_eq_getElem (by omega),hy];rfl
  obtain ⟨gk,ok,rfl,_,ky,kx⟩:∃ g o,ka=some ⟨g,o,none⟩∧g < w.heap.size∧Z.cell? ⟨g,o+m,none⟩=some (.int .i64 y)∧Z.cell? ⟨g,o+(m+1),none⟩=some (.int .i64 x):=by
    obtain ⟨a',cp,he,hc⟩:=HKZ.out
    injection he with e1
    subst e1
    obtain ⟨g,o,ha,hg,c1⟩:=hc m (by omega)
    obtain ⟨g2,o2,ha2,hg2,c2⟩:=hc (m+1) (by omega)
    rw [ha] at ha2
    injection ha2 with e;injection e with e1 e2
    subst e1 e2
    exact ⟨g,o,ha,hg,by rw [c1,hy],by rw [c2,hx]⟩
  have HLEN:Hid (k.length=m+2):=hkl
  rw [HLEN.out] at hZ zs2 hk600 HKZ ⊢
  clear hkl hx hy
  have hw1:wrap64 ((m:Int)+2 - 1)=(m:Int)+1:=by rw [IntWalk.wrap64_in _ (by omega)];omega
  have hw2:wrap64 ((m:Int)+2 - 2)=(m:Int):=by rw [IntWalk.wrap64_in _ (by omega)];omega
  have HG:Hid (Cd.gives c f ⟨6,a,n,text⟩ s k=(2,[Cd.bin a y x],(Cd.bin a y x != 0))):=by
    simp only [Hid,Cd.gives]
    rw [if_neg (by decide),if_neg (by decide),if_neg (by decide),if_neg (by decide),if_pos (by decide),HT.out,HBL.out,Cd.ne_b]
  unfold Cd.GivesIs
  rw [HG.out]
  unfold Cd.fnV Cd.insV Cd.shV
  clear HG HSZ HKZ HT HBL
  go_enter Tryz.func65,Tryz.ntmps65
  obtain ⟨u,HU⟩:∃ u,Hid (Cd.bin a y x=u):=⟨_,(rfl:Cd.bin a y x=_)⟩
  simp only [HU.out]
  go_wp2_with fail
  go_at_call 80;refine (Cd.l3Bin_any _ _ _ _).mono ?_;rintro e w' ⟨rfl,rfl⟩;rw [HU.out]
  go_wp2_with fail
  all_goals go_ret3
  all_goals exact ⟨⟨.slice (some ⟨Z.heap.size,0,none⟩) ([u]:List Int).length ([u]:List Int).length,by (first | rfl | (simp;done) | (simp [*];done) | (simp_all;done) | (simp;omega)),Cd.IntsAt.newZ (Z:=Z) (hs:=[u]) _ _ rfl⟩,by first | exact Cd.Below.new hbZ _ | exact Below.drew (Cd.Below.new hbZ _) | exact Below.drew (Below.drew (Cd.Below.new hbZ _))⟩
set_option maxRecDepth 100000 in
set_option maxHeartbeats 1000000 in
theorem Cd.gives_7C (c:List Cd.Fn) (f:Cd.Fn) (a n:Int) (text:ByteArray) (s k:List Int) (m:Nat) (ca ia sa ka:Option Addr) (cc ic sc kc:Nat) (pv:Value) (_hcl:c.length≤60) (_hil:f.ins.length≤50000) (_hsl:s.length≤200) (hkl:k.length=m+2) (hk600:k.length≤600) (w:World) (hS:Cd.IntsAt w.heap.size w (.slice sa s.length sc) s) (hK:Cd.IntsAt w.heap.size w (.slice ka k.length kc) k) :
    Calls Tryz.prog 65 #[.agg #[.slice ca c.length cc],Cd.fnV f pv (.slice ia f.ins.length ic),Cd.insV ⟨7,a,n,text⟩,Cd.shV 1 (.slice sa s.length sc) (.slice ka k.length kc)] w (Cd.GivesIs c f ⟨7,a,n,text⟩ s k w):=by
  obtain ⟨Y1,Y2,Y3,Z,hY1,hY2,hY3,hZ,hs1,hs2,hs3,hbZ,HZs,zc,zf,zi0,zi1,zs1,zs2,HSZ,HKZ⟩:=Cd.pre4 c f 7 a n text s k ca ia sa ka cc ic sc kc pv w hS hK
  clear hS hK
  obtain ⟨y,hy⟩:∃ y,k[m]'(by omega)=y:=⟨_,rfl⟩
  obtain ⟨x,hx⟩:∃ x,k[m+1]'(by omega)=x:=⟨_,rfl⟩
  have HT:Hid (Cd.top k=x):=by
    rw [Hid,Cd.top,List.getLast?_eq_getElem?,hkl,show m+2 - 1=m+1 by omega,List.getElem?_eq_getElem (by omega),hx];rfl
  have HBL:Hid (Cd.below k=y):=by
    rw [Hid,Cd.below,List.getLast?_eq_getElem?,List.length_take,hkl,show min (m+2 - 1) (m+2) - 1=m by omega,List.getElem?_take_of_lt (by omega),List.getElem?_eq_getElem (by omega),hy];rfl
  obtain ⟨gk,ok,rfl,_,ky,kx⟩:∃ g o,ka=some ⟨g,o,none⟩∧g < w.heap.size∧Z.cell? ⟨g,o+m,none⟩=some (.int .i64 y)∧Z.cell? ⟨g,o+(m+1),none⟩=some (.int .i64 x):=by
    obtain ⟨a',cp,he,hc⟩:=HKZ.out
    injection he with e1
    subst e1
    obtain ⟨g,o,ha,hg,c1⟩:=hc m (by omega)
    obtain ⟨g2,o2,ha2,hg2,c2⟩:=hc (m+1) (by omega)
    rw [ha] at ha2
    injection ha2 with e;injection e with e1 e2
    subst e1 e2
    exact ⟨g,o,ha,hg,by rw [c1,hy],by rw [c2,hx]⟩
  have HLEN:Hid (k.length=m+2):=hkl
  rw [HLEN.out] at hZ zs2 hk600 HKZ ⊢
  clear hkl hx hy
  have hw1:wrap64 ((m:Int)+2 - 1)=(m:Int)+1:=by rw [IntWalk.wrap64_in _ (by omega)];omega
  have hw2:wrap64 ((m:Int)+2 - 2)=(m:Int):=by rw [IntWalk.wrap64_in _ (by omega)];omega
  have HG:Hid (Cd.gives c f ⟨7,a,n,text⟩ s k=(1,[a],Cd.isInt x)):=by
    rw [Hid,Cd.gives]
    simp [HT.out]
  unfold Cd.GivesIs
  rw [HG.out]
  unfold Cd.fnV Cd.insV Cd.shV
  clear HG HSZ HKZ HT HBL
  go_enter Tryz.func65,Tryz.ntmps65
  have P0:(fun w'=>w'.cell? ⟨w.heap.size+2,1,none⟩=some (.int .i64 a)) Z:=zi1
  have P1:(fun w'=>w'.cell? ⟨w.heap.size+2,1,none⟩=some (.int .i64 a)) Z.drew:=P0
  have P2:∀ o:Obj,(fun w'=>w'.cell? ⟨w.heap.size+2,1,none⟩=some (.int .i64 a)) (Z.alloc o):=fun o=>((Cd.b1 Z o).cell (p:=⟨w.heap.size+2,1,none⟩) (by show w.heap.size+2 < _;have:=HZs.out;omega)).trans zi1
  have P3:∀ o:Obj,(fun w'=>w'.cell? ⟨w.heap.size+2,1,none⟩=some (.int .i64 a)) (Z.drew.alloc o):=fun o=>P2 o
  have P4:∀ o:Obj,(fun w'=>w'.cell? ⟨w.heap.size+2,1,none⟩=some (.int .i64 a)) (Z.alloc o).drew:=fun o=>P2 o
  go_wp2_with fail
  go_region_held3 (fun w'=>w'.cell? ⟨w.heap.size+2,1,none⟩=some (.int .i64 a)) (with_reducible first | exact P0 | exact P1 | exact P2 _ | exact P3 _ | exact P4 _) (first | (go_at_call 77;refine (Cd.l1Integer_any _ _).mono ?_;rintro e w9 ⟨rfl,rfl⟩))
  all_goals go_wp2_with fail
  all_goals go_ret3
  all_goals exact ⟨⟨.slice (some ⟨Z.heap.size,0,none⟩) ([a]:List Int).length ([a]:List Int).length,by (first | rfl | (simp;done) | (simp [*];done) | (simp_all;done) | (simp;omega)),Cd.IntsAt.newZ (Z:=Z) (hs:=[a]) _ _ rfl⟩,by first | exact Cd.Below.new hbZ _ | exact Below.drew (Cd.Below.new hbZ _) | exact Below.drew (Below.drew (Cd.Below.new hbZ _))⟩
set_option maxRecDepth 100000 in
set_option maxHeartbeats 1000000 in
theorem Cd.gives_2C (c:List Cd.Fn) (f:Cd.Fn) (a n:Int) (text:ByteArray) (s k:List Int) (m:Nat) (ca ia sa ka:Option Addr) (cc ic sc kc:Nat) (pv:Value) (_hcl:c.length≤60) (_hil:f.ins.length≤50000) (_hsl:s.length≤200) (hkl:k.length=m+2) (hk600:k.length≤600) (ha0:0≤a) (ha1:a < (s.length:Int)) (w:World) (hS:Cd.IntsAt w.heap.size w (.slice sa s.length sc) s) (hK:Cd.IntsAt w.heap.size w (.slice ka k.length kc) k) :
    Calls Tryz.prog 65 #[.agg #[.slice ca c.length cc],Cd.fnV f pv (.slice ia f.ins.length ic),Cd.insV ⟨2,a,n,text⟩,Cd.shV 1 (.slice sa s.length sc) (.slice ka k.length kc)] w (Cd.GivesIs c f ⟨2,a,n,text⟩ s k w):=by
  obtain ⟨Y1,Y2,Y3,Z,hY1,hY2,hY3,hZ,hs1,hs2,hs3,hbZ,HZs,zc,zf,zi0,zi1,zs1,zs2,HSZ,HKZ⟩:=Cd.pre4 c f 2 a n text s k ca ia sa ka cc ic sc kc pv w hS hK
  clear hS hK
  obtain ⟨y,hy⟩:∃ y,k[m]'(by omega)=y:=⟨_,rfl⟩
  obtain ⟨x,hx⟩:∃ x,k[m+1]'(by omega)=x:=⟨_,rfl⟩
  have HT:Hid (Cd.top k=x):=by
    rw [Hid,Cd.top,List.getLast?_eq_getElem?,hkl,show m+2 - 1=m+1 by omega,List.getElem?_eq_getElem (by omega),hx];rfl
  have HBL:Hid (Cd.below k=y):=by
    rw [Hid,Cd.below,List.getLast?_eq_getElem?,List.length_take,hkl,show min (m+2 - 1) (m+2) - 1=m by omega,List.getElem?_take_of_lt (by omega),List.getElem?_eq_getElem (by omega),hy];rfl
  obtain ⟨gk,ok,rfl,_,ky,kx⟩:∃ g o,ka=some ⟨g,o,none⟩∧g < w.heap.size∧Z.cell? ⟨g,o+m,none⟩=some (.int .i64 y)∧Z.cell? ⟨g,o+(m+1),none⟩=some (.int .i64 x):=by
    obtain ⟨a',cp,he,hc⟩:=HKZ.out
    injection he with e1
    subst e1
    obtain ⟨g,o,ha,hg,c1⟩:=hc m (by omega)
    obtain ⟨g2,o2,ha2,hg2,c2⟩:=hc (m+1) (by omega)
    rw [ha] at ha2
    injection ha2 with e;injection e with e1 e2
    subst e1 e2
    exact ⟨g,o,ha,hg,by rw [c1,hy],by rw [c2,hx]⟩
  have HLEN:Hid (k.length=m+2):=hkl
  rw [HLEN.out] at hZ zs2 hk600 HKZ ⊢
  clear hkl hx hy
  have hw1:wrap64 ((m:Int)+2 - 1)=(m:Int)+1:=by rw [IntWalk.wrap64_in _ (by omega)];omega
  have hw2:wrap64 ((m:Int)+2 - 2)=(m:Int):=by rw [IntWalk.wrap64_in _ (by omega)];omega
  obtain ⟨j,rfl⟩:∃ j:Nat,a=(j:Int):=⟨a.toNat,by omega⟩
  have hj:j < s.length:=by omega
  obtain ⟨t,ht⟩:∃ t,s[j]=t:=⟨_,rfl⟩
  have HGT:Hid (s[j]?.getD 0=t):=by rw [Hid,List.getElem?_eq_getElem hj,ht];rfl
  obtain ⟨gs,os,rfl,hgs,st⟩:∃ g o,sa=some ⟨g,o,none⟩∧g < w.heap.size∧Z.cell? ⟨g,o+j,none⟩=some (.int .i64 t):=by
    obtain ⟨a',cp,he,hc⟩:=HSZ.out
    injection he with e1
    subst e1
    have:=hc j hj
    rw [ht] at this
    exact this
  clear ht
  have HG:Hid (Cd.gives c f ⟨2,(j:Int),n,text⟩ s k=(0,[t],(t != 0))):=by
    simp only [Hid,Cd.gives]
    rw [if_neg (by decide),if_pos (by decide),Cd.ne_b]
    show (0,[s.getD (Int.toNat (j:Int)) 0],s.getD (Int.toNat (j:Int)) 0 != 0)=_
    rw [Int.toNat_natCast,List.getD_eq_getElem?_getD,HGT.out]
  unfold Cd.GivesIs
  rw [HG.out]
  unfold Cd.fnV Cd.insV Cd.shV
  clear HG HSZ HKZ HT HBL
  go_enter Tryz.func65,Tryz.ntmps65
  have P0:(fun w'=>w'.cell? ⟨w.heap.size+2,1,none⟩=some (.int .i64 (j:Int))∧w'.cell? ⟨w.heap.size+3,1,none⟩=some (.slice (some ⟨gs,os,none⟩) s.length sc)∧w'.cell? ⟨gs,os+j,none⟩=some (.int .i64 t)) Z:=⟨zi1,zs1,st⟩
  have P1:(fun w'=>w'.cell? ⟨w.heap.size+2,1,none⟩=some (.int .i64 (j:Int))∧w'.cell? ⟨w.heap.size+3,1,none⟩=some (.slice (some ⟨gs,os,none⟩) s.length sc)∧w'.cell? ⟨gs,os+j,none⟩=some (.int .i64 t)) Z.drew:=P0
  have P2:∀ o:Obj,(fun w'=>w'.cell? ⟨w.heap.size+2,1,none⟩=some (.int .i64 (j:Int))∧w'.cell? ⟨w.heap.size+3,1,none⟩=some (.slice (some ⟨gs,os,none⟩) s.length sc)∧w'.cell? ⟨gs,os+j,none⟩=some (.int .i64 t)) (Z.alloc o):=fun o=>⟨((Cd.b1 Z o).cell (p:=⟨w.heap.size+2,1,none⟩) (by show w.heap.size+2 < _;have:=HZs.out;omega)).trans zi1,((Cd.b1 Z o).cell (p:=⟨w.heap.size+3,1,none⟩) (by show w.heap.size+3 < _;have:=HZs.out;omega)).trans zs1,((Cd.b1 Z o).cell (p:=⟨gs,os+j,none⟩) (by show gs < _;have:=HZs.out;omega)).trans st⟩
  have P3:∀ o:Obj,(fun w'=>w'.cell? ⟨w.heap.size+2,1,none⟩=some (.int .i64 (j:Int))∧w'.cell? ⟨w.heap.size+3,1,none⟩=some (.slice (some ⟨gs,os,none⟩) s.length sc)∧w'.cell? ⟨gs,os+j,none⟩=some (.int .i64 t)) (Z.drew.alloc o):=fun o=>P2 o
  have P4:∀ o:Obj,(fun w'=>w'.cell? ⟨w.heap.size+2,1,none⟩=some (.int .i64 (j:Int))∧w'.cell? ⟨w.heap.size+3,1,none⟩=some (.slice (some ⟨gs,os,none⟩) s.length sc)∧w'.cell? ⟨gs,os+j,none⟩=some (.int .i64 t)) (Z.alloc o).drew:=fun o=>P2 o
  go_wp2_with fail
  go_region_held3 (fun w'=>w'.cell? ⟨w.heap.size+2,1,none⟩=some (.int .i64 (j:Int))∧w'.cell? ⟨w.heap.size+3,1,none⟩=some (.slice (some ⟨gs,os,none⟩) s.length sc)∧w'.cell? ⟨gs,os+j,none⟩=some (.int .i64 t)) (with_reducible first | exact P0 | exact P1 | exact P2 _ | exact P3 _ | exact P4 _) (fail)
  all_goals go_wp2_with fail
  all_goals go_ret3
  all_goals exact ⟨⟨.slice (some ⟨Z.heap.size,0,none⟩) ([t]:List Int).length ([t]:List Int).length,by (first | rfl | (simp;done) | (simp [*];done) | (simp_all;done) | (simp;omega)),Cd.IntsAt.newZ (Z:=Z) (hs:=[t]) _ _ rfl⟩,by first | exact Cd.Below.new hbZ _ | exact Below.drew (Cd.Below.new hbZ _) | exact Below.drew (Below.drew (Cd.Below.new hbZ _))⟩
set_option maxRecDepth 100000 in
set_option maxHeartbeats 1000000 in
theorem Cd.gives_12C0 (c:List Cd.Fn) (f:Cd.Fn) (n:Int) (text:ByteArray) (s k:List Int) (m:Nat) (ca ia sa ka:Option Addr) (cc ic sc kc:Nat) (pv:Value) (_hcl:c.length≤60) (_hil:f.ins.length≤50000) (_hsl:s.length≤200) (hkl:k.length=m+2) (hk600:k.length≤600) (w:World) (hS:Cd.IntsAt w.heap.size w (.slice sa s.length sc) s) (hK:Cd.IntsAt w.heap.size w (.slice ka k.length kc) k) :
    Calls Tryz.prog 65 #[.agg #[.slice ca c.length cc],Cd.fnV f pv (.slice ia f.ins.length ic),Cd.insV ⟨12,0,n,text⟩,Cd.shV 1 (.slice sa s.length sc) (.slice ka k.length kc)] w (Cd.GivesIs c f ⟨12,0,n,text⟩ s k w):=by
  obtain ⟨Y1,Y2,Y3,Z,hY1,hY2,hY3,hZ,hs1,hs2,hs3,hbZ,HZs,zc,zf,zi0,zi1,zs1,zs2,HSZ,HKZ⟩:=Cd.pre4 c f 12 0 n text s k ca ia sa ka cc ic sc kc pv w hS hK
  clear hS hK
  obtain ⟨y,hy⟩:∃ y,k[m]'(by omega)=y:=⟨_,rfl⟩
  obtain ⟨x,hx⟩:∃ x,k[m+1]'(by omega)=x:=⟨_,rfl⟩
  have HT:Hid (Cd.top k=x):=by
    rw [Hid,Cd.top,List.getLast?_eq_getElem?,hkl,show m+2 - 1=m+1 by omega,List.getElem?_eq_getElem (by omega),hx];rfl
  have HBL:Hid (Cd.below k=y):=by
    rw [Hid,Cd.below,List.getLast?_eq_getElem?,List.length_take,hkl,show min (m+2 - 1) (m+2) - 1=m by omega,List.getElem?_take_of_lt (by omega),List.getElem?_eq_getElem (by omega),hy];rfl
  obtain ⟨gk,ok,rfl,_,ky,kx⟩:∃ g o,ka=some ⟨g,o,none⟩∧g < w.heap.size∧Z.cell? ⟨g,o+m,none⟩=some (.int .i64 y)∧Z.cell? ⟨g,o+(m+1),none⟩=some (.int .i64 x):=by
    obtain ⟨a',cp,he,hc⟩:=HKZ.out
    injection he with e1
    subst e1
    obtain ⟨g,o,ha,hg,c1⟩:=hc m (by omega)
    obtain ⟨g2,o2,ha2,hg2,c2⟩:=hc (m+1) (by omega)
    rw [ha] at ha2
    injection ha2 with e;injection e with e1 e2
    subst e1 e2
    exact ⟨g,o,ha,hg,by rw [c1,hy],by rw [c2,hx]⟩
  have HLEN:Hid (k.length=m+2):=hkl
  rw [HLEN.out] at hZ zs2 hk600 HKZ ⊢
  clear hkl hx hy
  have hw1:wrap64 ((m:Int)+2 - 1)=(m:Int)+1:=by rw [IntWalk.wrap64_in _ (by omega)];omega
  have hw2:wrap64 ((m:Int)+2 - 2)=(m:Int):=by rw [IntWalk.wrap64_in _ (by omega)];omega
  have HG:Hid (Cd.gives c f ⟨12,0,n,text⟩ s k=(0,[],true)):=by
    rw [Hid,Cd.gives]
    simp [HT.out,HLEN.out]
  unfold Cd.GivesIs
  rw [HG.out]
  unfold Cd.fnV Cd.insV Cd.shV
  clear HG HSZ HKZ HT HBL
  go_enter Tryz.func65,Tryz.ntmps65
  have P0:(fun w'=>w'.cell? ⟨w.heap.size+2,1,none⟩=some (.int .i64 0)∧w'.cell? ⟨w.heap.size+1,2,none⟩=some (.int .i64 f.result)) Z:=⟨zi1,zf⟩
  have P1:(fun w'=>w'.cell? ⟨w.heap.size+2,1,none⟩=some (.int .i64 0)∧w'.cell? ⟨w.heap.size+1,2,none⟩=some (.int .i64 f.result)) Z.drew:=P0
  have P2:∀ o:Obj,(fun w'=>w'.cell? ⟨w.heap.size+2,1,none⟩=some (.int .i64 0)∧w'.cell? ⟨w.heap.size+1,2,none⟩=some (.int .i64 f.result)) (Z.alloc o):=fun o=>⟨((Cd.b1 Z o).cell (p:=⟨w.heap.size+2,1,none⟩) (by show w.heap.size+2 < _;have:=HZs.out;omega)).trans zi1,((Cd.b1 Z o).cell (p:=⟨w.heap.size+1,2,none⟩) (by show w.heap.size+1 < _;have:=HZs.out;omega)).trans zf⟩
  have P3:∀ o:Obj,(fun w'=>w'.cell? ⟨w.heap.size+2,1,none⟩=some (.int .i64 0)∧w'.cell? ⟨w.heap.size+1,2,none⟩=some (.int .i64 f.result)) (Z.drew.alloc o):=fun o=>P2 o
  have P4:∀ o:Obj,(fun w'=>w'.cell? ⟨w.heap.size+2,1,none⟩=some (.int .i64 0)∧w'.cell? ⟨w.heap.size+1,2,none⟩=some (.int .i64 f.result)) (Z.alloc o).drew:=fun o=>P2 o
  have hg0:((0:Int) == 0)=true:=rfl
  go_wp2_with fail
  go_region
  all_goals go_wp2_with fail
  all_goals go_ret3
  all_goals exact ⟨⟨.slice (some ⟨Z.heap.size,0,none⟩) ([]:List Int).length ([]:List Int).length,by (first | rfl | (simp;done) | (simp [*];done) | (simp_all;done) | (simp;omega)),Cd.IntsAt.newZ (Z:=Z) (hs:=[]) _ _ rfl⟩,by first | exact Cd.Below.new hbZ _ | exact Below.drew (Cd.Below.new hbZ _) | exact Below.drew (Below.drew (Cd.Below.new hbZ _))⟩
set_option maxRecDepth 100000 in
set_option maxHeartbeats 1000000 in
theorem Cd.gives_12C1 (c:List Cd.Fn) (f:Cd.Fn) (n:Int) (text:ByteArray) (s k:List Int) (m:Nat) (ca ia sa ka:Option Addr) (cc ic sc kc:Nat) (pv:Value) (_hcl:c.length≤60) (_hil:f.ins.length≤50000) (_hsl:s.length≤200) (hkl:k.length=m+2) (hk600:k.length≤600) (w:World) (hS:Cd.IntsAt w.heap.size w (.slice sa s.length sc) s) (hK:Cd.IntsAt w.heap.size w (.slice ka k.length kc) k) :
    Calls Tryz.prog 65 #[.agg #[.slice ca c.length cc],Cd.fnV f pv (.slice ia f.ins.length ic),Cd.insV ⟨12,1,n,text⟩,Cd.shV 1 (.slice sa s.length sc) (.slice ka k.length kc)] w (Cd.GivesIs c f ⟨12,1,n,text⟩ s k w):=by
  obtain ⟨Y1,Y2,Y3,Z,hY1,hY2,hY3,hZ,hs1,hs2,hs3,hbZ,HZs,zc,zf,zi0,zi1,zs1,zs2,HSZ,HKZ⟩:=Cd.pre4 c f 12 1 n text s k ca ia sa ka cc ic sc kc pv w hS hK
  clear hS hK
  obtain ⟨y,hy⟩:∃ y,k[m]'(by omega)=y:=⟨_,rfl⟩
  obtain ⟨x,hx⟩:∃ x,k[m+1]'(by omega)=x:=⟨_,rfl⟩
  have HT:Hid (Cd.top k=x):=by
    rw [Hid,Cd.top,List.getLast?_eq_getElem?,hkl,show m+2 - 1=m+1 by omega,List.getElem?_eq_getElem (by omega),hx];rfl
  have HBL:Hid (Cd.below k=y):=by
    rw [Hid,Cd.below,List.getLast?_eq_getElem?,List.length_take,hkl,show min (m+2 - 1) (m+2) - 1=m by omega,List.getElem?_take_of_lt (by omega),List.getElem?_eq_getElem (by omega),hy];rfl
  obtain ⟨gk,ok,rfl,_,ky,kx⟩:∃ g o,ka=some ⟨g,o,none⟩∧g < w.heap.size∧Z.cell? ⟨g,o+m,none⟩=some (.int .i64 y)∧Z.cell? ⟨g,o+(m+1),none⟩=some (.int .i64 x):=by
    obtain ⟨a',cp,he,hc⟩:=HKZ.out
    injection he with e1
    subst e1
    obtain ⟨g,o,ha,hg,c1⟩:=hc m (by omega)
    obtain ⟨g2,o2,ha2,hg2,c2⟩:=hc (m+1) (by omega)
    rw [ha] at ha2
    injection ha2 with e;injection e with e1 e2
    subst e1 e2
    exact ⟨g,o,ha,hg,by rw [c1,hy],by rw [c2,hx]⟩
  have HLEN:Hid (k.length=m+2):=hkl
  rw [HLEN.out] at hZ zs2 hk600 HKZ ⊢
  clear hkl hx hy
  have hw1:wrap64 ((m:Int)+2 - 1)=(m:Int)+1:=by rw [IntWalk.wrap64_in _ (by omega)];omega
  have hw2:wrap64 ((m:Int)+2 - 2)=(m:Int):=by rw [IntWalk.wrap64_in _ (by omega)];omega
  have HG:Hid (Cd.gives c f ⟨12,1,n,text⟩ s k=(1,[],decide (x=f.result))):=by
    rw [Hid,Cd.gives]
    simp [HT.out,HLEN.out]
  unfold Cd.GivesIs
  rw [HG.out]
  unfold Cd.fnV Cd.insV Cd.shV
  clear HG HSZ HKZ HT HBL
  go_enter Tryz.func65,Tryz.ntmps65
  have P0:(fun w'=>w'.cell? ⟨w.heap.size+2,1,none⟩=some (.int .i64 1)∧w'.cell? ⟨w.heap.size+1,2,none⟩=some (.int .i64 f.result)) Z:=⟨zi1,zf⟩
  have P1:(fun w'=>w'.cell? ⟨w.heap.size+2,1,none⟩=some (.int .i64 1)∧w'.cell? ⟨w.heap.size+1,2,none⟩=some (.int .i64 f.result)) Z.drew:=P0
  have P2:∀ o:Obj,(fun w'=>w'.cell? ⟨w.heap.size+2,1,none⟩=some (.int .i64 1)∧w'.cell? ⟨w.heap.size+1,2,none⟩=some (.int .i64 f.result)) (Z.alloc o):=fun o=>⟨((Cd.b1 Z o).cell (p:=⟨w.heap.size+2,1,none⟩) (by show w.heap.size+2 < _;have:=HZs.out;omega)).trans zi1,((Cd.b1 Z o).cell (p:=⟨w.heap.size+1,2,none⟩) (by show w.heap.size+1 < _;have:=HZs.out;omega)).trans zf⟩
  have P3:∀ o:Obj,(fun w'=>w'.cell? ⟨w.heap.size+2,1,none⟩=some (.int .i64 1)∧w'.cell? ⟨w.heap.size+1,2,none⟩=some (.int .i64 f.result)) (Z.drew.alloc o):=fun o=>P2 o
  have P4:∀ o:Obj,(fun w'=>w'.cell? ⟨w.heap.size+2,1,none⟩=some (.int .i64 1)∧w'.cell? ⟨w.heap.size+1,2,none⟩=some (.int .i64 f.result)) (Z.alloc o).drew:=fun o=>P2 o
  have hg0:((1:Int) == 0)=false:=rfl
  go_wp2_with fail
  go_region
  all_goals go_wp2_with fail
  all_goals go_ret3
  all_goals exact ⟨⟨.slice (some ⟨Z.heap.size,0,none⟩) ([]:List Int).length ([]:List Int).length,by (first | rfl | (simp;done) | (simp [*];done) | (simp_all;done) | (simp;omega)),Cd.IntsAt.newZ (Z:=Z) (hs:=[]) _ _ rfl⟩,by first | exact Cd.Below.new hbZ _ | exact Below.drew (Cd.Below.new hbZ _) | exact Below.drew (Below.drew (Cd.Below.new hbZ _))⟩
end Go.Proofs.YtbkhedpabfanoaaGreatDoor
