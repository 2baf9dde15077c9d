import Derived.Test.YtbkhedpabfanoaaGreatDoorKCdH
namespace Go.Proofs.YtbkhedpabfanoaaGreatDoor
open Go.RowKit

def Cd.shV (st:Int) (sv kv:Value):Value:=.agg #[.int .i64 st,sv,kv]
def Cd.GivesIs (c:List Cd.Fn) (f:Cd.Fn) (i:Cd.Ins) (s k:List Int) (w:World) (e:Ending) (w':World):Prop :=
  (∃ v,e = .returned (.tuple #[.int .i64 ((Cd.gives c f i s k).1:Int),v,.bool (Cd.gives c f i s k).2.2])∧Cd.IntsAt w'.heap.size w' v (Cd.gives c f i s k).2.1)∧Below w.heap.size w w'
theorem Cd.IntsAt.newZ {Z:World} {hs:List Int} {t:TypeId} (cap n:Nat) (hn:n=hs.length):Cd.IntsAt (Z.alloc (.cells (Cd.ints hs).toArray t)).heap.size (Z.alloc (.cells (Cd.ints hs).toArray t)) (.slice (some ⟨Z.heap.size,0,none⟩) n cap) hs:=by
  have h:=Cd.IntsAt.new Z hs t cap
  rw [World.size_alloc,hn];exact h
theorem Cd.IntsAt.cut {B:Nat} {w:World} {g o n cap:Nat} {hs:List Int} (h:Cd.IntsAt B w (.slice (some ⟨g,o,none⟩) n cap) hs) (hn:hs.length=n) (hc:n≤cap) {r:Nat} (hr:r≤n):Cd.IntsAt B w (.slice (if cap=r then some ⟨g,o,none⟩ else some ⟨g,o+r,none⟩) (n - r) (cap - r)) (hs.drop r):=by
  by_cases h1:r < hs.length
  · obtain ⟨g2,o2,e,e2,hd⟩:=h.drop h1
    injection e with e;injection e with e3 e4
    subst e3 e4
    rw [if_neg (by omega),← hn]
    exact hd _
  · refine ⟨_,_,by rw [List.length_drop,hn],fun i hi => ?_⟩
    rw [List.length_drop] at hi
    omega
theorem Cd.ne_b (x:Int):decide (x≠0)=(x != 0):=by by_cases h:x=0 <;> simp [h]
theorem Cd.Below.new {w Z:World} (h:Below w.heap.size w Z) (o:Obj):Below w.heap.size w (Z.alloc o):=h.trans ((Cd.b1 Z o).mono h.size)
theorem Cd.pre4 (c:List Cd.Fn) (f:Cd.Fn) (x a n:Int) (text:ByteArray) (s k:List Int) (ca ia sa ka:Option Addr) (cc ic sc kc:Nat) (pv:Value) (w:World) (hS:Cd.IntsAt w.heap.size w (.slice sa s.length sc) s) (hK:Cd.IntsAt w.heap.size w (.slice ka k.length kc) k) :
    ∃ Y1 Y2 Y3 Z,w.alloc (.cells #[.slice ca c.length cc] 24)=Y1∧Y1.alloc (.cells #[.string f.name,pv,.int .i64 f.result,.int .i64 f.slots,.slice ia f.ins.length ic] 37)=Y2∧Y2.alloc (.cells #[.int .i64 x,.int .i64 a,.int .i64 n,.string text] 54)=Y3∧Y3.alloc (.cells #[.int .i64 1,.slice sa s.length sc,.slice ka k.length kc] 110)=Z∧Y1.heap.size=w.heap.size+1∧Y2.heap.size=w.heap.size+2∧Y3.heap.size=w.heap.size+3∧Below w.heap.size w Z∧Hid (Z.heap.size=w.heap.size+4)∧Z.cell? ⟨w.heap.size,0,none⟩=some (.slice ca c.length cc)∧Z.cell? ⟨w.heap.size+1,2,none⟩=some (.int .i64 f.result)∧Z.cell? ⟨w.heap.size+2,0,none⟩=some (.int .i64 x)∧Z.cell? ⟨w.heap.size+2,1,none⟩=some (.int .i64 a)∧Z.cell? ⟨w.heap.size+3,1,none⟩=some (.slice sa s.length sc)∧Z.cell? ⟨w.heap.size+3,2,none⟩=some (.slice ka k.length kc)∧Hid (Cd.IntsAt w.heap.size Z (.slice sa s.length sc) s)∧Hid (Cd.IntsAt w.heap.size Z (.slice ka k.length kc) k):=by
  obtain ⟨Y1,hY1⟩:∃ Y,w.alloc (.cells #[.slice ca c.length cc] 24)=Y:=⟨_,rfl⟩
  have hb1:Below w.heap.size w Y1:=by rw [← hY1];exact Cd.b1 w _
  have hs1:Y1.heap.size=w.heap.size+1:=by rw [← hY1];exact World.size_alloc _ _
  have q1:Y1.cell? ⟨w.heap.size,0,none⟩=some (.slice ca c.length cc):=by rw [← hY1];exact Cd.new_cell w _ _ 0 _ rfl
  obtain ⟨Y2,hY2⟩:∃ Y,Y1.alloc (.cells #[.string f.name,pv,.int .i64 f.result,.int .i64 f.slots,.slice ia f.ins.length ic] 37)=Y:=⟨_,rfl⟩
  have hb2:Below w.heap.size w Y2:=by rw [← hY2];exact Cd.Below.new hb1 _
  have hs2:Y2.heap.size=w.heap.size+2:=by rw [← hY2,World.size_alloc];omega
  have q2:Y2.cell? ⟨w.heap.size+1,2,none⟩=some (.int .i64 f.result):=by rw [← hY2];exact Cd.new_cell Y1 _ _ 2 _ hs1
  have q1':Y2.cell? ⟨w.heap.size,0,none⟩=some (.slice ca c.length cc):=by rw [← hY2];exact ((Cd.b1 Y1 _).cell (p:=⟨w.heap.size,0,none⟩) (by show w.heap.size < _;omega)).trans q1
  obtain ⟨Y3,hY3⟩:∃ Y,Y2.alloc (.cells #[.int .i64 x,.int .i64 a,.int .i64 n,.string text] 54)=Y:=⟨_,rfl⟩
  have hb3:Below w.heap.size w Y3:=by rw [← hY3];exact Cd.Below.new hb2 _
  have hs3:Y3.heap.size=w.heap.size+3:=by rw [← hY3,World.size_alloc];omega
  have hc3:=fun (b j:Nat) (hb:b < Y2.heap.size)=>(by rw [← hY3];exact (Cd.b1 Y2 _).cell (p:=⟨b,j,none⟩) hb:Y3.cell? ⟨b,j,none⟩=Y2.cell? ⟨b,j,none⟩)
  obtain ⟨Z,hZ⟩:∃ Y,Y3.alloc (.cells #[.int .i64 1,.slice sa s.length sc,.slice ka k.length kc] 110)=Y:=⟨_,rfl⟩
  have hbZ:Below w.heap.size w Z:=by rw [← hZ];exact Cd.Below.new hb3 _
  have HZs:Hid (Z.heap.size=w.heap.size+4):=by rw [Hid,← hZ,World.size_alloc];omega
  have hcZ:=fun (b j:Nat) (hb:b < Y3.heap.size)=>(by rw [← hZ];exact (Cd.b1 Y3 _).cell (p:=⟨b,j,none⟩) hb:Z.cell? ⟨b,j,none⟩=Y3.cell? ⟨b,j,none⟩)
  have zc:Z.cell? ⟨w.heap.size,0,none⟩=some (.slice ca c.length cc):=(hcZ _ 0 (by omega)).trans ((hc3 _ 0 (by omega)).trans q1')
  have zf:Z.cell? ⟨w.heap.size+1,2,none⟩=some (.int .i64 f.result):=(hcZ _ 2 (by omega)).trans ((hc3 _ 2 (by omega)).trans q2)
  have zi0:Z.cell? ⟨w.heap.size+2,0,none⟩=some (.int .i64 x):=(hcZ _ 0 (by omega)).trans (by rw [← hY3];exact Cd.new_cell Y2 _ _ 0 _ hs2)
  have zi1:Z.cell? ⟨w.heap.size+2,1,none⟩=some (.int .i64 a):=(hcZ _ 1 (by omega)).trans (by rw [← hY3];exact Cd.new_cell Y2 _ _ 1 _ hs2)
  have zs1:Z.cell? ⟨w.heap.size+3,1,none⟩=some (.slice sa s.length sc):=by rw [← hZ];exact Cd.new_cell Y3 _ _ 1 _ hs3
  have zs2:Z.cell? ⟨w.heap.size+3,2,none⟩=some (.slice ka k.length kc):=by rw [← hZ];exact Cd.new_cell Y3 _ _ 2 _ hs3
  have HSZ:Hid (Cd.IntsAt w.heap.size Z (.slice sa s.length sc) s):=hS.below hbZ
  have HKZ:Hid (Cd.IntsAt w.heap.size Z (.slice ka k.length kc) k):=hK.below hbZ
  exact ⟨Y1,Y2,Y3,Z,hY1,hY2,hY3,hZ,hs1,hs2,hs3,hbZ,HZs,zc,zf,zi0,zi1,zs1,zs2,HSZ,HKZ⟩
set_option maxRecDepth 100000 in
set_option maxHeartbeats 1000000 in
theorem Cd.gives_1A (c:List Cd.Fn) (f:Cd.Fn) (a n:Int) (text:ByteArray) (s k:List Int) (ca ia sa ka:Option Addr) (cc ic sc kc:Nat) (pv:Value) (_hcl:c.length≤60) (_hil:f.ins.length≤50000) (_hsl:s.length≤200) (hkl:k.length=0) (hk600:k.length≤600) (w:World) (hS:Cd.IntsAt w.heap.size w (.slice sa s.length sc) s) (hK:Cd.IntsAt w.heap.size w (.slice ka k.length kc) k) :
    Calls Tryz.prog 65 #[.agg #[.slice ca c.length cc],Cd.fnV f pv (.slice ia f.ins.length ic),Cd.insV ⟨1,a,n,text⟩,Cd.shV 1 (.slice sa s.length sc) (.slice ka k.length kc)] w (Cd.GivesIs c f ⟨1,a,n,text⟩ s k w):=by
  obtain ⟨Y1,Y2,Y3,Z,hY1,hY2,hY3,hZ,hs1,hs2,hs3,hbZ,HZs,zc,zf,zi0,zi1,zs1,zs2,HSZ,HKZ⟩:=Cd.pre4 c f 1 a n text s k ca ia sa ka cc ic sc kc pv w hS hK
  clear hS hK
  obtain rfl:k=[]:=List.eq_nil_of_length_eq_zero hkl
  have HT:Hid (Cd.top []=0):=(rfl:Cd.top []=0)
  have HBL:Hid (Cd.below []=0):=(rfl:Cd.below []=0)
  simp only [List.length_nil] at hZ zs2 hk600 HKZ ⊢
  have HG:Hid (Cd.gives c f ⟨1,a,n,text⟩ s []=(0,[a],true)):=by
    rw [Hid,Cd.gives]
    simp
  unfold Cd.GivesIs
  rw [HG.out]
  unfold Cd.fnV Cd.insV Cd.shV
  clear HG HSZ HKZ HT HBL
  go_enter Tryz.func65,Tryz.ntmps65
  have P0:(fun w'=>w'.cell? ⟨w.heap.size+2,1,none⟩=some (.int .i64 a)) Z:=zi1
  have P1:(fun w'=>w'.cell? ⟨w.heap.size+2,1,none⟩=some (.int .i64 a)) Z.drew:=P0
  have P2:∀ o:Obj,(fun w'=>w'.cell? ⟨w.heap.size+2,1,none⟩=some (.int .i64 a)) (Z.alloc o):=fun o=>((Cd.b1 Z o).cell (p:=⟨w.heap.size+2,1,none⟩) (by show w.heap.size+2 < _;have:=HZs.out;omega)).trans zi1
  have P3:∀ o:Obj,(fun w'=>w'.cell? ⟨w.heap.size+2,1,none⟩=some (.int .i64 a)) (Z.drew.alloc o):=fun o=>P2 o
  have P4:∀ o:Obj,(fun w'=>w'.cell? ⟨w.heap.size+2,1,none⟩=some (.int .i64 a)) (Z.alloc o).drew:=fun o=>P2 o
  go_wp2_with fail
  go_region_held3 (fun w'=>w'.cell? ⟨w.heap.size+2,1,none⟩=some (.int .i64 a)) (with_reducible first | exact P0 | exact P1 | exact P2 _ | exact P3 _ | exact P4 _) (fail)
  all_goals go_wp2_with fail
  all_goals go_ret3
  all_goals exact ⟨⟨.slice (some ⟨Z.heap.size,0,none⟩) ([a]:List Int).length ([a]:List Int).length,by (first | rfl | (simp;done) | (simp [*];done) | (simp_all;done) | (simp;omega)),Cd.IntsAt.newZ (Z:=Z) (hs:=[a]) _ _ rfl⟩,by first | exact Cd.Below.new hbZ _ | exact Below.drew (Cd.Below.new hbZ _) | exact Below.drew (Below.drew (Cd.Below.new hbZ _))⟩
set_option maxRecDepth 100000 in
set_option maxHeartbeats 1000000 in
theorem Cd.gives_1B (c:List Cd.Fn) (f:Cd.Fn) (a n:Int) (text:ByteArray) (s k:List Int) (ca ia sa ka:Option Addr) (cc ic sc kc:Nat) (pv:Value) (_hcl:c.length≤60) (_hil:f.ins.length≤50000) (_hsl:s.length≤200) (hkl:k.length=1) (hk600:k.length≤600) (w:World) (hS:Cd.IntsAt w.heap.size w (.slice sa s.length sc) s) (hK:Cd.IntsAt w.heap.size w (.slice ka k.length kc) k) :
    Calls Tryz.prog 65 #[.agg #[.slice ca c.length cc],Cd.fnV f pv (.slice ia f.ins.length ic),Cd.insV ⟨1,a,n,text⟩,Cd.shV 1 (.slice sa s.length sc) (.slice ka k.length kc)] w (Cd.GivesIs c f ⟨1,a,n,text⟩ s k w):=by
  obtain ⟨Y1,Y2,Y3,Z,hY1,hY2,hY3,hZ,hs1,hs2,hs3,hbZ,HZs,zc,zf,zi0,zi1,zs1,zs2,HSZ,HKZ⟩:=Cd.pre4 c f 1 a n text s k ca ia sa ka cc ic sc kc pv w hS hK
  clear hS hK
  obtain ⟨x,rfl⟩:∃ x,k=[x]:=by
    cases k with
    | nil=>simp at hkl
    | cons x r=>cases r with
      | nil=>exact ⟨x,rfl⟩
      | cons y q=>simp at hkl
  have HT:Hid (Cd.top [x]=x):=(rfl:Cd.top [x]=x)
  have HBL:Hid (Cd.below [x]=0):=(rfl:Cd.below [x]=0)
  obtain ⟨gk,ok,rfl,_,kx⟩:∃ g o,ka=some ⟨g,o,none⟩∧g < w.heap.size∧Z.cell? ⟨g,o,none⟩=some (.int .i64 x):=by
    obtain ⟨a',cp,he,hc⟩:=HKZ.out
    injection he with e1
    subst e1
    exact hc 0 (by simp)
  simp only [List.length_cons,List.length_nil,Nat.zero_add] at hZ zs2 hk600 HKZ ⊢
  have HG:Hid (Cd.gives c f ⟨1,a,n,text⟩ s [x]=(0,[a],true)):=by
    rw [Hid,Cd.gives]
    simp
  unfold Cd.GivesIs
  rw [HG.out]
  unfold Cd.fnV Cd.insV Cd.shV
  clear HG HSZ HKZ HT HBL
  go_enter Tryz.func65,Tryz.ntmps65
  have P0:(fun w'=>w'.cell? ⟨w.heap.size+2,1,none⟩=some (.int .i64 a)) Z:=zi1
  have P1:(fun w'=>w'.cell? ⟨w.heap.size+2,1,none⟩=some (.int .i64 a)) Z.drew:=P0
  have P2:∀ o:Obj,(fun w'=>w'.cell? ⟨w.heap.size+2,1,none⟩=some (.int .i64 a)) (Z.alloc o):=fun o=>((Cd.b1 Z o).cell (p:=⟨w.heap.size+2,1,none⟩) (by show w.heap.size+2 < _;have:=HZs.out;omega)).trans zi1
  have P3:∀ o:Obj,(fun w'=>w'.cell? ⟨w.heap.size+2,1,none⟩=some (.int .i64 a)) (Z.drew.alloc o):=fun o=>P2 o
  have P4:∀ o:Obj,(fun w'=>w'.cell? ⟨w.heap.size+2,1,none⟩=some (.int .i64 a)) (Z.alloc o).drew:=fun o=>P2 o
  go_wp2_with fail
  go_region_held3 (fun w'=>w'.cell? ⟨w.heap.size+2,1,none⟩=some (.int .i64 a)) (with_reducible first | exact P0 | exact P1 | exact P2 _ | exact P3 _ | exact P4 _) (fail)
  all_goals go_wp2_with fail
  all_goals go_ret3
  all_goals exact ⟨⟨.slice (some ⟨Z.heap.size,0,none⟩) ([a]:List Int).length ([a]:List Int).length,by (first | rfl | (simp;done) | (simp [*];done) | (simp_all;done) | (simp;omega)),Cd.IntsAt.newZ (Z:=Z) (hs:=[a]) _ _ rfl⟩,by first | exact Cd.Below.new hbZ _ | exact Below.drew (Cd.Below.new hbZ _) | exact Below.drew (Below.drew (Cd.Below.new hbZ _))⟩
set_option maxRecDepth 100000 in
set_option maxHeartbeats 1000000 in
theorem Cd.gives_1C (c:List Cd.Fn) (f:Cd.Fn) (a n:Int) (text:ByteArray) (s k:List Int) (m:Nat) (ca ia sa ka:Option Addr) (cc ic sc kc:Nat) (pv:Value) (_hcl:c.length≤60) (_hil:f.ins.length≤50000) (_hsl:s.length≤200) (hkl:k.length=m+2) (hk600:k.length≤600) (w:World) (hS:Cd.IntsAt w.heap.size w (.slice sa s.length sc) s) (hK:Cd.IntsAt w.heap.size w (.slice ka k.length kc) k) :
    Calls Tryz.prog 65 #[.agg #[.slice ca c.length cc],Cd.fnV f pv (.slice ia f.ins.length ic),Cd.insV ⟨1,a,n,text⟩,Cd.shV 1 (.slice sa s.length sc) (.slice ka k.length kc)] w (Cd.GivesIs c f ⟨1,a,n,text⟩ s k w):=by
  obtain ⟨Y1,Y2,Y3,Z,hY1,hY2,hY3,hZ,hs1,hs2,hs3,hbZ,HZs,zc,zf,zi0,zi1,zs1,zs2,HSZ,HKZ⟩:=Cd.pre4 c f 1 a n text s k ca ia sa ka cc ic sc kc pv w hS hK
  clear hS hK
  obtain ⟨y,hy⟩:∃ y,k[m]'(by omega)=y:=⟨_,rfl⟩
  obtain ⟨x,hx⟩:∃ x,k[m+1]'(by omega)=x:=⟨_,rfl⟩
  have HT:Hid (Cd.top k=x):=by
    rw [Hid,Cd.top,List.getLast?_eq_getElem?,hkl,show m+2 - 1=m+1 by omega,List.getElem?_eq_getElem (by omega),hx];rfl
  have HBL:Hid (Cd.below k=y):=by
    rw [Hid,Cd.below,List.getLast?_eq_getElem?,List.length_take,hkl,show min (m+2 - 1) (m+2) - 1=m by omega,List.getElem?_take_of_lt (by omega),List.getElem?_eq_getElem (by omega),hy];rfl
  obtain ⟨gk,ok,rfl,_,ky,kx⟩:∃ g o,ka=some ⟨g,o,none⟩∧g < w.heap.size∧Z.cell? ⟨g,o+m,none⟩=some (.int .i64 y)∧Z.cell? ⟨g,o+(m+1),none⟩=some (.int .i64 x):=by
    obtain ⟨a',cp,he,hc⟩:=HKZ.out
    injection he with e1
    subst e1
    obtain ⟨g,o,ha,hg,c1⟩:=hc m (by omega)
    obtain ⟨g2,o2,ha2,hg2,c2⟩:=hc (m+1) (by omega)
    rw [ha] at ha2
    injection ha2 with e;injection e with e1 e2
    subst e1 e2
    exact ⟨g,o,ha,hg,by rw [c1,hy],by rw [c2,hx]⟩
  have HLEN:Hid (k.length=m+2):=hkl
  rw [HLEN.out] at hZ zs2 hk600 HKZ ⊢
  clear hkl hx hy
  have hw1:wrap64 ((m:Int)+2 - 1)=(m:Int)+1:=by rw [IntWalk.wrap64_in _ (by omega)];omega
  have hw2:wrap64 ((m:Int)+2 - 2)=(m:Int):=by rw [IntWalk.wrap64_in _ (by omega)];omega
  have HG:Hid (Cd.gives c f ⟨1,a,n,text⟩ s k=(0,[a],true)):=by
    rw [Hid,Cd.gives]
    simp
  unfold Cd.GivesIs
  rw [HG.out]
  unfold Cd.fnV Cd.insV Cd.shV
  clear HG HSZ HKZ HT HBL
  go_enter Tryz.func65,Tryz.ntmps65
  have P0:(fun w'=>w'.cell? ⟨w.heap.size+2,1,none⟩=some (.int .i64 a)) Z:=zi1
  have P1:(fun w'=>w'.cell? ⟨w.heap.size+2,1,none⟩=some (.int .i64 a)) Z.drew:=P0
  have P2:∀ o:Obj,(fun w'=>w'.cell? ⟨w.heap.size+2,1,none⟩=some (.int .i64 a)) (Z.alloc o):=fun o=>((Cd.b1 Z o).cell (p:=⟨w.heap.size+2,1,none⟩) (by show w.heap.size+2 < _;have:=HZs.out;omega)).trans zi1
  have P3:∀ o:Obj,(fun w'=>w'.cell? ⟨w.heap.size+2,1,none⟩=some (.int .i64 a)) (Z.drew.alloc o):=fun o=>P2 o
  have P4:∀ o:Obj,(fun w'=>w'.cell? ⟨w.heap.size+2,1,none⟩=some (.int .i64 a)) (Z.alloc o).drew:=fun o=>P2 o
  go_wp2_with fail
  go_region_held3 (fun w'=>w'.cell? ⟨w.heap.size+2,1,none⟩=some (.int .i64 a)) (with_reducible first | exact P0 | exact P1 | exact P2 _ | exact P3 _ | exact P4 _) (fail)
  all_goals go_wp2_with fail
  all_goals go_ret3
  all_goals exact ⟨⟨.slice (some ⟨Z.heap.size,0,none⟩) ([a]:List Int).length ([a]:List Int).length,by (first | rfl | (simp;done) | (simp [*];done) | (simp_all;done) | (simp;omega)),Cd.IntsAt.newZ (Z:=Z) (hs:=[a]) _ _ rfl⟩,by first | exact Cd.Below.new hbZ _ | exact Below.drew (Cd.Below.new hbZ _) | exact Below.drew (Below.drew (Cd.Below.new hbZ _))⟩
set_option maxRecDepth 100000 in
set_option maxHeartbeats 8000000 in
theorem Cd.gives_NA (op:Int) (hop:op=3∨op=4∨op=10∨op=16∨op=11∨op=13∨op=15∨op=14) (c:List Cd.Fn) (f:Cd.Fn) (a n:Int) (text:ByteArray) (s k:List Int) (ca ia sa ka:Option Addr) (cc ic sc kc:Nat) (pv:Value) (_hcl:c.length≤60) (_hil:f.ins.length≤50000) (_hsl:s.length≤200) (hkl:k.length=0) (hk600:k.length≤600) (w:World) (hS:Cd.IntsAt w.heap.size w (.slice sa s.length sc) s) (hK:Cd.IntsAt w.heap.size w (.slice ka k.length kc) k) :
    Calls Tryz.prog 65 #[.agg #[.slice ca c.length cc],Cd.fnV f pv (.slice ia f.ins.length ic),Cd.insV ⟨op,a,n,text⟩,Cd.shV 1 (.slice sa s.length sc) (.slice ka k.length kc)] w (Cd.GivesIs c f ⟨op,a,n,text⟩ s k w):=by
  obtain ⟨Y1,Y2,Y3,Z,hY1,hY2,hY3,hZ,hs1,hs2,hs3,hbZ,HZs,zc,zf,zi0,zi1,zs1,zs2,HSZ,HKZ⟩:=Cd.pre4 c f op a n text s k ca ia sa ka cc ic sc kc pv w hS hK
  clear hS hK
  obtain rfl:k=[]:=List.eq_nil_of_length_eq_zero hkl
  have HT:Hid (Cd.top []=0):=(rfl:Cd.top []=0)
  have HBL:Hid (Cd.below []=0):=(rfl:Cd.below []=0)
  simp only [List.length_nil] at hZ zs2 hk600 HKZ ⊢
  rcases hop with rfl | rfl | rfl | rfl | rfl | rfl | rfl | rfl
  all_goals
    (first
      | (have HG:Hid (Cd.gives c f ⟨3,a,n,text⟩ s []=(1,[],false)):=(by rw [Hid,Cd.gives];simp);unfold Cd.GivesIs;rw [HG.out];clear HG)
      | (have HG:Hid (Cd.gives c f ⟨4,a,n,text⟩ s []=(1,[],false)):=(by rw [Hid,Cd.gives];simp);unfold Cd.GivesIs;rw [HG.out];clear HG)
      | (have HG:Hid (Cd.gives c f ⟨10,a,n,text⟩ s []=(0,[],true)):=(by rw [Hid,Cd.gives];simp);unfold Cd.GivesIs;rw [HG.out];clear HG)
      | (have HG:Hid (Cd.gives c f ⟨16,a,n,text⟩ s []=(0,[],true)):=(by rw [Hid,Cd.gives];simp);unfold Cd.GivesIs;rw [HG.out];clear HG)
      | (have HG:Hid (Cd.gives c f ⟨11,a,n,text⟩ s []=(1,[],decide (0=1))):=(by rw [Hid,Cd.gives];simp [HT.out]);unfold Cd.GivesIs;rw [HG.out];clear HG)
      | (have HG:Hid (Cd.gives c f ⟨13,a,n,text⟩ s []=(1,[],decide (0=2))):=(by rw [Hid,Cd.gives];simp [HT.out]);unfold Cd.GivesIs;rw [HG.out];clear HG)
      | (have HG:Hid (Cd.gives c f ⟨15,a,n,text⟩ s []=(1,[],decide (0=2))):=(by rw [Hid,Cd.gives];simp [HT.out]);unfold Cd.GivesIs;rw [HG.out];clear HG)
      | (have HG:Hid (Cd.gives c f ⟨14,a,n,text⟩ s []=(2,[],false)):=(by rw [Hid,Cd.gives];simp [HT.out,HBL.out]);unfold Cd.GivesIs;rw [HG.out];clear HG))
    unfold Cd.fnV Cd.insV Cd.shV
    clear HSZ HKZ HT HBL
    go_enter Tryz.func65,Tryz.ntmps65
    go_wp2_with fail
    all_goals go_ret3
    all_goals exact ⟨⟨.slice (some ⟨Z.heap.size,0,none⟩) ([]:List Int).length ([]:List Int).length,by (first | rfl | (simp;done) | (simp [*];done) | (simp_all;done) | (simp;omega)),Cd.IntsAt.newZ (Z:=Z) (hs:=[]) _ _ rfl⟩,by first | exact Cd.Below.new hbZ _ | exact Below.drew (Cd.Below.new hbZ _) | exact Below.drew (Below.drew (Cd.Below.new hbZ _))⟩
set_option maxRecDepth 100000 in
set_option maxHeartbeats 8000000 in
theorem Cd.gives_NB (op:Int) (hop:op=3∨op=4∨op=10∨op=16∨op=11∨op=13∨op=15) (c:List Cd.Fn) (f:Cd.Fn) (a n:Int) (text:ByteArray) (s k:List Int) (ca ia sa ka:Option Addr) (cc ic sc kc:Nat) (pv:Value) (_hcl:c.length≤60) (_hil:f.ins.length≤50000) (_hsl:s.length≤200) (hkl:k.length=1) (hk600:k.length≤600) (w:World) (hS:Cd.IntsAt w.heap.size w (.slice sa s.length sc) s) (hK:Cd.IntsAt w.heap.size w (.slice ka k.length kc) k) :
    Calls Tryz.prog 65 #[.agg #[.slice ca c.length cc],Cd.fnV f pv (.slice ia f.ins.length ic),Cd.insV ⟨op,a,n,text⟩,Cd.shV 1 (.slice sa s.length sc) (.slice ka k.length kc)] w (Cd.GivesIs c f ⟨op,a,n,text⟩ s k w):=by
  obtain ⟨Y1,Y2,Y3,Z,hY1,hY2,hY3,hZ,hs1,hs2,hs3,hbZ,HZs,zc,zf,zi0,zi1,zs1,zs2,HSZ,HKZ⟩:=Cd.pre4 c f op a n text s k ca ia sa ka cc ic sc kc pv w hS hK
  clear hS hK
  obtain ⟨x,rfl⟩:∃ x,k=[x]:=by
    cases k with
    | nil=>simp at hkl
    | cons x r=>cases r with
      | nil=>exact ⟨x,rfl⟩
      | cons y q=>simp at hkl
  have HT:Hid (Cd.top [x]=x):=(rfl:Cd.top [x]=x)
  have HBL:Hid (Cd.below [x]=0):=(rfl:Cd.below [x]=0)
  obtain ⟨gk,ok,rfl,_,kx⟩:∃ g o,ka=some ⟨g,o,none⟩∧g < w.heap.size∧Z.cell? ⟨g,o,none⟩=some (.int .i64 x):=by
    obtain ⟨a',cp,he,hc⟩:=HKZ.out
    injection he with e1
    subst e1
    exact hc 0 (by simp)
  simp only [List.length_cons,List.length_nil,Nat.zero_add] at hZ zs2 hk600 HKZ ⊢
  rcases hop with rfl | rfl | rfl | rfl | rfl | rfl | rfl
  all_goals
    (first
      | (have HG:Hid (Cd.gives c f ⟨3,a,n,text⟩ s [x]=(1,[],true)):=(by rw [Hid,Cd.gives];simp);unfold Cd.GivesIs;rw [HG.out];clear HG)
      | (have HG:Hid (Cd.gives c f ⟨4,a,n,text⟩ s [x]=(1,[],true)):=(by rw [Hid,Cd.gives];simp);unfold Cd.GivesIs;rw [HG.out];clear HG)
      | (have HG:Hid (Cd.gives c f ⟨10,a,n,text⟩ s [x]=(0,[],true)):=(by rw [Hid,Cd.gives];simp);unfold Cd.GivesIs;rw [HG.out];clear HG)
      | (have HG:Hid (Cd.gives c f ⟨16,a,n,text⟩ s [x]=(0,[],true)):=(by rw [Hid,Cd.gives];simp);unfold Cd.GivesIs;rw [HG.out];clear HG)
      | (have HG:Hid (Cd.gives c f ⟨11,a,n,text⟩ s [x]=(1,[],decide (x=1))):=(by rw [Hid,Cd.gives];simp [HT.out]);unfold Cd.GivesIs;rw [HG.out];clear HG)
      | (have HG:Hid (Cd.gives c f ⟨13,a,n,text⟩ s [x]=(1,[],decide (x=2))):=(by rw [Hid,Cd.gives];simp [HT.out]);unfold Cd.GivesIs;rw [HG.out];clear HG)
      | (have HG:Hid (Cd.gives c f ⟨15,a,n,text⟩ s [x]=(1,[],decide (x=2))):=(by rw [Hid,Cd.gives];simp [HT.out]);unfold Cd.GivesIs;rw [HG.out];clear HG))
    unfold Cd.fnV Cd.insV Cd.shV
    clear HSZ HKZ HT HBL
    go_enter Tryz.func65,Tryz.ntmps65
    go_wp2_with fail
    all_goals go_ret3
    all_goals exact ⟨⟨.slice (some ⟨Z.heap.size,0,none⟩) ([]:List Int).length ([]:List Int).length,by (first | rfl | (simp;done) | (simp [*];done) | (simp_all;done) | (simp;omega)),Cd.IntsAt.newZ (Z:=Z) (hs:=[]) _ _ rfl⟩,by first | exact Cd.Below.new hbZ _ | exact Below.drew (Cd.Below.new hbZ _) | exact Below.drew (Below.drew (Cd.Below.new hbZ _))⟩
set_option maxRecDepth 100000 in
set_option maxHeartbeats 1000000 in
theorem Cd.gives_14B (c:List Cd.Fn) (f:Cd.Fn) (a n:Int) (text:ByteArray) (s k:List Int) (ca ia sa ka:Option Addr) (cc ic sc kc:Nat) (pv:Value) (_hcl:c.length≤60) (_hil:f.ins.length≤50000) (_hsl:s.length≤200) (hkl:k.length=1) (hk600:k.length≤600) (w:World) (hS:Cd.IntsAt w.heap.size w (.slice sa s.length sc) s) (hK:Cd.IntsAt w.heap.size w (.slice ka k.length kc) k) :
    Calls Tryz.prog 65 #[.agg #[.slice ca c.length cc],Cd.fnV f pv (.slice ia f.ins.length ic),Cd.insV ⟨14,a,n,text⟩,Cd.shV 1 (.slice sa s.length sc) (.slice ka k.length kc)] w (Cd.GivesIs c f ⟨14,a,n,text⟩ s k w):=by
  obtain ⟨Y1,Y2,Y3,Z,hY1,hY2,hY3,hZ,hs1,hs2,hs3,hbZ,HZs,zc,zf,zi0,zi1,zs1,zs2,HSZ,HKZ⟩:=Cd.pre4 c f 14 a n text s k ca ia sa ka cc ic sc kc pv w hS hK
  clear hS hK
  obtain ⟨x,rfl⟩:∃ x,k=[x]:=by
    cases k with
    | nil=>simp at hkl
    | cons x r=>cases r with
      | nil=>exact ⟨x,rfl⟩
      | cons y q=>simp at hkl
  have HT:Hid (Cd.top [x]=x):=(rfl:Cd.top [x]=x)
  have HBL:Hid (Cd.below [x]=0):=(rfl:Cd.below [x]=0)
  obtain ⟨gk,ok,rfl,_,kx⟩:∃ g o,ka=some ⟨g,o,none⟩∧g < w.heap.size∧Z.cell? ⟨g,o,none⟩=some (.int .i64 x):=by
    obtain ⟨a',cp,he,hc⟩:=HKZ.out
    injection he with e1
    subst e1
    exact hc 0 (by simp)
  simp only [List.length_cons,List.length_nil,Nat.zero_add] at hZ zs2 hk600 HKZ ⊢
  have HG:Hid (Cd.gives c f ⟨14,a,n,text⟩ s [x]=(2,[],decide (x=2) && decide ((0:Int)=2))):=by
    rw [Hid,Cd.gives]
    simp [HT.out,HBL.out]
  unfold Cd.GivesIs
  rw [HG.out]
  unfold Cd.fnV Cd.insV Cd.shV
  clear HG HSZ HKZ HT HBL
  go_enter Tryz.func65,Tryz.ntmps65
  by_cases hx2:x=2
  · subst hx2
    go_wp2_with fail
    all_goals go_ret3
    all_goals exact ⟨⟨.slice (some ⟨Z.heap.size,0,none⟩) ([]:List Int).length ([]:List Int).length,by (first | rfl | (simp;done) | (simp [*];done) | (simp_all;done) | (simp;omega)),Cd.IntsAt.newZ (Z:=Z) (hs:=[]) _ _ rfl⟩,by first | exact Cd.Below.new hbZ _ | exact Below.drew (Cd.Below.new hbZ _) | exact Below.drew (Below.drew (Cd.Below.new hbZ _))⟩
  · have hxb:(x == 2)=false:=by simp [hx2]
    go_wp2_with fail
    all_goals go_ret3
    all_goals exact ⟨⟨.slice (some ⟨Z.heap.size,0,none⟩) ([]:List Int).length ([]:List Int).length,by (first | rfl | (simp;done) | (simp [*];done) | (simp_all;done) | (simp;omega)),Cd.IntsAt.newZ (Z:=Z) (hs:=[]) _ _ rfl⟩,by first | exact Cd.Below.new hbZ _ | exact Below.drew (Cd.Below.new hbZ _) | exact Below.drew (Below.drew (Cd.Below.new hbZ _))⟩
set_option maxRecDepth 100000 in
set_option maxHeartbeats 8000000 in
theorem Cd.gives_NC (op:Int) (hop:op=3∨op=4∨op=10∨op=16∨op=11∨op=13∨op=15) (c:List Cd.Fn) (f:Cd.Fn) (a n:Int) (text:ByteArray) (s k:List Int) (m:Nat) (ca ia sa ka:Option Addr) (cc ic sc kc:Nat) (pv:Value) (_hcl:c.length≤60) (_hil:f.ins.length≤50000) (_hsl:s.length≤200) (hkl:k.length=m+2) (hk600:k.length≤600) (w:World) (hS:Cd.IntsAt w.heap.size w (.slice sa s.length sc) s) (hK:Cd.IntsAt w.heap.size w (.slice ka k.length kc) k) :
    Calls Tryz.prog 65 #[.agg #[.slice ca c.length cc],Cd.fnV f pv (.slice ia f.ins.length ic),Cd.insV ⟨op,a,n,text⟩,Cd.shV 1 (.slice sa s.length sc) (.slice ka k.length kc)] w (Cd.GivesIs c f ⟨op,a,n,text⟩ s k w):=by
  obtain ⟨Y1,Y2,Y3,Z,hY1,hY2,hY3,hZ,hs1,hs2,hs3,hbZ,HZs,zc,zf,zi0,zi1,zs1,zs2,HSZ,HKZ⟩:=Cd.pre4 c f op a n text s k ca ia sa ka cc ic sc kc pv w hS hK
  clear hS hK
  obtain ⟨y,hy⟩:∃ y,k[m]'(by omega)=y:=⟨_,rfl⟩
  obtain ⟨x,hx⟩:∃ x,k[m+1]'(by omega)=x:=⟨_,rfl⟩
  have HT:Hid (Cd.top k=x):=by
    rw [Hid,Cd.top,List.getLast?_eq_getElem?,hkl,show m+2 - 1=m+1 by omega,List.getElem?_eq_getElem (by omega),hx];rfl
  have HBL:Hid (Cd.below k=y):=by
    rw [Hid,Cd.below,List.getLast?_eq_getElem?,List.length_take,hkl,show min (m+2 - 1) (m+2) - 1=m by omega,List.getElem?_take_of_lt (by omega),List.getElem?_eq_getElem (by omega),hy];rfl
  obtain ⟨gk,ok,rfl,_,ky,kx⟩:∃ g o,ka=some ⟨g,o,none⟩∧g < w.heap.size∧Z.cell? ⟨g,o+m,none⟩=some (.int .i64 y)∧Z.cell? ⟨g,o+(m+1),none⟩=some (.int .i64 x):=by
    obtain ⟨a',cp,he,hc⟩:=HKZ.out
    injection he with e1
    subst e1
    obtain ⟨g,o,ha,hg,c1⟩:=hc m (by omega)
    obtain ⟨g2,o2,ha2,hg2,c2⟩:=hc (m+1) (by omega)
    rw [ha] at ha2
    injection ha2 with e;injection e with e1 e2
    subst e1 e2
    exact ⟨g,o,ha,hg,by rw [c1,hy],by rw [c2,hx]⟩
  have HLEN:Hid (k.length=m+2):=hkl
  rw [HLEN.out] at hZ zs2 hk600 HKZ ⊢
  clear hkl hx hy
  have hw1:wrap64 ((m:Int)+2 - 1)=(m:Int)+1:=by rw [IntWalk.wrap64_in _ (by omega)];omega
  have hw2:wrap64 ((m:Int)+2 - 2)=(m:Int):=by rw [IntWalk.wrap64_in _ (by omega)];omega
  rcases hop with rfl | rfl | rfl | rfl | rfl | rfl | rfl
  all_goals
    (first
      | (have HG:Hid (Cd.gives c f ⟨3,a,n,text⟩ s k=(1,[],true)):=(by rw [Hid,Cd.gives];simp [HLEN.out]);unfold Cd.GivesIs;rw [HG.out];clear HG)
      | (have HG:Hid (Cd.gives c f ⟨4,a,n,text⟩ s k=(1,[],true)):=(by rw [Hid,Cd.gives];simp [HLEN.out]);unfold Cd.GivesIs;rw [HG.out];clear HG)
      | (have HG:Hid (Cd.gives c f ⟨10,a,n,text⟩ s k=(0,[],true)):=(by rw [Hid,Cd.gives];simp);unfold Cd.GivesIs;rw [HG.out];clear HG)
      | (have HG:Hid (Cd.gives c f ⟨16,a,n,text⟩ s k=(0,[],true)):=(by rw [Hid,Cd.gives];simp);unfold Cd.GivesIs;rw [HG.out];clear HG)
      | (have HG:Hid (Cd.gives c f ⟨11,a,n,text⟩ s k=(1,[],decide (x=1))):=(by rw [Hid,Cd.gives];simp [HT.out]);unfold Cd.GivesIs;rw [HG.out];clear HG)
      | (have HG:Hid (Cd.gives c f ⟨13,a,n,text⟩ s k=(1,[],decide (x=2))):=(by rw [Hid,Cd.gives];simp [HT.out]);unfold Cd.GivesIs;rw [HG.out];clear HG)
      | (have HG:Hid (Cd.gives c f ⟨15,a,n,text⟩ s k=(1,[],decide (x=2))):=(by rw [Hid,Cd.gives];simp [HT.out]);unfold Cd.GivesIs;rw [HG.out];clear HG))
    unfold Cd.fnV Cd.insV Cd.shV
    clear HSZ HKZ HT HBL
    go_enter Tryz.func65,Tryz.ntmps65
    go_wp2_with fail
    all_goals go_ret3
    all_goals exact ⟨⟨.slice (some ⟨Z.heap.size,0,none⟩) ([]:List Int).length ([]:List Int).length,by (first | rfl | (simp;done) | (simp [*];done) | (simp_all;done) | (simp;omega)),Cd.IntsAt.newZ (Z:=Z) (hs:=[]) _ _ rfl⟩,by first | exact Cd.Below.new hbZ _ | exact Below.drew (Cd.Below.new hbZ _) | exact Below.drew (Below.drew (Cd.Below.new hbZ _))⟩
set_option maxRecDepth 100000 in
set_option maxHeartbeats 1000000 in
theorem Cd.gives_14C (c:List Cd.Fn) (f:Cd.Fn) (a n:Int) (text:ByteArray) (s k:List Int) (m:Nat) (ca ia sa ka:Option Addr) (cc ic sc kc:Nat) (pv:Value) (_hcl:c.length≤60) (_hil:f.ins.length≤50000) (_hsl:s.length≤200) (hkl:k.length=m+2) (hk600:k.length≤600) (w:World) (hS:Cd.IntsAt w.heap.size w (.slice sa s.length sc) s) (hK:Cd.IntsAt w.heap.size w (.slice ka k.length kc) k) :
    Calls Tryz.prog 65 #[.agg #[.slice ca c.length cc],Cd.fnV f pv (.slice ia f.ins.length ic),Cd.insV ⟨14,a,n,text⟩,Cd.shV 1 (.slice sa s.length sc) (.slice ka k.length kc)] w (Cd.GivesIs c f ⟨14,a,n,text⟩ s k w):=by
  obtain ⟨Y1,Y2,Y3,Z,hY1,hY2,hY3,hZ,hs1,hs2,hs3,hbZ,HZs,zc,zf,zi0,zi1,zs1,zs2,HSZ,HKZ⟩:=Cd.pre4 c f 14 a n text s k ca ia sa ka cc ic sc kc pv w hS hK
  clear hS hK
  obtain ⟨y,hy⟩:∃ y,k[m]'(by omega)=y:=⟨_,rfl⟩
  obtain ⟨x,hx⟩:∃ x,k[m+1]'(by omega)=x:=⟨_,rfl⟩
  have HT:Hid (Cd.top k=x):=by
    rw [Hid,Cd.top,List.getLast?_eq_getElem?,hkl,show m+2 - 1=m+1 by omega,List.getElem?_eq_getElem (by omega),hx];rfl
  have HBL:Hid (Cd.below k=y):=by
    rw [Hid,Cd.below,List.getLast?_eq_getElem?,List.length_take,hkl,show min (m+2 - 1) (m+2) - 1=m by omega,List.getElem?_take_of_lt (by omega),List.getElem?_eq_getElem (by omega),hy];rfl
  obtain ⟨gk,ok,rfl,_,ky,kx⟩:∃ g o,ka=some ⟨g,o,none⟩∧g < w.heap.size∧Z.cell? ⟨g,o+m,none⟩=some (.int .i64 y)∧Z.cell? ⟨g,o+(m+1),none⟩=some (.int .i64 x):=by
    obtain ⟨a',cp,he,hc⟩:=HKZ.out
    injection he with e1
    subst e1
    obtain ⟨g,o,ha,hg,c1⟩:=hc m (by omega)
    obtain ⟨g2,o2,ha2,hg2,c2⟩:=hc (m+1) (by omega)
    rw [ha] at ha2
    injection ha2 with e;injection e with e1 e2
    subst e1 e2
    exact ⟨g,o,ha,hg,by rw [c1,hy],by rw [c2,hx]⟩
  have HLEN:Hid (k.length=m+2):=hkl
  rw [HLEN.out] at hZ zs2 hk600 HKZ ⊢
  clear hkl hx hy
  have hw1:wrap64 ((m:Int)+2 - 1)=(m:Int)+1:=by rw [IntWalk.wrap64_in _ (by omega)];omega
  have hw2:wrap64 ((m:Int)+2 - 2)=(m:Int):=by rw [IntWalk.wrap64_in _ (by omega)];omega
  have HG:Hid (Cd.gives c f ⟨14,a,n,text⟩ s k=(2,[],decide (x=2) && decide (y=2))):=by
    rw [Hid,Cd.gives]
    simp [HT.out,HBL.out]
  unfold Cd.GivesIs
  rw [HG.out]
  unfold Cd.fnV Cd.insV Cd.shV
  clear HG HSZ HKZ HT HBL
  go_enter Tryz.func65,Tryz.ntmps65
  by_cases hx2:x=2
  · subst hx2
    go_wp2_with fail
    all_goals go_ret3
    all_goals exact ⟨⟨.slice (some ⟨Z.heap.size,0,none⟩) ([]:List Int).length ([]:List Int).length,by (first | rfl | (simp;done) | (simp [*];done) | (simp_all;done) | (simp;omega)),Cd.IntsAt.newZ (Z:=Z) (hs:=[]) _ _ rfl⟩,by first | exact Cd.Below.new hbZ _ | exact Below.drew (Cd.Below.new hbZ _) | exact Below.drew (Below.drew (Cd.Below.new hbZ _))⟩
  · have hxb:(x == 2)=false:=by simp [hx2]
    go_wp2_with fail
    all_goals go_ret3
    all_goals exact ⟨⟨.slice (some ⟨Z.heap.size,0,none⟩) ([]:List Int).length ([]:List Int).length,by (first | rfl | (simp;done) | (simp [*];done) | (simp_all;done) | (simp;omega)),Cd.IntsAt.newZ (Z:=Z) (hs:=[]) _ _ rfl⟩,by first | exact Cd.Below.new hbZ _ | exact Below.drew (Cd.Below.new hbZ _) | exact Below.drew (Below.drew (Cd.Below.new hbZ _))⟩
end Go.Proofs.YtbkhedpabfanoaaGreatDoor
