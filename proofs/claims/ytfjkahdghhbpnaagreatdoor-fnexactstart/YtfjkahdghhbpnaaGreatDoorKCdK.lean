import Derived.Test.YtfjkahdghhbpnaaGreatDoorKCdJ
set_option maxRecDepth 100000
set_option maxHeartbeats 1000000
namespace Go.Proofs.YtfjkahdghhbpnaaGreatDoor
open Go.RowKit
theorem Zd (c:List Ae) (f:Ae) (a n:Int) (text:ByteArray) (s k:List Int) (ca ia sa ka:Option Addr) (cc ic sc kc:Nat) (pv:Value) (_hcl:c.length<=60) (_hil:f.ins.length<=50000) (_hsl:s.length<=200) (hkl:k.length=0) (hk600:k.length<=600) (w:World) (hS:Ab w.heap.size w (.slice sa s.length sc) s) (hK:Ab w.heap.size w (.slice ka k.length kc) k) :
  Calls Tryz.prog 112 #[.agg #[.slice ca c.length cc],Aw f pv (.slice ia f.ins.length ic),An ⟨5,a,n,text⟩,Ai 1 (.slice sa s.length sc) (.slice ka k.length kc)] w (Aj c f ⟨5,a,n,text⟩ s k w):=by
 obtain⟨C,D,E,Z,p,q,r,t,v,x,y,b,o,F,G,z,A,B,i,h,d⟩:=Cj c f 5 a n text s k ca ia sa ka cc ic sc kc pv w hS hK
 clear hS hK
 obtain rfl:k=[]:=List.eq_nil_of_length_eq_zero hkl
 have l:Hid (Az []=0):=(rfl:Az []=0)
 have g:Hid (Ar []=0):=(rfl:Ar []=0)
 simp only[List.length_nil]at t i hk600 d |-
 have j:Hid (Af c f ⟨5,a,n,text⟩ s []=(1,[E8 a 0],(E8 a 0 != 0))):=by
  simp only[Hid,Af]
  rw[if_neg (by decide),if_neg (by decide),if_neg (by decide),if_pos (by decide),l.out,Hj]
 unfold Aj
 rw[j.out]
 unfold Aw An Ai
 clear j h d l g
 go_enter Tryz.func112,Tryz.ntmps112
 obtain⟨u,m⟩:∃ u,Hid (E8 a 0=u):=⟨_,(rfl:E8 a 0=_)⟩
 simp only[m.out]
 go_wp2_with fail
 go_at_call 135;refine(Ms _ _ _).mono ?_;rintro e w' ⟨rfl,rfl⟩;rw[m.out]
 go_wp2_with fail
 all_goals go_ret3
 all_goals exact⟨⟨.slice (some ⟨Z.heap.size,0,none⟩) ([u]:List Int).length ([u]:List Int).length,by (first|rfl|(simp;done)|(simp[*];done)|(simp_all;done)|(simp;omega)),Ab.newZ (Z:=Z) (hs:=[u]) _ _ rfl⟩,by first|exact Ac b _|exact Below.drew (Ac b _)|exact Below.drew (Below.drew (Ac b _))⟩
theorem Zg (c:List Ae) (f:Ae) (a n:Int) (text:ByteArray) (s k:List Int) (ca ia sa ka:Option Addr) (cc ic sc kc:Nat) (pv:Value) (_hcl:c.length<=60) (_hil:f.ins.length<=50000) (_hsl:s.length<=200) (hkl:k.length=0) (hk600:k.length<=600) (w:World) (hS:Ab w.heap.size w (.slice sa s.length sc) s) (hK:Ab w.heap.size w (.slice ka k.length kc) k) :
  Calls Tryz.prog 112 #[.agg #[.slice ca c.length cc],Aw f pv (.slice ia f.ins.length ic),An ⟨6,a,n,text⟩,Ai 1 (.slice sa s.length sc) (.slice ka k.length kc)] w (Aj c f ⟨6,a,n,text⟩ s k w):=by
 obtain⟨C,D,E,Z,p,q,r,t,v,x,y,b,o,F,G,z,A,B,i,h,g⟩:=Cj c f 6 a n text s k ca ia sa ka cc ic sc kc pv w hS hK
 clear hS hK
 obtain rfl:k=[]:=List.eq_nil_of_length_eq_zero hkl
 have l:Hid (Az []=0):=(rfl:Az []=0)
 have d:Hid (Ar []=0):=(rfl:Ar []=0)
 simp only[List.length_nil]at t i hk600 g |-
 have j:Hid (Af c f ⟨6,a,n,text⟩ s []=(2,[Ct a 0 0],(Ct a 0 0 != 0))):=by
  simp only[Hid,Af]
  rw[if_neg (by decide),if_neg (by decide),if_neg (by decide),if_neg (by decide),if_pos (by decide),l.out,d.out,Hj]
 unfold Aj
 rw[j.out]
 unfold Aw An Ai
 clear j h g l d
 go_enter Tryz.func112,Tryz.ntmps112
 obtain⟨u,m⟩:∃ u,Hid (Ct a 0 0=u):=⟨_,(rfl:Ct a 0 0=_)⟩
 simp only[m.out]
 go_wp2_with fail
 go_at_call 136;refine(Lr _ _ _ _).mono ?_;rintro e w' ⟨rfl,rfl⟩;rw[m.out]
 go_wp2_with fail
 all_goals go_ret3
 all_goals exact⟨⟨.slice (some ⟨Z.heap.size,0,none⟩) ([u]:List Int).length ([u]:List Int).length,by (first|rfl|(simp;done)|(simp[*];done)|(simp_all;done)|(simp;omega)),Ab.newZ (Z:=Z) (hs:=[u]) _ _ rfl⟩,by first|exact Ac b _|exact Below.drew (Ac b _)|exact Below.drew (Below.drew (Ac b _))⟩
theorem Zj (c:List Ae) (f:Ae) (a n:Int) (text:ByteArray) (s k:List Int) (ca ia sa ka:Option Addr) (cc ic sc kc:Nat) (pv:Value) (_hcl:c.length<=60) (_hil:f.ins.length<=50000) (_hsl:s.length<=200) (hkl:k.length=0) (hk600:k.length<=600) (w:World) (hS:Ab w.heap.size w (.slice sa s.length sc) s) (hK:Ab w.heap.size w (.slice ka k.length kc) k) :
  Calls Tryz.prog 112 #[.agg #[.slice ca c.length cc],Aw f pv (.slice ia f.ins.length ic),An ⟨7,a,n,text⟩,Ai 1 (.slice sa s.length sc) (.slice ka k.length kc)] w (Aj c f ⟨7,a,n,text⟩ s k w):=by
 obtain⟨H,I,J,Z,y,z,A,B,C,D,E,b,j,L,M,F,g,G,m,i,d⟩:=Cj c f 7 a n text s k ca ia sa ka cc ic sc kc pv w hS hK
 clear hS hK
 obtain rfl:k=[]:=List.eq_nil_of_length_eq_zero hkl
 have r:Hid (Az []=0):=(rfl:Az []=0)
 have h:Hid (Ar []=0):=(rfl:Ar []=0)
 simp only[List.length_nil]at B m hk600 d |-
 have q:Hid (Af c f ⟨7,a,n,text⟩ s []=(1,[a],Cf 0)):=by
  rw[Hid,Af]
  simp[r.out]
 unfold Aj
 rw[q.out]
 unfold Aw An Ai
 clear q i d r h
 go_enter Tryz.func112,Tryz.ntmps112
 have t:(fun w'=>w'.cell? ⟨w.heap.size+2,1,none⟩=some (.int .i64 a)) Z:=g
 have u:(fun w'=>w'.cell? ⟨w.heap.size+2,1,none⟩=some (.int .i64 a)) Z.drew:=t
 have l:∀ o:Obj,(fun w'=>w'.cell? ⟨w.heap.size+2,1,none⟩=some (.int .i64 a)) (Z.alloc o):=fun o=>((A5 Z o).cell (p:=⟨w.heap.size+2,1,none⟩) (by show w.heap.size+2 < _;have:=j.out;omega)).trans g
 have v:∀ o:Obj,(fun w'=>w'.cell? ⟨w.heap.size+2,1,none⟩=some (.int .i64 a)) (Z.drew.alloc o):=fun o=>l o
 have x:∀ o:Obj,(fun w'=>w'.cell? ⟨w.heap.size+2,1,none⟩=some (.int .i64 a)) (Z.alloc o).drew:=fun o=>l o
 go_wp2_with fail
 go_region_held3 (fun w'=>w'.cell? ⟨w.heap.size+2,1,none⟩=some (.int .i64 a)) (with_reducible first|exact t|exact u|exact l _|exact v _|exact x _) (first|(go_at_call 133;refine(Eg _ _).mono ?_;rintro e K ⟨rfl,rfl⟩))
 all_goals go_wp2_with fail
 all_goals go_ret3
 all_goals exact⟨⟨.slice (some ⟨Z.heap.size,0,none⟩) ([a]:List Int).length ([a]:List Int).length,by (first|rfl|(simp;done)|(simp[*];done)|(simp_all;done)|(simp;omega)),Ab.newZ (Z:=Z) (hs:=[a]) _ _ rfl⟩,by first|exact Ac b _|exact Below.drew (Ac b _)|exact Below.drew (Below.drew (Ac b _))⟩
theorem Za (c:List Ae) (f:Ae) (a n:Int) (text:ByteArray) (s k:List Int) (ca ia sa ka:Option Addr) (cc ic sc kc:Nat) (pv:Value) (_hcl:c.length<=60) (_hil:f.ins.length<=50000) (_hsl:s.length<=200) (hkl:k.length=0) (hk600:k.length<=600) (ha0:0<=a) (ha1:a < (s.length:Int)) (w:World) (hS:Ab w.heap.size w (.slice sa s.length sc) s) (hK:Ab w.heap.size w (.slice ka k.length kc) k) :
  Calls Tryz.prog 112 #[.agg #[.slice ca c.length cc],Aw f pv (.slice ia f.ins.length ic),An ⟨2,a,n,text⟩,Ai 1 (.slice sa s.length sc) (.slice ka k.length kc)] w (Aj c f ⟨2,a,n,text⟩ s k w):=by
 obtain⟨T,U,V,Z,I,J,K,L,P,Q,R,i,h,Y,zf,S,q,r,z,m,l⟩:=Cj c f 2 a n text s k ca ia sa ka cc ic sc kc pv w hS hK
 clear hS hK
 obtain rfl:k=[]:=List.eq_nil_of_length_eq_zero hkl
 have E:Hid (Az []=0):=(rfl:Az []=0)
 have u:Hid (Ar []=0):=(rfl:Ar []=0)
 simp only[List.length_nil]at L z hk600 l |-
 obtain⟨j,rfl⟩:∃ j:Nat,a=(j:Int):=⟨a.toNat,by omega⟩
 have C:j < s.length:=by omega
 obtain⟨t,y⟩:∃ t,s[j]=t:=⟨_,rfl⟩
 have v:Hid (s[j]?.getD 0=t):=by rw[Hid,List.getElem?_eq_getElem C,y];rfl
 obtain⟨b,d,rfl,O,D⟩:∃ g o,sa=some ⟨g,o,none⟩/\g < w.heap.size/\Z.cell? ⟨g,o+j,none⟩=some (.int .i64 t):=by
  obtain⟨W,X,N,M⟩:=m.out
  injection N with e1
  subst e1
  have:=M j C
  rw[y]at this
  exact this
 clear y
 have A:Hid (Af c f ⟨2,(j:Int),n,text⟩ s []=(0,[t],(t != 0))):=by
  simp only[Hid,Af]
  rw[if_neg (by decide),if_pos (by decide),Hj]
  show (0,[s.getD (Int.toNat (j:Int)) 0],s.getD (Int.toNat (j:Int)) 0 != 0)=_
  rw[Int.toNat_natCast,List.getD_eq_getElem?_getD,v.out]
 unfold Aj
 rw[A.out]
 unfold Aw An Ai
 clear A m l E u
 go_enter Tryz.func112,Tryz.ntmps112
 have B:(fun w'=>w'.cell? ⟨w.heap.size+2,1,none⟩=some (.int .i64 (j:Int))/\w'.cell? ⟨w.heap.size+3,1,none⟩=some (.slice (some ⟨b,d,none⟩) s.length sc)/\w'.cell? ⟨b,d+j,none⟩=some (.int .i64 t)) Z:=⟨q,r,D⟩
 have F:(fun w'=>w'.cell? ⟨w.heap.size+2,1,none⟩=some (.int .i64 (j:Int))/\w'.cell? ⟨w.heap.size+3,1,none⟩=some (.slice (some ⟨b,d,none⟩) s.length sc)/\w'.cell? ⟨b,d+j,none⟩=some (.int .i64 t)) Z.drew:=B
 have x:∀ o:Obj,(fun w'=>w'.cell? ⟨w.heap.size+2,1,none⟩=some (.int .i64 (j:Int))/\w'.cell? ⟨w.heap.size+3,1,none⟩=some (.slice (some ⟨b,d,none⟩) s.length sc)/\w'.cell? ⟨b,d+j,none⟩=some (.int .i64 t)) (Z.alloc o):=fun o=>⟨((A5 Z o).cell (p:=⟨w.heap.size+2,1,none⟩) (by show w.heap.size+2 < _;have:=h.out;omega)).trans q,((A5 Z o).cell (p:=⟨w.heap.size+3,1,none⟩) (by show w.heap.size+3 < _;have:=h.out;omega)).trans r,((A5 Z o).cell (p:=⟨b,d+j,none⟩) (by show b < _;have:=h.out;omega)).trans D⟩
 have G:∀ o:Obj,(fun w'=>w'.cell? ⟨w.heap.size+2,1,none⟩=some (.int .i64 (j:Int))/\w'.cell? ⟨w.heap.size+3,1,none⟩=some (.slice (some ⟨b,d,none⟩) s.length sc)/\w'.cell? ⟨b,d+j,none⟩=some (.int .i64 t)) (Z.drew.alloc o):=fun o=>x o
 have H:∀ o:Obj,(fun w'=>w'.cell? ⟨w.heap.size+2,1,none⟩=some (.int .i64 (j:Int))/\w'.cell? ⟨w.heap.size+3,1,none⟩=some (.slice (some ⟨b,d,none⟩) s.length sc)/\w'.cell? ⟨b,d+j,none⟩=some (.int .i64 t)) (Z.alloc o).drew:=fun o=>x o
 go_wp2_with fail
 go_region_held3 (fun w'=>w'.cell? ⟨w.heap.size+2,1,none⟩=some (.int .i64 (j:Int))/\w'.cell? ⟨w.heap.size+3,1,none⟩=some (.slice (some ⟨b,d,none⟩) s.length sc)/\w'.cell? ⟨b,d+j,none⟩=some (.int .i64 t)) (with_reducible first|exact B|exact F|exact x _|exact G _|exact H _) (fail)
 all_goals go_wp2_with fail
 all_goals go_ret3
 all_goals exact⟨⟨.slice (some ⟨Z.heap.size,0,none⟩) ([t]:List Int).length ([t]:List Int).length,by (first|rfl|(simp;done)|(simp[*];done)|(simp_all;done)|(simp;omega)),Ab.newZ (Z:=Z) (hs:=[t]) _ _ rfl⟩,by first|exact Ac i _|exact Below.drew (Ac i _)|exact Below.drew (Below.drew (Ac i _))⟩
theorem Uq (c:List Ae) (f:Ae) (n:Int) (text:ByteArray) (s k:List Int) (ca ia sa ka:Option Addr) (cc ic sc kc:Nat) (pv:Value) (_hcl:c.length<=60) (_hil:f.ins.length<=50000) (_hsl:s.length<=200) (hkl:k.length=0) (hk600:k.length<=600) (w:World) (hS:Ab w.heap.size w (.slice sa s.length sc) s) (hK:Ab w.heap.size w (.slice ka k.length kc) k) :
  Calls Tryz.prog 112 #[.agg #[.slice ca c.length cc],Aw f pv (.slice ia f.ins.length ic),An ⟨12,0,n,text⟩,Ai 1 (.slice sa s.length sc) (.slice ka k.length kc)] w (Aj c f ⟨12,0,n,text⟩ s k w):=by
 obtain⟨I,J,K,Z,u,v,x,y,A,B,C,a,d,L,r,D,g,E,j,i,b⟩:=Cj c f 12 0 n text s k ca ia sa ka cc ic sc kc pv w hS hK
 clear hS hK
 obtain rfl:k=[]:=List.eq_nil_of_length_eq_zero hkl
 have m:Hid (Az []=0):=(rfl:Az []=0)
 have h:Hid (Ar []=0):=(rfl:Ar []=0)
 simp only[List.length_nil]at y j hk600 b |-
 have l:Hid (Af c f ⟨12,0,n,text⟩ s []=(0,[],true)):=by
  rw[Hid,Af]
  simp[m.out]
 unfold Aj
 rw[l.out]
 unfold Aw An Ai
 clear l i b m h
 go_enter Tryz.func112,Tryz.ntmps112
 have t:(fun w'=>w'.cell? ⟨w.heap.size+2,1,none⟩=some (.int .i64 0)/\w'.cell? ⟨w.heap.size+1,2,none⟩=some (.int .i64 f.result)) Z:=⟨g,r⟩
 have F:(fun w'=>w'.cell? ⟨w.heap.size+2,1,none⟩=some (.int .i64 0)/\w'.cell? ⟨w.heap.size+1,2,none⟩=some (.int .i64 f.result)) Z.drew:=t
 have q:∀ o:Obj,(fun w'=>w'.cell? ⟨w.heap.size+2,1,none⟩=some (.int .i64 0)/\w'.cell? ⟨w.heap.size+1,2,none⟩=some (.int .i64 f.result)) (Z.alloc o):=fun o=>⟨((A5 Z o).cell (p:=⟨w.heap.size+2,1,none⟩) (by show w.heap.size+2 < _;have:=d.out;omega)).trans g,((A5 Z o).cell (p:=⟨w.heap.size+1,2,none⟩) (by show w.heap.size+1 < _;have:=d.out;omega)).trans r⟩
 have G:∀ o:Obj,(fun w'=>w'.cell? ⟨w.heap.size+2,1,none⟩=some (.int .i64 0)/\w'.cell? ⟨w.heap.size+1,2,none⟩=some (.int .i64 f.result)) (Z.drew.alloc o):=fun o=>q o
 have H:∀ o:Obj,(fun w'=>w'.cell? ⟨w.heap.size+2,1,none⟩=some (.int .i64 0)/\w'.cell? ⟨w.heap.size+1,2,none⟩=some (.int .i64 f.result)) (Z.alloc o).drew:=fun o=>q o
 have z:((0:Int) == 0)=true:=rfl
 go_wp2_with fail
 go_region
 all_goals go_wp2_with fail
 all_goals go_ret3
 all_goals exact⟨⟨.slice (some ⟨Z.heap.size,0,none⟩) ([]:List Int).length ([]:List Int).length,by (first|rfl|(simp;done)|(simp[*];done)|(simp_all;done)|(simp;omega)),Ab.newZ (Z:=Z) (hs:=[]) _ _ rfl⟩,by first|exact Ac a _|exact Below.drew (Ac a _)|exact Below.drew (Below.drew (Ac a _))⟩
theorem Ur (c:List Ae) (f:Ae) (n:Int) (text:ByteArray) (s k:List Int) (ca ia sa ka:Option Addr) (cc ic sc kc:Nat) (pv:Value) (_hcl:c.length<=60) (_hil:f.ins.length<=50000) (_hsl:s.length<=200) (hkl:k.length=0) (hk600:k.length<=600) (w:World) (hS:Ab w.heap.size w (.slice sa s.length sc) s) (hK:Ab w.heap.size w (.slice ka k.length kc) k) :
  Calls Tryz.prog 112 #[.agg #[.slice ca c.length cc],Aw f pv (.slice ia f.ins.length ic),An ⟨12,1,n,text⟩,Ai 1 (.slice sa s.length sc) (.slice ka k.length kc)] w (Aj c f ⟨12,1,n,text⟩ s k w):=by
 obtain⟨I,J,K,Z,u,v,x,y,A,B,C,a,d,L,r,D,g,E,j,i,b⟩:=Cj c f 12 1 n text s k ca ia sa ka cc ic sc kc pv w hS hK
 clear hS hK
 obtain rfl:k=[]:=List.eq_nil_of_length_eq_zero hkl
 have m:Hid (Az []=0):=(rfl:Az []=0)
 have h:Hid (Ar []=0):=(rfl:Ar []=0)
 simp only[List.length_nil]at y j hk600 b |-
 have l:Hid (Af c f ⟨12,1,n,text⟩ s []=(1,[],false)):=by
  rw[Hid,Af]
  simp[m.out]
 unfold Aj
 rw[l.out]
 unfold Aw An Ai
 clear l i b m h
 go_enter Tryz.func112,Tryz.ntmps112
 have t:(fun w'=>w'.cell? ⟨w.heap.size+2,1,none⟩=some (.int .i64 1)/\w'.cell? ⟨w.heap.size+1,2,none⟩=some (.int .i64 f.result)) Z:=⟨g,r⟩
 have F:(fun w'=>w'.cell? ⟨w.heap.size+2,1,none⟩=some (.int .i64 1)/\w'.cell? ⟨w.heap.size+1,2,none⟩=some (.int .i64 f.result)) Z.drew:=t
 have q:∀ o:Obj,(fun w'=>w'.cell? ⟨w.heap.size+2,1,none⟩=some (.int .i64 1)/\w'.cell? ⟨w.heap.size+1,2,none⟩=some (.int .i64 f.result)) (Z.alloc o):=fun o=>⟨((A5 Z o).cell (p:=⟨w.heap.size+2,1,none⟩) (by show w.heap.size+2 < _;have:=d.out;omega)).trans g,((A5 Z o).cell (p:=⟨w.heap.size+1,2,none⟩) (by show w.heap.size+1 < _;have:=d.out;omega)).trans r⟩
 have G:∀ o:Obj,(fun w'=>w'.cell? ⟨w.heap.size+2,1,none⟩=some (.int .i64 1)/\w'.cell? ⟨w.heap.size+1,2,none⟩=some (.int .i64 f.result)) (Z.drew.alloc o):=fun o=>q o
 have H:∀ o:Obj,(fun w'=>w'.cell? ⟨w.heap.size+2,1,none⟩=some (.int .i64 1)/\w'.cell? ⟨w.heap.size+1,2,none⟩=some (.int .i64 f.result)) (Z.alloc o).drew:=fun o=>q o
 have z:((1:Int) == 0)=false:=rfl
 go_wp2_with fail
 go_region
 all_goals go_wp2_with fail
 all_goals go_ret3
 all_goals exact⟨⟨.slice (some ⟨Z.heap.size,0,none⟩) ([]:List Int).length ([]:List Int).length,by (first|rfl|(simp;done)|(simp[*];done)|(simp_all;done)|(simp;omega)),Ab.newZ (Z:=Z) (hs:=[]) _ _ rfl⟩,by first|exact Ac a _|exact Below.drew (Ac a _)|exact Below.drew (Below.drew (Ac a _))⟩
theorem Ze (c:List Ae) (f:Ae) (a n:Int) (text:ByteArray) (s k:List Int) (ca ia sa ka:Option Addr) (cc ic sc kc:Nat) (pv:Value) (_hcl:c.length<=60) (_hil:f.ins.length<=50000) (_hsl:s.length<=200) (hkl:k.length=1) (hk600:k.length<=600) (w:World) (hS:Ab w.heap.size w (.slice sa s.length sc) s) (hK:Ab w.heap.size w (.slice ka k.length kc) k) :
  Calls Tryz.prog 112 #[.agg #[.slice ca c.length cc],Aw f pv (.slice ia f.ins.length ic),An ⟨5,a,n,text⟩,Ai 1 (.slice sa s.length sc) (.slice ka k.length kc)] w (Aj c f ⟨5,a,n,text⟩ s k w):=by
 obtain⟨K,L,M,Z,v,z,A,B,E,F,G,d,t,S,T,H,I,J,j,i,b⟩:=Cj c f 5 a n text s k ca ia sa ka cc ic sc kc pv w hS hK
 clear hS hK
 obtain⟨x,rfl⟩:∃ x,k=[x]:=by
  cases k with
  | nil=>simp at hkl
  | cons x r=>cases r with
   | nil=>exact⟨x,rfl⟩
   | cons y q=>simp at hkl
 have m:Hid (Az [x]=x):=(rfl:Az [x]=x)
 have h:Hid (Ar [x]=0):=(rfl:Ar [x]=0)
 obtain⟨P,R,rfl,_,Q⟩:∃ g o,ka=some ⟨g,o,none⟩/\g < w.heap.size/\Z.cell? ⟨g,o,none⟩=some (.int .i64 x):=by
  obtain⟨N,O,D,C⟩:=b.out
  injection D with e1
  subst e1
  exact C 0 (by simp)
 simp only[List.length_cons,List.length_nil,Nat.zero_add]at B j hk600 b |-
 have l:Hid (Af c f ⟨5,a,n,text⟩ s [x]=(1,[E8 a x],(E8 a x != 0))):=by
  simp only[Hid,Af]
  rw[if_neg (by decide),if_neg (by decide),if_neg (by decide),if_pos (by decide),m.out,Hj]
 unfold Aj
 rw[l.out]
 unfold Aw An Ai
 clear l i b m h
 go_enter Tryz.func112,Tryz.ntmps112
 obtain⟨u,p⟩:∃ u,Hid (E8 a x=u):=⟨_,(rfl:E8 a x=_)⟩
 simp only[p.out]
 go_wp2_with fail
 go_at_call 135;refine(Ms _ _ _).mono ?_;rintro e w' ⟨rfl,rfl⟩;rw[p.out]
 go_wp2_with fail
 all_goals go_ret3
 all_goals exact⟨⟨.slice (some ⟨Z.heap.size,0,none⟩) ([u]:List Int).length ([u]:List Int).length,by (first|rfl|(simp;done)|(simp[*];done)|(simp_all;done)|(simp;omega)),Ab.newZ (Z:=Z) (hs:=[u]) _ _ rfl⟩,by first|exact Ac d _|exact Below.drew (Ac d _)|exact Below.drew (Below.drew (Ac d _))⟩
theorem Zh (c:List Ae) (f:Ae) (a n:Int) (text:ByteArray) (s k:List Int) (ca ia sa ka:Option Addr) (cc ic sc kc:Nat) (pv:Value) (_hcl:c.length<=60) (_hil:f.ins.length<=50000) (_hsl:s.length<=200) (hkl:k.length=1) (hk600:k.length<=600) (w:World) (hS:Ab w.heap.size w (.slice sa s.length sc) s) (hK:Ab w.heap.size w (.slice ka k.length kc) k) :
  Calls Tryz.prog 112 #[.agg #[.slice ca c.length cc],Aw f pv (.slice ia f.ins.length ic),An ⟨6,a,n,text⟩,Ai 1 (.slice sa s.length sc) (.slice ka k.length kc)] w (Aj c f ⟨6,a,n,text⟩ s k w):=by
 obtain⟨K,L,M,Z,v,z,A,B,E,F,G,d,t,S,T,H,I,J,j,i,b⟩:=Cj c f 6 a n text s k ca ia sa ka cc ic sc kc pv w hS hK
 clear hS hK
 obtain⟨x,rfl⟩:∃ x,k=[x]:=by
  cases k with
  | nil=>simp at hkl
  | cons x r=>cases r with
   | nil=>exact⟨x,rfl⟩
   | cons y q=>simp at hkl
 have m:Hid (Az [x]=x):=(rfl:Az [x]=x)
 have h:Hid (Ar [x]=0):=(rfl:Ar [x]=0)
 obtain⟨P,R,rfl,_,Q⟩:∃ g o,ka=some ⟨g,o,none⟩/\g < w.heap.size/\Z.cell? ⟨g,o,none⟩=some (.int .i64 x):=by
  obtain⟨N,O,D,C⟩:=b.out
  injection D with e1
  subst e1
  exact C 0 (by simp)
 simp only[List.length_cons,List.length_nil,Nat.zero_add]at B j hk600 b |-
 have l:Hid (Af c f ⟨6,a,n,text⟩ s [x]=(2,[Ct a 0 x],(Ct a 0 x != 0))):=by
  simp only[Hid,Af]
  rw[if_neg (by decide),if_neg (by decide),if_neg (by decide),if_neg (by decide),if_pos (by decide),m.out,h.out,Hj]
 unfold Aj
 rw[l.out]
 unfold Aw An Ai
 clear l i b m h
 go_enter Tryz.func112,Tryz.ntmps112
 obtain⟨u,p⟩:∃ u,Hid (Ct a 0 x=u):=⟨_,(rfl:Ct a 0 x=_)⟩
 simp only[p.out]
 go_wp2_with fail
 go_at_call 136;refine(Lr _ _ _ _).mono ?_;rintro e w' ⟨rfl,rfl⟩;rw[p.out]
 go_wp2_with fail
 all_goals go_ret3
 all_goals exact⟨⟨.slice (some ⟨Z.heap.size,0,none⟩) ([u]:List Int).length ([u]:List Int).length,by (first|rfl|(simp;done)|(simp[*];done)|(simp_all;done)|(simp;omega)),Ab.newZ (Z:=Z) (hs:=[u]) _ _ rfl⟩,by first|exact Ac d _|exact Below.drew (Ac d _)|exact Below.drew (Below.drew (Ac d _))⟩
theorem Zk (c:List Ae) (f:Ae) (a n:Int) (text:ByteArray) (s k:List Int) (ca ia sa ka:Option Addr) (cc ic sc kc:Nat) (pv:Value) (_hcl:c.length<=60) (_hil:f.ins.length<=50000) (_hsl:s.length<=200) (hkl:k.length=1) (hk600:k.length<=600) (w:World) (hS:Ab w.heap.size w (.slice sa s.length sc) s) (hK:Ab w.heap.size w (.slice ka k.length kc) k) :
  Calls Tryz.prog 112 #[.agg #[.slice ca c.length cc],Aw f pv (.slice ia f.ins.length ic),An ⟨7,a,n,text⟩,Ai 1 (.slice sa s.length sc) (.slice ka k.length kc)] w (Aj c f ⟨7,a,n,text⟩ s k w):=by
 obtain⟨O,P,Q,Z,D,E,F,G,J,K,L,d,l,X,Y,M,h,N,t,j,b⟩:=Cj c f 7 a n text s k ca ia sa ka cc ic sc kc pv w hS hK
 clear hS hK
 obtain⟨x,rfl⟩:∃ x,k=[x]:=by
  cases k with
  | nil=>simp at hkl
  | cons x r=>cases r with
   | nil=>exact⟨x,rfl⟩
   | cons y q=>simp at hkl
 have v:Hid (Az [x]=x):=(rfl:Az [x]=x)
 have i:Hid (Ar [x]=0):=(rfl:Ar [x]=0)
 obtain⟨T,V,rfl,_,U⟩:∃ g o,ka=some ⟨g,o,none⟩/\g < w.heap.size/\Z.cell? ⟨g,o,none⟩=some (.int .i64 x):=by
  obtain⟨R,S,I,H⟩:=b.out
  injection I with e1
  subst e1
  exact H 0 (by simp)
 simp only[List.length_cons,List.length_nil,Nat.zero_add]at G t hk600 b |-
 have u:Hid (Af c f ⟨7,a,n,text⟩ s [x]=(1,[a],Cf x)):=by
  rw[Hid,Af]
  simp[v.out]
 unfold Aj
 rw[u.out]
 unfold Aw An Ai
 clear u j b v i
 go_enter Tryz.func112,Tryz.ntmps112
 have z:(fun w'=>w'.cell? ⟨w.heap.size+2,1,none⟩=some (.int .i64 a)) Z:=h
 have A:(fun w'=>w'.cell? ⟨w.heap.size+2,1,none⟩=some (.int .i64 a)) Z.drew:=z
 have m:∀ o:Obj,(fun w'=>w'.cell? ⟨w.heap.size+2,1,none⟩=some (.int .i64 a)) (Z.alloc o):=fun o=>((A5 Z o).cell (p:=⟨w.heap.size+2,1,none⟩) (by show w.heap.size+2 < _;have:=l.out;omega)).trans h
 have B:∀ o:Obj,(fun w'=>w'.cell? ⟨w.heap.size+2,1,none⟩=some (.int .i64 a)) (Z.drew.alloc o):=fun o=>m o
 have C:∀ o:Obj,(fun w'=>w'.cell? ⟨w.heap.size+2,1,none⟩=some (.int .i64 a)) (Z.alloc o).drew:=fun o=>m o
 go_wp2_with fail
 go_region_held3 (fun w'=>w'.cell? ⟨w.heap.size+2,1,none⟩=some (.int .i64 a)) (with_reducible first|exact z|exact A|exact m _|exact B _|exact C _) (first|(go_at_call 133;refine(Eg _ _).mono ?_;rintro e W ⟨rfl,rfl⟩))
 all_goals go_wp2_with fail
 all_goals go_ret3
 all_goals exact⟨⟨.slice (some ⟨Z.heap.size,0,none⟩) ([a]:List Int).length ([a]:List Int).length,by (first|rfl|(simp;done)|(simp[*];done)|(simp_all;done)|(simp;omega)),Ab.newZ (Z:=Z) (hs:=[a]) _ _ rfl⟩,by first|exact Ac d _|exact Below.drew (Ac d _)|exact Below.drew (Below.drew (Ac d _))⟩
theorem Zb (c:List Ae) (f:Ae) (a n:Int) (text:ByteArray) (s k:List Int) (ca ia sa ka:Option Addr) (cc ic sc kc:Nat) (pv:Value) (_hcl:c.length<=60) (_hil:f.ins.length<=50000) (_hsl:s.length<=200) (hkl:k.length=1) (hk600:k.length<=600) (ha0:0<=a) (ha1:a < (s.length:Int)) (w:World) (hS:Ab w.heap.size w (.slice sa s.length sc) s) (hK:Ab w.heap.size w (.slice ka k.length kc) k) :
  Calls Tryz.prog 112 #[.agg #[.slice ca c.length cc],Aw f pv (.slice ia f.ins.length ic),An ⟨2,a,n,text⟩,Ai 1 (.slice sa s.length sc) (.slice ka k.length kc)] w (Aj c f ⟨2,a,n,text⟩ s k w):=by
 obtain⟨Y1,Y2,Y3,Z,Q,R,S,T,V,W,X,l,i,zc,zf,Y,u,v,F,m,h⟩:=Cj c f 2 a n text s k ca ia sa ka cc ic sc kc pv w hS hK
 clear hS hK
 obtain⟨x,rfl⟩:∃ x,k=[x]:=by
  cases k with
  | nil=>simp at hkl
  | cons x r=>cases r with
   | nil=>exact⟨x,rfl⟩
   | cons y q=>simp at hkl
 have K:Hid (Az [x]=x):=(rfl:Az [x]=x)
 have z:Hid (Ar [x]=0):=(rfl:Ar [x]=0)
 obtain⟨gk,ok,rfl,_,kx⟩:∃ g o,ka=some ⟨g,o,none⟩/\g < w.heap.size/\Z.cell? ⟨g,o,none⟩=some (.int .i64 x):=by
  obtain⟨O,P,D,C⟩:=h.out
  injection D with e1
  subst e1
  exact C 0 (by simp)
 simp only[List.length_cons,List.length_nil,Nat.zero_add]at T F hk600 h |-
 obtain⟨j,rfl⟩:∃ j:Nat,a=(j:Int):=⟨a.toNat,by omega⟩
 have I:j < s.length:=by omega
 obtain⟨t,E⟩:∃ t,s[j]=t:=⟨_,rfl⟩
 have A:Hid (s[j]?.getD 0=t):=by rw[Hid,List.getElem?_eq_getElem I,E];rfl
 obtain⟨b,d,rfl,U,J⟩:∃ g o,sa=some ⟨g,o,none⟩/\g < w.heap.size/\Z.cell? ⟨g,o+j,none⟩=some (.int .i64 t):=by
  obtain⟨O,P,D,C⟩:=m.out
  injection D with e1
  subst e1
  have:=C j I
  rw[E]at this
  exact this
 clear E
 have G:Hid (Af c f ⟨2,(j:Int),n,text⟩ s [x]=(0,[t],(t != 0))):=by
  simp only[Hid,Af]
  rw[if_neg (by decide),if_pos (by decide),Hj]
  show (0,[s.getD (Int.toNat (j:Int)) 0],s.getD (Int.toNat (j:Int)) 0 != 0)=_
  rw[Int.toNat_natCast,List.getD_eq_getElem?_getD,A.out]
 unfold Aj
 rw[G.out]
 unfold Aw An Ai
 clear G m h K z
 go_enter Tryz.func112,Tryz.ntmps112
 have H:(fun w'=>w'.cell? ⟨w.heap.size+2,1,none⟩=some (.int .i64 (j:Int))/\w'.cell? ⟨w.heap.size+3,1,none⟩=some (.slice (some ⟨b,d,none⟩) s.length sc)/\w'.cell? ⟨b,d+j,none⟩=some (.int .i64 t)) Z:=⟨u,v,J⟩
 have L:(fun w'=>w'.cell? ⟨w.heap.size+2,1,none⟩=some (.int .i64 (j:Int))/\w'.cell? ⟨w.heap.size+3,1,none⟩=some (.slice (some ⟨b,d,none⟩) s.length sc)/\w'.cell? ⟨b,d+j,none⟩=some (.int .i64 t)) Z.drew:=H
 have B:∀ o:Obj,(fun w'=>w'.cell? ⟨w.heap.size+2,1,none⟩=some (.int .i64 (j:Int))/\w'.cell? ⟨w.heap.size+3,1,none⟩=some (.slice (some ⟨b,d,none⟩) s.length sc)/\w'.cell? ⟨b,d+j,none⟩=some (.int .i64 t)) (Z.alloc o):=fun o=>⟨((A5 Z o).cell (p:=⟨w.heap.size+2,1,none⟩) (by show w.heap.size+2 < _;have:=i.out;omega)).trans u,((A5 Z o).cell (p:=⟨w.heap.size+3,1,none⟩) (by show w.heap.size+3 < _;have:=i.out;omega)).trans v,((A5 Z o).cell (p:=⟨b,d+j,none⟩) (by show b < _;have:=i.out;omega)).trans J⟩
 have M:∀ o:Obj,(fun w'=>w'.cell? ⟨w.heap.size+2,1,none⟩=some (.int .i64 (j:Int))/\w'.cell? ⟨w.heap.size+3,1,none⟩=some (.slice (some ⟨b,d,none⟩) s.length sc)/\w'.cell? ⟨b,d+j,none⟩=some (.int .i64 t)) (Z.drew.alloc o):=fun o=>B o
 have N:∀ o:Obj,(fun w'=>w'.cell? ⟨w.heap.size+2,1,none⟩=some (.int .i64 (j:Int))/\w'.cell? ⟨w.heap.size+3,1,none⟩=some (.slice (some ⟨b,d,none⟩) s.length sc)/\w'.cell? ⟨b,d+j,none⟩=some (.int .i64 t)) (Z.alloc o).drew:=fun o=>B o
 go_wp2_with fail
 go_region_held3 (fun w'=>w'.cell? ⟨w.heap.size+2,1,none⟩=some (.int .i64 (j:Int))/\w'.cell? ⟨w.heap.size+3,1,none⟩=some (.slice (some ⟨b,d,none⟩) s.length sc)/\w'.cell? ⟨b,d+j,none⟩=some (.int .i64 t)) (with_reducible first|exact H|exact L|exact B _|exact M _|exact N _) (fail)
 all_goals go_wp2_with fail
 all_goals go_ret3
 all_goals exact⟨⟨.slice (some ⟨Z.heap.size,0,none⟩) ([t]:List Int).length ([t]:List Int).length,by (first|rfl|(simp;done)|(simp[*];done)|(simp_all;done)|(simp;omega)),Ab.newZ (Z:=Z) (hs:=[t]) _ _ rfl⟩,by first|exact Ac l _|exact Below.drew (Ac l _)|exact Below.drew (Below.drew (Ac l _))⟩
theorem Us (c:List Ae) (f:Ae) (n:Int) (text:ByteArray) (s k:List Int) (ca ia sa ka:Option Addr) (cc ic sc kc:Nat) (pv:Value) (_hcl:c.length<=60) (_hil:f.ins.length<=50000) (_hsl:s.length<=200) (hkl:k.length=1) (hk600:k.length<=600) (w:World) (hS:Ab w.heap.size w (.slice sa s.length sc) s) (hK:Ab w.heap.size w (.slice ka k.length kc) k) :
  Calls Tryz.prog 112 #[.agg #[.slice ca c.length cc],Aw f pv (.slice ia f.ins.length ic),An ⟨12,0,n,text⟩,Ai 1 (.slice sa s.length sc) (.slice ka k.length kc)] w (Aj c f ⟨12,0,n,text⟩ s k w):=by
 obtain⟨P,Q,R,Z,A,B,C,D,H,I,J,b,d,X,v,K,h,L,l,j,a⟩:=Cj c f 12 0 n text s k ca ia sa ka cc ic sc kc pv w hS hK
 clear hS hK
 obtain⟨x,rfl⟩:∃ x,k=[x]:=by
  cases k with
  | nil=>simp at hkl
  | cons x r=>cases r with
   | nil=>exact⟨x,rfl⟩
   | cons y q=>simp at hkl
 have t:Hid (Az [x]=x):=(rfl:Az [x]=x)
 have i:Hid (Ar [x]=0):=(rfl:Ar [x]=0)
 obtain⟨U,W,rfl,_,V⟩:∃ g o,ka=some ⟨g,o,none⟩/\g < w.heap.size/\Z.cell? ⟨g,o,none⟩=some (.int .i64 x):=by
  obtain⟨S,T,F,E⟩:=a.out
  injection F with e1
  subst e1
  exact E 0 (by simp)
 simp only[List.length_cons,List.length_nil,Nat.zero_add]at D l hk600 a |-
 have m:Hid (Af c f ⟨12,0,n,text⟩ s [x]=(0,[],true)):=by
  rw[Hid,Af]
  simp[t.out]
 unfold Aj
 rw[m.out]
 unfold Aw An Ai
 clear m j a t i
 go_enter Tryz.func112,Tryz.ntmps112
 have z:(fun w'=>w'.cell? ⟨w.heap.size+2,1,none⟩=some (.int .i64 0)/\w'.cell? ⟨w.heap.size+1,2,none⟩=some (.int .i64 f.result)) Z:=⟨h,v⟩
 have M:(fun w'=>w'.cell? ⟨w.heap.size+2,1,none⟩=some (.int .i64 0)/\w'.cell? ⟨w.heap.size+1,2,none⟩=some (.int .i64 f.result)) Z.drew:=z
 have u:∀ o:Obj,(fun w'=>w'.cell? ⟨w.heap.size+2,1,none⟩=some (.int .i64 0)/\w'.cell? ⟨w.heap.size+1,2,none⟩=some (.int .i64 f.result)) (Z.alloc o):=fun o=>⟨((A5 Z o).cell (p:=⟨w.heap.size+2,1,none⟩) (by show w.heap.size+2 < _;have:=d.out;omega)).trans h,((A5 Z o).cell (p:=⟨w.heap.size+1,2,none⟩) (by show w.heap.size+1 < _;have:=d.out;omega)).trans v⟩
 have N:∀ o:Obj,(fun w'=>w'.cell? ⟨w.heap.size+2,1,none⟩=some (.int .i64 0)/\w'.cell? ⟨w.heap.size+1,2,none⟩=some (.int .i64 f.result)) (Z.drew.alloc o):=fun o=>u o
 have O:∀ o:Obj,(fun w'=>w'.cell? ⟨w.heap.size+2,1,none⟩=some (.int .i64 0)/\w'.cell? ⟨w.heap.size+1,2,none⟩=some (.int .i64 f.result)) (Z.alloc o).drew:=fun o=>u o
 have G:((0:Int) == 0)=true:=rfl
 go_wp2_with fail
 go_region
 all_goals go_wp2_with fail
 all_goals go_ret3
 all_goals exact⟨⟨.slice (some ⟨Z.heap.size,0,none⟩) ([]:List Int).length ([]:List Int).length,by (first|rfl|(simp;done)|(simp[*];done)|(simp_all;done)|(simp;omega)),Ab.newZ (Z:=Z) (hs:=[]) _ _ rfl⟩,by first|exact Ac b _|exact Below.drew (Ac b _)|exact Below.drew (Below.drew (Ac b _))⟩
theorem Ut (c:List Ae) (f:Ae) (n:Int) (text:ByteArray) (s k:List Int) (ca ia sa ka:Option Addr) (cc ic sc kc:Nat) (pv:Value) (_hcl:c.length<=60) (_hil:f.ins.length<=50000) (_hsl:s.length<=200) (hkl:k.length=1) (hk600:k.length<=600) (w:World) (hS:Ab w.heap.size w (.slice sa s.length sc) s) (hK:Ab w.heap.size w (.slice ka k.length kc) k) :
  Calls Tryz.prog 112 #[.agg #[.slice ca c.length cc],Aw f pv (.slice ia f.ins.length ic),An ⟨12,1,n,text⟩,Ai 1 (.slice sa s.length sc) (.slice ka k.length kc)] w (Aj c f ⟨12,1,n,text⟩ s k w):=by
 obtain⟨P,Q,R,Z,A,B,C,D,H,I,J,b,d,X,v,K,h,L,l,j,a⟩:=Cj c f 12 1 n text s k ca ia sa ka cc ic sc kc pv w hS hK
 clear hS hK
 obtain⟨x,rfl⟩:∃ x,k=[x]:=by
  cases k with
  | nil=>simp at hkl
  | cons x r=>cases r with
   | nil=>exact⟨x,rfl⟩
   | cons y q=>simp at hkl
 have t:Hid (Az [x]=x):=(rfl:Az [x]=x)
 have i:Hid (Ar [x]=0):=(rfl:Ar [x]=0)
 obtain⟨U,W,rfl,_,V⟩:∃ g o,ka=some ⟨g,o,none⟩/\g < w.heap.size/\Z.cell? ⟨g,o,none⟩=some (.int .i64 x):=by
  obtain⟨S,T,F,E⟩:=a.out
  injection F with e1
  subst e1
  exact E 0 (by simp)
 simp only[List.length_cons,List.length_nil,Nat.zero_add]at D l hk600 a |-
 have m:Hid (Af c f ⟨12,1,n,text⟩ s [x]=(1,[],decide (x=f.result))):=by
  rw[Hid,Af]
  simp[t.out]
 unfold Aj
 rw[m.out]
 unfold Aw An Ai
 clear m j a t i
 go_enter Tryz.func112,Tryz.ntmps112
 have z:(fun w'=>w'.cell? ⟨w.heap.size+2,1,none⟩=some (.int .i64 1)/\w'.cell? ⟨w.heap.size+1,2,none⟩=some (.int .i64 f.result)) Z:=⟨h,v⟩
 have M:(fun w'=>w'.cell? ⟨w.heap.size+2,1,none⟩=some (.int .i64 1)/\w'.cell? ⟨w.heap.size+1,2,none⟩=some (.int .i64 f.result)) Z.drew:=z
 have u:∀ o:Obj,(fun w'=>w'.cell? ⟨w.heap.size+2,1,none⟩=some (.int .i64 1)/\w'.cell? ⟨w.heap.size+1,2,none⟩=some (.int .i64 f.result)) (Z.alloc o):=fun o=>⟨((A5 Z o).cell (p:=⟨w.heap.size+2,1,none⟩) (by show w.heap.size+2 < _;have:=d.out;omega)).trans h,((A5 Z o).cell (p:=⟨w.heap.size+1,2,none⟩) (by show w.heap.size+1 < _;have:=d.out;omega)).trans v⟩
 have N:∀ o:Obj,(fun w'=>w'.cell? ⟨w.heap.size+2,1,none⟩=some (.int .i64 1)/\w'.cell? ⟨w.heap.size+1,2,none⟩=some (.int .i64 f.result)) (Z.drew.alloc o):=fun o=>u o
 have O:∀ o:Obj,(fun w'=>w'.cell? ⟨w.heap.size+2,1,none⟩=some (.int .i64 1)/\w'.cell? ⟨w.heap.size+1,2,none⟩=some (.int .i64 f.result)) (Z.alloc o).drew:=fun o=>u o
 have G:((1:Int) == 0)=false:=rfl
 go_wp2_with fail
 go_region
 all_goals go_wp2_with fail
 all_goals go_ret3
 all_goals exact⟨⟨.slice (some ⟨Z.heap.size,0,none⟩) ([]:List Int).length ([]:List Int).length,by (first|rfl|(simp;done)|(simp[*];done)|(simp_all;done)|(simp;omega)),Ab.newZ (Z:=Z) (hs:=[]) _ _ rfl⟩,by first|exact Ac b _|exact Below.drew (Ac b _)|exact Below.drew (Below.drew (Ac b _))⟩
theorem Zf (c:List Ae) (f:Ae) (a n:Int) (text:ByteArray) (s k:List Int) (m:Nat) (ca ia sa ka:Option Addr) (cc ic sc kc:Nat) (pv:Value) (_hcl:c.length<=60) (_hil:f.ins.length<=50000) (_hsl:s.length<=200) (hkl:k.length=m+2) (hk600:k.length<=600) (w:World) (hS:Ab w.heap.size w (.slice sa s.length sc) s) (hK:Ab w.heap.size w (.slice ka k.length kc) k) :
  Calls Tryz.prog 112 #[.agg #[.slice ca c.length cc],Aw f pv (.slice ia f.ins.length ic),An ⟨5,a,n,text⟩,Ai 1 (.slice sa s.length sc) (.slice ka k.length kc)] w (Aj c f ⟨5,a,n,text⟩ s k w):=by
 obtain⟨U,V,W,Z,F,G,H,I,M,N,O,d,C,zc,zf,R,S,T,r,l,b⟩:=Cj c f 5 a n text s k ca ia sa ka cc ic sc kc pv w hS hK
 clear hS hK
 obtain⟨y,q⟩:∃ y,k[m]'(by omega)=y:=⟨_,rfl⟩
 obtain⟨x,p⟩:∃ x,k[m+1]'(by omega)=x:=⟨_,rfl⟩
 have v:Hid (Az k=x):=by
  rw[Hid,Az,List.getLast?_eq_getElem?,hkl,show m+2 - 1=m+1 by omega,List.getElem?_eq_getElem (by omega),p];rfl
 have j:Hid (Ar k=y):=by
  rw[Hid,Ar,List.getLast?_eq_getElem?,List.length_take,hkl,show min (m+2 - 1) (m+2) - 1=m by omega,List.getElem?_take_of_lt (by omega),List.getElem?_eq_getElem (by omega),q];rfl
 obtain⟨gk,ok,rfl,_,ky,kx⟩:∃ g o,ka=some ⟨g,o,none⟩/\g < w.heap.size/\Z.cell? ⟨g,o+m,none⟩=some (.int .i64 y)/\Z.cell? ⟨g,o+(m+1),none⟩=some (.int .i64 x):=by
  obtain⟨X,Y,J,B⟩:=b.out
  injection J with e1
  subst e1
  obtain⟨g,o,A,K,D⟩:=B m (by omega)
  obtain⟨g2,o2,i,L,E⟩:=B (m+1) (by omega)
  rw[A]at i
  injection i with e;injection e with e1 e2
  subst e1 e2
  exact⟨g,o,A,K,by rw[D,q],by rw[E,p]⟩
 have h:Hid (k.length=m+2):=hkl
 rw[h.out]at I r hk600 b |-
 clear hkl p q
 have P:wrap64 ((m:Int)+2 - 1)=(m:Int)+1:=by rw[IntWalk.wrap64_in _ (by omega)];omega
 have Q:wrap64 ((m:Int)+2 - 2)=(m:Int):=by rw[IntWalk.wrap64_in _ (by omega)];omega
 have t:Hid (Af c f ⟨5,a,n,text⟩ s k=(1,[E8 a x],(E8 a x != 0))):=by
  simp only[Hid,Af]
  rw[if_neg (by decide),if_neg (by decide),if_neg (by decide),if_pos (by decide),v.out,Hj]
 unfold Aj
 rw[t.out]
 unfold Aw An Ai
 clear t l b v j
 go_enter Tryz.func112,Tryz.ntmps112
 obtain⟨u,z⟩:∃ u,Hid (E8 a x=u):=⟨_,(rfl:E8 a x=_)⟩
 simp only[z.out]
 go_wp2_with fail
 go_at_call 135;refine(Ms _ _ _).mono ?_;rintro e w' ⟨rfl,rfl⟩;rw[z.out]
 go_wp2_with fail
 all_goals go_ret3
 all_goals exact⟨⟨.slice (some ⟨Z.heap.size,0,none⟩) ([u]:List Int).length ([u]:List Int).length,by (first|rfl|(simp;done)|(simp[*];done)|(simp_all;done)|(simp;omega)),Ab.newZ (Z:=Z) (hs:=[u]) _ _ rfl⟩,by first|exact Ac d _|exact Below.drew (Ac d _)|exact Below.drew (Below.drew (Ac d _))⟩
theorem Zi (c:List Ae) (f:Ae) (a n:Int) (text:ByteArray) (s k:List Int) (m:Nat) (ca ia sa ka:Option Addr) (cc ic sc kc:Nat) (pv:Value) (_hcl:c.length<=60) (_hil:f.ins.length<=50000) (_hsl:s.length<=200) (hkl:k.length=m+2) (hk600:k.length<=600) (w:World) (hS:Ab w.heap.size w (.slice sa s.length sc) s) (hK:Ab w.heap.size w (.slice ka k.length kc) k) :
  Calls Tryz.prog 112 #[.agg #[.slice ca c.length cc],Aw f pv (.slice ia f.ins.length ic),An ⟨6,a,n,text⟩,Ai 1 (.slice sa s.length sc) (.slice ka k.length kc)] w (Aj c f ⟨6,a,n,text⟩ s k w):=by
 obtain⟨U,V,W,Z,F,G,H,I,M,N,O,d,C,zc,zf,R,S,T,r,l,b⟩:=Cj c f 6 a n text s k ca ia sa ka cc ic sc kc pv w hS hK
 clear hS hK
 obtain⟨y,q⟩:∃ y,k[m]'(by omega)=y:=⟨_,rfl⟩
 obtain⟨x,p⟩:∃ x,k[m+1]'(by omega)=x:=⟨_,rfl⟩
 have v:Hid (Az k=x):=by
  rw[Hid,Az,List.getLast?_eq_getElem?,hkl,show m+2 - 1=m+1 by omega,List.getElem?_eq_getElem (by omega),p];rfl
 have h:Hid (Ar k=y):=by
  rw[Hid,Ar,List.getLast?_eq_getElem?,List.length_take,hkl,show min (m+2 - 1) (m+2) - 1=m by omega,List.getElem?_take_of_lt (by omega),List.getElem?_eq_getElem (by omega),q];rfl
 obtain⟨gk,ok,rfl,_,ky,kx⟩:∃ g o,ka=some ⟨g,o,none⟩/\g < w.heap.size/\Z.cell? ⟨g,o+m,none⟩=some (.int .i64 y)/\Z.cell? ⟨g,o+(m+1),none⟩=some (.int .i64 x):=by
  obtain⟨X,Y,J,B⟩:=b.out
  injection J with e1
  subst e1
  obtain⟨g,o,A,K,D⟩:=B m (by omega)
  obtain⟨g2,o2,j,L,E⟩:=B (m+1) (by omega)
  rw[A]at j
  injection j with e;injection e with e1 e2
  subst e1 e2
  exact⟨g,o,A,K,by rw[D,q],by rw[E,p]⟩
 have i:Hid (k.length=m+2):=hkl
 rw[i.out]at I r hk600 b |-
 clear hkl p q
 have P:wrap64 ((m:Int)+2 - 1)=(m:Int)+1:=by rw[IntWalk.wrap64_in _ (by omega)];omega
 have Q:wrap64 ((m:Int)+2 - 2)=(m:Int):=by rw[IntWalk.wrap64_in _ (by omega)];omega
 have t:Hid (Af c f ⟨6,a,n,text⟩ s k=(2,[Ct a y x],(Ct a y x != 0))):=by
  simp only[Hid,Af]
  rw[if_neg (by decide),if_neg (by decide),if_neg (by decide),if_neg (by decide),if_pos (by decide),v.out,h.out,Hj]
 unfold Aj
 rw[t.out]
 unfold Aw An Ai
 clear t l b v h
 go_enter Tryz.func112,Tryz.ntmps112
 obtain⟨u,z⟩:∃ u,Hid (Ct a y x=u):=⟨_,(rfl:Ct a y x=_)⟩
 simp only[z.out]
 go_wp2_with fail
 go_at_call 136;refine(Lr _ _ _ _).mono ?_;rintro e w' ⟨rfl,rfl⟩;rw[z.out]
 go_wp2_with fail
 all_goals go_ret3
 all_goals exact⟨⟨.slice (some ⟨Z.heap.size,0,none⟩) ([u]:List Int).length ([u]:List Int).length,by (first|rfl|(simp;done)|(simp[*];done)|(simp_all;done)|(simp;omega)),Ab.newZ (Z:=Z) (hs:=[u]) _ _ rfl⟩,by first|exact Ac d _|exact Below.drew (Ac d _)|exact Below.drew (Below.drew (Ac d _))⟩
theorem Zl (c:List Ae) (f:Ae) (a n:Int) (text:ByteArray) (s k:List Int) (m:Nat) (ca ia sa ka:Option Addr) (cc ic sc kc:Nat) (pv:Value) (_hcl:c.length<=60) (_hil:f.ins.length<=50000) (_hsl:s.length<=200) (hkl:k.length=m+2) (hk600:k.length<=600) (w:World) (hS:Ab w.heap.size w (.slice sa s.length sc) s) (hK:Ab w.heap.size w (.slice ka k.length kc) k) :
  Calls Tryz.prog 112 #[.agg #[.slice ca c.length cc],Aw f pv (.slice ia f.ins.length ic),An ⟨7,a,n,text⟩,Ai 1 (.slice sa s.length sc) (.slice ka k.length kc)] w (Aj c f ⟨7,a,n,text⟩ s k w):=by
 obtain⟨Y,Y2,Y3,Z,K,L,M,N,R,S,T,d,r,zc,zf,W,j,X,z,q,b⟩:=Cj c f 7 a n text s k ca ia sa ka cc ic sc kc pv w hS hK
 clear hS hK
 obtain⟨y,v⟩:∃ y,k[m]'(by omega)=y:=⟨_,rfl⟩
 obtain⟨x,u⟩:∃ x,k[m+1]'(by omega)=x:=⟨_,rfl⟩
 have B:Hid (Az k=x):=by
  rw[Hid,Az,List.getLast?_eq_getElem?,hkl,show m+2 - 1=m+1 by omega,List.getElem?_eq_getElem (by omega),u];rfl
 have l:Hid (Ar k=y):=by
  rw[Hid,Ar,List.getLast?_eq_getElem?,List.length_take,hkl,show min (m+2 - 1) (m+2) - 1=m by omega,List.getElem?_take_of_lt (by omega),List.getElem?_eq_getElem (by omega),v];rfl
 obtain⟨gk,ok,rfl,_,ky,kx⟩:∃ g o,ka=some ⟨g,o,none⟩/\g < w.heap.size/\Z.cell? ⟨g,o+m,none⟩=some (.int .i64 y)/\Z.cell? ⟨g,o+(m+1),none⟩=some (.int .i64 x):=by
  obtain⟨a',cp,O,E⟩:=b.out
  injection O with e1
  subst e1
  obtain⟨g,o,D,P,I⟩:=E m (by omega)
  obtain⟨g2,o2,i,Q,J⟩:=E (m+1) (by omega)
  rw[D]at i
  injection i with e;injection e with e1 e2
  subst e1 e2
  exact⟨g,o,D,P,by rw[I,v],by rw[J,u]⟩
 have h:Hid (k.length=m+2):=hkl
 rw[h.out]at N z hk600 b |-
 clear hkl u v
 have U:wrap64 ((m:Int)+2 - 1)=(m:Int)+1:=by rw[IntWalk.wrap64_in _ (by omega)];omega
 have V:wrap64 ((m:Int)+2 - 2)=(m:Int):=by rw[IntWalk.wrap64_in _ (by omega)];omega
 have A:Hid (Af c f ⟨7,a,n,text⟩ s k=(1,[a],Cf x)):=by
  rw[Hid,Af]
  simp[B.out]
 unfold Aj
 rw[A.out]
 unfold Aw An Ai
 clear A q b B l
 go_enter Tryz.func112,Tryz.ntmps112
 have C:(fun w'=>w'.cell? ⟨w.heap.size+2,1,none⟩=some (.int .i64 a)) Z:=j
 have F:(fun w'=>w'.cell? ⟨w.heap.size+2,1,none⟩=some (.int .i64 a)) Z.drew:=C
 have t:∀ o:Obj,(fun w'=>w'.cell? ⟨w.heap.size+2,1,none⟩=some (.int .i64 a)) (Z.alloc o):=fun o=>((A5 Z o).cell (p:=⟨w.heap.size+2,1,none⟩) (by show w.heap.size+2 < _;have:=r.out;omega)).trans j
 have G:∀ o:Obj,(fun w'=>w'.cell? ⟨w.heap.size+2,1,none⟩=some (.int .i64 a)) (Z.drew.alloc o):=fun o=>t o
 have H:∀ o:Obj,(fun w'=>w'.cell? ⟨w.heap.size+2,1,none⟩=some (.int .i64 a)) (Z.alloc o).drew:=fun o=>t o
 go_wp2_with fail
 go_region_held3 (fun w'=>w'.cell? ⟨w.heap.size+2,1,none⟩=some (.int .i64 a)) (with_reducible first|exact C|exact F|exact t _|exact G _|exact H _) (first|(go_at_call 133;refine(Eg _ _).mono ?_;rintro e w9 ⟨rfl,rfl⟩))
 all_goals go_wp2_with fail
 all_goals go_ret3
 all_goals exact⟨⟨.slice (some ⟨Z.heap.size,0,none⟩) ([a]:List Int).length ([a]:List Int).length,by (first|rfl|(simp;done)|(simp[*];done)|(simp_all;done)|(simp;omega)),Ab.newZ (Z:=Z) (hs:=[a]) _ _ rfl⟩,by first|exact Ac d _|exact Below.drew (Ac d _)|exact Below.drew (Below.drew (Ac d _))⟩
theorem Zc (c:List Ae) (f:Ae) (a n:Int) (text:ByteArray) (s k:List Int) (m:Nat) (ca ia sa ka:Option Addr) (cc ic sc kc:Nat) (pv:Value) (_hcl:c.length<=60) (_hil:f.ins.length<=50000) (_hsl:s.length<=200) (hkl:k.length=m+2) (hk600:k.length<=600) (ha0:0<=a) (ha1:a < (s.length:Int)) (w:World) (hS:Ab w.heap.size w (.slice sa s.length sc) s) (hK:Ab w.heap.size w (.slice ka k.length kc) k) :
  Calls Tryz.prog 112 #[.agg #[.slice ca c.length cc],Aw f pv (.slice ia f.ins.length ic),An ⟨2,a,n,text⟩,Ai 1 (.slice sa s.length sc) (.slice ka k.length kc)] w (Aj c f ⟨2,a,n,text⟩ s k w):=by
 obtain⟨Y1,Y2,Y3,Z,W,X,Y,hZ,ac,ad,ae,l,i,zc,zf,ah,v,z,I,r,h⟩:=Cj c f 2 a n text s k ca ia sa ka cc ic sc kc pv w hS hK
 clear hS hK
 obtain⟨y,H⟩:∃ y,k[m]'(by omega)=y:=⟨_,rfl⟩
 obtain⟨x,G⟩:∃ x,k[m+1]'(by omega)=x:=⟨_,rfl⟩
 have O:Hid (Az k=x):=by
  rw[Hid,Az,List.getLast?_eq_getElem?,hkl,show m+2 - 1=m+1 by omega,List.getElem?_eq_getElem (by omega),G];rfl
 have B:Hid (Ar k=y):=by
  rw[Hid,Ar,List.getLast?_eq_getElem?,List.length_take,hkl,show min (m+2 - 1) (m+2) - 1=m by omega,List.getElem?_take_of_lt (by omega),List.getElem?_eq_getElem (by omega),H];rfl
 obtain⟨gk,ok,rfl,_,ky,kx⟩:∃ g o,ka=some ⟨g,o,none⟩/\g < w.heap.size/\Z.cell? ⟨g,o+m,none⟩=some (.int .i64 y)/\Z.cell? ⟨g,o+(m+1),none⟩=some (.int .i64 x):=by
  obtain⟨S,V,E,A⟩:=h.out
  injection E with e1
  subst e1
  obtain⟨g,o,L,hg,T⟩:=A m (by omega)
  obtain⟨g2,o2,u,aa,U⟩:=A (m+1) (by omega)
  rw[L]at u
  injection u with e;injection e with e1 e2
  subst e1 e2
  exact⟨g,o,L,hg,by rw[T,H],by rw[U,G]⟩
 have q:Hid (k.length=m+2):=hkl
 rw[q.out]at hZ I hk600 h |-
 clear hkl G H
 have af:wrap64 ((m:Int)+2 - 1)=(m:Int)+1:=by rw[IntWalk.wrap64_in _ (by omega)];omega
 have ag:wrap64 ((m:Int)+2 - 2)=(m:Int):=by rw[IntWalk.wrap64_in _ (by omega)];omega
 obtain⟨j,rfl⟩:∃ j:Nat,a=(j:Int):=⟨a.toNat,by omega⟩
 have M:j < s.length:=by omega
 obtain⟨t,F⟩:∃ t,s[j]=t:=⟨_,rfl⟩
 have C:Hid (s[j]?.getD 0=t):=by rw[Hid,List.getElem?_eq_getElem M,F];rfl
 obtain⟨b,d,rfl,ab,N⟩:∃ g o,sa=some ⟨g,o,none⟩/\g < w.heap.size/\Z.cell? ⟨g,o+j,none⟩=some (.int .i64 t):=by
  obtain⟨S,V,E,A⟩:=r.out
  injection E with e1
  subst e1
  have:=A j M
  rw[F]at this
  exact this
 clear F
 have J:Hid (Af c f ⟨2,(j:Int),n,text⟩ s k=(0,[t],(t != 0))):=by
  simp only[Hid,Af]
  rw[if_neg (by decide),if_pos (by decide),Hj]
  show (0,[s.getD (Int.toNat (j:Int)) 0],s.getD (Int.toNat (j:Int)) 0 != 0)=_
  rw[Int.toNat_natCast,List.getD_eq_getElem?_getD,C.out]
 unfold Aj
 rw[J.out]
 unfold Aw An Ai
 clear J r h O B
 go_enter Tryz.func112,Tryz.ntmps112
 have K:(fun w'=>w'.cell? ⟨w.heap.size+2,1,none⟩=some (.int .i64 (j:Int))/\w'.cell? ⟨w.heap.size+3,1,none⟩=some (.slice (some ⟨b,d,none⟩) s.length sc)/\w'.cell? ⟨b,d+j,none⟩=some (.int .i64 t)) Z:=⟨v,z,N⟩
 have P:(fun w'=>w'.cell? ⟨w.heap.size+2,1,none⟩=some (.int .i64 (j:Int))/\w'.cell? ⟨w.heap.size+3,1,none⟩=some (.slice (some ⟨b,d,none⟩) s.length sc)/\w'.cell? ⟨b,d+j,none⟩=some (.int .i64 t)) Z.drew:=K
 have D:∀ o:Obj,(fun w'=>w'.cell? ⟨w.heap.size+2,1,none⟩=some (.int .i64 (j:Int))/\w'.cell? ⟨w.heap.size+3,1,none⟩=some (.slice (some ⟨b,d,none⟩) s.length sc)/\w'.cell? ⟨b,d+j,none⟩=some (.int .i64 t)) (Z.alloc o):=fun o=>⟨((A5 Z o).cell (p:=⟨w.heap.size+2,1,none⟩) (by show w.heap.size+2 < _;have:=i.out;omega)).trans v,((A5 Z o).cell (p:=⟨w.heap.size+3,1,none⟩) (by show w.heap.size+3 < _;have:=i.out;omega)).trans z,((A5 Z o).cell (p:=⟨b,d+j,none⟩) (by show b < _;have:=i.out;omega)).trans N⟩
 have Q:∀ o:Obj,(fun w'=>w'.cell? ⟨w.heap.size+2,1,none⟩=some (.int .i64 (j:Int))/\w'.cell? ⟨w.heap.size+3,1,none⟩=some (.slice (some ⟨b,d,none⟩) s.length sc)/\w'.cell? ⟨b,d+j,none⟩=some (.int .i64 t)) (Z.drew.alloc o):=fun o=>D o
 have R:∀ o:Obj,(fun w'=>w'.cell? ⟨w.heap.size+2,1,none⟩=some (.int .i64 (j:Int))/\w'.cell? ⟨w.heap.size+3,1,none⟩=some (.slice (some ⟨b,d,none⟩) s.length sc)/\w'.cell? ⟨b,d+j,none⟩=some (.int .i64 t)) (Z.alloc o).drew:=fun o=>D o
 go_wp2_with fail
 go_region_held3 (fun w'=>w'.cell? ⟨w.heap.size+2,1,none⟩=some (.int .i64 (j:Int))/\w'.cell? ⟨w.heap.size+3,1,none⟩=some (.slice (some ⟨b,d,none⟩) s.length sc)/\w'.cell? ⟨b,d+j,none⟩=some (.int .i64 t)) (with_reducible first|exact K|exact P|exact D _|exact Q _|exact R _) (fail)
 all_goals go_wp2_with fail
 all_goals go_ret3
 all_goals exact⟨⟨.slice (some ⟨Z.heap.size,0,none⟩) ([t]:List Int).length ([t]:List Int).length,by (first|rfl|(simp;done)|(simp[*];done)|(simp_all;done)|(simp;omega)),Ab.newZ (Z:=Z) (hs:=[t]) _ _ rfl⟩,by first|exact Ac l _|exact Below.drew (Ac l _)|exact Below.drew (Below.drew (Ac l _))⟩
theorem Uu (c:List Ae) (f:Ae) (n:Int) (text:ByteArray) (s k:List Int) (m:Nat) (ca ia sa ka:Option Addr) (cc ic sc kc:Nat) (pv:Value) (_hcl:c.length<=60) (_hil:f.ins.length<=50000) (_hsl:s.length<=200) (hkl:k.length=m+2) (hk600:k.length<=600) (w:World) (hS:Ab w.heap.size w (.slice sa s.length sc) s) (hK:Ab w.heap.size w (.slice ka k.length kc) k) :
  Calls Tryz.prog 112 #[.agg #[.slice ca c.length cc],Aw f pv (.slice ia f.ins.length ic),An ⟨12,0,n,text⟩,Ai 1 (.slice sa s.length sc) (.slice ka k.length kc)] w (Aj c f ⟨12,0,n,text⟩ s k w):=by
 obtain⟨Y1,Y2,Y3,Z,H,I,J,K,P,Q,R,d,h,zc,D,U,j,V,u,q,b⟩:=Cj c f 12 0 n text s k ca ia sa ka cc ic sc kc pv w hS hK
 clear hS hK
 obtain⟨y,t⟩:∃ y,k[m]'(by omega)=y:=⟨_,rfl⟩
 obtain⟨x,r⟩:∃ x,k[m+1]'(by omega)=x:=⟨_,rfl⟩
 have z:Hid (Az k=x):=by
  rw[Hid,Az,List.getLast?_eq_getElem?,hkl,show m+2 - 1=m+1 by omega,List.getElem?_eq_getElem (by omega),r];rfl
 have l:Hid (Ar k=y):=by
  rw[Hid,Ar,List.getLast?_eq_getElem?,List.length_take,hkl,show min (m+2 - 1) (m+2) - 1=m by omega,List.getElem?_take_of_lt (by omega),List.getElem?_eq_getElem (by omega),t];rfl
 obtain⟨gk,ok,rfl,_,ky,kx⟩:∃ g o,ka=some ⟨g,o,none⟩/\g < w.heap.size/\Z.cell? ⟨g,o+m,none⟩=some (.int .i64 y)/\Z.cell? ⟨g,o+(m+1),none⟩=some (.int .i64 x):=by
  obtain⟨a',cp,L,C⟩:=b.out
  injection L with e1
  subst e1
  obtain⟨g,o,B,M,F⟩:=C m (by omega)
  obtain⟨g2,o2,i,O,G⟩:=C (m+1) (by omega)
  rw[B]at i
  injection i with e;injection e with e1 e2
  subst e1 e2
  exact⟨g,o,B,M,by rw[F,t],by rw[G,r]⟩
 have a:Hid (k.length=m+2):=hkl
 rw[a.out]at K u hk600 b |-
 clear hkl r t
 have S:wrap64 ((m:Int)+2 - 1)=(m:Int)+1:=by rw[IntWalk.wrap64_in _ (by omega)];omega
 have T:wrap64 ((m:Int)+2 - 2)=(m:Int):=by rw[IntWalk.wrap64_in _ (by omega)];omega
 have v:Hid (Af c f ⟨12,0,n,text⟩ s k=(0,[],true)):=by
  rw[Hid,Af]
  simp[z.out,a.out]
 unfold Aj
 rw[v.out]
 unfold Aw An Ai
 clear v q b z l
 go_enter Tryz.func112,Tryz.ntmps112
 have E:(fun w'=>w'.cell? ⟨w.heap.size+2,1,none⟩=some (.int .i64 0)/\w'.cell? ⟨w.heap.size+1,2,none⟩=some (.int .i64 f.result)) Z:=⟨j,D⟩
 have W:(fun w'=>w'.cell? ⟨w.heap.size+2,1,none⟩=some (.int .i64 0)/\w'.cell? ⟨w.heap.size+1,2,none⟩=some (.int .i64 f.result)) Z.drew:=E
 have A:∀ o:Obj,(fun w'=>w'.cell? ⟨w.heap.size+2,1,none⟩=some (.int .i64 0)/\w'.cell? ⟨w.heap.size+1,2,none⟩=some (.int .i64 f.result)) (Z.alloc o):=fun o=>⟨((A5 Z o).cell (p:=⟨w.heap.size+2,1,none⟩) (by show w.heap.size+2 < _;have:=h.out;omega)).trans j,((A5 Z o).cell (p:=⟨w.heap.size+1,2,none⟩) (by show w.heap.size+1 < _;have:=h.out;omega)).trans D⟩
 have X:∀ o:Obj,(fun w'=>w'.cell? ⟨w.heap.size+2,1,none⟩=some (.int .i64 0)/\w'.cell? ⟨w.heap.size+1,2,none⟩=some (.int .i64 f.result)) (Z.drew.alloc o):=fun o=>A o
 have Y:∀ o:Obj,(fun w'=>w'.cell? ⟨w.heap.size+2,1,none⟩=some (.int .i64 0)/\w'.cell? ⟨w.heap.size+1,2,none⟩=some (.int .i64 f.result)) (Z.alloc o).drew:=fun o=>A o
 have N:((0:Int) == 0)=true:=rfl
 go_wp2_with fail
 go_region
 all_goals go_wp2_with fail
 all_goals go_ret3
 all_goals exact⟨⟨.slice (some ⟨Z.heap.size,0,none⟩) ([]:List Int).length ([]:List Int).length,by (first|rfl|(simp;done)|(simp[*];done)|(simp_all;done)|(simp;omega)),Ab.newZ (Z:=Z) (hs:=[]) _ _ rfl⟩,by first|exact Ac d _|exact Below.drew (Ac d _)|exact Below.drew (Below.drew (Ac d _))⟩
theorem Uv (c:List Ae) (f:Ae) (n:Int) (text:ByteArray) (s k:List Int) (m:Nat) (ca ia sa ka:Option Addr) (cc ic sc kc:Nat) (pv:Value) (_hcl:c.length<=60) (_hil:f.ins.length<=50000) (_hsl:s.length<=200) (hkl:k.length=m+2) (hk600:k.length<=600) (w:World) (hS:Ab w.heap.size w (.slice sa s.length sc) s) (hK:Ab w.heap.size w (.slice ka k.length kc) k) :
  Calls Tryz.prog 112 #[.agg #[.slice ca c.length cc],Aw f pv (.slice ia f.ins.length ic),An ⟨12,1,n,text⟩,Ai 1 (.slice sa s.length sc) (.slice ka k.length kc)] w (Aj c f ⟨12,1,n,text⟩ s k w):=by
 obtain⟨Y1,Y2,Y3,Z,H,I,J,K,P,Q,R,d,h,zc,D,U,j,V,u,q,b⟩:=Cj c f 12 1 n text s k ca ia sa ka cc ic sc kc pv w hS hK
 clear hS hK
 obtain⟨y,t⟩:∃ y,k[m]'(by omega)=y:=⟨_,rfl⟩
 obtain⟨x,r⟩:∃ x,k[m+1]'(by omega)=x:=⟨_,rfl⟩
 have z:Hid (Az k=x):=by
  rw[Hid,Az,List.getLast?_eq_getElem?,hkl,show m+2 - 1=m+1 by omega,List.getElem?_eq_getElem (by omega),r];rfl
 have l:Hid (Ar k=y):=by
  rw[Hid,Ar,List.getLast?_eq_getElem?,List.length_take,hkl,show min (m+2 - 1) (m+2) - 1=m by omega,List.getElem?_take_of_lt (by omega),List.getElem?_eq_getElem (by omega),t];rfl
 obtain⟨gk,ok,rfl,_,ky,kx⟩:∃ g o,ka=some ⟨g,o,none⟩/\g < w.heap.size/\Z.cell? ⟨g,o+m,none⟩=some (.int .i64 y)/\Z.cell? ⟨g,o+(m+1),none⟩=some (.int .i64 x):=by
  obtain⟨a',cp,L,C⟩:=b.out
  injection L with e1
  subst e1
  obtain⟨g,o,B,M,F⟩:=C m (by omega)
  obtain⟨g2,o2,i,O,G⟩:=C (m+1) (by omega)
  rw[B]at i
  injection i with e;injection e with e1 e2
  subst e1 e2
  exact⟨g,o,B,M,by rw[F,t],by rw[G,r]⟩
 have a:Hid (k.length=m+2):=hkl
 rw[a.out]at K u hk600 b |-
 clear hkl r t
 have S:wrap64 ((m:Int)+2 - 1)=(m:Int)+1:=by rw[IntWalk.wrap64_in _ (by omega)];omega
 have T:wrap64 ((m:Int)+2 - 2)=(m:Int):=by rw[IntWalk.wrap64_in _ (by omega)];omega
 have v:Hid (Af c f ⟨12,1,n,text⟩ s k=(1,[],decide (x=f.result))):=by
  rw[Hid,Af]
  simp[z.out,a.out]
 unfold Aj
 rw[v.out]
 unfold Aw An Ai
 clear v q b z l
 go_enter Tryz.func112,Tryz.ntmps112
 have E:(fun w'=>w'.cell? ⟨w.heap.size+2,1,none⟩=some (.int .i64 1)/\w'.cell? ⟨w.heap.size+1,2,none⟩=some (.int .i64 f.result)) Z:=⟨j,D⟩
 have W:(fun w'=>w'.cell? ⟨w.heap.size+2,1,none⟩=some (.int .i64 1)/\w'.cell? ⟨w.heap.size+1,2,none⟩=some (.int .i64 f.result)) Z.drew:=E
 have A:∀ o:Obj,(fun w'=>w'.cell? ⟨w.heap.size+2,1,none⟩=some (.int .i64 1)/\w'.cell? ⟨w.heap.size+1,2,none⟩=some (.int .i64 f.result)) (Z.alloc o):=fun o=>⟨((A5 Z o).cell (p:=⟨w.heap.size+2,1,none⟩) (by show w.heap.size+2 < _;have:=h.out;omega)).trans j,((A5 Z o).cell (p:=⟨w.heap.size+1,2,none⟩) (by show w.heap.size+1 < _;have:=h.out;omega)).trans D⟩
 have X:∀ o:Obj,(fun w'=>w'.cell? ⟨w.heap.size+2,1,none⟩=some (.int .i64 1)/\w'.cell? ⟨w.heap.size+1,2,none⟩=some (.int .i64 f.result)) (Z.drew.alloc o):=fun o=>A o
 have Y:∀ o:Obj,(fun w'=>w'.cell? ⟨w.heap.size+2,1,none⟩=some (.int .i64 1)/\w'.cell? ⟨w.heap.size+1,2,none⟩=some (.int .i64 f.result)) (Z.alloc o).drew:=fun o=>A o
 have N:((1:Int) == 0)=false:=rfl
 go_wp2_with fail
 go_region
 all_goals go_wp2_with fail
 all_goals go_ret3
 all_goals exact⟨⟨.slice (some ⟨Z.heap.size,0,none⟩) ([]:List Int).length ([]:List Int).length,by (first|rfl|(simp;done)|(simp[*];done)|(simp_all;done)|(simp;omega)),Ab.newZ (Z:=Z) (hs:=[]) _ _ rfl⟩,by first|exact Ac d _|exact Below.drew (Ac d _)|exact Below.drew (Below.drew (Ac d _))⟩
end Go.Proofs.YtfjkahdghhbpnaaGreatDoor
