import Derived.Test.YtahibkjkpmdhgaaGreatDoorKTk
import Derived.Test.YtahibkjkpmdhgaaGreatDoorKCdJ
set_option maxRecDepth 100000
set_option maxHeartbeats 1000000
namespace Go.Proofs.YtahibkjkpmdhgaaGreatDoor
open Go.RowKit
section
variable {c:List Af} {f:Af} {a n:Int} {text:ByteArray} {s k:List Int} {m:Nat} {ca ia sa ka:Option Addr} {cc ic sc kc:Nat} {pv:Value} {w:World} (hk600:k.length<=600) (hS:Ac w.heap.size w (.slice sa s.length sc) s) (hK:Ac w.heap.size w (.slice ka k.length kc) k)
include hk600 hS hK
theorem Qa4 (hkl:k.length=0):B6 c f pv ca ia sa ka cc ic sc kc s k w ⟨5,a,n,text⟩:=by
 unfold B6;obtain⟨C,D,E,Z,p,q,r,t,v,x,y,b,o,F,G,z,A,B,i,h,d⟩:=Co c f 5 a n text s k ca ia sa ka cc ic sc kc pv w hS hK;clear hS hK;obtain rfl:k=[]:=List.eq_nil_of_length_eq_zero hkl;have l:Hid (A3 []=0):=(rfl:A3 []=0);have g:Hid (An []=0):=(rfl:An []=0);simp only[List.length_nil]at t i hk600 d |-
 have j:Hid (Ag c f ⟨5,a,n,text⟩ s []=(1,[Fx a 0],(Fx a 0 != 0))):=by
  simp only[Hid,Ag];rw[if_neg Ov,if_neg Ov,if_neg Ov,if_pos Ov,l.out,Ii]
 unfold Au;rw[j.out];unfold Bp Aw Ah;clear j h d l g;go_enter Tryz.func114,Tryz.ntmps114;obtain⟨u,m⟩:∃ u,Hid (Fx a 0=u):=⟨_,(rfl:Fx a 0=_)⟩;simp only[m.out];go_wp2_with fail;go_at_call 140;refine(Nv _ _ _).mono ?_;rintro e w' ⟨rfl,rfl⟩;rw[m.out];go_wp2_with fail;all_goals go_ret3
 all_goals exact⟨⟨.slice (some (OK Z 0)) ([u]:List Int).length ([u]:List Int).length,by (first|rfl|(simp;done)|(simp[*];done)|(simp_all;done)|(simp;omega)),Ac.newZ (Z:=Z) (hs:=[u]) _ _ rfl⟩,by first|exact Ab b _|exact Below.drew (Ab b _)|exact Below.drew (Below.drew (Ab b _))⟩
theorem Qa7 (hkl:k.length=0):B6 c f pv ca ia sa ka cc ic sc kc s k w ⟨6,a,n,text⟩:=by
 unfold B6;obtain⟨C,D,E,Z,p,q,r,t,v,x,y,b,o,F,G,z,A,B,i,h,g⟩:=Co c f 6 a n text s k ca ia sa ka cc ic sc kc pv w hS hK;clear hS hK;obtain rfl:k=[]:=List.eq_nil_of_length_eq_zero hkl;have l:Hid (A3 []=0):=(rfl:A3 []=0);have d:Hid (An []=0):=(rfl:An []=0);simp only[List.length_nil]at t i hk600 g |-
 have j:Hid (Ag c f ⟨6,a,n,text⟩ s []=(2,[Cy a 0 0],(Cy a 0 0 != 0))):=by
  simp only[Hid,Ag];rw[if_neg Ov,if_neg Ov,if_neg Ov,if_neg Ov,if_pos Ov,l.out,d.out,Ii]
 unfold Au;rw[j.out];unfold Bp Aw Ah;clear j h g l d;go_enter Tryz.func114,Tryz.ntmps114;obtain⟨u,m⟩:∃ u,Hid (Cy a 0 0=u):=⟨_,(rfl:Cy a 0 0=_)⟩;simp only[m.out];go_wp2_with fail;go_at_call 141;refine(Mo _ _ _ _).mono ?_;rintro e w' ⟨rfl,rfl⟩;rw[m.out];go_wp2_with fail;all_goals go_ret3
 all_goals exact⟨⟨.slice (some (OK Z 0)) ([u]:List Int).length ([u]:List Int).length,by (first|rfl|(simp;done)|(simp[*];done)|(simp_all;done)|(simp;omega)),Ac.newZ (Z:=Z) (hs:=[u]) _ _ rfl⟩,by first|exact Ab b _|exact Below.drew (Ab b _)|exact Below.drew (Below.drew (Ab b _))⟩
theorem Qba (hkl:k.length=0):B6 c f pv ca ia sa ka cc ic sc kc s k w ⟨7,a,n,text⟩:=by
 unfold B6;obtain⟨H,I,J,Z,y,z,A,B,C,D,E,b,j,L,M,F,g,G,m,i,d⟩:=Co c f 7 a n text s k ca ia sa ka cc ic sc kc pv w hS hK;clear hS hK;obtain rfl:k=[]:=List.eq_nil_of_length_eq_zero hkl;have r:Hid (A3 []=0):=(rfl:A3 []=0);have h:Hid (An []=0):=(rfl:An []=0);simp only[List.length_nil]at B m hk600 d |-
 have q:Hid (Ag c f ⟨7,a,n,text⟩ s []=(1,[a],Ci 0)):=by
  rw[Hid,Ag];simp[r.out]
 unfold Au;rw[q.out];unfold Bp Aw Ah;clear q i d r h;go_enter Tryz.func114,Tryz.ntmps114;have t:(fun w'=>w'.cell? (OJ w 2 1)=some (.int .i64 a)) Z:=g;have u:(fun w'=>w'.cell? (OJ w 2 1)=some (.int .i64 a)) Z.drew:=t;have l:∀ o:Obj,(fun w'=>w'.cell? (OJ w 2 1)=some (.int .i64 a)) (Z.alloc o):=fun o=>((Ao Z o).cell (p:=(OJ w 2 1)) (by show w.heap.size+2 < _;have:=j.out;omega)).trans g
 have v:∀ o:Obj,(fun w'=>w'.cell? (OJ w 2 1)=some (.int .i64 a)) (Z.drew.alloc o):=fun o=>l o
 have x:∀ o:Obj,(fun w'=>w'.cell? (OJ w 2 1)=some (.int .i64 a)) (Z.alloc o).drew:=fun o=>l o
 go_wp2_with fail;go_region_held3 (fun w'=>w'.cell? (OJ w 2 1)=some (.int .i64 a)) (with_reducible first|exact t|exact u|exact l _|exact v _|exact x _) (first|(go_at_call 115;refine(E2 _ _).mono ?_;rintro e K ⟨rfl,rfl⟩));all_goals go_wp2_with fail
 all_goals go_ret3
 all_goals exact⟨⟨.slice (some (OK Z 0)) ([a]:List Int).length ([a]:List Int).length,by (first|rfl|(simp;done)|(simp[*];done)|(simp_all;done)|(simp;omega)),Ac.newZ (Z:=Z) (hs:=[a]) _ _ rfl⟩,by first|exact Ab b _|exact Below.drew (Ab b _)|exact Below.drew (Below.drew (Ab b _))⟩
theorem Qa1 (hkl:k.length=0) (ha0:0<=a) (ha1:a < (s.length:Int)):B6 c f pv ca ia sa ka cc ic sc kc s k w ⟨2,a,n,text⟩:=by
 unfold B6;obtain⟨T,U,V,Z,I,J,K,L,P,Q,R,i,h,Y,zf,S,q,r,z,m,l⟩:=Co c f 2 a n text s k ca ia sa ka cc ic sc kc pv w hS hK;clear hS hK;obtain rfl:k=[]:=List.eq_nil_of_length_eq_zero hkl;have E:Hid (A3 []=0):=(rfl:A3 []=0);have u:Hid (An []=0):=(rfl:An []=0);simp only[List.length_nil]at L z hk600 l |-
 obtain⟨j,rfl⟩:∃ j:Nat,a=(j:Int):=⟨a.toNat,by omega⟩;have C:j < s.length:=Ou
 obtain⟨t,y⟩:∃ t,s[j]=t:=⟨_,rfl⟩;have v:Hid (s[j]?.getD 0=t):=by rw[Hid,List.getElem?_eq_getElem C,y];rfl
 obtain⟨b,d,rfl,O,D⟩:∃ g o,sa=some (OI g o)/\g < w.heap.size/\Z.cell? (OI g (o+j))=some (.int .i64 t):=by
  obtain⟨W,X,N,M⟩:=m.out;injection N with e1;subst e1;have:=M j C;rw[y]at this;exact this
 clear y;have A:Hid (Ag c f ⟨2,(j:Int),n,text⟩ s []=(0,[t],(t != 0))):=by
  simp only[Hid,Ag];rw[if_neg Ov,if_pos Ov,Ii];show (0,[s.getD (Int.toNat (j:Int)) 0],s.getD (Int.toNat (j:Int)) 0 != 0)=_
  rw[Int.toNat_natCast,List.getD_eq_getElem?_getD,v.out]
 unfold Au;rw[A.out];unfold Bp Aw Ah;clear A m l E u;go_enter Tryz.func114,Tryz.ntmps114;have B:(fun w'=>w'.cell? (OJ w 2 1)=some (.int .i64 (j:Int))/\w'.cell? (OJ w 3 1)=some (.slice (some (OI b d)) s.length sc)/\w'.cell? (OI b (d+j))=some (.int .i64 t)) Z:=⟨q,r,D⟩;have F:(fun w'=>w'.cell? (OJ w 2 1)=some (.int .i64 (j:Int))/\w'.cell? (OJ w 3 1)=some (.slice (some (OI b d)) s.length sc)/\w'.cell? (OI b (d+j))=some (.int .i64 t)) Z.drew:=B;have x:∀ o:Obj,(fun w'=>w'.cell? (OJ w 2 1)=some (.int .i64 (j:Int))/\w'.cell? (OJ w 3 1)=some (.slice (some (OI b d)) s.length sc)/\w'.cell? (OI b (d+j))=some (.int .i64 t)) (Z.alloc o):=fun o=>⟨((Ao Z o).cell (p:=(OJ w 2 1)) (by show w.heap.size+2 < _;have:=h.out;omega)).trans q,((Ao Z o).cell (p:=(OJ w 3 1)) (by show w.heap.size+3 < _;have:=h.out;omega)).trans r,((Ao Z o).cell (p:=(OI b (d+j))) (by show b < _;have:=h.out;omega)).trans D⟩
 have G:∀ o:Obj,(fun w'=>w'.cell? (OJ w 2 1)=some (.int .i64 (j:Int))/\w'.cell? (OJ w 3 1)=some (.slice (some (OI b d)) s.length sc)/\w'.cell? (OI b (d+j))=some (.int .i64 t)) (Z.drew.alloc o):=fun o=>x o
 have H:∀ o:Obj,(fun w'=>w'.cell? (OJ w 2 1)=some (.int .i64 (j:Int))/\w'.cell? (OJ w 3 1)=some (.slice (some (OI b d)) s.length sc)/\w'.cell? (OI b (d+j))=some (.int .i64 t)) (Z.alloc o).drew:=fun o=>x o
 go_wp2_with fail;go_region_held3 (fun w'=>w'.cell? (OJ w 2 1)=some (.int .i64 (j:Int))/\w'.cell? (OJ w 3 1)=some (.slice (some (OI b d)) s.length sc)/\w'.cell? (OI b (d+j))=some (.int .i64 t)) (with_reducible first|exact B|exact F|exact x _|exact G _|exact H _) (fail);all_goals go_wp2_with fail
 all_goals go_ret3
 all_goals exact⟨⟨.slice (some (OK Z 0)) ([t]:List Int).length ([t]:List Int).length,by (first|rfl|(simp;done)|(simp[*];done)|(simp_all;done)|(simp;omega)),Ac.newZ (Z:=Z) (hs:=[t]) _ _ rfl⟩,by first|exact Ab i _|exact Below.drew (Ab i _)|exact Below.drew (Below.drew (Ab i _))⟩
theorem Wo (hkl:k.length=0):B6 c f pv ca ia sa ka cc ic sc kc s k w ⟨12,0,n,text⟩:=by
 unfold B6;obtain⟨I,J,K,Z,u,v,x,y,A,B,C,a,d,L,r,D,g,E,j,i,b⟩:=Co c f 12 0 n text s k ca ia sa ka cc ic sc kc pv w hS hK;clear hS hK;obtain rfl:k=[]:=List.eq_nil_of_length_eq_zero hkl;have m:Hid (A3 []=0):=(rfl:A3 []=0);have h:Hid (An []=0):=(rfl:An []=0);simp only[List.length_nil]at y j hk600 b |-
 have l:Hid (Ag c f ⟨12,0,n,text⟩ s []=(0,[],true)):=by
  rw[Hid,Ag];simp[m.out]
 unfold Au;rw[l.out];unfold Bp Aw Ah;clear l i b m h;go_enter Tryz.func114,Tryz.ntmps114;have t:(fun w'=>w'.cell? (OJ w 2 1)=some (.int .i64 0)/\w'.cell? (OJ w 1 2)=some (.int .i64 f.result)) Z:=⟨g,r⟩;have F:(fun w'=>w'.cell? (OJ w 2 1)=some (.int .i64 0)/\w'.cell? (OJ w 1 2)=some (.int .i64 f.result)) Z.drew:=t;have q:∀ o:Obj,(fun w'=>w'.cell? (OJ w 2 1)=some (.int .i64 0)/\w'.cell? (OJ w 1 2)=some (.int .i64 f.result)) (Z.alloc o):=fun o=>⟨((Ao Z o).cell (p:=(OJ w 2 1)) (by show w.heap.size+2 < _;have:=d.out;omega)).trans g,((Ao Z o).cell (p:=(OJ w 1 2)) (by show w.heap.size+1 < _;have:=d.out;omega)).trans r⟩
 have G:∀ o:Obj,(fun w'=>w'.cell? (OJ w 2 1)=some (.int .i64 0)/\w'.cell? (OJ w 1 2)=some (.int .i64 f.result)) (Z.drew.alloc o):=fun o=>q o
 have H:∀ o:Obj,(fun w'=>w'.cell? (OJ w 2 1)=some (.int .i64 0)/\w'.cell? (OJ w 1 2)=some (.int .i64 f.result)) (Z.alloc o).drew:=fun o=>q o
 have z:((0:Int) == 0)=true:=rfl;go_wp2_with fail;go_region;all_goals go_wp2_with fail
 all_goals go_ret3
 all_goals exact⟨⟨.slice (some (OK Z 0)) ([]:List Int).length ([]:List Int).length,by (first|rfl|(simp;done)|(simp[*];done)|(simp_all;done)|(simp;omega)),Ac.newZ (Z:=Z) (hs:=[]) _ _ rfl⟩,by first|exact Ab a _|exact Below.drew (Ab a _)|exact Below.drew (Below.drew (Ab a _))⟩
theorem Wp (hkl:k.length=0):B6 c f pv ca ia sa ka cc ic sc kc s k w ⟨12,1,n,text⟩:=by
 unfold B6;obtain⟨I,J,K,Z,u,v,x,y,A,B,C,a,d,L,r,D,g,E,j,i,b⟩:=Co c f 12 1 n text s k ca ia sa ka cc ic sc kc pv w hS hK;clear hS hK;obtain rfl:k=[]:=List.eq_nil_of_length_eq_zero hkl;have m:Hid (A3 []=0):=(rfl:A3 []=0);have h:Hid (An []=0):=(rfl:An []=0);simp only[List.length_nil]at y j hk600 b |-
 have l:Hid (Ag c f ⟨12,1,n,text⟩ s []=(1,[],false)):=by
  rw[Hid,Ag];simp[m.out]
 unfold Au;rw[l.out];unfold Bp Aw Ah;clear l i b m h;go_enter Tryz.func114,Tryz.ntmps114;have t:(fun w'=>w'.cell? (OJ w 2 1)=some (.int .i64 1)/\w'.cell? (OJ w 1 2)=some (.int .i64 f.result)) Z:=⟨g,r⟩;have F:(fun w'=>w'.cell? (OJ w 2 1)=some (.int .i64 1)/\w'.cell? (OJ w 1 2)=some (.int .i64 f.result)) Z.drew:=t;have q:∀ o:Obj,(fun w'=>w'.cell? (OJ w 2 1)=some (.int .i64 1)/\w'.cell? (OJ w 1 2)=some (.int .i64 f.result)) (Z.alloc o):=fun o=>⟨((Ao Z o).cell (p:=(OJ w 2 1)) (by show w.heap.size+2 < _;have:=d.out;omega)).trans g,((Ao Z o).cell (p:=(OJ w 1 2)) (by show w.heap.size+1 < _;have:=d.out;omega)).trans r⟩
 have G:∀ o:Obj,(fun w'=>w'.cell? (OJ w 2 1)=some (.int .i64 1)/\w'.cell? (OJ w 1 2)=some (.int .i64 f.result)) (Z.drew.alloc o):=fun o=>q o
 have H:∀ o:Obj,(fun w'=>w'.cell? (OJ w 2 1)=some (.int .i64 1)/\w'.cell? (OJ w 1 2)=some (.int .i64 f.result)) (Z.alloc o).drew:=fun o=>q o
 have z:((1:Int) == 0)=false:=rfl;go_wp2_with fail;go_region;all_goals go_wp2_with fail
 all_goals go_ret3
 all_goals exact⟨⟨.slice (some (OK Z 0)) ([]:List Int).length ([]:List Int).length,by (first|rfl|(simp;done)|(simp[*];done)|(simp_all;done)|(simp;omega)),Ac.newZ (Z:=Z) (hs:=[]) _ _ rfl⟩,by first|exact Ab a _|exact Below.drew (Ab a _)|exact Below.drew (Below.drew (Ab a _))⟩
theorem Qa5 (hkl:k.length=1):B6 c f pv ca ia sa ka cc ic sc kc s k w ⟨5,a,n,text⟩:=by
 unfold B6;obtain⟨K,L,M,Z,v,z,A,B,E,F,G,d,t,S,T,H,I,J,j,i,b⟩:=Co c f 5 a n text s k ca ia sa ka cc ic sc kc pv w hS hK;clear hS hK;obtain⟨x,rfl⟩:∃ x,k=[x]:=by
  cases k with
  | nil=>simp at hkl
  | cons x r=>cases r with
   | nil=>exact⟨x,rfl⟩
   | cons y q=>simp at hkl
 have m:Hid (A3 [x]=x):=(rfl:A3 [x]=x);have h:Hid (An [x]=0):=(rfl:An [x]=0);obtain⟨P,R,rfl,_,Q⟩:∃ g o,ka=some (OI g o)/\g < w.heap.size/\Z.cell? (OI g o)=some (.int .i64 x):=by
  obtain⟨N,O,D,C⟩:=b.out;injection D with e1;subst e1;exact C 0 OB
 simp only[List.length_cons,List.length_nil,Nat.zero_add]at B j hk600 b |-
 have l:Hid (Ag c f ⟨5,a,n,text⟩ s [x]=(1,[Fx a x],(Fx a x != 0))):=by
  simp only[Hid,Ag];rw[if_neg Ov,if_neg Ov,if_neg Ov,if_pos Ov,m.out,Ii]
 unfold Au;rw[l.out];unfold Bp Aw Ah;clear l i b m h;go_enter Tryz.func114,Tryz.ntmps114;obtain⟨u,p⟩:∃ u,Hid (Fx a x=u):=⟨_,(rfl:Fx a x=_)⟩;simp only[p.out];go_wp2_with fail;go_at_call 140;refine(Nv _ _ _).mono ?_;rintro e w' ⟨rfl,rfl⟩;rw[p.out];go_wp2_with fail;all_goals go_ret3
 all_goals exact⟨⟨.slice (some (OK Z 0)) ([u]:List Int).length ([u]:List Int).length,by (first|rfl|(simp;done)|(simp[*];done)|(simp_all;done)|(simp;omega)),Ac.newZ (Z:=Z) (hs:=[u]) _ _ rfl⟩,by first|exact Ab d _|exact Below.drew (Ab d _)|exact Below.drew (Below.drew (Ab d _))⟩
theorem Qa8 (hkl:k.length=1):B6 c f pv ca ia sa ka cc ic sc kc s k w ⟨6,a,n,text⟩:=by
 unfold B6;obtain⟨K,L,M,Z,v,z,A,B,E,F,G,d,t,S,T,H,I,J,j,i,b⟩:=Co c f 6 a n text s k ca ia sa ka cc ic sc kc pv w hS hK;clear hS hK;obtain⟨x,rfl⟩:∃ x,k=[x]:=by
  cases k with
  | nil=>simp at hkl
  | cons x r=>cases r with
   | nil=>exact⟨x,rfl⟩
   | cons y q=>simp at hkl
 have m:Hid (A3 [x]=x):=(rfl:A3 [x]=x);have h:Hid (An [x]=0):=(rfl:An [x]=0);obtain⟨P,R,rfl,_,Q⟩:∃ g o,ka=some (OI g o)/\g < w.heap.size/\Z.cell? (OI g o)=some (.int .i64 x):=by
  obtain⟨N,O,D,C⟩:=b.out;injection D with e1;subst e1;exact C 0 OB
 simp only[List.length_cons,List.length_nil,Nat.zero_add]at B j hk600 b |-
 have l:Hid (Ag c f ⟨6,a,n,text⟩ s [x]=(2,[Cy a 0 x],(Cy a 0 x != 0))):=by
  simp only[Hid,Ag];rw[if_neg Ov,if_neg Ov,if_neg Ov,if_neg Ov,if_pos Ov,m.out,h.out,Ii]
 unfold Au;rw[l.out];unfold Bp Aw Ah;clear l i b m h;go_enter Tryz.func114,Tryz.ntmps114;obtain⟨u,p⟩:∃ u,Hid (Cy a 0 x=u):=⟨_,(rfl:Cy a 0 x=_)⟩;simp only[p.out];go_wp2_with fail;go_at_call 141;refine(Mo _ _ _ _).mono ?_;rintro e w' ⟨rfl,rfl⟩;rw[p.out];go_wp2_with fail;all_goals go_ret3
 all_goals exact⟨⟨.slice (some (OK Z 0)) ([u]:List Int).length ([u]:List Int).length,by (first|rfl|(simp;done)|(simp[*];done)|(simp_all;done)|(simp;omega)),Ac.newZ (Z:=Z) (hs:=[u]) _ _ rfl⟩,by first|exact Ab d _|exact Below.drew (Ab d _)|exact Below.drew (Below.drew (Ab d _))⟩
theorem Qbb (hkl:k.length=1):B6 c f pv ca ia sa ka cc ic sc kc s k w ⟨7,a,n,text⟩:=by
 unfold B6;obtain⟨O,P,Q,Z,D,E,F,G,J,K,L,d,l,X,Y,M,h,N,t,j,b⟩:=Co c f 7 a n text s k ca ia sa ka cc ic sc kc pv w hS hK;clear hS hK;obtain⟨x,rfl⟩:∃ x,k=[x]:=by
  cases k with
  | nil=>simp at hkl
  | cons x r=>cases r with
   | nil=>exact⟨x,rfl⟩
   | cons y q=>simp at hkl
 have v:Hid (A3 [x]=x):=(rfl:A3 [x]=x);have i:Hid (An [x]=0):=(rfl:An [x]=0);obtain⟨T,V,rfl,_,U⟩:∃ g o,ka=some (OI g o)/\g < w.heap.size/\Z.cell? (OI g o)=some (.int .i64 x):=by
  obtain⟨R,S,I,H⟩:=b.out;injection I with e1;subst e1;exact H 0 OB
 simp only[List.length_cons,List.length_nil,Nat.zero_add]at G t hk600 b |-
 have u:Hid (Ag c f ⟨7,a,n,text⟩ s [x]=(1,[a],Ci x)):=by
  rw[Hid,Ag];simp[v.out]
 unfold Au;rw[u.out];unfold Bp Aw Ah;clear u j b v i;go_enter Tryz.func114,Tryz.ntmps114;have z:(fun w'=>w'.cell? (OJ w 2 1)=some (.int .i64 a)) Z:=h;have A:(fun w'=>w'.cell? (OJ w 2 1)=some (.int .i64 a)) Z.drew:=z;have m:∀ o:Obj,(fun w'=>w'.cell? (OJ w 2 1)=some (.int .i64 a)) (Z.alloc o):=fun o=>((Ao Z o).cell (p:=(OJ w 2 1)) (by show w.heap.size+2 < _;have:=l.out;omega)).trans h
 have B:∀ o:Obj,(fun w'=>w'.cell? (OJ w 2 1)=some (.int .i64 a)) (Z.drew.alloc o):=fun o=>m o
 have C:∀ o:Obj,(fun w'=>w'.cell? (OJ w 2 1)=some (.int .i64 a)) (Z.alloc o).drew:=fun o=>m o
 go_wp2_with fail;go_region_held3 (fun w'=>w'.cell? (OJ w 2 1)=some (.int .i64 a)) (with_reducible first|exact z|exact A|exact m _|exact B _|exact C _) (first|(go_at_call 115;refine(E2 _ _).mono ?_;rintro e W ⟨rfl,rfl⟩));all_goals go_wp2_with fail
 all_goals go_ret3
 all_goals exact⟨⟨.slice (some (OK Z 0)) ([a]:List Int).length ([a]:List Int).length,by (first|rfl|(simp;done)|(simp[*];done)|(simp_all;done)|(simp;omega)),Ac.newZ (Z:=Z) (hs:=[a]) _ _ rfl⟩,by first|exact Ab d _|exact Below.drew (Ab d _)|exact Below.drew (Below.drew (Ab d _))⟩
theorem Qa2 (hkl:k.length=1) (ha0:0<=a) (ha1:a < (s.length:Int)):B6 c f pv ca ia sa ka cc ic sc kc s k w ⟨2,a,n,text⟩:=by
 unfold B6;obtain⟨Y1,Y2,Y3,Z,Q,R,S,T,V,W,X,l,i,zc,zf,Y,u,v,F,m,h⟩:=Co c f 2 a n text s k ca ia sa ka cc ic sc kc pv w hS hK;clear hS hK;obtain⟨x,rfl⟩:∃ x,k=[x]:=by
  cases k with
  | nil=>simp at hkl
  | cons x r=>cases r with
   | nil=>exact⟨x,rfl⟩
   | cons y q=>simp at hkl
 have K:Hid (A3 [x]=x):=(rfl:A3 [x]=x);have z:Hid (An [x]=0):=(rfl:An [x]=0);obtain⟨gk,ok,rfl,_,kx⟩:∃ g o,ka=some (OI g o)/\g < w.heap.size/\Z.cell? (OI g o)=some (.int .i64 x):=by
  obtain⟨O,P,D,C⟩:=h.out;injection D with e1;subst e1;exact C 0 OB
 simp only[List.length_cons,List.length_nil,Nat.zero_add]at T F hk600 h |-
 obtain⟨j,rfl⟩:∃ j:Nat,a=(j:Int):=⟨a.toNat,by omega⟩;have I:j < s.length:=Ou
 obtain⟨t,E⟩:∃ t,s[j]=t:=⟨_,rfl⟩;have A:Hid (s[j]?.getD 0=t):=by rw[Hid,List.getElem?_eq_getElem I,E];rfl
 obtain⟨b,d,rfl,U,J⟩:∃ g o,sa=some (OI g o)/\g < w.heap.size/\Z.cell? (OI g (o+j))=some (.int .i64 t):=by
  obtain⟨O,P,D,C⟩:=m.out;injection D with e1;subst e1;have:=C j I;rw[E]at this;exact this
 clear E;have G:Hid (Ag c f ⟨2,(j:Int),n,text⟩ s [x]=(0,[t],(t != 0))):=by
  simp only[Hid,Ag];rw[if_neg Ov,if_pos Ov,Ii];show (0,[s.getD (Int.toNat (j:Int)) 0],s.getD (Int.toNat (j:Int)) 0 != 0)=_
  rw[Int.toNat_natCast,List.getD_eq_getElem?_getD,A.out]
 unfold Au;rw[G.out];unfold Bp Aw Ah;clear G m h K z;go_enter Tryz.func114,Tryz.ntmps114;have H:(fun w'=>w'.cell? (OJ w 2 1)=some (.int .i64 (j:Int))/\w'.cell? (OJ w 3 1)=some (.slice (some (OI b d)) s.length sc)/\w'.cell? (OI b (d+j))=some (.int .i64 t)) Z:=⟨u,v,J⟩;have L:(fun w'=>w'.cell? (OJ w 2 1)=some (.int .i64 (j:Int))/\w'.cell? (OJ w 3 1)=some (.slice (some (OI b d)) s.length sc)/\w'.cell? (OI b (d+j))=some (.int .i64 t)) Z.drew:=H;have B:∀ o:Obj,(fun w'=>w'.cell? (OJ w 2 1)=some (.int .i64 (j:Int))/\w'.cell? (OJ w 3 1)=some (.slice (some (OI b d)) s.length sc)/\w'.cell? (OI b (d+j))=some (.int .i64 t)) (Z.alloc o):=fun o=>⟨((Ao Z o).cell (p:=(OJ w 2 1)) (by show w.heap.size+2 < _;have:=i.out;omega)).trans u,((Ao Z o).cell (p:=(OJ w 3 1)) (by show w.heap.size+3 < _;have:=i.out;omega)).trans v,((Ao Z o).cell (p:=(OI b (d+j))) (by show b < _;have:=i.out;omega)).trans J⟩
 have M:∀ o:Obj,(fun w'=>w'.cell? (OJ w 2 1)=some (.int .i64 (j:Int))/\w'.cell? (OJ w 3 1)=some (.slice (some (OI b d)) s.length sc)/\w'.cell? (OI b (d+j))=some (.int .i64 t)) (Z.drew.alloc o):=fun o=>B o
 have N:∀ o:Obj,(fun w'=>w'.cell? (OJ w 2 1)=some (.int .i64 (j:Int))/\w'.cell? (OJ w 3 1)=some (.slice (some (OI b d)) s.length sc)/\w'.cell? (OI b (d+j))=some (.int .i64 t)) (Z.alloc o).drew:=fun o=>B o
 go_wp2_with fail;go_region_held3 (fun w'=>w'.cell? (OJ w 2 1)=some (.int .i64 (j:Int))/\w'.cell? (OJ w 3 1)=some (.slice (some (OI b d)) s.length sc)/\w'.cell? (OI b (d+j))=some (.int .i64 t)) (with_reducible first|exact H|exact L|exact B _|exact M _|exact N _) (fail);all_goals go_wp2_with fail
 all_goals go_ret3
 all_goals exact⟨⟨.slice (some (OK Z 0)) ([t]:List Int).length ([t]:List Int).length,by (first|rfl|(simp;done)|(simp[*];done)|(simp_all;done)|(simp;omega)),Ac.newZ (Z:=Z) (hs:=[t]) _ _ rfl⟩,by first|exact Ab l _|exact Below.drew (Ab l _)|exact Below.drew (Below.drew (Ab l _))⟩
theorem Wq (hkl:k.length=1):B6 c f pv ca ia sa ka cc ic sc kc s k w ⟨12,0,n,text⟩:=by
 unfold B6;obtain⟨P,Q,R,Z,A,B,C,D,H,I,J,b,d,X,v,K,h,L,l,j,a⟩:=Co c f 12 0 n text s k ca ia sa ka cc ic sc kc pv w hS hK;clear hS hK;obtain⟨x,rfl⟩:∃ x,k=[x]:=by
  cases k with
  | nil=>simp at hkl
  | cons x r=>cases r with
   | nil=>exact⟨x,rfl⟩
   | cons y q=>simp at hkl
 have t:Hid (A3 [x]=x):=(rfl:A3 [x]=x);have i:Hid (An [x]=0):=(rfl:An [x]=0);obtain⟨U,W,rfl,_,V⟩:∃ g o,ka=some (OI g o)/\g < w.heap.size/\Z.cell? (OI g o)=some (.int .i64 x):=by
  obtain⟨S,T,F,E⟩:=a.out;injection F with e1;subst e1;exact E 0 OB
 simp only[List.length_cons,List.length_nil,Nat.zero_add]at D l hk600 a |-
 have m:Hid (Ag c f ⟨12,0,n,text⟩ s [x]=(0,[],true)):=by
  rw[Hid,Ag];simp[t.out]
 unfold Au;rw[m.out];unfold Bp Aw Ah;clear m j a t i;go_enter Tryz.func114,Tryz.ntmps114;have z:(fun w'=>w'.cell? (OJ w 2 1)=some (.int .i64 0)/\w'.cell? (OJ w 1 2)=some (.int .i64 f.result)) Z:=⟨h,v⟩;have M:(fun w'=>w'.cell? (OJ w 2 1)=some (.int .i64 0)/\w'.cell? (OJ w 1 2)=some (.int .i64 f.result)) Z.drew:=z;have u:∀ o:Obj,(fun w'=>w'.cell? (OJ w 2 1)=some (.int .i64 0)/\w'.cell? (OJ w 1 2)=some (.int .i64 f.result)) (Z.alloc o):=fun o=>⟨((Ao Z o).cell (p:=(OJ w 2 1)) (by show w.heap.size+2 < _;have:=d.out;omega)).trans h,((Ao Z o).cell (p:=(OJ w 1 2)) (by show w.heap.size+1 < _;have:=d.out;omega)).trans v⟩
 have N:∀ o:Obj,(fun w'=>w'.cell? (OJ w 2 1)=some (.int .i64 0)/\w'.cell? (OJ w 1 2)=some (.int .i64 f.result)) (Z.drew.alloc o):=fun o=>u o
 have O:∀ o:Obj,(fun w'=>w'.cell? (OJ w 2 1)=some (.int .i64 0)/\w'.cell? (OJ w 1 2)=some (.int .i64 f.result)) (Z.alloc o).drew:=fun o=>u o
 have G:((0:Int) == 0)=true:=rfl;go_wp2_with fail;go_region;all_goals go_wp2_with fail
 all_goals go_ret3
 all_goals exact⟨⟨.slice (some (OK Z 0)) ([]:List Int).length ([]:List Int).length,by (first|rfl|(simp;done)|(simp[*];done)|(simp_all;done)|(simp;omega)),Ac.newZ (Z:=Z) (hs:=[]) _ _ rfl⟩,by first|exact Ab b _|exact Below.drew (Ab b _)|exact Below.drew (Below.drew (Ab b _))⟩
theorem Wr (hkl:k.length=1):B6 c f pv ca ia sa ka cc ic sc kc s k w ⟨12,1,n,text⟩:=by
 unfold B6;obtain⟨P,Q,R,Z,A,B,C,D,H,I,J,b,d,X,v,K,h,L,l,j,a⟩:=Co c f 12 1 n text s k ca ia sa ka cc ic sc kc pv w hS hK;clear hS hK;obtain⟨x,rfl⟩:∃ x,k=[x]:=by
  cases k with
  | nil=>simp at hkl
  | cons x r=>cases r with
   | nil=>exact⟨x,rfl⟩
   | cons y q=>simp at hkl
 have t:Hid (A3 [x]=x):=(rfl:A3 [x]=x);have i:Hid (An [x]=0):=(rfl:An [x]=0);obtain⟨U,W,rfl,_,V⟩:∃ g o,ka=some (OI g o)/\g < w.heap.size/\Z.cell? (OI g o)=some (.int .i64 x):=by
  obtain⟨S,T,F,E⟩:=a.out;injection F with e1;subst e1;exact E 0 OB
 simp only[List.length_cons,List.length_nil,Nat.zero_add]at D l hk600 a |-
 have m:Hid (Ag c f ⟨12,1,n,text⟩ s [x]=(1,[],decide (x=f.result))):=by
  rw[Hid,Ag];simp[t.out]
 unfold Au;rw[m.out];unfold Bp Aw Ah;clear m j a t i;go_enter Tryz.func114,Tryz.ntmps114;have z:(fun w'=>w'.cell? (OJ w 2 1)=some (.int .i64 1)/\w'.cell? (OJ w 1 2)=some (.int .i64 f.result)) Z:=⟨h,v⟩;have M:(fun w'=>w'.cell? (OJ w 2 1)=some (.int .i64 1)/\w'.cell? (OJ w 1 2)=some (.int .i64 f.result)) Z.drew:=z;have u:∀ o:Obj,(fun w'=>w'.cell? (OJ w 2 1)=some (.int .i64 1)/\w'.cell? (OJ w 1 2)=some (.int .i64 f.result)) (Z.alloc o):=fun o=>⟨((Ao Z o).cell (p:=(OJ w 2 1)) (by show w.heap.size+2 < _;have:=d.out;omega)).trans h,((Ao Z o).cell (p:=(OJ w 1 2)) (by show w.heap.size+1 < _;have:=d.out;omega)).trans v⟩
 have N:∀ o:Obj,(fun w'=>w'.cell? (OJ w 2 1)=some (.int .i64 1)/\w'.cell? (OJ w 1 2)=some (.int .i64 f.result)) (Z.drew.alloc o):=fun o=>u o
 have O:∀ o:Obj,(fun w'=>w'.cell? (OJ w 2 1)=some (.int .i64 1)/\w'.cell? (OJ w 1 2)=some (.int .i64 f.result)) (Z.alloc o).drew:=fun o=>u o
 have G:((1:Int) == 0)=false:=rfl;go_wp2_with fail;go_region;all_goals go_wp2_with fail
 all_goals go_ret3
 all_goals exact⟨⟨.slice (some (OK Z 0)) ([]:List Int).length ([]:List Int).length,by (first|rfl|(simp;done)|(simp[*];done)|(simp_all;done)|(simp;omega)),Ac.newZ (Z:=Z) (hs:=[]) _ _ rfl⟩,by first|exact Ab b _|exact Below.drew (Ab b _)|exact Below.drew (Below.drew (Ab b _))⟩
theorem Qa6 (hkl:k.length=m+2):B6 c f pv ca ia sa ka cc ic sc kc s k w ⟨5,a,n,text⟩:=by
 unfold B6;obtain⟨U,V,W,Z,F,G,H,I,M,N,O,d,C,zc,zf,R,S,T,r,l,b⟩:=Co c f 5 a n text s k ca ia sa ka cc ic sc kc pv w hS hK;clear hS hK;obtain⟨y,q⟩:∃ y,k[m]'Ou=y:=⟨_,rfl⟩;obtain⟨x,p⟩:∃ x,k[m+1]'Ou=x:=⟨_,rfl⟩;have v:Hid (A3 k=x):=by
  rw[Hid,A3,List.getLast?_eq_getElem?,hkl,show m+2 - 1=m+1 by omega,List.getElem?_eq_getElem Ou,p];rfl
 have j:Hid (An k=y):=by
  rw[Hid,An,List.getLast?_eq_getElem?,List.length_take,hkl,show min (m+2 - 1) (m+2) - 1=m by omega,List.getElem?_take_of_lt Ou,List.getElem?_eq_getElem Ou,q];rfl
 obtain⟨gk,ok,rfl,_,ky,kx⟩:∃ g o,ka=some (OI g o)/\g < w.heap.size/\Z.cell? (OI g (o+m))=some (.int .i64 y)/\Z.cell? (OI g (o+(m+1)))=some (.int .i64 x):=by
  obtain⟨X,Y,J,B⟩:=b.out;injection J with e1;subst e1;obtain⟨g,o,A,K,D⟩:=B m Ou;obtain⟨g2,o2,i,L,E⟩:=B (m+1) Ou;rw[A]at i;injection i with e;injection e with e1 e2
  subst e1 e2;exact⟨g,o,A,K,by rw[D,q],by rw[E,p]⟩
 have h:Hid (k.length=m+2):=hkl;rw[h.out]at I r hk600 b |-
 clear hkl p q;have P:wrap64 ((m:Int)+2 - 1)=(m:Int)+1:=by rw[IntWalk.wrap64_in _ Ou];omega
 have Q:wrap64 ((m:Int)+2 - 2)=(m:Int):=by rw[IntWalk.wrap64_in _ Ou];omega
 have t:Hid (Ag c f ⟨5,a,n,text⟩ s k=(1,[Fx a x],(Fx a x != 0))):=by
  simp only[Hid,Ag];rw[if_neg Ov,if_neg Ov,if_neg Ov,if_pos Ov,v.out,Ii]
 unfold Au;rw[t.out];unfold Bp Aw Ah;clear t l b v j;go_enter Tryz.func114,Tryz.ntmps114;obtain⟨u,z⟩:∃ u,Hid (Fx a x=u):=⟨_,(rfl:Fx a x=_)⟩;simp only[z.out];go_wp2_with fail;go_at_call 140;refine(Nv _ _ _).mono ?_;rintro e w' ⟨rfl,rfl⟩;rw[z.out];go_wp2_with fail;all_goals go_ret3
 all_goals exact⟨⟨.slice (some (OK Z 0)) ([u]:List Int).length ([u]:List Int).length,by (first|rfl|(simp;done)|(simp[*];done)|(simp_all;done)|(simp;omega)),Ac.newZ (Z:=Z) (hs:=[u]) _ _ rfl⟩,by first|exact Ab d _|exact Below.drew (Ab d _)|exact Below.drew (Below.drew (Ab d _))⟩
theorem Qa9 (hkl:k.length=m+2):B6 c f pv ca ia sa ka cc ic sc kc s k w ⟨6,a,n,text⟩:=by
 unfold B6;obtain⟨U,V,W,Z,F,G,H,I,M,N,O,d,C,zc,zf,R,S,T,r,l,b⟩:=Co c f 6 a n text s k ca ia sa ka cc ic sc kc pv w hS hK;clear hS hK;obtain⟨y,q⟩:∃ y,k[m]'Ou=y:=⟨_,rfl⟩;obtain⟨x,p⟩:∃ x,k[m+1]'Ou=x:=⟨_,rfl⟩;have v:Hid (A3 k=x):=by
  rw[Hid,A3,List.getLast?_eq_getElem?,hkl,show m+2 - 1=m+1 by omega,List.getElem?_eq_getElem Ou,p];rfl
 have h:Hid (An k=y):=by
  rw[Hid,An,List.getLast?_eq_getElem?,List.length_take,hkl,show min (m+2 - 1) (m+2) - 1=m by omega,List.getElem?_take_of_lt Ou,List.getElem?_eq_getElem Ou,q];rfl
 obtain⟨gk,ok,rfl,_,ky,kx⟩:∃ g o,ka=some (OI g o)/\g < w.heap.size/\Z.cell? (OI g (o+m))=some (.int .i64 y)/\Z.cell? (OI g (o+(m+1)))=some (.int .i64 x):=by
  obtain⟨X,Y,J,B⟩:=b.out;injection J with e1;subst e1;obtain⟨g,o,A,K,D⟩:=B m Ou;obtain⟨g2,o2,j,L,E⟩:=B (m+1) Ou;rw[A]at j;injection j with e;injection e with e1 e2
  subst e1 e2;exact⟨g,o,A,K,by rw[D,q],by rw[E,p]⟩
 have i:Hid (k.length=m+2):=hkl;rw[i.out]at I r hk600 b |-
 clear hkl p q;have P:wrap64 ((m:Int)+2 - 1)=(m:Int)+1:=by rw[IntWalk.wrap64_in _ Ou];omega
 have Q:wrap64 ((m:Int)+2 - 2)=(m:Int):=by rw[IntWalk.wrap64_in _ Ou];omega
 have t:Hid (Ag c f ⟨6,a,n,text⟩ s k=(2,[Cy a y x],(Cy a y x != 0))):=by
  simp only[Hid,Ag];rw[if_neg Ov,if_neg Ov,if_neg Ov,if_neg Ov,if_pos Ov,v.out,h.out,Ii]
 unfold Au;rw[t.out];unfold Bp Aw Ah;clear t l b v h;go_enter Tryz.func114,Tryz.ntmps114;obtain⟨u,z⟩:∃ u,Hid (Cy a y x=u):=⟨_,(rfl:Cy a y x=_)⟩;simp only[z.out];go_wp2_with fail;go_at_call 141;refine(Mo _ _ _ _).mono ?_;rintro e w' ⟨rfl,rfl⟩;rw[z.out];go_wp2_with fail;all_goals go_ret3
 all_goals exact⟨⟨.slice (some (OK Z 0)) ([u]:List Int).length ([u]:List Int).length,by (first|rfl|(simp;done)|(simp[*];done)|(simp_all;done)|(simp;omega)),Ac.newZ (Z:=Z) (hs:=[u]) _ _ rfl⟩,by first|exact Ab d _|exact Below.drew (Ab d _)|exact Below.drew (Below.drew (Ab d _))⟩
theorem Qbc (hkl:k.length=m+2):B6 c f pv ca ia sa ka cc ic sc kc s k w ⟨7,a,n,text⟩:=by
 unfold B6;obtain⟨Y,Y2,Y3,Z,K,L,M,N,R,S,T,d,r,zc,zf,W,j,X,z,q,b⟩:=Co c f 7 a n text s k ca ia sa ka cc ic sc kc pv w hS hK;clear hS hK;obtain⟨y,v⟩:∃ y,k[m]'Ou=y:=⟨_,rfl⟩;obtain⟨x,u⟩:∃ x,k[m+1]'Ou=x:=⟨_,rfl⟩;have B:Hid (A3 k=x):=by
  rw[Hid,A3,List.getLast?_eq_getElem?,hkl,show m+2 - 1=m+1 by omega,List.getElem?_eq_getElem Ou,u];rfl
 have l:Hid (An k=y):=by
  rw[Hid,An,List.getLast?_eq_getElem?,List.length_take,hkl,show min (m+2 - 1) (m+2) - 1=m by omega,List.getElem?_take_of_lt Ou,List.getElem?_eq_getElem Ou,v];rfl
 obtain⟨gk,ok,rfl,_,ky,kx⟩:∃ g o,ka=some (OI g o)/\g < w.heap.size/\Z.cell? (OI g (o+m))=some (.int .i64 y)/\Z.cell? (OI g (o+(m+1)))=some (.int .i64 x):=by
  obtain⟨a',cp,O,E⟩:=b.out;injection O with e1;subst e1;obtain⟨g,o,D,P,I⟩:=E m Ou;obtain⟨g2,o2,i,Q,J⟩:=E (m+1) Ou;rw[D]at i;injection i with e;injection e with e1 e2
  subst e1 e2;exact⟨g,o,D,P,by rw[I,v],by rw[J,u]⟩
 have h:Hid (k.length=m+2):=hkl;rw[h.out]at N z hk600 b |-
 clear hkl u v;have U:wrap64 ((m:Int)+2 - 1)=(m:Int)+1:=by rw[IntWalk.wrap64_in _ Ou];omega
 have V:wrap64 ((m:Int)+2 - 2)=(m:Int):=by rw[IntWalk.wrap64_in _ Ou];omega
 have A:Hid (Ag c f ⟨7,a,n,text⟩ s k=(1,[a],Ci x)):=by
  rw[Hid,Ag];simp[B.out]
 unfold Au;rw[A.out];unfold Bp Aw Ah;clear A q b B l;go_enter Tryz.func114,Tryz.ntmps114;have C:(fun w'=>w'.cell? (OJ w 2 1)=some (.int .i64 a)) Z:=j;have F:(fun w'=>w'.cell? (OJ w 2 1)=some (.int .i64 a)) Z.drew:=C;have t:∀ o:Obj,(fun w'=>w'.cell? (OJ w 2 1)=some (.int .i64 a)) (Z.alloc o):=fun o=>((Ao Z o).cell (p:=(OJ w 2 1)) (by show w.heap.size+2 < _;have:=r.out;omega)).trans j
 have G:∀ o:Obj,(fun w'=>w'.cell? (OJ w 2 1)=some (.int .i64 a)) (Z.drew.alloc o):=fun o=>t o
 have H:∀ o:Obj,(fun w'=>w'.cell? (OJ w 2 1)=some (.int .i64 a)) (Z.alloc o).drew:=fun o=>t o
 go_wp2_with fail;go_region_held3 (fun w'=>w'.cell? (OJ w 2 1)=some (.int .i64 a)) (with_reducible first|exact C|exact F|exact t _|exact G _|exact H _) (first|(go_at_call 115;refine(E2 _ _).mono ?_;rintro e w9 ⟨rfl,rfl⟩));all_goals go_wp2_with fail
 all_goals go_ret3
 all_goals exact⟨⟨.slice (some (OK Z 0)) ([a]:List Int).length ([a]:List Int).length,by (first|rfl|(simp;done)|(simp[*];done)|(simp_all;done)|(simp;omega)),Ac.newZ (Z:=Z) (hs:=[a]) _ _ rfl⟩,by first|exact Ab d _|exact Below.drew (Ab d _)|exact Below.drew (Below.drew (Ab d _))⟩
theorem Qa3 (hkl:k.length=m+2) (ha0:0<=a) (ha1:a < (s.length:Int)):B6 c f pv ca ia sa ka cc ic sc kc s k w ⟨2,a,n,text⟩:=by
 unfold B6;obtain⟨Y1,Y2,Y3,Z,W,X,Y,hZ,ac,ad,ae,l,i,zc,zf,ah,v,z,I,r,h⟩:=Co c f 2 a n text s k ca ia sa ka cc ic sc kc pv w hS hK;clear hS hK;obtain⟨y,H⟩:∃ y,k[m]'Ou=y:=⟨_,rfl⟩;obtain⟨x,G⟩:∃ x,k[m+1]'Ou=x:=⟨_,rfl⟩;have O:Hid (A3 k=x):=by
  rw[Hid,A3,List.getLast?_eq_getElem?,hkl,show m+2 - 1=m+1 by omega,List.getElem?_eq_getElem Ou,G];rfl
 have B:Hid (An k=y):=by
  rw[Hid,An,List.getLast?_eq_getElem?,List.length_take,hkl,show min (m+2 - 1) (m+2) - 1=m by omega,List.getElem?_take_of_lt Ou,List.getElem?_eq_getElem Ou,H];rfl
 obtain⟨gk,ok,rfl,_,ky,kx⟩:∃ g o,ka=some (OI g o)/\g < w.heap.size/\Z.cell? (OI g (o+m))=some (.int .i64 y)/\Z.cell? (OI g (o+(m+1)))=some (.int .i64 x):=by
  obtain⟨S,V,E,A⟩:=h.out;injection E with e1;subst e1;obtain⟨g,o,L,hg,T⟩:=A m Ou;obtain⟨g2,o2,u,aa,U⟩:=A (m+1) Ou;rw[L]at u;injection u with e;injection e with e1 e2
  subst e1 e2;exact⟨g,o,L,hg,by rw[T,H],by rw[U,G]⟩
 have q:Hid (k.length=m+2):=hkl;rw[q.out]at hZ I hk600 h |-
 clear hkl G H;have af:wrap64 ((m:Int)+2 - 1)=(m:Int)+1:=by rw[IntWalk.wrap64_in _ Ou];omega
 have ag:wrap64 ((m:Int)+2 - 2)=(m:Int):=by rw[IntWalk.wrap64_in _ Ou];omega
 obtain⟨j,rfl⟩:∃ j:Nat,a=(j:Int):=⟨a.toNat,by omega⟩;have M:j < s.length:=Ou
 obtain⟨t,F⟩:∃ t,s[j]=t:=⟨_,rfl⟩;have C:Hid (s[j]?.getD 0=t):=by rw[Hid,List.getElem?_eq_getElem M,F];rfl
 obtain⟨b,d,rfl,ab,N⟩:∃ g o,sa=some (OI g o)/\g < w.heap.size/\Z.cell? (OI g (o+j))=some (.int .i64 t):=by
  obtain⟨S,V,E,A⟩:=r.out;injection E with e1;subst e1;have:=A j M;rw[F]at this;exact this
 clear F;have J:Hid (Ag c f ⟨2,(j:Int),n,text⟩ s k=(0,[t],(t != 0))):=by
  simp only[Hid,Ag];rw[if_neg Ov,if_pos Ov,Ii];show (0,[s.getD (Int.toNat (j:Int)) 0],s.getD (Int.toNat (j:Int)) 0 != 0)=_
  rw[Int.toNat_natCast,List.getD_eq_getElem?_getD,C.out]
 unfold Au;rw[J.out];unfold Bp Aw Ah;clear J r h O B;go_enter Tryz.func114,Tryz.ntmps114;have K:(fun w'=>w'.cell? (OJ w 2 1)=some (.int .i64 (j:Int))/\w'.cell? (OJ w 3 1)=some (.slice (some (OI b d)) s.length sc)/\w'.cell? (OI b (d+j))=some (.int .i64 t)) Z:=⟨v,z,N⟩;have P:(fun w'=>w'.cell? (OJ w 2 1)=some (.int .i64 (j:Int))/\w'.cell? (OJ w 3 1)=some (.slice (some (OI b d)) s.length sc)/\w'.cell? (OI b (d+j))=some (.int .i64 t)) Z.drew:=K;have D:∀ o:Obj,(fun w'=>w'.cell? (OJ w 2 1)=some (.int .i64 (j:Int))/\w'.cell? (OJ w 3 1)=some (.slice (some (OI b d)) s.length sc)/\w'.cell? (OI b (d+j))=some (.int .i64 t)) (Z.alloc o):=fun o=>⟨((Ao Z o).cell (p:=(OJ w 2 1)) (by show w.heap.size+2 < _;have:=i.out;omega)).trans v,((Ao Z o).cell (p:=(OJ w 3 1)) (by show w.heap.size+3 < _;have:=i.out;omega)).trans z,((Ao Z o).cell (p:=(OI b (d+j))) (by show b < _;have:=i.out;omega)).trans N⟩
 have Q:∀ o:Obj,(fun w'=>w'.cell? (OJ w 2 1)=some (.int .i64 (j:Int))/\w'.cell? (OJ w 3 1)=some (.slice (some (OI b d)) s.length sc)/\w'.cell? (OI b (d+j))=some (.int .i64 t)) (Z.drew.alloc o):=fun o=>D o
 have R:∀ o:Obj,(fun w'=>w'.cell? (OJ w 2 1)=some (.int .i64 (j:Int))/\w'.cell? (OJ w 3 1)=some (.slice (some (OI b d)) s.length sc)/\w'.cell? (OI b (d+j))=some (.int .i64 t)) (Z.alloc o).drew:=fun o=>D o
 go_wp2_with fail;go_region_held3 (fun w'=>w'.cell? (OJ w 2 1)=some (.int .i64 (j:Int))/\w'.cell? (OJ w 3 1)=some (.slice (some (OI b d)) s.length sc)/\w'.cell? (OI b (d+j))=some (.int .i64 t)) (with_reducible first|exact K|exact P|exact D _|exact Q _|exact R _) (fail);all_goals go_wp2_with fail
 all_goals go_ret3
 all_goals exact⟨⟨.slice (some (OK Z 0)) ([t]:List Int).length ([t]:List Int).length,by (first|rfl|(simp;done)|(simp[*];done)|(simp_all;done)|(simp;omega)),Ac.newZ (Z:=Z) (hs:=[t]) _ _ rfl⟩,by first|exact Ab l _|exact Below.drew (Ab l _)|exact Below.drew (Below.drew (Ab l _))⟩
theorem Ws (hkl:k.length=m+2):B6 c f pv ca ia sa ka cc ic sc kc s k w ⟨12,0,n,text⟩:=by
 unfold B6;obtain⟨Y1,Y2,Y3,Z,H,I,J,K,P,Q,R,d,h,zc,D,U,j,V,u,q,b⟩:=Co c f 12 0 n text s k ca ia sa ka cc ic sc kc pv w hS hK;clear hS hK;obtain⟨y,t⟩:∃ y,k[m]'Ou=y:=⟨_,rfl⟩;obtain⟨x,r⟩:∃ x,k[m+1]'Ou=x:=⟨_,rfl⟩;have z:Hid (A3 k=x):=by
  rw[Hid,A3,List.getLast?_eq_getElem?,hkl,show m+2 - 1=m+1 by omega,List.getElem?_eq_getElem Ou,r];rfl
 have l:Hid (An k=y):=by
  rw[Hid,An,List.getLast?_eq_getElem?,List.length_take,hkl,show min (m+2 - 1) (m+2) - 1=m by omega,List.getElem?_take_of_lt Ou,List.getElem?_eq_getElem Ou,t];rfl
 obtain⟨gk,ok,rfl,_,ky,kx⟩:∃ g o,ka=some (OI g o)/\g < w.heap.size/\Z.cell? (OI g (o+m))=some (.int .i64 y)/\Z.cell? (OI g (o+(m+1)))=some (.int .i64 x):=by
  obtain⟨a',cp,L,C⟩:=b.out;injection L with e1;subst e1;obtain⟨g,o,B,M,F⟩:=C m Ou;obtain⟨g2,o2,i,O,G⟩:=C (m+1) Ou;rw[B]at i;injection i with e;injection e with e1 e2
  subst e1 e2;exact⟨g,o,B,M,by rw[F,t],by rw[G,r]⟩
 have a:Hid (k.length=m+2):=hkl;rw[a.out]at K u hk600 b |-
 clear hkl r t;have S:wrap64 ((m:Int)+2 - 1)=(m:Int)+1:=by rw[IntWalk.wrap64_in _ Ou];omega
 have T:wrap64 ((m:Int)+2 - 2)=(m:Int):=by rw[IntWalk.wrap64_in _ Ou];omega
 have v:Hid (Ag c f ⟨12,0,n,text⟩ s k=(0,[],true)):=by
  rw[Hid,Ag];simp[z.out,a.out]
 unfold Au;rw[v.out];unfold Bp Aw Ah;clear v q b z l;go_enter Tryz.func114,Tryz.ntmps114;have E:(fun w'=>w'.cell? (OJ w 2 1)=some (.int .i64 0)/\w'.cell? (OJ w 1 2)=some (.int .i64 f.result)) Z:=⟨j,D⟩;have W:(fun w'=>w'.cell? (OJ w 2 1)=some (.int .i64 0)/\w'.cell? (OJ w 1 2)=some (.int .i64 f.result)) Z.drew:=E;have A:∀ o:Obj,(fun w'=>w'.cell? (OJ w 2 1)=some (.int .i64 0)/\w'.cell? (OJ w 1 2)=some (.int .i64 f.result)) (Z.alloc o):=fun o=>⟨((Ao Z o).cell (p:=(OJ w 2 1)) (by show w.heap.size+2 < _;have:=h.out;omega)).trans j,((Ao Z o).cell (p:=(OJ w 1 2)) (by show w.heap.size+1 < _;have:=h.out;omega)).trans D⟩
 have X:∀ o:Obj,(fun w'=>w'.cell? (OJ w 2 1)=some (.int .i64 0)/\w'.cell? (OJ w 1 2)=some (.int .i64 f.result)) (Z.drew.alloc o):=fun o=>A o
 have Y:∀ o:Obj,(fun w'=>w'.cell? (OJ w 2 1)=some (.int .i64 0)/\w'.cell? (OJ w 1 2)=some (.int .i64 f.result)) (Z.alloc o).drew:=fun o=>A o
 have N:((0:Int) == 0)=true:=rfl;go_wp2_with fail;go_region;all_goals go_wp2_with fail
 all_goals go_ret3
 all_goals exact⟨⟨.slice (some (OK Z 0)) ([]:List Int).length ([]:List Int).length,by (first|rfl|(simp;done)|(simp[*];done)|(simp_all;done)|(simp;omega)),Ac.newZ (Z:=Z) (hs:=[]) _ _ rfl⟩,by first|exact Ab d _|exact Below.drew (Ab d _)|exact Below.drew (Below.drew (Ab d _))⟩
theorem Wt (hkl:k.length=m+2):B6 c f pv ca ia sa ka cc ic sc kc s k w ⟨12,1,n,text⟩:=by
 unfold B6;obtain⟨Y1,Y2,Y3,Z,H,I,J,K,P,Q,R,d,h,zc,D,U,j,V,u,q,b⟩:=Co c f 12 1 n text s k ca ia sa ka cc ic sc kc pv w hS hK;clear hS hK;obtain⟨y,t⟩:∃ y,k[m]'Ou=y:=⟨_,rfl⟩;obtain⟨x,r⟩:∃ x,k[m+1]'Ou=x:=⟨_,rfl⟩;have z:Hid (A3 k=x):=by
  rw[Hid,A3,List.getLast?_eq_getElem?,hkl,show m+2 - 1=m+1 by omega,List.getElem?_eq_getElem Ou,r];rfl
 have l:Hid (An k=y):=by
  rw[Hid,An,List.getLast?_eq_getElem?,List.length_take,hkl,show min (m+2 - 1) (m+2) - 1=m by omega,List.getElem?_take_of_lt Ou,List.getElem?_eq_getElem Ou,t];rfl
 obtain⟨gk,ok,rfl,_,ky,kx⟩:∃ g o,ka=some (OI g o)/\g < w.heap.size/\Z.cell? (OI g (o+m))=some (.int .i64 y)/\Z.cell? (OI g (o+(m+1)))=some (.int .i64 x):=by
  obtain⟨a',cp,L,C⟩:=b.out;injection L with e1;subst e1;obtain⟨g,o,B,M,F⟩:=C m Ou;obtain⟨g2,o2,i,O,G⟩:=C (m+1) Ou;rw[B]at i;injection i with e;injection e with e1 e2
  subst e1 e2;exact⟨g,o,B,M,by rw[F,t],by rw[G,r]⟩
 have a:Hid (k.length=m+2):=hkl;rw[a.out]at K u hk600 b |-
 clear hkl r t;have S:wrap64 ((m:Int)+2 - 1)=(m:Int)+1:=by rw[IntWalk.wrap64_in _ Ou];omega
 have T:wrap64 ((m:Int)+2 - 2)=(m:Int):=by rw[IntWalk.wrap64_in _ Ou];omega
 have v:Hid (Ag c f ⟨12,1,n,text⟩ s k=(1,[],decide (x=f.result))):=by
  rw[Hid,Ag];simp[z.out,a.out]
 unfold Au;rw[v.out];unfold Bp Aw Ah;clear v q b z l;go_enter Tryz.func114,Tryz.ntmps114;have E:(fun w'=>w'.cell? (OJ w 2 1)=some (.int .i64 1)/\w'.cell? (OJ w 1 2)=some (.int .i64 f.result)) Z:=⟨j,D⟩;have W:(fun w'=>w'.cell? (OJ w 2 1)=some (.int .i64 1)/\w'.cell? (OJ w 1 2)=some (.int .i64 f.result)) Z.drew:=E;have A:∀ o:Obj,(fun w'=>w'.cell? (OJ w 2 1)=some (.int .i64 1)/\w'.cell? (OJ w 1 2)=some (.int .i64 f.result)) (Z.alloc o):=fun o=>⟨((Ao Z o).cell (p:=(OJ w 2 1)) (by show w.heap.size+2 < _;have:=h.out;omega)).trans j,((Ao Z o).cell (p:=(OJ w 1 2)) (by show w.heap.size+1 < _;have:=h.out;omega)).trans D⟩
 have X:∀ o:Obj,(fun w'=>w'.cell? (OJ w 2 1)=some (.int .i64 1)/\w'.cell? (OJ w 1 2)=some (.int .i64 f.result)) (Z.drew.alloc o):=fun o=>A o
 have Y:∀ o:Obj,(fun w'=>w'.cell? (OJ w 2 1)=some (.int .i64 1)/\w'.cell? (OJ w 1 2)=some (.int .i64 f.result)) (Z.alloc o).drew:=fun o=>A o
 have N:((1:Int) == 0)=false:=rfl;go_wp2_with fail;go_region;all_goals go_wp2_with fail
 all_goals go_ret3
 all_goals exact⟨⟨.slice (some (OK Z 0)) ([]:List Int).length ([]:List Int).length,by (first|rfl|(simp;done)|(simp[*];done)|(simp_all;done)|(simp;omega)),Ac.newZ (Z:=Z) (hs:=[]) _ _ rfl⟩,by first|exact Ab d _|exact Below.drew (Ab d _)|exact Below.drew (Below.drew (Ab d _))⟩
end
end Go.Proofs.YtahibkjkpmdhgaaGreatDoor
