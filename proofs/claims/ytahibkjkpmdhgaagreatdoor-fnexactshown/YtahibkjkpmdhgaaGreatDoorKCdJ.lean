import Derived.Test.YtahibkjkpmdhgaaGreatDoorKTk
import Derived.Test.YtahibkjkpmdhgaaGreatDoorKCdH
set_option maxRecDepth 100000
set_option maxHeartbeats 8000000
namespace Go.Proofs.YtahibkjkpmdhgaaGreatDoor
open Go.RowKit
def Ah (st:Int) (sv kv:Value):Value:=.agg #[.int .i64 st,sv,kv]
def Au (c:List Af) (f:Af) (i:Az) (s k:List Int) (w:World) (e:Ending) (w':World):Prop :=
 (∃ v,e = .returned (.tuple #[.int .i64 ((Ag c f i s k).1:Int),v,.bool (Ag c f i s k).2.2])/\Ac w'.heap.size w' v (Ag c f i s k).2.1)/\OH w w'
theorem Ac.newZ {Z:World} {hs:List Int} {t:TypeId} (cap n:Nat) (hn:n=hs.length):Ac (Z.alloc (.cells (Ar hs).toArray t)).heap.size (Z.alloc (.cells (Ar hs).toArray t)) (.slice (some (OK Z 0)) n cap) hs:=by
 have h:=Ac.new Z hs t cap;rw[World.size_alloc,hn];exact h
theorem Ac.cut {B:Nat} {w:World} {g o n cap:Nat} {hs:List Int} (h:Ac B w (.slice (some (OI g o)) n cap) hs) (hn:hs.length=n) (hc:n<=cap) {r:Nat} (hr:r<=n):Ac B w (.slice (if cap=r then some (OI g o) else some (OI g (o+r))) (n - r) (cap - r)) (hs.drop r):=by
 by_cases h1:r < hs.length
 ·obtain⟨c,d,e,b,a⟩:=h.drop h1;injection e with e;injection e with e3 e4
  subst e3 e4;rw[if_neg Ou,<- hn];exact a _
 ·refine⟨_,_,by rw[List.length_drop,hn],fun i hi => ?_⟩;rw[List.length_drop]at hi;omega
theorem Ii (x:Int):decide (x≠0)=(x != 0):=by by_cases h:x=0 <;> simp[h]
theorem Ab {w Z:World} (h:OH w Z) (o:Obj):OH w (Z.alloc o):=h.trans ((Ao Z o).mono h.size)
theorem Co (c:List Af) (f:Af) (x a n:Int) (text:ByteArray) (s k:List Int) (ca ia sa ka:Option Addr) (cc ic sc kc:Nat) (pv:Value) (w:World) (hS:Ac w.heap.size w (.slice sa s.length sc) s) (hK:Ac w.heap.size w (.slice ka k.length kc) k) :
  ∃ i d g Z,w.alloc (.cells #[.slice ca c.length cc] 59)=i/\i.alloc (.cells #[.string f.name,pv,.int .i64 f.result,.int .i64 f.slots,.slice ia f.ins.length ic] 130)=d/\d.alloc (.cells #[.int .i64 x,.int .i64 a,.int .i64 n,.string text] 107)=g/\g.alloc (.cells #[.int .i64 1,.slice sa s.length sc,.slice ka k.length kc] 126)=Z/\i.heap.size=w.heap.size+1/\d.heap.size=w.heap.size+2/\g.heap.size=w.heap.size+3/\OH w Z/\Hid (Z.heap.size=w.heap.size+4)/\Z.cell? (OK w 0)=some (.slice ca c.length cc)/\Z.cell? (OJ w 1 2)=some (.int .i64 f.result)/\Z.cell? (OJ w 2 0)=some (.int .i64 x)/\Z.cell? (OJ w 2 1)=some (.int .i64 a)/\Z.cell? (OJ w 3 1)=some (.slice sa s.length sc)/\Z.cell? (OJ w 3 2)=some (.slice ka k.length kc)/\Hid (Ac w.heap.size Z (.slice sa s.length sc) s)/\Hid (Ac w.heap.size Z (.slice ka k.length kc) k):=by
 obtain⟨i,m⟩:∃ Y,w.alloc (.cells #[.slice ca c.length cc] 59)=Y:=⟨_,rfl⟩;have C:OH w i:=by rw[<- m];exact Ao w _
 have y:i.heap.size=w.heap.size+1:=by rw[<- m];exact World.size_alloc _ _
 have K:i.cell? (OK w 0)=some (.slice ca c.length cc):=by rw[<- m];exact Bk w _ _ 0 _ rfl
 obtain⟨d,l⟩:∃ Y,i.alloc (.cells #[.string f.name,pv,.int .i64 f.result,.int .i64 f.slots,.slice ia f.ins.length ic] 130)=Y:=⟨_,rfl⟩;have D:OH w d:=by rw[<- l];exact Ab C _
 have r:d.heap.size=w.heap.size+2:=by rw[<- l,World.size_alloc];omega
 have L:d.cell? (OJ w 1 2)=some (.int .i64 f.result):=by rw[<- l];exact Bk i _ _ 2 _ y
 have F:d.cell? (OK w 0)=some (.slice ca c.length cc):=by rw[<- l];exact((Ao i _).cell (p:=(OK w 0)) (by show w.heap.size < _;omega)).trans K
 obtain⟨g,h⟩:∃ Y,d.alloc (.cells #[.int .i64 x,.int .i64 a,.int .i64 n,.string text] 107)=Y:=⟨_,rfl⟩;have E:OH w g:=by rw[<- h];exact Ab D _
 have t:g.heap.size=w.heap.size+3:=by rw[<- h,World.size_alloc];omega
 have v:=fun (b j:Nat) (hb:b < d.heap.size)=>(by rw[<- h];exact(Ao d _).cell (p:=(OI b j)) hb:g.cell? (OI b j)=d.cell? (OI b j))
 obtain⟨Z,u⟩:∃ Y,g.alloc (.cells #[.int .i64 1,.slice sa s.length sc,.slice ka k.length kc] 126)=Y:=⟨_,rfl⟩;have q:OH w Z:=by rw[<- u];exact Ab E _
 have B:Hid (Z.heap.size=w.heap.size+4):=by rw[Hid,<- u,World.size_alloc];omega
 have o:=fun (b j:Nat) (hb:b < g.heap.size)=>(by rw[<- u];exact(Ao g _).cell (p:=(OI b j)) hb:Z.cell? (OI b j)=g.cell? (OI b j))
 have M:Z.cell? (OK w 0)=some (.slice ca c.length cc):=(o _ 0 Ou).trans ((v _ 0 Ou).trans F);have N:Z.cell? (OJ w 1 2)=some (.int .i64 f.result):=(o _ 2 Ou).trans ((v _ 2 Ou).trans L);have G:Z.cell? (OJ w 2 0)=some (.int .i64 x):=(o _ 0 Ou).trans (by rw[<- h];exact Bk d _ _ 0 _ r);have H:Z.cell? (OJ w 2 1)=some (.int .i64 a):=(o _ 1 Ou).trans (by rw[<- h];exact Bk d _ _ 1 _ r);have I:Z.cell? (OJ w 3 1)=some (.slice sa s.length sc):=by rw[<- u];exact Bk g _ _ 1 _ t
 have J:Z.cell? (OJ w 3 2)=some (.slice ka k.length kc):=by rw[<- u];exact Bk g _ _ 2 _ t
 have A:Hid (Ac w.heap.size Z (.slice sa s.length sc) s):=hS.below q;have z:Hid (Ac w.heap.size Z (.slice ka k.length kc) k):=hK.below q;exact⟨i,d,g,Z,m,l,h,u,y,r,t,q,B,M,N,G,H,I,J,A,z⟩
abbrev B6 (c:List Af) (f:Af) (pv:Value) (ca ia sa ka:Option Addr) (cc ic sc kc:Nat) (s k:List Int) (w:World) (i:Az):Prop :=
 Calls Tryz.prog 114 #[.agg #[.slice ca c.length cc],Bp f pv (.slice ia f.ins.length ic),Aw i,Ah 1 (.slice sa s.length sc) (.slice ka k.length kc)] w (Au c f i s k w)
section
variable {c:List Af} {f:Af} {a n:Int} {text:ByteArray} {s k:List Int} {m:Nat} {ca ia sa ka:Option Addr} {cc ic sc kc:Nat} {pv:Value} {w:World} (hk600:k.length<=600) (hS:Ac w.heap.size w (.slice sa s.length sc) s) (hK:Ac w.heap.size w (.slice ka k.length kc) k)
include hk600 hS hK
theorem Qay (hkl:k.length=0):B6 c f pv ca ia sa ka cc ic sc kc s k w ⟨1,a,n,text⟩:=by
 unfold B6;obtain⟨H,I,J,Z,y,z,A,B,C,D,E,b,j,K,L,F,g,G,m,i,d⟩:=Co c f 1 a n text s k ca ia sa ka cc ic sc kc pv w hS hK;clear hS hK;obtain rfl:k=[]:=List.eq_nil_of_length_eq_zero hkl;have t:Hid (A3 []=0):=(rfl:A3 []=0);have h:Hid (An []=0):=(rfl:An []=0);simp only[List.length_nil]at B m hk600 d |-
 have q:Hid (Ag c f ⟨1,a,n,text⟩ s []=(0,[a],true)):=by
  rw[Hid,Ag];simp
 unfold Au;rw[q.out];unfold Bp Aw Ah;clear q i d t h;go_enter Tryz.func114,Tryz.ntmps114;have r:(fun w'=>w'.cell? (OJ w 2 1)=some (.int .i64 a)) Z:=g;have u:(fun w'=>w'.cell? (OJ w 2 1)=some (.int .i64 a)) Z.drew:=r;have l:∀ o:Obj,(fun w'=>w'.cell? (OJ w 2 1)=some (.int .i64 a)) (Z.alloc o):=fun o=>((Ao Z o).cell (p:=(OJ w 2 1)) (by show w.heap.size+2 < _;have:=j.out;omega)).trans g
 have v:∀ o:Obj,(fun w'=>w'.cell? (OJ w 2 1)=some (.int .i64 a)) (Z.drew.alloc o):=fun o=>l o
 have x:∀ o:Obj,(fun w'=>w'.cell? (OJ w 2 1)=some (.int .i64 a)) (Z.alloc o).drew:=fun o=>l o
 go_wp2_with fail;go_region_held3 (fun w'=>w'.cell? (OJ w 2 1)=some (.int .i64 a)) (with_reducible first|exact r|exact u|exact l _|exact v _|exact x _) (fail);all_goals go_wp2_with fail
 all_goals go_ret3
 all_goals exact⟨⟨.slice (some (OK Z 0)) ([a]:List Int).length ([a]:List Int).length,by (first|rfl|(simp;done)|(simp[*];done)|(simp_all;done)|(simp;omega)),Ac.newZ (Z:=Z) (hs:=[a]) _ _ rfl⟩,by first|exact Ab b _|exact Below.drew (Ab b _)|exact Below.drew (Below.drew (Ab b _))⟩
theorem Qaz (hkl:k.length=1):B6 c f pv ca ia sa ka cc ic sc kc s k w ⟨1,a,n,text⟩:=by
 unfold B6;obtain⟨O,P,Q,Z,D,E,F,G,J,K,L,d,l,W,X,M,h,N,t,j,b⟩:=Co c f 1 a n text s k ca ia sa ka cc ic sc kc pv w hS hK;clear hS hK;obtain⟨x,rfl⟩:∃ x,k=[x]:=by
  cases k with
  | nil=>simp at hkl
  | cons x r=>cases r with
   | nil=>exact⟨x,rfl⟩
   | cons y q=>simp at hkl
 have z:Hid (A3 [x]=x):=(rfl:A3 [x]=x);have i:Hid (An [x]=0):=(rfl:An [x]=0);obtain⟨T,V,rfl,_,U⟩:∃ g o,ka=some (OI g o)/\g < w.heap.size/\Z.cell? (OI g o)=some (.int .i64 x):=by
  obtain⟨R,S,I,H⟩:=b.out;injection I with e1;subst e1;exact H 0 OB
 simp only[List.length_cons,List.length_nil,Nat.zero_add]at G t hk600 b |-
 have u:Hid (Ag c f ⟨1,a,n,text⟩ s [x]=(0,[a],true)):=by
  rw[Hid,Ag];simp
 unfold Au;rw[u.out];unfold Bp Aw Ah;clear u j b z i;go_enter Tryz.func114,Tryz.ntmps114;have v:(fun w'=>w'.cell? (OJ w 2 1)=some (.int .i64 a)) Z:=h;have A:(fun w'=>w'.cell? (OJ w 2 1)=some (.int .i64 a)) Z.drew:=v;have m:∀ o:Obj,(fun w'=>w'.cell? (OJ w 2 1)=some (.int .i64 a)) (Z.alloc o):=fun o=>((Ao Z o).cell (p:=(OJ w 2 1)) (by show w.heap.size+2 < _;have:=l.out;omega)).trans h
 have B:∀ o:Obj,(fun w'=>w'.cell? (OJ w 2 1)=some (.int .i64 a)) (Z.drew.alloc o):=fun o=>m o
 have C:∀ o:Obj,(fun w'=>w'.cell? (OJ w 2 1)=some (.int .i64 a)) (Z.alloc o).drew:=fun o=>m o
 go_wp2_with fail;go_region_held3 (fun w'=>w'.cell? (OJ w 2 1)=some (.int .i64 a)) (with_reducible first|exact v|exact A|exact m _|exact B _|exact C _) (fail);all_goals go_wp2_with fail
 all_goals go_ret3
 all_goals exact⟨⟨.slice (some (OK Z 0)) ([a]:List Int).length ([a]:List Int).length,by (first|rfl|(simp;done)|(simp[*];done)|(simp_all;done)|(simp;omega)),Ac.newZ (Z:=Z) (hs:=[a]) _ _ rfl⟩,by first|exact Ab d _|exact Below.drew (Ab d _)|exact Below.drew (Below.drew (Ab d _))⟩
theorem Qa0 (hkl:k.length=m+2):B6 c f pv ca ia sa ka cc ic sc kc s k w ⟨1,a,n,text⟩:=by
 unfold B6;obtain⟨Y,Y2,Y3,Z,K,L,M,N,R,S,T,d,r,zc,zf,W,j,X,z,q,b⟩:=Co c f 1 a n text s k ca ia sa ka cc ic sc kc pv w hS hK;clear hS hK;obtain⟨y,v⟩:∃ y,k[m]'Ou=y:=⟨_,rfl⟩;obtain⟨x,u⟩:∃ x,k[m+1]'Ou=x:=⟨_,rfl⟩;have E:Hid (A3 k=x):=by
  rw[Hid,A3,List.getLast?_eq_getElem?,hkl,show m+2 - 1=m+1 by omega,List.getElem?_eq_getElem Ou,u];rfl
 have l:Hid (An k=y):=by
  rw[Hid,An,List.getLast?_eq_getElem?,List.length_take,hkl,show min (m+2 - 1) (m+2) - 1=m by omega,List.getElem?_take_of_lt Ou,List.getElem?_eq_getElem Ou,v];rfl
 obtain⟨gk,ok,rfl,_,ky,kx⟩:∃ g o,ka=some (OI g o)/\g < w.heap.size/\Z.cell? (OI g (o+m))=some (.int .i64 y)/\Z.cell? (OI g (o+(m+1)))=some (.int .i64 x):=by
  obtain⟨a',cp,O,D⟩:=b.out;injection O with e1;subst e1;obtain⟨g,o,C,P,I⟩:=D m Ou;obtain⟨g2,o2,i,Q,J⟩:=D (m+1) Ou;rw[C]at i;injection i with e;injection e with e1 e2
  subst e1 e2;exact⟨g,o,C,P,by rw[I,v],by rw[J,u]⟩
 have h:Hid (k.length=m+2):=hkl;rw[h.out]at N z hk600 b |-
 clear hkl u v;have U:wrap64 ((m:Int)+2 - 1)=(m:Int)+1:=by rw[IntWalk.wrap64_in _ Ou];omega
 have V:wrap64 ((m:Int)+2 - 2)=(m:Int):=by rw[IntWalk.wrap64_in _ Ou];omega
 have A:Hid (Ag c f ⟨1,a,n,text⟩ s k=(0,[a],true)):=by
  rw[Hid,Ag];simp
 unfold Au;rw[A.out];unfold Bp Aw Ah;clear A q b E l;go_enter Tryz.func114,Tryz.ntmps114;have B:(fun w'=>w'.cell? (OJ w 2 1)=some (.int .i64 a)) Z:=j;have F:(fun w'=>w'.cell? (OJ w 2 1)=some (.int .i64 a)) Z.drew:=B;have t:∀ o:Obj,(fun w'=>w'.cell? (OJ w 2 1)=some (.int .i64 a)) (Z.alloc o):=fun o=>((Ao Z o).cell (p:=(OJ w 2 1)) (by show w.heap.size+2 < _;have:=r.out;omega)).trans j
 have G:∀ o:Obj,(fun w'=>w'.cell? (OJ w 2 1)=some (.int .i64 a)) (Z.drew.alloc o):=fun o=>t o
 have H:∀ o:Obj,(fun w'=>w'.cell? (OJ w 2 1)=some (.int .i64 a)) (Z.alloc o).drew:=fun o=>t o
 go_wp2_with fail;go_region_held3 (fun w'=>w'.cell? (OJ w 2 1)=some (.int .i64 a)) (with_reducible first|exact B|exact F|exact t _|exact G _|exact H _) (fail);all_goals go_wp2_with fail
 all_goals go_ret3
 all_goals exact⟨⟨.slice (some (OK Z 0)) ([a]:List Int).length ([a]:List Int).length,by (first|rfl|(simp;done)|(simp[*];done)|(simp_all;done)|(simp;omega)),Ac.newZ (Z:=Z) (hs:=[a]) _ _ rfl⟩,by first|exact Ab d _|exact Below.drew (Ab d _)|exact Below.drew (Below.drew (Ab d _))⟩
theorem G7 (op:Int) (hop:op=3\/op=4\/op=10\/op=16\/op=11\/op=13\/op=15\/op=14) (hkl:k.length=0):B6 c f pv ca ia sa ka cc ic sc kc s k w ⟨op,a,n,text⟩:=by
 unfold B6;obtain⟨A,B,C,Z,o,p,q,r,t,u,v,d,m,D,E,x,y,z,l,j,h⟩:=Co c f op a n text s k ca ia sa ka cc ic sc kc pv w hS hK;clear hS hK;obtain rfl:k=[]:=List.eq_nil_of_length_eq_zero hkl;have i:Hid (A3 []=0):=(rfl:A3 []=0);have g:Hid (An []=0):=(rfl:An []=0);simp only[List.length_nil]at r l hk600 h |-
 rcases hop with rfl|rfl|rfl|rfl|rfl|rfl|rfl|rfl
 all_goals
  (first
   | (have b:Hid (Ag c f ⟨3,a,n,text⟩ s []=(1,[],false)):=(by rw[Hid,Ag];simp);unfold Au;rw[b.out];clear b)
   | (have b:Hid (Ag c f ⟨4,a,n,text⟩ s []=(1,[],false)):=(by rw[Hid,Ag];simp);unfold Au;rw[b.out];clear b)
   | (have b:Hid (Ag c f ⟨10,a,n,text⟩ s []=(0,[],true)):=(by rw[Hid,Ag];simp);unfold Au;rw[b.out];clear b)
   | (have b:Hid (Ag c f ⟨16,a,n,text⟩ s []=(0,[],true)):=(by rw[Hid,Ag];simp);unfold Au;rw[b.out];clear b)
   | (have b:Hid (Ag c f ⟨11,a,n,text⟩ s []=(1,[],decide (0=1))):=(by rw[Hid,Ag];simp[i.out]);unfold Au;rw[b.out];clear b)
   | (have b:Hid (Ag c f ⟨13,a,n,text⟩ s []=(1,[],decide (0=2))):=(by rw[Hid,Ag];simp[i.out]);unfold Au;rw[b.out];clear b)
   | (have b:Hid (Ag c f ⟨15,a,n,text⟩ s []=(1,[],decide (0=2))):=(by rw[Hid,Ag];simp[i.out]);unfold Au;rw[b.out];clear b)
   | (have b:Hid (Ag c f ⟨14,a,n,text⟩ s []=(2,[],false)):=(by rw[Hid,Ag];simp[i.out,g.out]);unfold Au;rw[b.out];clear b))
  unfold Bp Aw Ah;clear j h i g;go_enter Tryz.func114,Tryz.ntmps114;go_wp2_with fail;all_goals go_ret3
  all_goals exact⟨⟨.slice (some (OK Z 0)) ([]:List Int).length ([]:List Int).length,by (first|rfl|(simp;done)|(simp[*];done)|(simp_all;done)|(simp;omega)),Ac.newZ (Z:=Z) (hs:=[]) _ _ rfl⟩,by first|exact Ab d _|exact Below.drew (Ab d _)|exact Below.drew (Below.drew (Ab d _))⟩
theorem Hq (op:Int) (hop:op=3\/op=4\/op=10\/op=16\/op=11\/op=13\/op=15) (hkl:k.length=1):B6 c f pv ca ia sa ka cc ic sc kc s k w ⟨op,a,n,text⟩:=by
 unfold B6;obtain⟨I,J,K,Z,t,u,v,z,C,D,E,h,p,Q,R,F,G,H,m,l,d⟩:=Co c f op a n text s k ca ia sa ka cc ic sc kc pv w hS hK;clear hS hK;obtain⟨x,rfl⟩:∃ x,k=[x]:=by
  cases k with
  | nil=>simp at hkl
  | cons x r=>cases r with
   | nil=>exact⟨x,rfl⟩
   | cons y q=>simp at hkl
 have i:Hid (A3 [x]=x):=(rfl:A3 [x]=x);have j:Hid (An [x]=0):=(rfl:An [x]=0);obtain⟨N,P,rfl,_,O⟩:∃ g o,ka=some (OI g o)/\g < w.heap.size/\Z.cell? (OI g o)=some (.int .i64 x):=by
  obtain⟨L,M,B,A⟩:=d.out;injection B with e1;subst e1;exact A 0 OB
 simp only[List.length_cons,List.length_nil,Nat.zero_add]at z m hk600 d |-
 rcases hop with rfl|rfl|rfl|rfl|rfl|rfl|rfl
 all_goals
  (first
   | (have b:Hid (Ag c f ⟨3,a,n,text⟩ s [x]=(1,[],true)):=(by rw[Hid,Ag];simp);unfold Au;rw[b.out];clear b)
   | (have b:Hid (Ag c f ⟨4,a,n,text⟩ s [x]=(1,[],true)):=(by rw[Hid,Ag];simp);unfold Au;rw[b.out];clear b)
   | (have b:Hid (Ag c f ⟨10,a,n,text⟩ s [x]=(0,[],true)):=(by rw[Hid,Ag];simp);unfold Au;rw[b.out];clear b)
   | (have b:Hid (Ag c f ⟨16,a,n,text⟩ s [x]=(0,[],true)):=(by rw[Hid,Ag];simp);unfold Au;rw[b.out];clear b)
   | (have b:Hid (Ag c f ⟨11,a,n,text⟩ s [x]=(1,[],decide (x=1))):=(by rw[Hid,Ag];simp[i.out]);unfold Au;rw[b.out];clear b)
   | (have b:Hid (Ag c f ⟨13,a,n,text⟩ s [x]=(1,[],decide (x=2))):=(by rw[Hid,Ag];simp[i.out]);unfold Au;rw[b.out];clear b)
   | (have b:Hid (Ag c f ⟨15,a,n,text⟩ s [x]=(1,[],decide (x=2))):=(by rw[Hid,Ag];simp[i.out]);unfold Au;rw[b.out];clear b))
  unfold Bp Aw Ah;clear l d i j;go_enter Tryz.func114,Tryz.ntmps114;go_wp2_with fail;all_goals go_ret3
  all_goals exact⟨⟨.slice (some (OK Z 0)) ([]:List Int).length ([]:List Int).length,by (first|rfl|(simp;done)|(simp[*];done)|(simp_all;done)|(simp;omega)),Ac.newZ (Z:=Z) (hs:=[]) _ _ rfl⟩,by first|exact Ab h _|exact Below.drew (Ab h _)|exact Below.drew (Below.drew (Ab h _))⟩
theorem Yz (hkl:k.length=1):B6 c f pv ca ia sa ka cc ic sc kc s k w ⟨14,a,n,text⟩:=by
 unfold B6;obtain⟨J,K,L,Z,t,u,v,z,C,D,E,b,p,R,S,G,H,I,j,i,d⟩:=Co c f 14 a n text s k ca ia sa ka cc ic sc kc pv w hS hK;clear hS hK;obtain⟨x,rfl⟩:∃ x,k=[x]:=by
  cases k with
  | nil=>simp at hkl
  | cons x r=>cases r with
   | nil=>exact⟨x,rfl⟩
   | cons y q=>simp at hkl
 have m:Hid (A3 [x]=x):=(rfl:A3 [x]=x);have h:Hid (An [x]=0):=(rfl:An [x]=0);obtain⟨O,Q,rfl,_,P⟩:∃ g o,ka=some (OI g o)/\g < w.heap.size/\Z.cell? (OI g o)=some (.int .i64 x):=by
  obtain⟨M,N,B,A⟩:=d.out;injection B with e1;subst e1;exact A 0 OB
 simp only[List.length_cons,List.length_nil,Nat.zero_add]at z j hk600 d |-
 have l:Hid (Ag c f ⟨14,a,n,text⟩ s [x]=(2,[],decide (x=2) && decide ((0:Int)=2))):=by
  rw[Hid,Ag];simp[m.out,h.out]
 unfold Au;rw[l.out];unfold Bp Aw Ah;clear l i d m h;go_enter Tryz.func114,Tryz.ntmps114;by_cases hx2:x=2
 ·subst hx2;go_wp2_with fail;all_goals go_ret3
  all_goals exact⟨⟨.slice (some (OK Z 0)) ([]:List Int).length ([]:List Int).length,by (first|rfl|(simp;done)|(simp[*];done)|(simp_all;done)|(simp;omega)),Ac.newZ (Z:=Z) (hs:=[]) _ _ rfl⟩,by first|exact Ab b _|exact Below.drew (Ab b _)|exact Below.drew (Below.drew (Ab b _))⟩
 ·have F:(x == 2)=false:=by simp[hx2]
  go_wp2_with fail;all_goals go_ret3
  all_goals exact⟨⟨.slice (some (OK Z 0)) ([]:List Int).length ([]:List Int).length,by (first|rfl|(simp;done)|(simp[*];done)|(simp_all;done)|(simp;omega)),Ac.newZ (Z:=Z) (hs:=[]) _ _ rfl⟩,by first|exact Ab b _|exact Below.drew (Ab b _)|exact Below.drew (Below.drew (Ab b _))⟩
theorem Hr (op:Int) (hop:op=3\/op=4\/op=10\/op=16\/op=11\/op=13\/op=15) (hkl:k.length=m+2):B6 c f pv ca ia sa ka cc ic sc kc s k w ⟨op,a,n,text⟩:=by
 unfold B6;obtain⟨S,T,U,Z,D,E,F,G,K,L,M,i,A,zc,zf,P,Q,R,u,q,h⟩:=Co c f op a n text s k ca ia sa ka cc ic sc kc pv w hS hK;clear hS hK;obtain⟨y,t⟩:∃ y,k[m]'Ou=y:=⟨_,rfl⟩;obtain⟨x,r⟩:∃ x,k[m+1]'Ou=x:=⟨_,rfl⟩;have l:Hid (A3 k=x):=by
  rw[Hid,A3,List.getLast?_eq_getElem?,hkl,show m+2 - 1=m+1 by omega,List.getElem?_eq_getElem Ou,r];rfl
 have p:Hid (An k=y):=by
  rw[Hid,An,List.getLast?_eq_getElem?,List.length_take,hkl,show min (m+2 - 1) (m+2) - 1=m by omega,List.getElem?_take_of_lt Ou,List.getElem?_eq_getElem Ou,t];rfl
 obtain⟨Y,ok,rfl,_,ky,kx⟩:∃ g o,ka=some (OI g o)/\g < w.heap.size/\Z.cell? (OI g (o+m))=some (.int .i64 y)/\Z.cell? (OI g (o+(m+1)))=some (.int .i64 x):=by
  obtain⟨V,W,H,z⟩:=h.out;injection H with e1;subst e1;obtain⟨g,o,v,I,B⟩:=z m Ou;obtain⟨X,o2,j,J,C⟩:=z (m+1) Ou;rw[v]at j;injection j with e;injection e with e1 e2
  subst e1 e2;exact⟨g,o,v,I,by rw[B,t],by rw[C,r]⟩
 have d:Hid (k.length=m+2):=hkl;rw[d.out]at G u hk600 h |-
 clear hkl r t;have N:wrap64 ((m:Int)+2 - 1)=(m:Int)+1:=by rw[IntWalk.wrap64_in _ Ou];omega
 have O:wrap64 ((m:Int)+2 - 2)=(m:Int):=by rw[IntWalk.wrap64_in _ Ou];omega
 rcases hop with rfl|rfl|rfl|rfl|rfl|rfl|rfl
 all_goals
  (first
   | (have b:Hid (Ag c f ⟨3,a,n,text⟩ s k=(1,[],true)):=(by rw[Hid,Ag];simp[d.out]);unfold Au;rw[b.out];clear b)
   | (have b:Hid (Ag c f ⟨4,a,n,text⟩ s k=(1,[],true)):=(by rw[Hid,Ag];simp[d.out]);unfold Au;rw[b.out];clear b)
   | (have b:Hid (Ag c f ⟨10,a,n,text⟩ s k=(0,[],true)):=(by rw[Hid,Ag];simp);unfold Au;rw[b.out];clear b)
   | (have b:Hid (Ag c f ⟨16,a,n,text⟩ s k=(0,[],true)):=(by rw[Hid,Ag];simp);unfold Au;rw[b.out];clear b)
   | (have b:Hid (Ag c f ⟨11,a,n,text⟩ s k=(1,[],decide (x=1))):=(by rw[Hid,Ag];simp[l.out]);unfold Au;rw[b.out];clear b)
   | (have b:Hid (Ag c f ⟨13,a,n,text⟩ s k=(1,[],decide (x=2))):=(by rw[Hid,Ag];simp[l.out]);unfold Au;rw[b.out];clear b)
   | (have b:Hid (Ag c f ⟨15,a,n,text⟩ s k=(1,[],decide (x=2))):=(by rw[Hid,Ag];simp[l.out]);unfold Au;rw[b.out];clear b))
  unfold Bp Aw Ah;clear q h l p;go_enter Tryz.func114,Tryz.ntmps114;go_wp2_with fail;all_goals go_ret3
  all_goals exact⟨⟨.slice (some (OK Z 0)) ([]:List Int).length ([]:List Int).length,by (first|rfl|(simp;done)|(simp[*];done)|(simp_all;done)|(simp;omega)),Ac.newZ (Z:=Z) (hs:=[]) _ _ rfl⟩,by first|exact Ab i _|exact Below.drew (Ab i _)|exact Below.drew (Below.drew (Ab i _))⟩
theorem Y0 (hkl:k.length=m+2):B6 c f pv ca ia sa ka cc ic sc kc s k w ⟨14,a,n,text⟩:=by
 unfold B6;obtain⟨T,U,V,Z,D,E,F,G,K,L,M,b,A,zc,zf,Q,R,S,r,l,d⟩:=Co c f 14 a n text s k ca ia sa ka cc ic sc kc pv w hS hK;clear hS hK;obtain⟨y,q⟩:∃ y,k[m]'Ou=y:=⟨_,rfl⟩;obtain⟨x,p⟩:∃ x,k[m+1]'Ou=x:=⟨_,rfl⟩;have u:Hid (A3 k=x):=by
  rw[Hid,A3,List.getLast?_eq_getElem?,hkl,show m+2 - 1=m+1 by omega,List.getElem?_eq_getElem Ou,p];rfl
 have h:Hid (An k=y):=by
  rw[Hid,An,List.getLast?_eq_getElem?,List.length_take,hkl,show min (m+2 - 1) (m+2) - 1=m by omega,List.getElem?_take_of_lt Ou,List.getElem?_eq_getElem Ou,q];rfl
 obtain⟨gk,ok,rfl,_,ky,kx⟩:∃ g o,ka=some (OI g o)/\g < w.heap.size/\Z.cell? (OI g (o+m))=some (.int .i64 y)/\Z.cell? (OI g (o+(m+1)))=some (.int .i64 x):=by
  obtain⟨W,X,H,z⟩:=d.out;injection H with e1;subst e1;obtain⟨g,o,v,I,B⟩:=z m Ou;obtain⟨Y,o2,j,J,C⟩:=z (m+1) Ou;rw[v]at j;injection j with e;injection e with e1 e2
  subst e1 e2;exact⟨g,o,v,I,by rw[B,q],by rw[C,p]⟩
 have i:Hid (k.length=m+2):=hkl;rw[i.out]at G r hk600 d |-
 clear hkl p q;have N:wrap64 ((m:Int)+2 - 1)=(m:Int)+1:=by rw[IntWalk.wrap64_in _ Ou];omega
 have O:wrap64 ((m:Int)+2 - 2)=(m:Int):=by rw[IntWalk.wrap64_in _ Ou];omega
 have t:Hid (Ag c f ⟨14,a,n,text⟩ s k=(2,[],decide (x=2) && decide (y=2))):=by
  rw[Hid,Ag];simp[u.out,h.out]
 unfold Au;rw[t.out];unfold Bp Aw Ah;clear t l d u h;go_enter Tryz.func114,Tryz.ntmps114;by_cases hx2:x=2
 ·subst hx2;go_wp2_with fail;all_goals go_ret3
  all_goals exact⟨⟨.slice (some (OK Z 0)) ([]:List Int).length ([]:List Int).length,by (first|rfl|(simp;done)|(simp[*];done)|(simp_all;done)|(simp;omega)),Ac.newZ (Z:=Z) (hs:=[]) _ _ rfl⟩,by first|exact Ab b _|exact Below.drew (Ab b _)|exact Below.drew (Below.drew (Ab b _))⟩
 ·have P:(x == 2)=false:=by simp[hx2]
  go_wp2_with fail;all_goals go_ret3
  all_goals exact⟨⟨.slice (some (OK Z 0)) ([]:List Int).length ([]:List Int).length,by (first|rfl|(simp;done)|(simp[*];done)|(simp_all;done)|(simp;omega)),Ac.newZ (Z:=Z) (hs:=[]) _ _ rfl⟩,by first|exact Ab b _|exact Below.drew (Ab b _)|exact Below.drew (Below.drew (Ab b _))⟩
end
end Go.Proofs.YtahibkjkpmdhgaaGreatDoor
