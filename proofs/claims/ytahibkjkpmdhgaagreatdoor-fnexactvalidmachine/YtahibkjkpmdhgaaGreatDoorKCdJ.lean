import Derived.Test.YtahibkjkpmdhgaaGreatDoorKCdH
set_option maxRecDepth 100000
set_option maxHeartbeats 8000000
namespace Go.Proofs.YtahibkjkpmdhgaaGreatDoor
open Go.RowKit
def Ah (st:Int) (sv kv:Value):Value:=.agg #[.int .i64 st,sv,kv]
def Ai (c:List Ae) (f:Ae) (i:Ay) (s k:List Int) (w:World) (e:Ending) (w':World):Prop :=
 (∃ v,e = .returned (.tuple #[.int .i64 ((Ag c f i s k).1:Int),v,.bool (Ag c f i s k).2.2])/\Ab w'.heap.size w' v (Ag c f i s k).2.1)/\Below w.heap.size w w'
theorem Ab.newZ {Z:World} {hs:List Int} {t:TypeId} (cap n:Nat) (hn:n=hs.length):Ab (Z.alloc (.cells (As hs).toArray t)).heap.size (Z.alloc (.cells (As hs).toArray t)) (.slice (some ⟨Z.heap.size,0,none⟩) n cap) hs:=by
 have h:=Ab.new Z hs t cap;rw[World.size_alloc,hn];exact h
theorem Ab.cut {B:Nat} {w:World} {g o n cap:Nat} {hs:List Int} (h:Ab B w (.slice (some ⟨g,o,none⟩) n cap) hs) (hn:hs.length=n) (hc:n<=cap) {r:Nat} (hr:r<=n):Ab B w (.slice (if cap=r then some ⟨g,o,none⟩ else some ⟨g,o+r,none⟩) (n - r) (cap - r)) (hs.drop r):=by
 by_cases h1:r < hs.length
 ·obtain⟨c,d,e,b,a⟩:=h.drop h1;injection e with e;injection e with e3 e4
  subst e3 e4;rw[if_neg (by omega),<- hn];exact a _
 ·refine⟨_,_,by rw[List.length_drop,hn],fun i hi => ?_⟩;rw[List.length_drop]at hi;omega
theorem Hs (x:Int):decide (x≠0)=(x != 0):=by by_cases h:x=0 <;> simp[h]
theorem Ac {w Z:World} (h:Below w.heap.size w Z) (o:Obj):Below w.heap.size w (Z.alloc o):=h.trans ((Au Z o).mono h.size)
theorem Cj (c:List Ae) (f:Ae) (x a n:Int) (text:ByteArray) (s k:List Int) (ca ia sa ka:Option Addr) (cc ic sc kc:Nat) (pv:Value) (w:World) (hS:Ab w.heap.size w (.slice sa s.length sc) s) (hK:Ab w.heap.size w (.slice ka k.length kc) k) :
  ∃ i d g Z,w.alloc (.cells #[.slice ca c.length cc] 59)=i/\i.alloc (.cells #[.string f.name,pv,.int .i64 f.result,.int .i64 f.slots,.slice ia f.ins.length ic] 130)=d/\d.alloc (.cells #[.int .i64 x,.int .i64 a,.int .i64 n,.string text] 107)=g/\g.alloc (.cells #[.int .i64 1,.slice sa s.length sc,.slice ka k.length kc] 126)=Z/\i.heap.size=w.heap.size+1/\d.heap.size=w.heap.size+2/\g.heap.size=w.heap.size+3/\Below w.heap.size w Z/\Hid (Z.heap.size=w.heap.size+4)/\Z.cell? ⟨w.heap.size,0,none⟩=some (.slice ca c.length cc)/\Z.cell? ⟨w.heap.size+1,2,none⟩=some (.int .i64 f.result)/\Z.cell? ⟨w.heap.size+2,0,none⟩=some (.int .i64 x)/\Z.cell? ⟨w.heap.size+2,1,none⟩=some (.int .i64 a)/\Z.cell? ⟨w.heap.size+3,1,none⟩=some (.slice sa s.length sc)/\Z.cell? ⟨w.heap.size+3,2,none⟩=some (.slice ka k.length kc)/\Hid (Ab w.heap.size Z (.slice sa s.length sc) s)/\Hid (Ab w.heap.size Z (.slice ka k.length kc) k):=by
 obtain⟨i,m⟩:∃ Y,w.alloc (.cells #[.slice ca c.length cc] 59)=Y:=⟨_,rfl⟩;have C:Below w.heap.size w i:=by rw[<- m];exact Au w _
 have y:i.heap.size=w.heap.size+1:=by rw[<- m];exact World.size_alloc _ _
 have K:i.cell? ⟨w.heap.size,0,none⟩=some (.slice ca c.length cc):=by rw[<- m];exact Bm w _ _ 0 _ rfl
 obtain⟨d,l⟩:∃ Y,i.alloc (.cells #[.string f.name,pv,.int .i64 f.result,.int .i64 f.slots,.slice ia f.ins.length ic] 130)=Y:=⟨_,rfl⟩;have D:Below w.heap.size w d:=by rw[<- l];exact Ac C _
 have r:d.heap.size=w.heap.size+2:=by rw[<- l,World.size_alloc];omega
 have L:d.cell? ⟨w.heap.size+1,2,none⟩=some (.int .i64 f.result):=by rw[<- l];exact Bm i _ _ 2 _ y
 have F:d.cell? ⟨w.heap.size,0,none⟩=some (.slice ca c.length cc):=by rw[<- l];exact((Au i _).cell (p:=⟨w.heap.size,0,none⟩) (by show w.heap.size < _;omega)).trans K
 obtain⟨g,h⟩:∃ Y,d.alloc (.cells #[.int .i64 x,.int .i64 a,.int .i64 n,.string text] 107)=Y:=⟨_,rfl⟩;have E:Below w.heap.size w g:=by rw[<- h];exact Ac D _
 have t:g.heap.size=w.heap.size+3:=by rw[<- h,World.size_alloc];omega
 have v:=fun (b j:Nat) (hb:b < d.heap.size)=>(by rw[<- h];exact(Au d _).cell (p:=⟨b,j,none⟩) hb:g.cell? ⟨b,j,none⟩=d.cell? ⟨b,j,none⟩)
 obtain⟨Z,u⟩:∃ Y,g.alloc (.cells #[.int .i64 1,.slice sa s.length sc,.slice ka k.length kc] 126)=Y:=⟨_,rfl⟩;have q:Below w.heap.size w Z:=by rw[<- u];exact Ac E _
 have B:Hid (Z.heap.size=w.heap.size+4):=by rw[Hid,<- u,World.size_alloc];omega
 have o:=fun (b j:Nat) (hb:b < g.heap.size)=>(by rw[<- u];exact(Au g _).cell (p:=⟨b,j,none⟩) hb:Z.cell? ⟨b,j,none⟩=g.cell? ⟨b,j,none⟩)
 have M:Z.cell? ⟨w.heap.size,0,none⟩=some (.slice ca c.length cc):=(o _ 0 (by omega)).trans ((v _ 0 (by omega)).trans F);have N:Z.cell? ⟨w.heap.size+1,2,none⟩=some (.int .i64 f.result):=(o _ 2 (by omega)).trans ((v _ 2 (by omega)).trans L);have G:Z.cell? ⟨w.heap.size+2,0,none⟩=some (.int .i64 x):=(o _ 0 (by omega)).trans (by rw[<- h];exact Bm d _ _ 0 _ r);have H:Z.cell? ⟨w.heap.size+2,1,none⟩=some (.int .i64 a):=(o _ 1 (by omega)).trans (by rw[<- h];exact Bm d _ _ 1 _ r);have I:Z.cell? ⟨w.heap.size+3,1,none⟩=some (.slice sa s.length sc):=by rw[<- u];exact Bm g _ _ 1 _ t
 have J:Z.cell? ⟨w.heap.size+3,2,none⟩=some (.slice ka k.length kc):=by rw[<- u];exact Bm g _ _ 2 _ t
 have A:Hid (Ab w.heap.size Z (.slice sa s.length sc) s):=hS.below q;have z:Hid (Ab w.heap.size Z (.slice ka k.length kc) k):=hK.below q;exact⟨i,d,g,Z,m,l,h,u,y,r,t,q,B,M,N,G,H,I,J,A,z⟩
theorem Xy (c:List Ae) (f:Ae) (a n:Int) (text:ByteArray) (s k:List Int) (ca ia sa ka:Option Addr) (cc ic sc kc:Nat) (pv:Value) (_hcl:c.length<=60) (_hil:f.ins.length<=50000) (_hsl:s.length<=200) (hkl:k.length=0) (hk600:k.length<=600) (w:World) (hS:Ab w.heap.size w (.slice sa s.length sc) s) (hK:Ab w.heap.size w (.slice ka k.length kc) k) :
  Calls Tryz.prog 114 #[.agg #[.slice ca c.length cc],Ax f pv (.slice ia f.ins.length ic),Ak ⟨1,a,n,text⟩,Ah 1 (.slice sa s.length sc) (.slice ka k.length kc)] w (Ai c f ⟨1,a,n,text⟩ s k w):=by
 obtain⟨H,I,J,Z,y,z,A,B,C,D,E,b,j,K,L,F,g,G,m,i,d⟩:=Cj c f 1 a n text s k ca ia sa ka cc ic sc kc pv w hS hK;clear hS hK;obtain rfl:k=[]:=List.eq_nil_of_length_eq_zero hkl;have t:Hid (Az []=0):=(rfl:Az []=0);have h:Hid (Ap []=0):=(rfl:Ap []=0);simp only[List.length_nil]at B m hk600 d |-
 have q:Hid (Ag c f ⟨1,a,n,text⟩ s []=(0,[a],true)):=by
  rw[Hid,Ag];simp
 unfold Ai;rw[q.out];unfold Ax Ak Ah;clear q i d t h;go_enter Tryz.func114,Tryz.ntmps114;have r:(fun w'=>w'.cell? ⟨w.heap.size+2,1,none⟩=some (.int .i64 a)) Z:=g;have u:(fun w'=>w'.cell? ⟨w.heap.size+2,1,none⟩=some (.int .i64 a)) Z.drew:=r;have l:∀ o:Obj,(fun w'=>w'.cell? ⟨w.heap.size+2,1,none⟩=some (.int .i64 a)) (Z.alloc o):=fun o=>((Au Z o).cell (p:=⟨w.heap.size+2,1,none⟩) (by show w.heap.size+2 < _;have:=j.out;omega)).trans g
 have v:∀ o:Obj,(fun w'=>w'.cell? ⟨w.heap.size+2,1,none⟩=some (.int .i64 a)) (Z.drew.alloc o):=fun o=>l o
 have x:∀ o:Obj,(fun w'=>w'.cell? ⟨w.heap.size+2,1,none⟩=some (.int .i64 a)) (Z.alloc o).drew:=fun o=>l o
 go_wp2_with fail;go_region_held3 (fun w'=>w'.cell? ⟨w.heap.size+2,1,none⟩=some (.int .i64 a)) (with_reducible first|exact r|exact u|exact l _|exact v _|exact x _) (fail);all_goals go_wp2_with fail
 all_goals go_ret3
 all_goals exact⟨⟨.slice (some ⟨Z.heap.size,0,none⟩) ([a]:List Int).length ([a]:List Int).length,by (first|rfl|(simp;done)|(simp[*];done)|(simp_all;done)|(simp;omega)),Ab.newZ (Z:=Z) (hs:=[a]) _ _ rfl⟩,by first|exact Ac b _|exact Below.drew (Ac b _)|exact Below.drew (Below.drew (Ac b _))⟩
theorem Xz (c:List Ae) (f:Ae) (a n:Int) (text:ByteArray) (s k:List Int) (ca ia sa ka:Option Addr) (cc ic sc kc:Nat) (pv:Value) (_hcl:c.length<=60) (_hil:f.ins.length<=50000) (_hsl:s.length<=200) (hkl:k.length=1) (hk600:k.length<=600) (w:World) (hS:Ab w.heap.size w (.slice sa s.length sc) s) (hK:Ab w.heap.size w (.slice ka k.length kc) k) :
  Calls Tryz.prog 114 #[.agg #[.slice ca c.length cc],Ax f pv (.slice ia f.ins.length ic),Ak ⟨1,a,n,text⟩,Ah 1 (.slice sa s.length sc) (.slice ka k.length kc)] w (Ai c f ⟨1,a,n,text⟩ s k w):=by
 obtain⟨O,P,Q,Z,D,E,F,G,J,K,L,d,l,W,X,M,h,N,t,j,b⟩:=Cj c f 1 a n text s k ca ia sa ka cc ic sc kc pv w hS hK;clear hS hK;obtain⟨x,rfl⟩:∃ x,k=[x]:=by
  cases k with
  | nil=>simp at hkl
  | cons x r=>cases r with
   | nil=>exact⟨x,rfl⟩
   | cons y q=>simp at hkl
 have z:Hid (Az [x]=x):=(rfl:Az [x]=x);have i:Hid (Ap [x]=0):=(rfl:Ap [x]=0);obtain⟨T,V,rfl,_,U⟩:∃ g o,ka=some ⟨g,o,none⟩/\g < w.heap.size/\Z.cell? ⟨g,o,none⟩=some (.int .i64 x):=by
  obtain⟨R,S,I,H⟩:=b.out;injection I with e1;subst e1;exact H 0 (by simp)
 simp only[List.length_cons,List.length_nil,Nat.zero_add]at G t hk600 b |-
 have u:Hid (Ag c f ⟨1,a,n,text⟩ s [x]=(0,[a],true)):=by
  rw[Hid,Ag];simp
 unfold Ai;rw[u.out];unfold Ax Ak Ah;clear u j b z i;go_enter Tryz.func114,Tryz.ntmps114;have v:(fun w'=>w'.cell? ⟨w.heap.size+2,1,none⟩=some (.int .i64 a)) Z:=h;have A:(fun w'=>w'.cell? ⟨w.heap.size+2,1,none⟩=some (.int .i64 a)) Z.drew:=v;have m:∀ o:Obj,(fun w'=>w'.cell? ⟨w.heap.size+2,1,none⟩=some (.int .i64 a)) (Z.alloc o):=fun o=>((Au Z o).cell (p:=⟨w.heap.size+2,1,none⟩) (by show w.heap.size+2 < _;have:=l.out;omega)).trans h
 have B:∀ o:Obj,(fun w'=>w'.cell? ⟨w.heap.size+2,1,none⟩=some (.int .i64 a)) (Z.drew.alloc o):=fun o=>m o
 have C:∀ o:Obj,(fun w'=>w'.cell? ⟨w.heap.size+2,1,none⟩=some (.int .i64 a)) (Z.alloc o).drew:=fun o=>m o
 go_wp2_with fail;go_region_held3 (fun w'=>w'.cell? ⟨w.heap.size+2,1,none⟩=some (.int .i64 a)) (with_reducible first|exact v|exact A|exact m _|exact B _|exact C _) (fail);all_goals go_wp2_with fail
 all_goals go_ret3
 all_goals exact⟨⟨.slice (some ⟨Z.heap.size,0,none⟩) ([a]:List Int).length ([a]:List Int).length,by (first|rfl|(simp;done)|(simp[*];done)|(simp_all;done)|(simp;omega)),Ab.newZ (Z:=Z) (hs:=[a]) _ _ rfl⟩,by first|exact Ac d _|exact Below.drew (Ac d _)|exact Below.drew (Below.drew (Ac d _))⟩
theorem X1 (c:List Ae) (f:Ae) (a n:Int) (text:ByteArray) (s k:List Int) (m:Nat) (ca ia sa ka:Option Addr) (cc ic sc kc:Nat) (pv:Value) (_hcl:c.length<=60) (_hil:f.ins.length<=50000) (_hsl:s.length<=200) (hkl:k.length=m+2) (hk600:k.length<=600) (w:World) (hS:Ab w.heap.size w (.slice sa s.length sc) s) (hK:Ab w.heap.size w (.slice ka k.length kc) k) :
  Calls Tryz.prog 114 #[.agg #[.slice ca c.length cc],Ax f pv (.slice ia f.ins.length ic),Ak ⟨1,a,n,text⟩,Ah 1 (.slice sa s.length sc) (.slice ka k.length kc)] w (Ai c f ⟨1,a,n,text⟩ s k w):=by
 obtain⟨Y,Y2,Y3,Z,K,L,M,N,R,S,T,d,r,zc,zf,W,j,X,z,q,b⟩:=Cj c f 1 a n text s k ca ia sa ka cc ic sc kc pv w hS hK;clear hS hK;obtain⟨y,v⟩:∃ y,k[m]'(by omega)=y:=⟨_,rfl⟩;obtain⟨x,u⟩:∃ x,k[m+1]'(by omega)=x:=⟨_,rfl⟩;have E:Hid (Az k=x):=by
  rw[Hid,Az,List.getLast?_eq_getElem?,hkl,show m+2 - 1=m+1 by omega,List.getElem?_eq_getElem (by omega),u];rfl
 have l:Hid (Ap k=y):=by
  rw[Hid,Ap,List.getLast?_eq_getElem?,List.length_take,hkl,show min (m+2 - 1) (m+2) - 1=m by omega,List.getElem?_take_of_lt (by omega),List.getElem?_eq_getElem (by omega),v];rfl
 obtain⟨gk,ok,rfl,_,ky,kx⟩:∃ g o,ka=some ⟨g,o,none⟩/\g < w.heap.size/\Z.cell? ⟨g,o+m,none⟩=some (.int .i64 y)/\Z.cell? ⟨g,o+(m+1),none⟩=some (.int .i64 x):=by
  obtain⟨a',cp,O,D⟩:=b.out;injection O with e1;subst e1;obtain⟨g,o,C,P,I⟩:=D m (by omega);obtain⟨g2,o2,i,Q,J⟩:=D (m+1) (by omega);rw[C]at i;injection i with e;injection e with e1 e2
  subst e1 e2;exact⟨g,o,C,P,by rw[I,v],by rw[J,u]⟩
 have h:Hid (k.length=m+2):=hkl;rw[h.out]at N z hk600 b |-
 clear hkl u v;have U:wrap64 ((m:Int)+2 - 1)=(m:Int)+1:=by rw[IntWalk.wrap64_in _ (by omega)];omega
 have V:wrap64 ((m:Int)+2 - 2)=(m:Int):=by rw[IntWalk.wrap64_in _ (by omega)];omega
 have A:Hid (Ag c f ⟨1,a,n,text⟩ s k=(0,[a],true)):=by
  rw[Hid,Ag];simp
 unfold Ai;rw[A.out];unfold Ax Ak Ah;clear A q b E l;go_enter Tryz.func114,Tryz.ntmps114;have B:(fun w'=>w'.cell? ⟨w.heap.size+2,1,none⟩=some (.int .i64 a)) Z:=j;have F:(fun w'=>w'.cell? ⟨w.heap.size+2,1,none⟩=some (.int .i64 a)) Z.drew:=B;have t:∀ o:Obj,(fun w'=>w'.cell? ⟨w.heap.size+2,1,none⟩=some (.int .i64 a)) (Z.alloc o):=fun o=>((Au Z o).cell (p:=⟨w.heap.size+2,1,none⟩) (by show w.heap.size+2 < _;have:=r.out;omega)).trans j
 have G:∀ o:Obj,(fun w'=>w'.cell? ⟨w.heap.size+2,1,none⟩=some (.int .i64 a)) (Z.drew.alloc o):=fun o=>t o
 have H:∀ o:Obj,(fun w'=>w'.cell? ⟨w.heap.size+2,1,none⟩=some (.int .i64 a)) (Z.alloc o).drew:=fun o=>t o
 go_wp2_with fail;go_region_held3 (fun w'=>w'.cell? ⟨w.heap.size+2,1,none⟩=some (.int .i64 a)) (with_reducible first|exact B|exact F|exact t _|exact G _|exact H _) (fail);all_goals go_wp2_with fail
 all_goals go_ret3
 all_goals exact⟨⟨.slice (some ⟨Z.heap.size,0,none⟩) ([a]:List Int).length ([a]:List Int).length,by (first|rfl|(simp;done)|(simp[*];done)|(simp_all;done)|(simp;omega)),Ab.newZ (Z:=Z) (hs:=[a]) _ _ rfl⟩,by first|exact Ac d _|exact Below.drew (Ac d _)|exact Below.drew (Below.drew (Ac d _))⟩
theorem Gj (op:Int) (hop:op=3\/op=4\/op=10\/op=16\/op=11\/op=13\/op=15\/op=14) (c:List Ae) (f:Ae) (a n:Int) (text:ByteArray) (s k:List Int) (ca ia sa ka:Option Addr) (cc ic sc kc:Nat) (pv:Value) (_hcl:c.length<=60) (_hil:f.ins.length<=50000) (_hsl:s.length<=200) (hkl:k.length=0) (hk600:k.length<=600) (w:World) (hS:Ab w.heap.size w (.slice sa s.length sc) s) (hK:Ab w.heap.size w (.slice ka k.length kc) k) :
  Calls Tryz.prog 114 #[.agg #[.slice ca c.length cc],Ax f pv (.slice ia f.ins.length ic),Ak ⟨op,a,n,text⟩,Ah 1 (.slice sa s.length sc) (.slice ka k.length kc)] w (Ai c f ⟨op,a,n,text⟩ s k w):=by
 obtain⟨A,B,C,Z,o,p,q,r,t,u,v,d,m,D,E,x,y,z,l,j,h⟩:=Cj c f op a n text s k ca ia sa ka cc ic sc kc pv w hS hK;clear hS hK;obtain rfl:k=[]:=List.eq_nil_of_length_eq_zero hkl;have i:Hid (Az []=0):=(rfl:Az []=0);have g:Hid (Ap []=0):=(rfl:Ap []=0);simp only[List.length_nil]at r l hk600 h |-
 rcases hop with rfl|rfl|rfl|rfl|rfl|rfl|rfl|rfl
 all_goals
  (first
   | (have b:Hid (Ag c f ⟨3,a,n,text⟩ s []=(1,[],false)):=(by rw[Hid,Ag];simp);unfold Ai;rw[b.out];clear b)
   | (have b:Hid (Ag c f ⟨4,a,n,text⟩ s []=(1,[],false)):=(by rw[Hid,Ag];simp);unfold Ai;rw[b.out];clear b)
   | (have b:Hid (Ag c f ⟨10,a,n,text⟩ s []=(0,[],true)):=(by rw[Hid,Ag];simp);unfold Ai;rw[b.out];clear b)
   | (have b:Hid (Ag c f ⟨16,a,n,text⟩ s []=(0,[],true)):=(by rw[Hid,Ag];simp);unfold Ai;rw[b.out];clear b)
   | (have b:Hid (Ag c f ⟨11,a,n,text⟩ s []=(1,[],decide (0=1))):=(by rw[Hid,Ag];simp[i.out]);unfold Ai;rw[b.out];clear b)
   | (have b:Hid (Ag c f ⟨13,a,n,text⟩ s []=(1,[],decide (0=2))):=(by rw[Hid,Ag];simp[i.out]);unfold Ai;rw[b.out];clear b)
   | (have b:Hid (Ag c f ⟨15,a,n,text⟩ s []=(1,[],decide (0=2))):=(by rw[Hid,Ag];simp[i.out]);unfold Ai;rw[b.out];clear b)
   | (have b:Hid (Ag c f ⟨14,a,n,text⟩ s []=(2,[],false)):=(by rw[Hid,Ag];simp[i.out,g.out]);unfold Ai;rw[b.out];clear b))
  unfold Ax Ak Ah;clear j h i g;go_enter Tryz.func114,Tryz.ntmps114;go_wp2_with fail;all_goals go_ret3
  all_goals exact⟨⟨.slice (some ⟨Z.heap.size,0,none⟩) ([]:List Int).length ([]:List Int).length,by (first|rfl|(simp;done)|(simp[*];done)|(simp_all;done)|(simp;omega)),Ab.newZ (Z:=Z) (hs:=[]) _ _ rfl⟩,by first|exact Ac d _|exact Below.drew (Ac d _)|exact Below.drew (Below.drew (Ac d _))⟩
theorem G1 (op:Int) (hop:op=3\/op=4\/op=10\/op=16\/op=11\/op=13\/op=15) (c:List Ae) (f:Ae) (a n:Int) (text:ByteArray) (s k:List Int) (ca ia sa ka:Option Addr) (cc ic sc kc:Nat) (pv:Value) (_hcl:c.length<=60) (_hil:f.ins.length<=50000) (_hsl:s.length<=200) (hkl:k.length=1) (hk600:k.length<=600) (w:World) (hS:Ab w.heap.size w (.slice sa s.length sc) s) (hK:Ab w.heap.size w (.slice ka k.length kc) k) :
  Calls Tryz.prog 114 #[.agg #[.slice ca c.length cc],Ax f pv (.slice ia f.ins.length ic),Ak ⟨op,a,n,text⟩,Ah 1 (.slice sa s.length sc) (.slice ka k.length kc)] w (Ai c f ⟨op,a,n,text⟩ s k w):=by
 obtain⟨I,J,K,Z,t,u,v,z,C,D,E,h,p,Q,R,F,G,H,m,l,d⟩:=Cj c f op a n text s k ca ia sa ka cc ic sc kc pv w hS hK;clear hS hK;obtain⟨x,rfl⟩:∃ x,k=[x]:=by
  cases k with
  | nil=>simp at hkl
  | cons x r=>cases r with
   | nil=>exact⟨x,rfl⟩
   | cons y q=>simp at hkl
 have i:Hid (Az [x]=x):=(rfl:Az [x]=x);have j:Hid (Ap [x]=0):=(rfl:Ap [x]=0);obtain⟨N,P,rfl,_,O⟩:∃ g o,ka=some ⟨g,o,none⟩/\g < w.heap.size/\Z.cell? ⟨g,o,none⟩=some (.int .i64 x):=by
  obtain⟨L,M,B,A⟩:=d.out;injection B with e1;subst e1;exact A 0 (by simp)
 simp only[List.length_cons,List.length_nil,Nat.zero_add]at z m hk600 d |-
 rcases hop with rfl|rfl|rfl|rfl|rfl|rfl|rfl
 all_goals
  (first
   | (have b:Hid (Ag c f ⟨3,a,n,text⟩ s [x]=(1,[],true)):=(by rw[Hid,Ag];simp);unfold Ai;rw[b.out];clear b)
   | (have b:Hid (Ag c f ⟨4,a,n,text⟩ s [x]=(1,[],true)):=(by rw[Hid,Ag];simp);unfold Ai;rw[b.out];clear b)
   | (have b:Hid (Ag c f ⟨10,a,n,text⟩ s [x]=(0,[],true)):=(by rw[Hid,Ag];simp);unfold Ai;rw[b.out];clear b)
   | (have b:Hid (Ag c f ⟨16,a,n,text⟩ s [x]=(0,[],true)):=(by rw[Hid,Ag];simp);unfold Ai;rw[b.out];clear b)
   | (have b:Hid (Ag c f ⟨11,a,n,text⟩ s [x]=(1,[],decide (x=1))):=(by rw[Hid,Ag];simp[i.out]);unfold Ai;rw[b.out];clear b)
   | (have b:Hid (Ag c f ⟨13,a,n,text⟩ s [x]=(1,[],decide (x=2))):=(by rw[Hid,Ag];simp[i.out]);unfold Ai;rw[b.out];clear b)
   | (have b:Hid (Ag c f ⟨15,a,n,text⟩ s [x]=(1,[],decide (x=2))):=(by rw[Hid,Ag];simp[i.out]);unfold Ai;rw[b.out];clear b))
  unfold Ax Ak Ah;clear l d i j;go_enter Tryz.func114,Tryz.ntmps114;go_wp2_with fail;all_goals go_ret3
  all_goals exact⟨⟨.slice (some ⟨Z.heap.size,0,none⟩) ([]:List Int).length ([]:List Int).length,by (first|rfl|(simp;done)|(simp[*];done)|(simp_all;done)|(simp;omega)),Ab.newZ (Z:=Z) (hs:=[]) _ _ rfl⟩,by first|exact Ac h _|exact Below.drew (Ac h _)|exact Below.drew (Below.drew (Ac h _))⟩
theorem Vx (c:List Ae) (f:Ae) (a n:Int) (text:ByteArray) (s k:List Int) (ca ia sa ka:Option Addr) (cc ic sc kc:Nat) (pv:Value) (_hcl:c.length<=60) (_hil:f.ins.length<=50000) (_hsl:s.length<=200) (hkl:k.length=1) (hk600:k.length<=600) (w:World) (hS:Ab w.heap.size w (.slice sa s.length sc) s) (hK:Ab w.heap.size w (.slice ka k.length kc) k) :
  Calls Tryz.prog 114 #[.agg #[.slice ca c.length cc],Ax f pv (.slice ia f.ins.length ic),Ak ⟨14,a,n,text⟩,Ah 1 (.slice sa s.length sc) (.slice ka k.length kc)] w (Ai c f ⟨14,a,n,text⟩ s k w):=by
 obtain⟨J,K,L,Z,t,u,v,z,C,D,E,b,p,R,S,G,H,I,j,i,d⟩:=Cj c f 14 a n text s k ca ia sa ka cc ic sc kc pv w hS hK;clear hS hK;obtain⟨x,rfl⟩:∃ x,k=[x]:=by
  cases k with
  | nil=>simp at hkl
  | cons x r=>cases r with
   | nil=>exact⟨x,rfl⟩
   | cons y q=>simp at hkl
 have m:Hid (Az [x]=x):=(rfl:Az [x]=x);have h:Hid (Ap [x]=0):=(rfl:Ap [x]=0);obtain⟨O,Q,rfl,_,P⟩:∃ g o,ka=some ⟨g,o,none⟩/\g < w.heap.size/\Z.cell? ⟨g,o,none⟩=some (.int .i64 x):=by
  obtain⟨M,N,B,A⟩:=d.out;injection B with e1;subst e1;exact A 0 (by simp)
 simp only[List.length_cons,List.length_nil,Nat.zero_add]at z j hk600 d |-
 have l:Hid (Ag c f ⟨14,a,n,text⟩ s [x]=(2,[],decide (x=2) && decide ((0:Int)=2))):=by
  rw[Hid,Ag];simp[m.out,h.out]
 unfold Ai;rw[l.out];unfold Ax Ak Ah;clear l i d m h;go_enter Tryz.func114,Tryz.ntmps114;by_cases hx2:x=2
 ·subst hx2;go_wp2_with fail;all_goals go_ret3
  all_goals exact⟨⟨.slice (some ⟨Z.heap.size,0,none⟩) ([]:List Int).length ([]:List Int).length,by (first|rfl|(simp;done)|(simp[*];done)|(simp_all;done)|(simp;omega)),Ab.newZ (Z:=Z) (hs:=[]) _ _ rfl⟩,by first|exact Ac b _|exact Below.drew (Ac b _)|exact Below.drew (Below.drew (Ac b _))⟩
 ·have F:(x == 2)=false:=by simp[hx2]
  go_wp2_with fail;all_goals go_ret3
  all_goals exact⟨⟨.slice (some ⟨Z.heap.size,0,none⟩) ([]:List Int).length ([]:List Int).length,by (first|rfl|(simp;done)|(simp[*];done)|(simp_all;done)|(simp;omega)),Ab.newZ (Z:=Z) (hs:=[]) _ _ rfl⟩,by first|exact Ac b _|exact Below.drew (Ac b _)|exact Below.drew (Below.drew (Ac b _))⟩
theorem G2 (op:Int) (hop:op=3\/op=4\/op=10\/op=16\/op=11\/op=13\/op=15) (c:List Ae) (f:Ae) (a n:Int) (text:ByteArray) (s k:List Int) (m:Nat) (ca ia sa ka:Option Addr) (cc ic sc kc:Nat) (pv:Value) (_hcl:c.length<=60) (_hil:f.ins.length<=50000) (_hsl:s.length<=200) (hkl:k.length=m+2) (hk600:k.length<=600) (w:World) (hS:Ab w.heap.size w (.slice sa s.length sc) s) (hK:Ab w.heap.size w (.slice ka k.length kc) k) :
  Calls Tryz.prog 114 #[.agg #[.slice ca c.length cc],Ax f pv (.slice ia f.ins.length ic),Ak ⟨op,a,n,text⟩,Ah 1 (.slice sa s.length sc) (.slice ka k.length kc)] w (Ai c f ⟨op,a,n,text⟩ s k w):=by
 obtain⟨S,T,U,Z,D,E,F,G,K,L,M,i,A,zc,zf,P,Q,R,u,q,h⟩:=Cj c f op a n text s k ca ia sa ka cc ic sc kc pv w hS hK;clear hS hK;obtain⟨y,t⟩:∃ y,k[m]'(by omega)=y:=⟨_,rfl⟩;obtain⟨x,r⟩:∃ x,k[m+1]'(by omega)=x:=⟨_,rfl⟩;have l:Hid (Az k=x):=by
  rw[Hid,Az,List.getLast?_eq_getElem?,hkl,show m+2 - 1=m+1 by omega,List.getElem?_eq_getElem (by omega),r];rfl
 have p:Hid (Ap k=y):=by
  rw[Hid,Ap,List.getLast?_eq_getElem?,List.length_take,hkl,show min (m+2 - 1) (m+2) - 1=m by omega,List.getElem?_take_of_lt (by omega),List.getElem?_eq_getElem (by omega),t];rfl
 obtain⟨Y,ok,rfl,_,ky,kx⟩:∃ g o,ka=some ⟨g,o,none⟩/\g < w.heap.size/\Z.cell? ⟨g,o+m,none⟩=some (.int .i64 y)/\Z.cell? ⟨g,o+(m+1),none⟩=some (.int .i64 x):=by
  obtain⟨V,W,H,z⟩:=h.out;injection H with e1;subst e1;obtain⟨g,o,v,I,B⟩:=z m (by omega);obtain⟨X,o2,j,J,C⟩:=z (m+1) (by omega);rw[v]at j;injection j with e;injection e with e1 e2
  subst e1 e2;exact⟨g,o,v,I,by rw[B,t],by rw[C,r]⟩
 have d:Hid (k.length=m+2):=hkl;rw[d.out]at G u hk600 h |-
 clear hkl r t;have N:wrap64 ((m:Int)+2 - 1)=(m:Int)+1:=by rw[IntWalk.wrap64_in _ (by omega)];omega
 have O:wrap64 ((m:Int)+2 - 2)=(m:Int):=by rw[IntWalk.wrap64_in _ (by omega)];omega
 rcases hop with rfl|rfl|rfl|rfl|rfl|rfl|rfl
 all_goals
  (first
   | (have b:Hid (Ag c f ⟨3,a,n,text⟩ s k=(1,[],true)):=(by rw[Hid,Ag];simp[d.out]);unfold Ai;rw[b.out];clear b)
   | (have b:Hid (Ag c f ⟨4,a,n,text⟩ s k=(1,[],true)):=(by rw[Hid,Ag];simp[d.out]);unfold Ai;rw[b.out];clear b)
   | (have b:Hid (Ag c f ⟨10,a,n,text⟩ s k=(0,[],true)):=(by rw[Hid,Ag];simp);unfold Ai;rw[b.out];clear b)
   | (have b:Hid (Ag c f ⟨16,a,n,text⟩ s k=(0,[],true)):=(by rw[Hid,Ag];simp);unfold Ai;rw[b.out];clear b)
   | (have b:Hid (Ag c f ⟨11,a,n,text⟩ s k=(1,[],decide (x=1))):=(by rw[Hid,Ag];simp[l.out]);unfold Ai;rw[b.out];clear b)
   | (have b:Hid (Ag c f ⟨13,a,n,text⟩ s k=(1,[],decide (x=2))):=(by rw[Hid,Ag];simp[l.out]);unfold Ai;rw[b.out];clear b)
   | (have b:Hid (Ag c f ⟨15,a,n,text⟩ s k=(1,[],decide (x=2))):=(by rw[Hid,Ag];simp[l.out]);unfold Ai;rw[b.out];clear b))
  unfold Ax Ak Ah;clear q h l p;go_enter Tryz.func114,Tryz.ntmps114;go_wp2_with fail;all_goals go_ret3
  all_goals exact⟨⟨.slice (some ⟨Z.heap.size,0,none⟩) ([]:List Int).length ([]:List Int).length,by (first|rfl|(simp;done)|(simp[*];done)|(simp_all;done)|(simp;omega)),Ab.newZ (Z:=Z) (hs:=[]) _ _ rfl⟩,by first|exact Ac i _|exact Below.drew (Ac i _)|exact Below.drew (Below.drew (Ac i _))⟩
theorem Vy (c:List Ae) (f:Ae) (a n:Int) (text:ByteArray) (s k:List Int) (m:Nat) (ca ia sa ka:Option Addr) (cc ic sc kc:Nat) (pv:Value) (_hcl:c.length<=60) (_hil:f.ins.length<=50000) (_hsl:s.length<=200) (hkl:k.length=m+2) (hk600:k.length<=600) (w:World) (hS:Ab w.heap.size w (.slice sa s.length sc) s) (hK:Ab w.heap.size w (.slice ka k.length kc) k) :
  Calls Tryz.prog 114 #[.agg #[.slice ca c.length cc],Ax f pv (.slice ia f.ins.length ic),Ak ⟨14,a,n,text⟩,Ah 1 (.slice sa s.length sc) (.slice ka k.length kc)] w (Ai c f ⟨14,a,n,text⟩ s k w):=by
 obtain⟨T,U,V,Z,D,E,F,G,K,L,M,b,A,zc,zf,Q,R,S,r,l,d⟩:=Cj c f 14 a n text s k ca ia sa ka cc ic sc kc pv w hS hK;clear hS hK;obtain⟨y,q⟩:∃ y,k[m]'(by omega)=y:=⟨_,rfl⟩;obtain⟨x,p⟩:∃ x,k[m+1]'(by omega)=x:=⟨_,rfl⟩;have u:Hid (Az k=x):=by
  rw[Hid,Az,List.getLast?_eq_getElem?,hkl,show m+2 - 1=m+1 by omega,List.getElem?_eq_getElem (by omega),p];rfl
 have h:Hid (Ap k=y):=by
  rw[Hid,Ap,List.getLast?_eq_getElem?,List.length_take,hkl,show min (m+2 - 1) (m+2) - 1=m by omega,List.getElem?_take_of_lt (by omega),List.getElem?_eq_getElem (by omega),q];rfl
 obtain⟨gk,ok,rfl,_,ky,kx⟩:∃ g o,ka=some ⟨g,o,none⟩/\g < w.heap.size/\Z.cell? ⟨g,o+m,none⟩=some (.int .i64 y)/\Z.cell? ⟨g,o+(m+1),none⟩=some (.int .i64 x):=by
  obtain⟨W,X,H,z⟩:=d.out;injection H with e1;subst e1;obtain⟨g,o,v,I,B⟩:=z m (by omega);obtain⟨Y,o2,j,J,C⟩:=z (m+1) (by omega);rw[v]at j;injection j with e;injection e with e1 e2
  subst e1 e2;exact⟨g,o,v,I,by rw[B,q],by rw[C,p]⟩
 have i:Hid (k.length=m+2):=hkl;rw[i.out]at G r hk600 d |-
 clear hkl p q;have N:wrap64 ((m:Int)+2 - 1)=(m:Int)+1:=by rw[IntWalk.wrap64_in _ (by omega)];omega
 have O:wrap64 ((m:Int)+2 - 2)=(m:Int):=by rw[IntWalk.wrap64_in _ (by omega)];omega
 have t:Hid (Ag c f ⟨14,a,n,text⟩ s k=(2,[],decide (x=2) && decide (y=2))):=by
  rw[Hid,Ag];simp[u.out,h.out]
 unfold Ai;rw[t.out];unfold Ax Ak Ah;clear t l d u h;go_enter Tryz.func114,Tryz.ntmps114;by_cases hx2:x=2
 ·subst hx2;go_wp2_with fail;all_goals go_ret3
  all_goals exact⟨⟨.slice (some ⟨Z.heap.size,0,none⟩) ([]:List Int).length ([]:List Int).length,by (first|rfl|(simp;done)|(simp[*];done)|(simp_all;done)|(simp;omega)),Ab.newZ (Z:=Z) (hs:=[]) _ _ rfl⟩,by first|exact Ac b _|exact Below.drew (Ac b _)|exact Below.drew (Below.drew (Ac b _))⟩
 ·have P:(x == 2)=false:=by simp[hx2]
  go_wp2_with fail;all_goals go_ret3
  all_goals exact⟨⟨.slice (some ⟨Z.heap.size,0,none⟩) ([]:List Int).length ([]:List Int).length,by (first|rfl|(simp;done)|(simp[*];done)|(simp_all;done)|(simp;omega)),Ab.newZ (Z:=Z) (hs:=[]) _ _ rfl⟩,by first|exact Ac b _|exact Below.drew (Ac b _)|exact Below.drew (Below.drew (Ac b _))⟩
end Go.Proofs.YtahibkjkpmdhgaaGreatDoor
