import Derived.Test.YtahibkjkpmdhgaaGreatDoorKCdK
set_option maxRecDepth 100000
set_option maxHeartbeats 1000000
namespace Go.Proofs.YtahibkjkpmdhgaaGreatDoor
open Go.RowKit
theorem Vz (c:List Ae) (f:Ae) (a n:Int) (text:ByteArray) (s k:List Int) (ca ia sa ka:Option Addr) (cc ic sc kc:Nat) (pv:Value) (_hcl:c.length<=60) (_hil:f.ins.length<=50000) (_hsl:s.length<=200) (hkl:k.length=0) (hk600:k.length<=600) (h1:1<=a) (h12:a<=12) (hfew:k.length < (Bk a).length) (w:World) (hS:Ab w.heap.size w (.slice sa s.length sc) s) (hK:Ab w.heap.size w (.slice ka k.length kc) k) :
  Calls Tryz.prog 114 #[.agg #[.slice ca c.length cc],Ax f pv (.slice ia f.ins.length ic),Ak ⟨8,a,n,text⟩,Ah 1 (.slice sa s.length sc) (.slice ka k.length kc)] w (Ai c f ⟨8,a,n,text⟩ s k w):=by
 obtain⟨C,D,E,Z,p,r,t,u,v,x,y,b,o,G,H,z,A,B,j,i,d⟩:=Cj c f 8 a n text s k ca ia sa ka cc ic sc kc pv w hS hK;clear hS hK;obtain rfl:k=[]:=List.eq_nil_of_length_eq_zero hkl;have m:Hid (Az []=0):=(rfl:Az []=0);have g:Hid (Ap []=0):=(rfl:Ap []=0);simp only[List.length_nil]at u j hk600 d |-
 obtain⟨q,h⟩:∃ q,Hid ((Bk a).length=q):=⟨_,(rfl:(Bk a).length=_)⟩;rw[h.out]at hfew;have l:Hid (Ag c f ⟨8,a,n,text⟩ s []=(0,[],false)):=by
  simp only[Hid,Ag];rw[if_neg (by decide),if_neg (by decide),if_neg (by decide),if_neg (by decide),if_neg (by decide),if_neg (by decide),if_pos (by decide),if_pos (by rw[h.out];simpa using hfew)]
 unfold Ai;rw[l.out];unfold Ax Ak Ah;clear l i d m g;go_enter Tryz.func114,Tryz.ntmps114;go_wp2_with fail;go_at_call 142;refine(Ex a h1 h12 _).mono ?_;rintro e w' ⟨⟨F,rfl⟩,rfl⟩;rw[h.out];go_wp2_with fail;all_goals go_ret3
 all_goals exact⟨⟨.slice (some ⟨Z.heap.size,0,none⟩) ([]:List Int).length ([]:List Int).length,by (first|rfl|(simp;done)|(simp[*];done)|(simp_all;done)|(simp;omega)),Ab.newZ (Z:=Z) (hs:=[]) _ _ rfl⟩,by first|exact Ac b _|exact Below.drew (Ac b _)|exact Below.drew (Below.drew (Ac b _))⟩
theorem V4 (c:List Ae) (f:Ae) (a n:Int) (text:ByteArray) (s k:List Int) (ca ia sa ka:Option Addr) (cc ic sc kc:Nat) (pv:Value) (_hcl:c.length<=60) (_hil:f.ins.length<=50000) (_hsl:s.length<=200) (hkl:k.length=1) (hk600:k.length<=600) (h1:1<=a) (h12:a<=12) (hfew:k.length < (Bk a).length) (w:World) (hS:Ab w.heap.size w (.slice sa s.length sc) s) (hK:Ab w.heap.size w (.slice ka k.length kc) k) :
  Calls Tryz.prog 114 #[.agg #[.slice ca c.length cc],Ax f pv (.slice ia f.ins.length ic),Ak ⟨8,a,n,text⟩,Ah 1 (.slice sa s.length sc) (.slice ka k.length kc)] w (Ai c f ⟨8,a,n,text⟩ s k w):=by
 obtain⟨J,K,L,Z,u,v,z,A,D,E,F,d,t,S,T,G,H,I,l,j,b⟩:=Cj c f 8 a n text s k ca ia sa ka cc ic sc kc pv w hS hK;clear hS hK;obtain⟨x,rfl⟩:∃ x,k=[x]:=by
  cases k with
  | nil=>simp at hkl
  | cons x r=>cases r with
   | nil=>exact⟨x,rfl⟩
   | cons y q=>simp at hkl
 have p:Hid (Az [x]=x):=(rfl:Az [x]=x);have h:Hid (Ap [x]=0):=(rfl:Ap [x]=0);obtain⟨O,Q,rfl,_,P⟩:∃ g o,ka=some ⟨g,o,none⟩/\g < w.heap.size/\Z.cell? ⟨g,o,none⟩=some (.int .i64 x):=by
  obtain⟨M,N,C,B⟩:=b.out;injection C with e1;subst e1;exact B 0 (by simp)
 simp only[List.length_cons,List.length_nil,Nat.zero_add]at A l hk600 b |-
 obtain⟨q,i⟩:∃ q,Hid ((Bk a).length=q):=⟨_,(rfl:(Bk a).length=_)⟩;rw[i.out]at hfew;have m:Hid (Ag c f ⟨8,a,n,text⟩ s [x]=(0,[],false)):=by
  simp only[Hid,Ag];rw[if_neg (by decide),if_neg (by decide),if_neg (by decide),if_neg (by decide),if_neg (by decide),if_neg (by decide),if_pos (by decide),if_pos (by rw[i.out];simpa using hfew)]
 unfold Ai;rw[m.out];unfold Ax Ak Ah;clear m j b p h;go_enter Tryz.func114,Tryz.ntmps114;go_wp2_with fail;go_at_call 142;refine(Ex a h1 h12 _).mono ?_;rintro e w' ⟨⟨R,rfl⟩,rfl⟩;rw[i.out];go_wp2_with fail;all_goals go_ret3
 all_goals exact⟨⟨.slice (some ⟨Z.heap.size,0,none⟩) ([]:List Int).length ([]:List Int).length,by (first|rfl|(simp;done)|(simp[*];done)|(simp_all;done)|(simp;omega)),Ab.newZ (Z:=Z) (hs:=[]) _ _ rfl⟩,by first|exact Ac d _|exact Below.drew (Ac d _)|exact Below.drew (Below.drew (Ac d _))⟩
theorem V5 (c:List Ae) (f:Ae) (a n:Int) (text:ByteArray) (s k:List Int) (m:Nat) (ca ia sa ka:Option Addr) (cc ic sc kc:Nat) (pv:Value) (_hcl:c.length<=60) (_hil:f.ins.length<=50000) (_hsl:s.length<=200) (hkl:k.length=m+2) (hk600:k.length<=600) (h1:1<=a) (h12:a<=12) (hfew:k.length < (Bk a).length) (w:World) (hS:Ab w.heap.size w (.slice sa s.length sc) s) (hK:Ab w.heap.size w (.slice ka k.length kc) k) :
  Calls Tryz.prog 114 #[.agg #[.slice ca c.length cc],Ax f pv (.slice ia f.ins.length ic),Ak ⟨8,a,n,text⟩,Ah 1 (.slice sa s.length sc) (.slice ka k.length kc)] w (Ai c f ⟨8,a,n,text⟩ s k w):=by
 obtain⟨U,V,W,Z,F,G,H,I,M,N,O,h,C,zc,zf,R,S,T,u,p,d⟩:=Cj c f 8 a n text s k ca ia sa ka cc ic sc kc pv w hS hK;clear hS hK;obtain⟨y,t⟩:∃ y,k[m]'(by omega)=y:=⟨_,rfl⟩;obtain⟨x,r⟩:∃ x,k[m+1]'(by omega)=x:=⟨_,rfl⟩;have B:Hid (Az k=x):=by
  rw[Hid,Az,List.getLast?_eq_getElem?,hkl,show m+2 - 1=m+1 by omega,List.getElem?_eq_getElem (by omega),r];rfl
 have j:Hid (Ap k=y):=by
  rw[Hid,Ap,List.getLast?_eq_getElem?,List.length_take,hkl,show min (m+2 - 1) (m+2) - 1=m by omega,List.getElem?_take_of_lt (by omega),List.getElem?_eq_getElem (by omega),t];rfl
 obtain⟨gk,ok,rfl,_,ky,kx⟩:∃ g o,ka=some ⟨g,o,none⟩/\g < w.heap.size/\Z.cell? ⟨g,o+m,none⟩=some (.int .i64 y)/\Z.cell? ⟨g,o+(m+1),none⟩=some (.int .i64 x):=by
  obtain⟨X,Y,J,A⟩:=d.out;injection J with e1;subst e1;obtain⟨g,o,z,K,D⟩:=A m (by omega);obtain⟨g2,o2,i,L,E⟩:=A (m+1) (by omega);rw[z]at i;injection i with e;injection e with e1 e2
  subst e1 e2;exact⟨g,o,z,K,by rw[D,t],by rw[E,r]⟩
 have b:Hid (k.length=m+2):=hkl;rw[b.out]at hfew I u hk600 d |-
 clear hkl r t;have P:wrap64 ((m:Int)+2 - 1)=(m:Int)+1:=by rw[IntWalk.wrap64_in _ (by omega)];omega
 have Q:wrap64 ((m:Int)+2 - 2)=(m:Int):=by rw[IntWalk.wrap64_in _ (by omega)];omega
 obtain⟨q,l⟩:∃ q,Hid ((Bk a).length=q):=⟨_,(rfl:(Bk a).length=_)⟩;rw[l.out]at hfew;have v:Hid (Ag c f ⟨8,a,n,text⟩ s k=(0,[],false)):=by
  simp only[Hid,Ag];rw[if_neg (by decide),if_neg (by decide),if_neg (by decide),if_neg (by decide),if_neg (by decide),if_neg (by decide),if_pos (by decide),if_pos (by rw[l.out,b.out];exact hfew)]
 unfold Ai;rw[v.out];unfold Ax Ak Ah;clear v p d B j;go_enter Tryz.func114,Tryz.ntmps114;go_wp2_with fail;go_at_call 142;refine(Ex a h1 h12 _).mono ?_;rintro e w' ⟨⟨wd,rfl⟩,rfl⟩;rw[l.out];go_wp2_with fail;all_goals go_ret3
 all_goals exact⟨⟨.slice (some ⟨Z.heap.size,0,none⟩) ([]:List Int).length ([]:List Int).length,by (first|rfl|(simp;done)|(simp[*];done)|(simp_all;done)|(simp;omega)),Ab.newZ (Z:=Z) (hs:=[]) _ _ rfl⟩,by first|exact Ac h _|exact Below.drew (Ac h _)|exact Below.drew (Below.drew (Ac h _))⟩
theorem Yi (c:List Ae) (f:Ae) (a n:Int) (text:ByteArray) (s k:List Int) (m:Nat) (ca ia sa ka:Option Addr) (cc ic sc kc:Nat) (pv:Value) (_hcl:c.length<=60) (_hil:f.ins.length<=50000) (_hsl:s.length<=200) (hkl:k.length=m+2) (hk600:k.length<=600) (h1:1<=a) (h12:a<=12) (hfew:(Bk a).length<=k.length) (hkc:k.length<=kc) (w:World) (hS:Ab w.heap.size w (.slice sa s.length sc) s) (hK:Ab w.heap.size w (.slice ka k.length kc) k) :
  Calls Tryz.prog 114 #[.agg #[.slice ca c.length cc],Ax f pv (.slice ia f.ins.length ic),Ak ⟨8,a,n,text⟩,Ah 1 (.slice sa s.length sc) (.slice ka k.length kc)] w (Ai c f ⟨8,a,n,text⟩ s k w):=by
 obtain⟨Y1,Y2,Y3,Z,ac,ad,ae,hZ,al,am,an,v,I,zc,zf,au,K,av,D,N,A⟩:=Cj c f 8 a n text s k ca ia sa ka cc ic sc kc pv w hS hK;clear hS hK;obtain⟨y,T⟩:∃ y,k[m]'(by omega)=y:=⟨_,rfl⟩;obtain⟨x,S⟩:∃ x,k[m+1]'(by omega)=x:=⟨_,rfl⟩;have HT:Hid (Az k=x):=by
  rw[Hid,Az,List.getLast?_eq_getElem?,hkl,show m+2 - 1=m+1 by omega,List.getElem?_eq_getElem (by omega),S];rfl
 have L:Hid (Ap k=y):=by
  rw[Hid,Ap,List.getLast?_eq_getElem?,List.length_take,hkl,show min (m+2 - 1) (m+2) - 1=m by omega,List.getElem?_take_of_lt (by omega),List.getElem?_eq_getElem (by omega),T];rfl
 obtain⟨B,C,rfl,_,ky,kx⟩:∃ g o,ka=some ⟨g,o,none⟩/\g < w.heap.size/\Z.cell? ⟨g,o+m,none⟩=some (.int .i64 y)/\Z.cell? ⟨g,o+(m+1),none⟩=some (.int .i64 x):=by
  obtain⟨a',cp,he,X⟩:=A.out;injection he with e1;subst e1;obtain⟨g,o,W,hg,c1⟩:=X m (by omega);obtain⟨g2,o2,J,ag,c2⟩:=X (m+1) (by omega);rw[W]at J;injection J with e;injection e with e1 e2
  subst e1 e2;exact⟨g,o,W,hg,by rw[c1,T],by rw[c2,S]⟩
 have d:Hid (k.length=m+2):=hkl;rw[d.out]at hkc hfew hZ D hk600 A |-
 clear hkl S T;have ap:wrap64 ((m:Int)+2 - 1)=(m:Int)+1:=by rw[IntWalk.wrap64_in _ (by omega)];omega
 have aq:wrap64 ((m:Int)+2 - 2)=(m:Int):=by rw[IntWalk.wrap64_in _ (by omega)];omega
 obtain⟨q,E⟩:∃ q,Hid ((Bk a).length=q):=⟨_,(rfl:(Bk a).length=_)⟩;rw[E.out]at hfew;have ah:q<=3:=by
  rw[<- E.out];have h:a=1\/a=2\/a=3\/a=4\/a=5\/a=6\/a=7\/a=8\/a=9\/a=10\/a=11\/a=12:=by omega
  rcases h with rfl|rfl|rfl|rfl|rfl|rfl|rfl|rfl|rfl|rfl|rfl|rfl <;> decide
 have U:Hid (Ag c f ⟨8,a,n,text⟩ s k=(q,[C1 a (k.drop (m+2 - q))],(C1 a (k.drop (m+2 - q)) != 0))):=by
  simp only[Hid,Ag];rw[if_neg (by decide),if_neg (by decide),if_neg (by decide),if_neg (by decide),if_neg (by decide),if_neg (by decide),if_pos (by decide),if_neg (by rw[E.out,d.out];omega),Hs,E.out,d.out]
 unfold Ai;rw[U.out];unfold Ax Ak Ah;clear U N HT L;go_enter Tryz.func114,Tryz.ntmps114;obtain⟨r,hr⟩:∃ r,m+2=r+q:=⟨m+2 - q,by omega⟩;have R:wrap64 ((m:Int)+2 - (q:Int))=(r:Int):=by rw[IntWalk.wrap64_in _ (by omega)];omega
 have H:Hid (m+2=r+q):=hr;have ai:(0:Int)<=(r:Int):=by omega
 have ar:IntKind.i64.wrap ((m:Int)+2 - (q:Int))=(r:Int):=by rw[IntWalk.i64_left];exact R
 have ab:decide ((r:Int) < 0)=false:=by simp
 have Y:decide ((m:Int)+2 < (r:Int))=false:=by simp;omega
 have aa:decide ((kc:Int) < (m:Int)+2)=false:=by simp;omega
 have ao:((r:Int)).toNat=r:=Int.toNat_natCast r;have aj:(r:Int)<=(m:Int)+2:=by omega
 have af:(m:Int)+2<=(kc:Int):=by omega
 have ak:(r:Int)<=(kc:Int):=by omega
 clear hr;obtain⟨u,O⟩:∃ u,Hid (C1 a (k.drop r)=u):=⟨_,(rfl:C1 a (k.drop r)=_)⟩;have F:Hid ((k.drop r).length<=1048576):=by rw[Hid,List.length_drop,d.out];omega
 have t:Hid (Ab Z.heap.size Z (.slice (if kc=r then some ⟨B,C,none⟩ else some ⟨B,C+r,none⟩) (m+2 - r) (kc - r)) (k.drop r)):=(A.out.mono v.size).cut d.out hkc (by have:=H.out;omega);have z:Hid (Ab Z.drew.heap.size Z.drew (.slice (if kc=r then some ⟨B,C,none⟩ else some ⟨B,C+r,none⟩) (m+2 - r) (kc - r)) (k.drop r)):=t.out;have M:Hid (r=m+2 - q):=by have:=H.out;rw[Hid];omega
 have G:Hid (∀ l,Below Z.heap.size Z l->(fun w'=>w'.cell? ⟨w.heap.size+2,1,none⟩=some (.int .i64 a)/\w'.cell? ⟨w.heap.size+3,2,none⟩=some (.slice (some ⟨B,C,none⟩) (m+2) kc)) l):=fun l h=>⟨(h.cell (p:=⟨w.heap.size+2,1,none⟩) (by show w.heap.size+2 < _;have:=I.out;omega)).trans K,(h.cell (p:=⟨w.heap.size+3,2,none⟩) (by show w.heap.size+3 < _;have:=I.out;omega)).trans D⟩
 rw[<- M.out,O.out];clear A;have P:(fun w'=>w'.cell? ⟨w.heap.size+2,1,none⟩=some (.int .i64 a)/\w'.cell? ⟨w.heap.size+3,2,none⟩=some (.slice (some ⟨B,C,none⟩) (m+2) kc)) Z:=⟨K,D⟩;have V:(fun w'=>w'.cell? ⟨w.heap.size+2,1,none⟩=some (.int .i64 a)/\w'.cell? ⟨w.heap.size+3,2,none⟩=some (.slice (some ⟨B,C,none⟩) (m+2) kc)) Z.drew:=P;by_cases hkr:kc=r
 ·subst hkr;rw[if_pos rfl,Nat.sub_self,show m+2 - kc=0 by omega]at t z;go_wp2_with fail;go_at_call 142;refine(Ex a h1 h12 _).mono ?_;rintro e w' ⟨⟨wd,rfl⟩,rfl⟩;rw[E.out];go_wp2_with fail;first|(go_region_held3 (fun w'=>w'.cell? ⟨w.heap.size+2,1,none⟩=some (.int .i64 a)/\w'.cell? ⟨w.heap.size+3,2,none⟩=some (.slice (some ⟨B,C,none⟩) (m+2) kc)) (with_reducible first|exact P|exact V|exact Q) (first|(go_at_call 143;refine(Ew a h1 h12 _ (k.drop kc) F.out _ (by first|exact t.out|exact z.out)).mono ?_;rintro e l ⟨rfl,b⟩;rw[O.out];have j:Below Z.heap.size Z l:=⟨b.os,b.tape,b.output,b.size,b.block⟩;have Q:=G.out l j)))|fail
  all_goals have i:Below w.heap.size w l:=v.trans (j.mono v.size)
  all_goals go_wp2_with fail
  all_goals go_ret3
  all_goals exact⟨⟨.slice (some ⟨l.heap.size,0,none⟩) 1 1,by (first|rfl|(simp;done)|(simp[*];done)|(simp_all;done)|(simp;omega)),Ab.newZ (Z:=l) (hs:=[u]) _ _ rfl⟩,by first|exact Ac i _|exact Below.drew (Ac i _)⟩
 ·rw[if_neg hkr]at t z;go_wp2_with fail;go_at_call 142;refine(Ex a h1 h12 _).mono ?_;rintro e w' ⟨⟨wd,rfl⟩,rfl⟩;rw[E.out];go_wp2_with fail;first|(go_region_held3 (fun w'=>w'.cell? ⟨w.heap.size+2,1,none⟩=some (.int .i64 a)/\w'.cell? ⟨w.heap.size+3,2,none⟩=some (.slice (some ⟨B,C,none⟩) (m+2) kc)) (with_reducible first|exact P|exact V|exact Q) (first|(go_at_call 143;refine(Ew a h1 h12 _ (k.drop r) F.out _ (by first|exact t.out|exact z.out)).mono ?_;rintro e l ⟨rfl,b⟩;rw[O.out];have j:Below Z.heap.size Z l:=⟨b.os,b.tape,b.output,b.size,b.block⟩;have Q:=G.out l j)))|fail
  all_goals have i:Below w.heap.size w l:=v.trans (j.mono v.size)
  all_goals go_wp2_with fail
  all_goals go_ret3
  all_goals exact⟨⟨.slice (some ⟨l.heap.size,0,none⟩) 1 1,by (first|rfl|(simp;done)|(simp[*];done)|(simp_all;done)|(simp;omega)),Ab.newZ (Z:=l) (hs:=[u]) _ _ rfl⟩,by first|exact Ac i _|exact Below.drew (Ac i _)⟩
theorem Yh (c:List Ae) (f:Ae) (a n:Int) (text:ByteArray) (s k:List Int) (ca ia sa ka:Option Addr) (cc ic sc kc:Nat) (pv:Value) (_hcl:c.length<=60) (_hil:f.ins.length<=50000) (_hsl:s.length<=200) (hkl:k.length=1) (hk600:k.length<=600) (h1:1<=a) (h12:a<=12) (hfew:(Bk a).length<=k.length) (hkc:k.length<=kc) (w:World) (hS:Ab w.heap.size w (.slice sa s.length sc) s) (hK:Ab w.heap.size w (.slice ka k.length kc) k) :
  Calls Tryz.prog 114 #[.agg #[.slice ca c.length cc],Ax f pv (.slice ia f.ins.length ic),Ak ⟨8,a,n,text⟩,Ah 1 (.slice sa s.length sc) (.slice ka k.length kc)] w (Ai c f ⟨8,a,n,text⟩ s k w):=by
 obtain⟨Y1,Y2,Y3,Z,W,X,Y,hZ,af,ag,ah,m,G,zc,zf,ak,H,al,B,K,v⟩:=Cj c f 8 a n text s k ca ia sa ka cc ic sc kc pv w hS hK;clear hS hK;obtain⟨x,rfl⟩:∃ x,k=[x]:=by
  cases k with
  | nil=>simp at hkl
  | cons x r=>cases r with
   | nil=>exact⟨x,rfl⟩
   | cons y q=>simp at hkl
 have V:Hid (Az [x]=x):=(rfl:Az [x]=x);have I:Hid (Ap [x]=0):=(rfl:Ap [x]=0);obtain⟨z,A,rfl,_,kx⟩:∃ g o,ka=some ⟨g,o,none⟩/\g < w.heap.size/\Z.cell? ⟨g,o,none⟩=some (.int .i64 x):=by
  obtain⟨a',cp,he,hc⟩:=v.out;injection he with e1;subst e1;exact hc 0 (by simp)
 simp only[List.length_cons,List.length_nil,Nat.zero_add]at hkc hfew hZ B hk600 v |-
 obtain⟨q,C⟩:∃ q,Hid ((Bk a).length=q):=⟨_,(rfl:(Bk a).length=_)⟩;rw[C.out]at hfew;have ab:q<=3:=by
  rw[<- C.out];have h:a=1\/a=2\/a=3\/a=4\/a=5\/a=6\/a=7\/a=8\/a=9\/a=10\/a=11\/a=12:=by omega
  rcases h with rfl|rfl|rfl|rfl|rfl|rfl|rfl|rfl|rfl|rfl|rfl|rfl <;> decide
 have P:Hid (Ag c f ⟨8,a,n,text⟩ s [x]=(q,[C1 a ([x].drop (1 - q))],(C1 a ([x].drop (1 - q)) != 0))):=by
  simp only[Hid,Ag];rw[if_neg (by decide),if_neg (by decide),if_neg (by decide),if_neg (by decide),if_neg (by decide),if_neg (by decide),if_pos (by decide),if_neg (by rw[C.out];simp;omega),Hs,C.out];rfl
 unfold Ai;rw[P.out];unfold Ax Ak Ah;clear P K V I;go_enter Tryz.func114,Tryz.ntmps114;obtain⟨r,U⟩:∃ r,1=r+q:=⟨1 - q,by omega⟩;have O:wrap64 (1 - (q:Int))=(r:Int):=by rw[IntWalk.wrap64_in _ (by omega)];omega
 have F:Hid (1=r+q):=U;have ac:(0:Int)<=(r:Int):=by omega
 have aj:IntKind.i64.wrap (1 - (q:Int))=(r:Int):=by rw[IntWalk.i64_left];exact O
 have T:decide ((r:Int) < 0)=false:=by simp
 have R:decide (1 < (r:Int))=false:=by simp;omega
 have S:decide ((kc:Int) < 1)=false:=by simp;omega
 have ai:((r:Int)).toNat=r:=Int.toNat_natCast r;have ad:(r:Int)<=1:=by omega
 have aa:1<=(kc:Int):=by omega
 have ae:(r:Int)<=(kc:Int):=by omega
 clear U;obtain⟨u,L⟩:∃ u,Hid (C1 a ([x].drop r)=u):=⟨_,(rfl:C1 a ([x].drop r)=_)⟩;have D:Hid (([x].drop r).length<=1048576):=by rw[Hid,List.length_drop];simp;omega
 have l:Hid (Ab Z.heap.size Z (.slice (if kc=r then some ⟨z,A,none⟩ else some ⟨z,A+r,none⟩) (1 - r) (kc - r)) ([x].drop r)):=(v.out.mono m.size).cut (rfl:[x].length=1) hkc (by have:=F.out;omega);have t:Hid (Ab Z.drew.heap.size Z.drew (.slice (if kc=r then some ⟨z,A,none⟩ else some ⟨z,A+r,none⟩) (1 - r) (kc - r)) ([x].drop r)):=l.out;have J:Hid (r=1 - q):=by have:=F.out;rw[Hid];omega
 have E:Hid (∀ j,Below Z.heap.size Z j->(fun w'=>w'.cell? ⟨w.heap.size+2,1,none⟩=some (.int .i64 a)/\w'.cell? ⟨w.heap.size+3,2,none⟩=some (.slice (some ⟨z,A,none⟩) 1 kc)) j):=fun j h=>⟨(h.cell (p:=⟨w.heap.size+2,1,none⟩) (by show w.heap.size+2 < _;have:=G.out;omega)).trans H,(h.cell (p:=⟨w.heap.size+3,2,none⟩) (by show w.heap.size+3 < _;have:=G.out;omega)).trans B⟩
 rw[<- J.out,L.out];clear v;have M:(fun w'=>w'.cell? ⟨w.heap.size+2,1,none⟩=some (.int .i64 a)/\w'.cell? ⟨w.heap.size+3,2,none⟩=some (.slice (some ⟨z,A,none⟩) 1 kc)) Z:=⟨H,B⟩;have Q:(fun w'=>w'.cell? ⟨w.heap.size+2,1,none⟩=some (.int .i64 a)/\w'.cell? ⟨w.heap.size+3,2,none⟩=some (.slice (some ⟨z,A,none⟩) 1 kc)) Z.drew:=M;by_cases hkr:kc=r
 ·subst hkr;rw[if_pos rfl,Nat.sub_self,show 1 - kc=0 by omega]at l t;go_wp2_with fail;go_at_call 142;refine(Ex a h1 h12 _).mono ?_;rintro e w' ⟨⟨wd,rfl⟩,rfl⟩;rw[C.out];go_wp2_with fail;first|(go_region_held3 (fun w'=>w'.cell? ⟨w.heap.size+2,1,none⟩=some (.int .i64 a)/\w'.cell? ⟨w.heap.size+3,2,none⟩=some (.slice (some ⟨z,A,none⟩) 1 kc)) (with_reducible first|exact M|exact Q|exact N) (first|(go_at_call 143;refine(Ew a h1 h12 _ ([x].drop kc) D.out _ (by first|exact l.out|exact t.out)).mono ?_;rintro e j ⟨rfl,b⟩;rw[L.out];have i:Below Z.heap.size Z j:=⟨b.os,b.tape,b.output,b.size,b.block⟩;have N:=E.out j i)))|fail
  all_goals have d:Below w.heap.size w j:=m.trans (i.mono m.size)
  all_goals go_wp2_with fail
  all_goals go_ret3
  all_goals exact⟨⟨.slice (some ⟨j.heap.size,0,none⟩) 1 1,by (first|rfl|(simp;done)|(simp[*];done)|(simp_all;done)|(simp;omega)),Ab.newZ (Z:=j) (hs:=[u]) _ _ rfl⟩,by first|exact Ac d _|exact Below.drew (Ac d _)⟩
 ·rw[if_neg hkr]at l t;go_wp2_with fail;go_at_call 142;refine(Ex a h1 h12 _).mono ?_;rintro e w' ⟨⟨wd,rfl⟩,rfl⟩;rw[C.out];go_wp2_with fail;first|(go_region_held3 (fun w'=>w'.cell? ⟨w.heap.size+2,1,none⟩=some (.int .i64 a)/\w'.cell? ⟨w.heap.size+3,2,none⟩=some (.slice (some ⟨z,A,none⟩) 1 kc)) (with_reducible first|exact M|exact Q|exact N) (first|(go_at_call 143;refine(Ew a h1 h12 _ ([x].drop r) D.out _ (by first|exact l.out|exact t.out)).mono ?_;rintro e j ⟨rfl,b⟩;rw[L.out];have i:Below Z.heap.size Z j:=⟨b.os,b.tape,b.output,b.size,b.block⟩;have N:=E.out j i)))|fail
  all_goals have d:Below w.heap.size w j:=m.trans (i.mono m.size)
  all_goals go_wp2_with fail
  all_goals go_ret3
  all_goals exact⟨⟨.slice (some ⟨j.heap.size,0,none⟩) 1 1,by (first|rfl|(simp;done)|(simp[*];done)|(simp_all;done)|(simp;omega)),Ab.newZ (Z:=j) (hs:=[u]) _ _ rfl⟩,by first|exact Ac d _|exact Below.drew (Ac d _)⟩
theorem Yg (c:List Ae) (f:Ae) (a n:Int) (text:ByteArray) (s k:List Int) (ca ia sa ka:Option Addr) (cc ic sc kc:Nat) (pv:Value) (_hcl:c.length<=60) (_hil:f.ins.length<=50000) (_hsl:s.length<=200) (hkl:k.length=0) (hk600:k.length<=600) (h1:1<=a) (h12:a<=12) (hfew:(Bk a).length<=k.length) (hkc:k.length<=kc) (hka:ka=none\/∃ g,ka=some ⟨g,0,none⟩) (w:World) (hS:Ab w.heap.size w (.slice sa s.length sc) s) (hK:Ab w.heap.size w (.slice ka k.length kc) k) :
  Calls Tryz.prog 114 #[.agg #[.slice ca c.length cc],Ax f pv (.slice ia f.ins.length ic),Ak ⟨8,a,n,text⟩,Ah 1 (.slice sa s.length sc) (.slice ka k.length kc)] w (Ai c f ⟨8,a,n,text⟩ s k w):=by
 obtain⟨X,Y,Y3,Z,L,M,N,O,R,S,T,m,z,zc,zf,V,B,W,v,E,x⟩:=Cj c f 8 a n text s k ca ia sa ka cc ic sc kc pv w hS hK;clear hS hK;obtain rfl:k=[]:=List.eq_nil_of_length_eq_zero hkl;have K:Hid (Az []=0):=(rfl:Az []=0);have D:Hid (Ap []=0):=(rfl:Ap []=0);simp only[List.length_nil]at hkc hfew O v hk600 x |-
 obtain⟨q,r⟩:∃ q,Hid ((Bk a).length=q):=⟨_,(rfl:(Bk a).length=_)⟩;rw[r.out]at hfew;have Q:q<=3:=by
  rw[<- r.out];have h:a=1\/a=2\/a=3\/a=4\/a=5\/a=6\/a=7\/a=8\/a=9\/a=10\/a=11\/a=12:=by omega
  rcases h with rfl|rfl|rfl|rfl|rfl|rfl|rfl|rfl|rfl|rfl|rfl|rfl <;> decide
 have I:Hid (Ag c f ⟨8,a,n,text⟩ s []=(q,[C1 a []],(C1 a [] != 0))):=by
  simp only[Hid,Ag];rw[if_neg (by decide),if_neg (by decide),if_neg (by decide),if_neg (by decide),if_neg (by decide),if_neg (by decide),if_pos (by decide),if_neg (by rw[r.out];simp;omega),Hs,r.out];simp
 unfold Ai;rw[I.out];unfold Ax Ak Ah;clear I E x K D;go_enter Tryz.func114,Tryz.ntmps114;obtain rfl:q=0:=by omega
 obtain⟨u,y⟩:∃ u,Hid (C1 a []=u):=⟨_,(rfl:C1 a []=_)⟩;rw[y.out];have P:(0:Int)<=(kc:Int):=by omega
 have G:wrap64 ((0:Int) - 0)=0:=IntWalk.wrap64_in _ (by omega);have U:IntKind.i64.wrap ((0:Int) - 0)=0:=by rw[IntWalk.i64_left];exact G
 have o:Hid (∀ l,Below Z.heap.size Z l->(fun w'=>w'.cell? ⟨w.heap.size+2,1,none⟩=some (.int .i64 a)/\w'.cell? ⟨w.heap.size+3,2,none⟩=some (.slice ka 0 kc)) l):=fun l h=>⟨(h.cell (p:=⟨w.heap.size+2,1,none⟩) (by show w.heap.size+2 < _;have:=z.out;omega)).trans B,(h.cell (p:=⟨w.heap.size+3,2,none⟩) (by show w.heap.size+3 < _;have:=z.out;omega)).trans v⟩
 have A:(fun w'=>w'.cell? ⟨w.heap.size+2,1,none⟩=some (.int .i64 a)/\w'.cell? ⟨w.heap.size+3,2,none⟩=some (.slice ka 0 kc)) Z:=⟨B,v⟩;have C:(fun w'=>w'.cell? ⟨w.heap.size+2,1,none⟩=some (.int .i64 a)/\w'.cell? ⟨w.heap.size+3,2,none⟩=some (.slice ka 0 kc)) Z.drew:=A;rcases hka with rfl|⟨J,rfl⟩
 ·by_cases hk0:kc=0
  ·subst hk0;go_wp2_with fail;go_at_call 142;refine(Ex a h1 h12 _).mono ?_;rintro e w' ⟨⟨H,rfl⟩,rfl⟩;rw[r.out];go_wp2_with fail;first|(go_region_held (fun w'=>w'.cell? ⟨w.heap.size+2,1,none⟩=some (.int .i64 a)/\w'.cell? ⟨w.heap.size+3,2,none⟩=some (.slice none 0 0)) (with_reducible first|exact A|exact C|exact t) (first|(go_at_call 143;refine(Ew a h1 h12 _ [] (by simp) _ (by exact⟨_,_,rfl,fun i hi=>by simp at hi⟩)).mono ?_;rintro e l ⟨rfl,b⟩;rw[y.out];have j:Below Z.heap.size Z l:=⟨b.os,b.tape,b.output,b.size,b.block⟩;have t:=o.out l j)))|fail
   all_goals have d:Below w.heap.size w l:=m.trans (j.mono m.size)
   all_goals go_wp2_with fail
   all_goals go_ret3
   all_goals exact⟨⟨.slice (some ⟨l.heap.size,0,none⟩) 1 1,by (first|rfl|(simp;done)|(simp[*];done)|(simp_all;done)|(simp;omega)),Ab.newZ (Z:=l) (hs:=[u]) _ _ rfl⟩,by first|exact Ac d _|exact Below.drew (Ac d _)⟩
  ·have F:(kc == 0)=false:=(by simp[hk0]);go_wp2_with fail;go_at_call 142;refine(Ex a h1 h12 _).mono ?_;rintro e w' ⟨⟨H,rfl⟩,rfl⟩;rw[r.out];go_wp2_with fail;first|(go_region_held (fun w'=>w'.cell? ⟨w.heap.size+2,1,none⟩=some (.int .i64 a)/\w'.cell? ⟨w.heap.size+3,2,none⟩=some (.slice none 0 kc)) (with_reducible first|exact A|exact C|exact t) (first|(go_at_call 143;refine(Ew a h1 h12 _ [] (by simp) _ (by exact⟨_,_,rfl,fun i hi=>by simp at hi⟩)).mono ?_;rintro e l ⟨rfl,b⟩;rw[y.out];have j:Below Z.heap.size Z l:=⟨b.os,b.tape,b.output,b.size,b.block⟩;have t:=o.out l j)))|fail
   all_goals have d:Below w.heap.size w l:=m.trans (j.mono m.size)
   all_goals go_wp2_with fail
   all_goals go_ret3
   all_goals exact⟨⟨.slice (some ⟨l.heap.size,0,none⟩) 1 1,by (first|rfl|(simp;done)|(simp[*];done)|(simp_all;done)|(simp;omega)),Ab.newZ (Z:=l) (hs:=[u]) _ _ rfl⟩,by first|exact Ac d _|exact Below.drew (Ac d _)⟩
 ·by_cases hk0:kc=0
  ·subst hk0;go_wp2_with fail;go_at_call 142;refine(Ex a h1 h12 _).mono ?_;rintro e w' ⟨⟨H,rfl⟩,rfl⟩;rw[r.out];go_wp2_with fail;first|(go_region_held (fun w'=>w'.cell? ⟨w.heap.size+2,1,none⟩=some (.int .i64 a)/\w'.cell? ⟨w.heap.size+3,2,none⟩=some (.slice (some ⟨J,0,none⟩) 0 0)) (with_reducible first|exact A|exact C|exact t) (first|(go_at_call 143;refine(Ew a h1 h12 _ [] (by simp) _ (by exact⟨_,_,rfl,fun i hi=>by simp at hi⟩)).mono ?_;rintro e l ⟨rfl,b⟩;rw[y.out];have j:Below Z.heap.size Z l:=⟨b.os,b.tape,b.output,b.size,b.block⟩;have t:=o.out l j)))|fail
   all_goals have d:Below w.heap.size w l:=m.trans (j.mono m.size)
   all_goals go_wp2_with fail
   all_goals go_ret3
   all_goals exact⟨⟨.slice (some ⟨l.heap.size,0,none⟩) 1 1,by (first|rfl|(simp;done)|(simp[*];done)|(simp_all;done)|(simp;omega)),Ab.newZ (Z:=l) (hs:=[u]) _ _ rfl⟩,by first|exact Ac d _|exact Below.drew (Ac d _)⟩
  ·have F:(kc == 0)=false:=(by simp[hk0]);go_wp2_with fail;go_at_call 142;refine(Ex a h1 h12 _).mono ?_;rintro e w' ⟨⟨H,rfl⟩,rfl⟩;rw[r.out];go_wp2_with fail;first|(go_region_held (fun w'=>w'.cell? ⟨w.heap.size+2,1,none⟩=some (.int .i64 a)/\w'.cell? ⟨w.heap.size+3,2,none⟩=some (.slice (some ⟨J,0,none⟩) 0 kc)) (with_reducible first|exact A|exact C|exact t) (first|(go_at_call 143;refine(Ew a h1 h12 _ [] (by simp) _ (by exact⟨_,_,rfl,fun i hi=>by simp at hi⟩)).mono ?_;rintro e l ⟨rfl,b⟩;rw[y.out];have j:Below Z.heap.size Z l:=⟨b.os,b.tape,b.output,b.size,b.block⟩;have t:=o.out l j)))|fail
   all_goals have d:Below w.heap.size w l:=m.trans (j.mono m.size)
   all_goals go_wp2_with fail
   all_goals go_ret3
   all_goals exact⟨⟨.slice (some ⟨l.heap.size,0,none⟩) 1 1,by (first|rfl|(simp;done)|(simp[*];done)|(simp_all;done)|(simp;omega)),Ab.newZ (Z:=l) (hs:=[u]) _ _ rfl⟩,by first|exact Ac d _|exact Below.drew (Ac d _)⟩
end Go.Proofs.YtahibkjkpmdhgaaGreatDoor
