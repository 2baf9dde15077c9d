import Derived.Test.YtahibkjkpmdhgaaGreatDoorKTk
import Derived.Test.YtahibkjkpmdhgaaGreatDoorKCdK
set_option maxRecDepth 100000
set_option maxHeartbeats 1000000
namespace Go.Proofs.YtahibkjkpmdhgaaGreatDoor
open Go.RowKit
section
variable {c:List Af} {f:Af} {a n:Int} {text:ByteArray} {s k:List Int} {m:Nat} {ca ia sa ka:Option Addr} {cc ic sc kc:Nat} {pv:Value} {w:World} (hk600:k.length<=600) (hS:Ac w.heap.size w (.slice sa s.length sc) s) (hK:Ac w.heap.size w (.slice ka k.length kc) k)
include hk600 hS hK
theorem Y4 (hkl:k.length=0) (h1:1<=a) (h12:a<=12) (hfew:k.length < (Bj a).length):B6 c f pv ca ia sa ka cc ic sc kc s k w ⟨8,a,n,text⟩:=by
 unfold B6;obtain⟨C,D,E,Z,p,r,t,u,v,x,y,b,o,G,H,z,A,B,j,i,d⟩:=Co c f 8 a n text s k ca ia sa ka cc ic sc kc pv w hS hK;clear hS hK;obtain rfl:k=[]:=List.eq_nil_of_length_eq_zero hkl;have m:Hid (A3 []=0):=(rfl:A3 []=0);have g:Hid (An []=0):=(rfl:An []=0);simp only[List.length_nil]at u j hk600 d |-
 obtain⟨q,h⟩:∃ q,Hid ((Bj a).length=q):=⟨_,(rfl:(Bj a).length=_)⟩;rw[h.out]at hfew;have l:Hid (Ag c f ⟨8,a,n,text⟩ s []=(0,[],false)):=by
  simp only[Hid,Ag];rw[if_neg Ov,if_neg Ov,if_neg Ov,if_neg Ov,if_neg Ov,if_neg Ov,if_pos Ov,if_pos (by rw[h.out];simpa using hfew)]
 unfold Au;rw[l.out];unfold Bp Aw Ah;clear l i d m g;go_enter Tryz.func114,Tryz.ntmps114;go_wp2_with fail;go_at_call 142;refine(Fd a h1 h12 _).mono ?_;rintro e w' ⟨⟨F,rfl⟩,rfl⟩;rw[h.out];go_wp2_with fail;all_goals go_ret3
 all_goals exact⟨⟨.slice (some (OK Z 0)) ([]:List Int).length ([]:List Int).length,by (first|rfl|(simp;done)|(simp[*];done)|(simp_all;done)|(simp;omega)),Ac.newZ (Z:=Z) (hs:=[]) _ _ rfl⟩,by first|exact Ab b _|exact Below.drew (Ab b _)|exact Below.drew (Below.drew (Ab b _))⟩
theorem Y7 (hkl:k.length=1) (h1:1<=a) (h12:a<=12) (hfew:k.length < (Bj a).length):B6 c f pv ca ia sa ka cc ic sc kc s k w ⟨8,a,n,text⟩:=by
 unfold B6;obtain⟨J,K,L,Z,u,v,z,A,D,E,F,d,t,S,T,G,H,I,l,j,b⟩:=Co c f 8 a n text s k ca ia sa ka cc ic sc kc pv w hS hK;clear hS hK;obtain⟨x,rfl⟩:∃ x,k=[x]:=by
  cases k with
  | nil=>simp at hkl
  | cons x r=>cases r with
   | nil=>exact⟨x,rfl⟩
   | cons y q=>simp at hkl
 have p:Hid (A3 [x]=x):=(rfl:A3 [x]=x);have h:Hid (An [x]=0):=(rfl:An [x]=0);obtain⟨O,Q,rfl,_,P⟩:∃ g o,ka=some (OI g o)/\g < w.heap.size/\Z.cell? (OI g o)=some (.int .i64 x):=by
  obtain⟨M,N,C,B⟩:=b.out;injection C with e1;subst e1;exact B 0 OB
 simp only[List.length_cons,List.length_nil,Nat.zero_add]at A l hk600 b |-
 obtain⟨q,i⟩:∃ q,Hid ((Bj a).length=q):=⟨_,(rfl:(Bj a).length=_)⟩;rw[i.out]at hfew;have m:Hid (Ag c f ⟨8,a,n,text⟩ s [x]=(0,[],false)):=by
  simp only[Hid,Ag];rw[if_neg Ov,if_neg Ov,if_neg Ov,if_neg Ov,if_neg Ov,if_neg Ov,if_pos Ov,if_pos (by rw[i.out];simpa using hfew)]
 unfold Au;rw[m.out];unfold Bp Aw Ah;clear m j b p h;go_enter Tryz.func114,Tryz.ntmps114;go_wp2_with fail;go_at_call 142;refine(Fd a h1 h12 _).mono ?_;rintro e w' ⟨⟨R,rfl⟩,rfl⟩;rw[i.out];go_wp2_with fail;all_goals go_ret3
 all_goals exact⟨⟨.slice (some (OK Z 0)) ([]:List Int).length ([]:List Int).length,by (first|rfl|(simp;done)|(simp[*];done)|(simp_all;done)|(simp;omega)),Ac.newZ (Z:=Z) (hs:=[]) _ _ rfl⟩,by first|exact Ab d _|exact Below.drew (Ab d _)|exact Below.drew (Below.drew (Ab d _))⟩
theorem Y8 (hkl:k.length=m+2) (h1:1<=a) (h12:a<=12) (hfew:k.length < (Bj a).length):B6 c f pv ca ia sa ka cc ic sc kc s k w ⟨8,a,n,text⟩:=by
 unfold B6;obtain⟨U,V,W,Z,F,G,H,I,M,N,O,h,C,zc,zf,R,S,T,u,p,d⟩:=Co c f 8 a n text s k ca ia sa ka cc ic sc kc pv w hS hK;clear hS hK;obtain⟨y,t⟩:∃ y,k[m]'Ou=y:=⟨_,rfl⟩;obtain⟨x,r⟩:∃ x,k[m+1]'Ou=x:=⟨_,rfl⟩;have B:Hid (A3 k=x):=by
  rw[Hid,A3,List.getLast?_eq_getElem?,hkl,show m+2 - 1=m+1 by omega,List.getElem?_eq_getElem Ou,r];rfl
 have j:Hid (An k=y):=by
  rw[Hid,An,List.getLast?_eq_getElem?,List.length_take,hkl,show min (m+2 - 1) (m+2) - 1=m by omega,List.getElem?_take_of_lt Ou,List.getElem?_eq_getElem Ou,t];rfl
 obtain⟨gk,ok,rfl,_,ky,kx⟩:∃ g o,ka=some (OI g o)/\g < w.heap.size/\Z.cell? (OI g (o+m))=some (.int .i64 y)/\Z.cell? (OI g (o+(m+1)))=some (.int .i64 x):=by
  obtain⟨X,Y,J,A⟩:=d.out;injection J with e1;subst e1;obtain⟨g,o,z,K,D⟩:=A m Ou;obtain⟨g2,o2,i,L,E⟩:=A (m+1) Ou;rw[z]at i;injection i with e;injection e with e1 e2
  subst e1 e2;exact⟨g,o,z,K,by rw[D,t],by rw[E,r]⟩
 have b:Hid (k.length=m+2):=hkl;rw[b.out]at hfew I u hk600 d |-
 clear hkl r t;have P:wrap64 ((m:Int)+2 - 1)=(m:Int)+1:=by rw[IntWalk.wrap64_in _ Ou];omega
 have Q:wrap64 ((m:Int)+2 - 2)=(m:Int):=by rw[IntWalk.wrap64_in _ Ou];omega
 obtain⟨q,l⟩:∃ q,Hid ((Bj a).length=q):=⟨_,(rfl:(Bj a).length=_)⟩;rw[l.out]at hfew;have v:Hid (Ag c f ⟨8,a,n,text⟩ s k=(0,[],false)):=by
  simp only[Hid,Ag];rw[if_neg Ov,if_neg Ov,if_neg Ov,if_neg Ov,if_neg Ov,if_neg Ov,if_pos Ov,if_pos (by rw[l.out,b.out];exact hfew)]
 unfold Au;rw[v.out];unfold Bp Aw Ah;clear v p d B j;go_enter Tryz.func114,Tryz.ntmps114;go_wp2_with fail;go_at_call 142;refine(Fd a h1 h12 _).mono ?_;rintro e w' ⟨⟨wd,rfl⟩,rfl⟩;rw[l.out];go_wp2_with fail;all_goals go_ret3
 all_goals exact⟨⟨.slice (some (OK Z 0)) ([]:List Int).length ([]:List Int).length,by (first|rfl|(simp;done)|(simp[*];done)|(simp_all;done)|(simp;omega)),Ac.newZ (Z:=Z) (hs:=[]) _ _ rfl⟩,by first|exact Ab h _|exact Below.drew (Ab h _)|exact Below.drew (Below.drew (Ab h _))⟩
theorem Qbf (hkl:k.length=m+2) (h1:1<=a) (h12:a<=12) (hfew:(Bj a).length<=k.length) (hkc:k.length<=kc):B6 c f pv ca ia sa ka cc ic sc kc s k w ⟨8,a,n,text⟩:=by
 unfold B6;obtain⟨Y1,Y2,Y3,Z,ac,ad,ae,hZ,al,am,an,v,I,zc,zf,au,K,av,D,N,A⟩:=Co c f 8 a n text s k ca ia sa ka cc ic sc kc pv w hS hK;clear hS hK;obtain⟨y,T⟩:∃ y,k[m]'Ou=y:=⟨_,rfl⟩;obtain⟨x,S⟩:∃ x,k[m+1]'Ou=x:=⟨_,rfl⟩;have HT:Hid (A3 k=x):=by
  rw[Hid,A3,List.getLast?_eq_getElem?,hkl,show m+2 - 1=m+1 by omega,List.getElem?_eq_getElem Ou,S];rfl
 have L:Hid (An k=y):=by
  rw[Hid,An,List.getLast?_eq_getElem?,List.length_take,hkl,show min (m+2 - 1) (m+2) - 1=m by omega,List.getElem?_take_of_lt Ou,List.getElem?_eq_getElem Ou,T];rfl
 obtain⟨B,C,rfl,_,ky,kx⟩:∃ g o,ka=some (OI g o)/\g < w.heap.size/\Z.cell? (OI g (o+m))=some (.int .i64 y)/\Z.cell? (OI g (o+(m+1)))=some (.int .i64 x):=by
  obtain⟨a',cp,he,X⟩:=A.out;injection he with e1;subst e1;obtain⟨g,o,W,hg,c1⟩:=X m Ou;obtain⟨g2,o2,J,ag,c2⟩:=X (m+1) Ou;rw[W]at J;injection J with e;injection e with e1 e2
  subst e1 e2;exact⟨g,o,W,hg,by rw[c1,T],by rw[c2,S]⟩
 have d:Hid (k.length=m+2):=hkl;rw[d.out]at hkc hfew hZ D hk600 A |-
 clear hkl S T;have ap:wrap64 ((m:Int)+2 - 1)=(m:Int)+1:=by rw[IntWalk.wrap64_in _ Ou];omega
 have aq:wrap64 ((m:Int)+2 - 2)=(m:Int):=by rw[IntWalk.wrap64_in _ Ou];omega
 obtain⟨q,E⟩:∃ q,Hid ((Bj a).length=q):=⟨_,(rfl:(Bj a).length=_)⟩;rw[E.out]at hfew;have ah:q<=3:=by
  rw[<- E.out];have h:a=1\/a=2\/a=3\/a=4\/a=5\/a=6\/a=7\/a=8\/a=9\/a=10\/a=11\/a=12:=Ou
  rcases h with rfl|rfl|rfl|rfl|rfl|rfl|rfl|rfl|rfl|rfl|rfl|rfl <;> decide
 have U:Hid (Ag c f ⟨8,a,n,text⟩ s k=(q,[Da a (k.drop (m+2 - q))],(Da a (k.drop (m+2 - q)) != 0))):=by
  simp only[Hid,Ag];rw[if_neg Ov,if_neg Ov,if_neg Ov,if_neg Ov,if_neg Ov,if_neg Ov,if_pos Ov,if_neg (by rw[E.out,d.out];omega),Ii,E.out,d.out]
 unfold Au;rw[U.out];unfold Bp Aw Ah;clear U N HT L;go_enter Tryz.func114,Tryz.ntmps114;obtain⟨r,hr⟩:∃ r,m+2=r+q:=⟨m+2 - q,by omega⟩;have R:wrap64 ((m:Int)+2 - (q:Int))=(r:Int):=by rw[IntWalk.wrap64_in _ Ou];omega
 have H:Hid (m+2=r+q):=hr;have ai:(0:Int)<=(r:Int):=Ou
 have ar:IntKind.i64.wrap ((m:Int)+2 - (q:Int))=(r:Int):=by rw[IntWalk.i64_left];exact R
 have ab:decide ((r:Int) < 0)=false:=by simp
 have Y:decide ((m:Int)+2 < (r:Int))=false:=by simp;omega
 have aa:decide ((kc:Int) < (m:Int)+2)=false:=by simp;omega
 have ao:((r:Int)).toNat=r:=Int.toNat_natCast r;have aj:(r:Int)<=(m:Int)+2:=Ou
 have af:(m:Int)+2<=(kc:Int):=Ou
 have ak:(r:Int)<=(kc:Int):=Ou
 clear hr;obtain⟨u,O⟩:∃ u,Hid (Da a (k.drop r)=u):=⟨_,(rfl:Da a (k.drop r)=_)⟩;have F:Hid ((k.drop r).length<=1048576):=by rw[Hid,List.length_drop,d.out];omega
 have t:Hid (Ac Z.heap.size Z (.slice (if kc=r then some (OI B C) else some (OI B (C+r))) (m+2 - r) (kc - r)) (k.drop r)):=(A.out.mono v.size).cut d.out hkc (by have:=H.out;omega);have z:Hid (Ac Z.drew.heap.size Z.drew (.slice (if kc=r then some (OI B C) else some (OI B (C+r))) (m+2 - r) (kc - r)) (k.drop r)):=t.out;have M:Hid (r=m+2 - q):=by have:=H.out;rw[Hid];omega
 have G:Hid (∀ l,OH Z l->(fun w'=>w'.cell? (OJ w 2 1)=some (.int .i64 a)/\w'.cell? (OJ w 3 2)=some (.slice (some (OI B C)) (m+2) kc)) l):=fun l h=>⟨(h.cell (p:=(OJ w 2 1)) (by show w.heap.size+2 < _;have:=I.out;omega)).trans K,(h.cell (p:=(OJ w 3 2)) (by show w.heap.size+3 < _;have:=I.out;omega)).trans D⟩
 rw[<- M.out,O.out];clear A;have P:(fun w'=>w'.cell? (OJ w 2 1)=some (.int .i64 a)/\w'.cell? (OJ w 3 2)=some (.slice (some (OI B C)) (m+2) kc)) Z:=⟨K,D⟩;have V:(fun w'=>w'.cell? (OJ w 2 1)=some (.int .i64 a)/\w'.cell? (OJ w 3 2)=some (.slice (some (OI B C)) (m+2) kc)) Z.drew:=P;by_cases hkr:kc=r
 ·subst hkr;rw[if_pos rfl,Nat.sub_self,show m+2 - kc=0 by omega]at t z;go_wp2_with fail;go_at_call 142;refine(Fd a h1 h12 _).mono ?_;rintro e w' ⟨⟨wd,rfl⟩,rfl⟩;rw[E.out];go_wp2_with fail;first|(go_region_held3 (fun w'=>w'.cell? (OJ w 2 1)=some (.int .i64 a)/\w'.cell? (OJ w 3 2)=some (.slice (some (OI B C)) (m+2) kc)) (with_reducible first|exact P|exact V|exact Q) (first|(go_at_call 143;refine(Fc a h1 h12 _ (k.drop kc) F.out _ (by first|exact t.out|exact z.out)).mono ?_;rintro e l ⟨rfl,b⟩;rw[O.out];have j:OH Z l:=⟨b.os,b.tape,b.output,b.size,b.block⟩;have Q:=G.out l j)))|fail
  all_goals have i:OH w l:=v.trans (j.mono v.size)
  all_goals go_wp2_with fail
  all_goals go_ret3
  all_goals exact⟨⟨.slice (some (OK l 0)) 1 1,by (first|rfl|(simp;done)|(simp[*];done)|(simp_all;done)|(simp;omega)),Ac.newZ (Z:=l) (hs:=[u]) _ _ rfl⟩,by first|exact Ab i _|exact Below.drew (Ab i _)⟩
 ·rw[if_neg hkr]at t z;go_wp2_with fail;go_at_call 142;refine(Fd a h1 h12 _).mono ?_;rintro e w' ⟨⟨wd,rfl⟩,rfl⟩;rw[E.out];go_wp2_with fail;first|(go_region_held3 (fun w'=>w'.cell? (OJ w 2 1)=some (.int .i64 a)/\w'.cell? (OJ w 3 2)=some (.slice (some (OI B C)) (m+2) kc)) (with_reducible first|exact P|exact V|exact Q) (first|(go_at_call 143;refine(Fc a h1 h12 _ (k.drop r) F.out _ (by first|exact t.out|exact z.out)).mono ?_;rintro e l ⟨rfl,b⟩;rw[O.out];have j:OH Z l:=⟨b.os,b.tape,b.output,b.size,b.block⟩;have Q:=G.out l j)))|fail
  all_goals have i:OH w l:=v.trans (j.mono v.size)
  all_goals go_wp2_with fail
  all_goals go_ret3
  all_goals exact⟨⟨.slice (some (OK l 0)) 1 1,by (first|rfl|(simp;done)|(simp[*];done)|(simp_all;done)|(simp;omega)),Ac.newZ (Z:=l) (hs:=[u]) _ _ rfl⟩,by first|exact Ab i _|exact Below.drew (Ab i _)⟩
theorem Qbe (hkl:k.length=1) (h1:1<=a) (h12:a<=12) (hfew:(Bj a).length<=k.length) (hkc:k.length<=kc):B6 c f pv ca ia sa ka cc ic sc kc s k w ⟨8,a,n,text⟩:=by
 unfold B6;obtain⟨Y1,Y2,Y3,Z,W,X,Y,hZ,af,ag,ah,m,G,zc,zf,ak,H,al,B,K,v⟩:=Co c f 8 a n text s k ca ia sa ka cc ic sc kc pv w hS hK;clear hS hK;obtain⟨x,rfl⟩:∃ x,k=[x]:=by
  cases k with
  | nil=>simp at hkl
  | cons x r=>cases r with
   | nil=>exact⟨x,rfl⟩
   | cons y q=>simp at hkl
 have V:Hid (A3 [x]=x):=(rfl:A3 [x]=x);have I:Hid (An [x]=0):=(rfl:An [x]=0);obtain⟨z,A,rfl,_,kx⟩:∃ g o,ka=some (OI g o)/\g < w.heap.size/\Z.cell? (OI g o)=some (.int .i64 x):=by
  obtain⟨a',cp,he,hc⟩:=v.out;injection he with e1;subst e1;exact hc 0 OB
 simp only[List.length_cons,List.length_nil,Nat.zero_add]at hkc hfew hZ B hk600 v |-
 obtain⟨q,C⟩:∃ q,Hid ((Bj a).length=q):=⟨_,(rfl:(Bj a).length=_)⟩;rw[C.out]at hfew;have ab:q<=3:=by
  rw[<- C.out];have h:a=1\/a=2\/a=3\/a=4\/a=5\/a=6\/a=7\/a=8\/a=9\/a=10\/a=11\/a=12:=Ou
  rcases h with rfl|rfl|rfl|rfl|rfl|rfl|rfl|rfl|rfl|rfl|rfl|rfl <;> decide
 have P:Hid (Ag c f ⟨8,a,n,text⟩ s [x]=(q,[Da a ([x].drop (1 - q))],(Da a ([x].drop (1 - q)) != 0))):=by
  simp only[Hid,Ag];rw[if_neg Ov,if_neg Ov,if_neg Ov,if_neg Ov,if_neg Ov,if_neg Ov,if_pos Ov,if_neg (by rw[C.out];simp;omega),Ii,C.out];rfl
 unfold Au;rw[P.out];unfold Bp Aw Ah;clear P K V I;go_enter Tryz.func114,Tryz.ntmps114;obtain⟨r,U⟩:∃ r,1=r+q:=⟨1 - q,by omega⟩;have O:wrap64 (1 - (q:Int))=(r:Int):=by rw[IntWalk.wrap64_in _ Ou];omega
 have F:Hid (1=r+q):=U;have ac:(0:Int)<=(r:Int):=Ou
 have aj:IntKind.i64.wrap (1 - (q:Int))=(r:Int):=by rw[IntWalk.i64_left];exact O
 have T:decide ((r:Int) < 0)=false:=by simp
 have R:decide (1 < (r:Int))=false:=by simp;omega
 have S:decide ((kc:Int) < 1)=false:=by simp;omega
 have ai:((r:Int)).toNat=r:=Int.toNat_natCast r;have ad:(r:Int)<=1:=Ou
 have aa:1<=(kc:Int):=Ou
 have ae:(r:Int)<=(kc:Int):=Ou
 clear U;obtain⟨u,L⟩:∃ u,Hid (Da a ([x].drop r)=u):=⟨_,(rfl:Da a ([x].drop r)=_)⟩;have D:Hid (([x].drop r).length<=1048576):=by rw[Hid,List.length_drop];simp;omega
 have l:Hid (Ac Z.heap.size Z (.slice (if kc=r then some (OI z A) else some (OI z (A+r))) (1 - r) (kc - r)) ([x].drop r)):=(v.out.mono m.size).cut (rfl:[x].length=1) hkc (by have:=F.out;omega);have t:Hid (Ac Z.drew.heap.size Z.drew (.slice (if kc=r then some (OI z A) else some (OI z (A+r))) (1 - r) (kc - r)) ([x].drop r)):=l.out;have J:Hid (r=1 - q):=by have:=F.out;rw[Hid];omega
 have E:Hid (∀ j,OH Z j->(fun w'=>w'.cell? (OJ w 2 1)=some (.int .i64 a)/\w'.cell? (OJ w 3 2)=some (.slice (some (OI z A)) 1 kc)) j):=fun j h=>⟨(h.cell (p:=(OJ w 2 1)) (by show w.heap.size+2 < _;have:=G.out;omega)).trans H,(h.cell (p:=(OJ w 3 2)) (by show w.heap.size+3 < _;have:=G.out;omega)).trans B⟩
 rw[<- J.out,L.out];clear v;have M:(fun w'=>w'.cell? (OJ w 2 1)=some (.int .i64 a)/\w'.cell? (OJ w 3 2)=some (.slice (some (OI z A)) 1 kc)) Z:=⟨H,B⟩;have Q:(fun w'=>w'.cell? (OJ w 2 1)=some (.int .i64 a)/\w'.cell? (OJ w 3 2)=some (.slice (some (OI z A)) 1 kc)) Z.drew:=M;by_cases hkr:kc=r
 ·subst hkr;rw[if_pos rfl,Nat.sub_self,show 1 - kc=0 by omega]at l t;go_wp2_with fail;go_at_call 142;refine(Fd a h1 h12 _).mono ?_;rintro e w' ⟨⟨wd,rfl⟩,rfl⟩;rw[C.out];go_wp2_with fail;first|(go_region_held3 (fun w'=>w'.cell? (OJ w 2 1)=some (.int .i64 a)/\w'.cell? (OJ w 3 2)=some (.slice (some (OI z A)) 1 kc)) (with_reducible first|exact M|exact Q|exact N) (first|(go_at_call 143;refine(Fc a h1 h12 _ ([x].drop kc) D.out _ (by first|exact l.out|exact t.out)).mono ?_;rintro e j ⟨rfl,b⟩;rw[L.out];have i:OH Z j:=⟨b.os,b.tape,b.output,b.size,b.block⟩;have N:=E.out j i)))|fail
  all_goals have d:OH w j:=m.trans (i.mono m.size)
  all_goals go_wp2_with fail
  all_goals go_ret3
  all_goals exact⟨⟨.slice (some (OK j 0)) 1 1,by (first|rfl|(simp;done)|(simp[*];done)|(simp_all;done)|(simp;omega)),Ac.newZ (Z:=j) (hs:=[u]) _ _ rfl⟩,by first|exact Ab d _|exact Below.drew (Ab d _)⟩
 ·rw[if_neg hkr]at l t;go_wp2_with fail;go_at_call 142;refine(Fd a h1 h12 _).mono ?_;rintro e w' ⟨⟨wd,rfl⟩,rfl⟩;rw[C.out];go_wp2_with fail;first|(go_region_held3 (fun w'=>w'.cell? (OJ w 2 1)=some (.int .i64 a)/\w'.cell? (OJ w 3 2)=some (.slice (some (OI z A)) 1 kc)) (with_reducible first|exact M|exact Q|exact N) (first|(go_at_call 143;refine(Fc a h1 h12 _ ([x].drop r) D.out _ (by first|exact l.out|exact t.out)).mono ?_;rintro e j ⟨rfl,b⟩;rw[L.out];have i:OH Z j:=⟨b.os,b.tape,b.output,b.size,b.block⟩;have N:=E.out j i)))|fail
  all_goals have d:OH w j:=m.trans (i.mono m.size)
  all_goals go_wp2_with fail
  all_goals go_ret3
  all_goals exact⟨⟨.slice (some (OK j 0)) 1 1,by (first|rfl|(simp;done)|(simp[*];done)|(simp_all;done)|(simp;omega)),Ac.newZ (Z:=j) (hs:=[u]) _ _ rfl⟩,by first|exact Ab d _|exact Below.drew (Ab d _)⟩
theorem Qbd (hkl:k.length=0) (h1:1<=a) (h12:a<=12) (hfew:(Bj a).length<=k.length) (hkc:k.length<=kc) (hka:ka=none\/∃ g,ka=some (OI g 0)):B6 c f pv ca ia sa ka cc ic sc kc s k w ⟨8,a,n,text⟩:=by
 unfold B6;obtain⟨X,Y,Y3,Z,L,M,N,O,R,S,T,m,z,zc,zf,V,B,W,v,E,x⟩:=Co c f 8 a n text s k ca ia sa ka cc ic sc kc pv w hS hK;clear hS hK;obtain rfl:k=[]:=List.eq_nil_of_length_eq_zero hkl;have K:Hid (A3 []=0):=(rfl:A3 []=0);have D:Hid (An []=0):=(rfl:An []=0);simp only[List.length_nil]at hkc hfew O v hk600 x |-
 obtain⟨q,r⟩:∃ q,Hid ((Bj a).length=q):=⟨_,(rfl:(Bj a).length=_)⟩;rw[r.out]at hfew;have Q:q<=3:=by
  rw[<- r.out];have h:a=1\/a=2\/a=3\/a=4\/a=5\/a=6\/a=7\/a=8\/a=9\/a=10\/a=11\/a=12:=Ou
  rcases h with rfl|rfl|rfl|rfl|rfl|rfl|rfl|rfl|rfl|rfl|rfl|rfl <;> decide
 have I:Hid (Ag c f ⟨8,a,n,text⟩ s []=(q,[Da a []],(Da a [] != 0))):=by
  simp only[Hid,Ag];rw[if_neg Ov,if_neg Ov,if_neg Ov,if_neg Ov,if_neg Ov,if_neg Ov,if_pos Ov,if_neg (by rw[r.out];simp;omega),Ii,r.out];simp
 unfold Au;rw[I.out];unfold Bp Aw Ah;clear I E x K D;go_enter Tryz.func114,Tryz.ntmps114;obtain rfl:q=0:=Ou
 obtain⟨u,y⟩:∃ u,Hid (Da a []=u):=⟨_,(rfl:Da a []=_)⟩;rw[y.out];have P:(0:Int)<=(kc:Int):=Ou
 have G:wrap64 ((0:Int) - 0)=0:=IntWalk.wrap64_in _ Ou;have U:IntKind.i64.wrap ((0:Int) - 0)=0:=by rw[IntWalk.i64_left];exact G
 have o:Hid (∀ l,OH Z l->(fun w'=>w'.cell? (OJ w 2 1)=some (.int .i64 a)/\w'.cell? (OJ w 3 2)=some (.slice ka 0 kc)) l):=fun l h=>⟨(h.cell (p:=(OJ w 2 1)) (by show w.heap.size+2 < _;have:=z.out;omega)).trans B,(h.cell (p:=(OJ w 3 2)) (by show w.heap.size+3 < _;have:=z.out;omega)).trans v⟩
 have A:(fun w'=>w'.cell? (OJ w 2 1)=some (.int .i64 a)/\w'.cell? (OJ w 3 2)=some (.slice ka 0 kc)) Z:=⟨B,v⟩;have C:(fun w'=>w'.cell? (OJ w 2 1)=some (.int .i64 a)/\w'.cell? (OJ w 3 2)=some (.slice ka 0 kc)) Z.drew:=A;rcases hka with rfl|⟨J,rfl⟩
 ·by_cases hk0:kc=0
  ·subst hk0;go_wp2_with fail;go_at_call 142;refine(Fd a h1 h12 _).mono ?_;rintro e w' ⟨⟨H,rfl⟩,rfl⟩;rw[r.out];go_wp2_with fail;first|(go_region_held (fun w'=>w'.cell? (OJ w 2 1)=some (.int .i64 a)/\w'.cell? (OJ w 3 2)=some (.slice none 0 0)) (with_reducible first|exact A|exact C|exact t) (first|(go_at_call 143;refine(Fc a h1 h12 _ [] OB _ (by exact⟨_,_,rfl,fun i hi=>by simp at hi⟩)).mono ?_;rintro e l ⟨rfl,b⟩;rw[y.out];have j:OH Z l:=⟨b.os,b.tape,b.output,b.size,b.block⟩;have t:=o.out l j)))|fail
   all_goals have d:OH w l:=m.trans (j.mono m.size)
   all_goals go_wp2_with fail
   all_goals go_ret3
   all_goals exact⟨⟨.slice (some (OK l 0)) 1 1,by (first|rfl|(simp;done)|(simp[*];done)|(simp_all;done)|(simp;omega)),Ac.newZ (Z:=l) (hs:=[u]) _ _ rfl⟩,by first|exact Ab d _|exact Below.drew (Ab d _)⟩
  ·have F:(kc == 0)=false:=(by simp[hk0]);go_wp2_with fail;go_at_call 142;refine(Fd a h1 h12 _).mono ?_;rintro e w' ⟨⟨H,rfl⟩,rfl⟩;rw[r.out];go_wp2_with fail;first|(go_region_held (fun w'=>w'.cell? (OJ w 2 1)=some (.int .i64 a)/\w'.cell? (OJ w 3 2)=some (.slice none 0 kc)) (with_reducible first|exact A|exact C|exact t) (first|(go_at_call 143;refine(Fc a h1 h12 _ [] OB _ (by exact⟨_,_,rfl,fun i hi=>by simp at hi⟩)).mono ?_;rintro e l ⟨rfl,b⟩;rw[y.out];have j:OH Z l:=⟨b.os,b.tape,b.output,b.size,b.block⟩;have t:=o.out l j)))|fail
   all_goals have d:OH w l:=m.trans (j.mono m.size)
   all_goals go_wp2_with fail
   all_goals go_ret3
   all_goals exact⟨⟨.slice (some (OK l 0)) 1 1,by (first|rfl|(simp;done)|(simp[*];done)|(simp_all;done)|(simp;omega)),Ac.newZ (Z:=l) (hs:=[u]) _ _ rfl⟩,by first|exact Ab d _|exact Below.drew (Ab d _)⟩
 ·by_cases hk0:kc=0
  ·subst hk0;go_wp2_with fail;go_at_call 142;refine(Fd a h1 h12 _).mono ?_;rintro e w' ⟨⟨H,rfl⟩,rfl⟩;rw[r.out];go_wp2_with fail;first|(go_region_held (fun w'=>w'.cell? (OJ w 2 1)=some (.int .i64 a)/\w'.cell? (OJ w 3 2)=some (.slice (some (OI J 0)) 0 0)) (with_reducible first|exact A|exact C|exact t) (first|(go_at_call 143;refine(Fc a h1 h12 _ [] OB _ (by exact⟨_,_,rfl,fun i hi=>by simp at hi⟩)).mono ?_;rintro e l ⟨rfl,b⟩;rw[y.out];have j:OH Z l:=⟨b.os,b.tape,b.output,b.size,b.block⟩;have t:=o.out l j)))|fail
   all_goals have d:OH w l:=m.trans (j.mono m.size)
   all_goals go_wp2_with fail
   all_goals go_ret3
   all_goals exact⟨⟨.slice (some (OK l 0)) 1 1,by (first|rfl|(simp;done)|(simp[*];done)|(simp_all;done)|(simp;omega)),Ac.newZ (Z:=l) (hs:=[u]) _ _ rfl⟩,by first|exact Ab d _|exact Below.drew (Ab d _)⟩
  ·have F:(kc == 0)=false:=(by simp[hk0]);go_wp2_with fail;go_at_call 142;refine(Fd a h1 h12 _).mono ?_;rintro e w' ⟨⟨H,rfl⟩,rfl⟩;rw[r.out];go_wp2_with fail;first|(go_region_held (fun w'=>w'.cell? (OJ w 2 1)=some (.int .i64 a)/\w'.cell? (OJ w 3 2)=some (.slice (some (OI J 0)) 0 kc)) (with_reducible first|exact A|exact C|exact t) (first|(go_at_call 143;refine(Fc a h1 h12 _ [] OB _ (by exact⟨_,_,rfl,fun i hi=>by simp at hi⟩)).mono ?_;rintro e l ⟨rfl,b⟩;rw[y.out];have j:OH Z l:=⟨b.os,b.tape,b.output,b.size,b.block⟩;have t:=o.out l j)))|fail
   all_goals have d:OH w l:=m.trans (j.mono m.size)
   all_goals go_wp2_with fail
   all_goals go_ret3
   all_goals exact⟨⟨.slice (some (OK l 0)) 1 1,by (first|rfl|(simp;done)|(simp[*];done)|(simp_all;done)|(simp;omega)),Ac.newZ (Z:=l) (hs:=[u]) _ _ rfl⟩,by first|exact Ab d _|exact Below.drew (Ab d _)⟩
end
end Go.Proofs.YtahibkjkpmdhgaaGreatDoor
