import Derived.Test.YtahibkjkpmdhgaaGreatDoorKTk
import Derived.Test.YtahibkjkpmdhgaaGreatDoorKCdL
set_option maxRecDepth 100000
set_option maxHeartbeats 1000000
namespace Go.Proofs.YtahibkjkpmdhgaaGreatDoor
open Go.RowKit
section
variable {c:List Af} {f:Af} {a n:Int} {text:ByteArray} {s k:List Int} {m:Nat} {ca ia sa ka:Option Addr} {cc ic sc kc:Nat} {pv:Value} {w:World} (hk600:k.length<=600) (hS:Ac w.heap.size w (.slice sa s.length sc) s) (hK:Ac w.heap.size w (.slice ka k.length kc) k)
include hk600 hS hK
theorem Zb (hkl:k.length=m+2) (ha0:0<=a) (ha1:a < (c.length:Int)) (hpl:∀ g ∈ c,g.params.length<=8) (hfew:k.length < (c.getD a.toNat A6).params.length) (hC:Al w.heap.size w (.slice ca c.length cc) c):B6 c f pv ca ia sa ka cc ic sc kc s k w ⟨9,a,n,text⟩:=by
 unfold B6;obtain⟨Y1,Y2,Y3,Z,aa,ab,ac,hZ,af,ag,ah,z,X,zc,zf,ak,al,am,Q,E,t⟩:=Co c f 9 a n text s k ca ia sa ka cc ic sc kc pv w hS hK;clear hS hK;obtain⟨y,L⟩:∃ y,k[m]'Ou=y:=⟨_,rfl⟩;obtain⟨x,K⟩:∃ x,k[m+1]'Ou=x:=⟨_,rfl⟩;have W:Hid (A3 k=x):=by
  rw[Hid,A3,List.getLast?_eq_getElem?,hkl,show m+2 - 1=m+1 by omega,List.getElem?_eq_getElem Ou,K];rfl
 have B:Hid (An k=y):=by
  rw[Hid,An,List.getLast?_eq_getElem?,List.length_take,hkl,show min (m+2 - 1) (m+2) - 1=m by omega,List.getElem?_take_of_lt Ou,List.getElem?_eq_getElem Ou,L];rfl
 obtain⟨gk,ok,rfl,_,ky,kx⟩:∃ g o,ka=some (OI g o)/\g < w.heap.size/\Z.cell? (OI g (o+m))=some (.int .i64 y)/\Z.cell? (OI g (o+(m+1)))=some (.int .i64 x):=by
  obtain⟨a',cp,he,U⟩:=t.out;injection he with e1;subst e1;obtain⟨g,o,T,hg,A⟩:=U m Ou;obtain⟨g2,o2,v,ad,F⟩:=U (m+1) Ou;rw[T]at v;injection v with e;injection e with e1 e2
  subst e1 e2;exact⟨g,o,T,hg,by rw[A,L],by rw[F,K]⟩
 have h:Hid (k.length=m+2):=hkl;rw[h.out]at hfew hZ Q hk600 t |-
 clear hkl K L;have ai:wrap64 ((m:Int)+2 - 1)=(m:Int)+1:=by rw[IntWalk.wrap64_in _ Ou];omega
 have aj:wrap64 ((m:Int)+2 - 2)=(m:Int):=by rw[IntWalk.wrap64_in _ Ou];omega
 obtain⟨j,rfl⟩:∃ j:Nat,a=(j:Int):=⟨a.toNat,by omega⟩;have I:j < c.length:=Ou
 obtain⟨gc,u,O,P,M,N,V,ae,c0,A,F,c3,c4,G,_⟩:=(hC.below z).fn j I;obtain⟨rfl,rfl⟩:ca=some (OI gc 0)/\cc=u:=by injection V with e1 e2 e3;exact⟨e1,e3⟩
 obtain⟨b,l⟩:∃ b,Hid (c[j]=b):=⟨_,(rfl:c[j]=_)⟩;rw[l.out]at c0 A F c3 c4 G;have J:b.params.length<=8:=by rw[<- l.out];exact hpl _ (List.getElem_mem I)
 clear hpl;have r:Hid (c.getD j A6=b):=by rw[Hid,List.getD_eq_getElem?_getD,List.getElem?_eq_getElem I,l.out];rfl
 have C:Hid (Ac w.heap.size Z (.slice O b.params.length P) b.params):=G;obtain⟨q,D⟩:∃ q,Hid (b.params.length=q):=⟨_,(rfl:b.params.length=_)⟩;rw[D.out]at A J C;clear G V;obtain⟨p,d⟩:∃ Y,Z.alloc (.cells #[.string b.name,.slice O q P,.int .i64 b.result,.int .i64 b.slots,.slice M b.ins.length N] 130)=Y:=⟨_,rfl⟩;have i:OH w p:=by rw[<- d];exact Ab z _
 have S:Hid (p.heap.size=Z.heap.size+1):=by rw[Hid,<- d];exact World.size_alloc _ _
 have y1:p.cell? (OK Z 1)=some (.slice O q P):=by rw[<- d];exact Bk Z _ _ 1 _ rfl
 have y2:p.cell? (OK Z 2)=some (.int .i64 b.result):=by rw[<- d];exact Bk Z _ _ 2 _ rfl
 have H:m+2 < q:=by simpa only[r.out,D.out,Int.toNat_natCast]using hfew
 clear hfew;have R:Hid (Ag c f ⟨9,(j:Int),n,text⟩ s k=(0,[],false)):=by
  simp only[Hid,Ag];rw[if_neg Ov,if_neg Ov,if_neg Ov,if_neg Ov,if_neg Ov,if_neg Ov,if_neg Ov,if_pos Ov];show (if (k:List Int).length < (c.getD (Int.toNat (j:Int)) A6).params.length then _ else _)=_
  simp only[Int.toNat_natCast,r.out,D.out];rw[if_pos (by rw[h.out];exact H)]
 unfold Au;rw[R.out];unfold Bp Aw Ah;clear R E W B;go_enter Tryz.func114,Tryz.ntmps114;go_wp2_with fail;all_goals go_ret3
 all_goals exact⟨⟨.slice (some (OK p 0)) 0 0,by (first|rfl|(simp;done)|(simp[*];done)|(simp_all;done)|(simp;omega)),Ac.newZ (Z:=p) (hs:=[]) _ _ rfl⟩,by first|exact Ab i _|exact Below.drew (Ab i _)⟩
theorem Qbi (hkl:k.length=m+2) (ha0:0<=a) (ha1:a < (c.length:Int)) (hpl:∀ g ∈ c,g.params.length<=8) (hfew:(c.getD a.toNat A6).params.length<=k.length) (hC:Al w.heap.size w (.slice ca c.length cc) c):B6 c f pv ca ia sa ka cc ic sc kc s k w ⟨9,a,n,text⟩:=by
 unfold B6;obtain⟨Y1,Y2,Y3,Z,a7,a8,a9,hZ,bi,bj,bk,ae,P,zc,zf,bm,bn,bo,al,aq,G⟩:=Co c f 9 a n text s k ca ia sa ka cc ic sc kc pv w hS hK;clear hS hK;obtain⟨y,hy⟩:∃ y,k[m]'Ou=y:=⟨_,rfl⟩;obtain⟨x,hx⟩:∃ x,k[m+1]'Ou=x:=⟨_,rfl⟩;have HT:Hid (A3 k=x):=by
  rw[Hid,A3,List.getLast?_eq_getElem?,hkl,show m+2 - 1=m+1 by omega,List.getElem?_eq_getElem Ou,hx];rfl
 have am:Hid (An k=y):=by
  rw[Hid,An,List.getLast?_eq_getElem?,List.length_take,hkl,show min (m+2 - 1) (m+2) - 1=m by omega,List.getElem?_take_of_lt Ou,List.getElem?_eq_getElem Ou,hy];rfl
 obtain⟨gk,ok,rfl,_,ky,kx⟩:∃ g o,ka=some (OI g o)/\g < w.heap.size/\Z.cell? (OI g (o+m))=some (.int .i64 y)/\Z.cell? (OI g (o+(m+1)))=some (.int .i64 x):=by
  obtain⟨a',cp,E,U⟩:=G.out;injection E with e1;subst e1;obtain⟨g,o,T,hg,c1⟩:=U m Ou;obtain⟨g2,o2,ad,be,c2⟩:=U (m+1) Ou;rw[T]at ad;injection ad with e;injection e with e1 e2
  subst e1 e2;exact⟨g,o,T,hg,by rw[c1,hy],by rw[c2,hx]⟩
 have d:Hid (k.length=m+2):=hkl;rw[d.out]at hfew hZ al hk600 G |-
 clear hkl hx hy;have az:wrap64 ((m:Int)+2 - 1)=(m:Int)+1:=by rw[IntWalk.wrap64_in _ Ou];omega
 have a0:wrap64 ((m:Int)+2 - 2)=(m:Int):=by rw[IntWalk.wrap64_in _ Ou];omega
 obtain⟨j,rfl⟩:∃ j:Nat,a=(j:Int):=⟨a.toNat,by omega⟩;have hj:j < c.length:=Ou
 obtain⟨gc,ac,pa,pc,a3,a4,hv,bf,c0,c1,c2,c3,c4,hP,_⟩:=(hC.below ae).fn j hj;obtain⟨rfl,rfl⟩:ca=some (OI gc 0)/\cc=ac:=by injection hv with e1 e2 e3;exact⟨e1,e3⟩
 obtain⟨b,L⟩:∃ b,Hid (c[j]=b):=⟨_,(rfl:c[j]=_)⟩;rw[L.out]at c0 c1 c2 c3 c4 hP;have av:b.params.length<=8:=by rw[<- L.out];exact hpl _ (List.getElem_mem hj)
 clear hpl;have W:Hid (c.getD j A6=b):=by rw[Hid,List.getD_eq_getElem?_getD,List.getElem?_eq_getElem hj,L.out];rfl
 have N:Hid (Ac w.heap.size Z (.slice pa b.params.length pc) b.params):=hP;obtain⟨q,X⟩:∃ q,Hid (b.params.length=q):=⟨_,(rfl:b.params.length=_)⟩;rw[X.out]at c1 av N;clear hP hv;obtain⟨F,z⟩:∃ Y,Z.alloc (.cells #[.string b.name,.slice pa q pc,.int .i64 b.result,.int .i64 b.slots,.slice a3 b.ins.length a4] 130)=Y:=⟨_,rfl⟩;have af:OH w F:=by rw[<- z];exact Ab ae _
 have ab:Hid (F.heap.size=Z.heap.size+1):=by rw[Hid,<- z];exact World.size_alloc _ _
 have y1:F.cell? (OK Z 1)=some (.slice pa q pc):=by rw[<- z];exact Bk Z _ _ 1 _ rfl
 have y2:F.cell? (OK Z 2)=some (.int .i64 b.result):=by rw[<- z];exact Bk Z _ _ 2 _ rfl
 have bc:q<=m+2:=by simpa only[W.out,X.out,Int.toNat_natCast]using hfew
 clear hfew;obtain⟨tq,J⟩:∃ t,Hid ((if (k).drop (m+2 - q)=b.params then q else 0)=t):=⟨_,(rfl:(if (k).drop (m+2 - q)=b.params then q else 0)=_)⟩;obtain⟨tl,I⟩:∃ t,Hid ((if (k).drop (m+2 - q)=b.params then (if b.result=0 then [] else [b.result]) else ([]:List Int))=t):=⟨_,(rfl:(if (k).drop (m+2 - q)=b.params then (if b.result=0 then [] else [b.result]) else ([]:List Int))=_)⟩;obtain⟨tb,H⟩:∃ t,Hid (decide ((k).drop (m+2 - q)=b.params)=t):=⟨_,(rfl:decide ((k).drop (m+2 - q)=b.params)=_)⟩;have HG:Hid (Ag c f ⟨9,(j:Int),n,text⟩ s k=(tq,tl,tb)):=by
  simp only[Hid,Ag];rw[if_neg Ov,if_neg Ov,if_neg Ov,if_neg Ov,if_neg Ov,if_neg Ov,if_neg Ov,if_pos Ov];show (if (k:List Int).length < (c.getD (Int.toNat (j:Int)) A6).params.length then _ else _)=_
  simp only[Int.toNat_natCast,W.out,X.out];rw[if_neg (by rw[d.out];omega),d.out,<- J.out,<- I.out,<- H.out];show (if (k).drop (m+2 - q)=b.params then _ else _)=_
  split
  ·rename_i hh
   simp only[decide_eq_true hh];first|rfl|(simp[*];done)|skip
  ·rename_i hh
   simp only[decide_eq_false hh];first|rfl|(simp[*];done)|skip
 unfold Au;rw[HG.out];unfold Bp Aw Ah;clear HG aq HT am;go_enter Tryz.func114,Tryz.ntmps114;have ba:decide ((0:Int) < (m:Int)+2)=true:=by simp;omega
 have bb:decide ((1:Int) < (m:Int)+2)=true:=by simp;omega
 have a6:m+2 - 1=m+1:=rfl;obtain⟨r,hr⟩:∃ r,m+2=r+q:=⟨m+2 - q,by omega⟩;have ai:wrap64 ((m:Int)+2 - (q:Int))=(r:Int):=by rw[IntWalk.wrap64_in _ Ou];omega
 have a1:IntKind.i64.wrap ((m:Int)+2 - (q:Int))=(r:Int):=by rw[IntWalk.i64_left];exact ai
 have O:Hid (m+2=r+q):=hr;have aa:Hid (r=m+2 - q):=by rw[Hid];omega
 clear hr;have an:Hid (∀ i,i < q->∃ g1 o1 y1,((some (OI gk ok)):Option Addr)=some (OI g1 o1)/\g1 < w.heap.size/\F.cell? (OI g1 (o1+(r+i)))=some (.int .i64 y1)/\((k).drop r)[i]? = some y1):=fun i hi=>by
  obtain⟨a',cp,E,U⟩:=G.out;injection E with e1;subst e1;have hl:r+i < (k).length:=by have:=O.out;have:=d.out;omega
  obtain⟨g,o,T,hg,A⟩:=U (r+i) hl;refine⟨g,o,(k)[r+i],T,hg, ?_,by rw[List.getElem?_drop,List.getElem?_eq_getElem hl]⟩;rw[<- z,Below.cell (Ao Z _) (p:=(OI g (o+(r+i)))) (by show g < _;have:=P.out;omega)];exact A
 have ap:Hid (∀ i (hi:i < b.params.length),∃ gp op,pa=some (OI gp op)/\gp < w.heap.size/\F.cell? (OI gp (op+i))=some (.int .i64 b.params[i])):=fun i hi=>by
  obtain⟨a',cp,E,U⟩:=N.out;injection E with e1;subst e1;obtain⟨g,o,T,hg,A⟩:=U i hi;refine⟨g,o,T,hg, ?_⟩;rw[<- z,Below.cell (Ao Z _) (p:=(OI g (o+i))) (by show g < _;have:=P.out;omega)];exact A
 have ao:Hid (((k).drop r).length=q):=by rw[Hid,List.length_drop,d.out];have:=O.out;omega
 have a5:F.cell? (OJ w 3 2)=some (.slice (some (OI gk ok)) (m+2) kc):=by rw[<- z,Below.cell (Ao Z _) (p:=(OJ w 3 2)) (by show w.heap.size+3 < _;have:=P.out;omega)];exact al
 clear G N;go_wp2_with fail;go_loopw [21] (fun t wr => ∃ i qd:Nat,i<=q/\t = .int .i64 (i:Int)/\wr=F.drewN qd/\∀ u,u < i->((k).drop r)[u]? = b.params[u]?) (fun t _=>q - (intOf t).toNat);case atStart=>exact⟨0,0,by omega,rfl,rfl,fun u V=>Ou⟩
 case round =>
  obtain⟨i,qd,hi,rfl,ag,V⟩:=hrel;have l:Hid (wr=F.drewN qd):=ag;clear ag;have v:OH w wr:=by rw[l.out];exact B9 _ af
  have bl:wr.cell? (OK Z 1)=some (.slice pa q pc):=by rw[l.out];exact y1
  have R:wr.cell? (OK Z 2)=some (.int .i64 b.result):=by rw[l.out];exact y2
  have bp:wr.cell? (OJ w 3 2)=some (.slice (some (OI gk ok)) (m+2) kc):=by rw[l.out];exact a5
  by_cases hlt:i < q
  ·obtain⟨g1,o1,yv,ar,bd,B,D⟩:=an.out i hlt;obtain⟨rfl,rfl⟩:gk=g1/\ok=o1:=by injection ar with e;injection e with e1 e2;exact⟨e1,e2⟩
   have Q:i < b.params.length:=(by rw[X.out];exact hlt);obtain⟨gp,op,rfl,bg,C⟩:=ap.out i Q;have k9:wr.cell? (OI gk (ok+(r+i)))=some (.int .i64 yv):=(by rw[l.out];exact B);have p9:wr.cell? (OI gp (op+i))=some (.int .i64 b.params[i]):=(by rw[l.out];exact C);have ax:(r:Int)+(i:Int) < (m:Int)+2:=(by have:=O.out;omega);have aj:wrap64 ((r:Int)+(i:Int))=(r:Int)+(i:Int):=IntWalk.wrap64_in _ Ou;have a2:IntKind.i64.wrap ((r:Int)+(i:Int))=(r:Int)+(i:Int):=(by rw[IntWalk.i64_left];exact aj);have ah:(0:Int)<=(r:Int)+(i:Int):=Int.add_nonneg (Int.natCast_nonneg r) (Int.natCast_nonneg i);have ay:((r:Int)+(i:Int)).toNat=r+i:=(by rw[<- Int.natCast_add,Int.toNat_natCast]);have bh:(i:Int) < (q:Int):=Int.ofNat_lt.2 hlt;by_cases E:yv=b.params[i]
   ·have HU:Hid (∀ u,u < i+1->((k).drop r)[u]? = b.params[u]?):=fun u h=>by
     by_cases e:u=i
     ·subst e;rw[D,List.getElem?_eq_getElem Q,E]
     ·exact V u Ou
    clear V B C D;subst E;generalize b.params[i]=pi at *;have au:(pi != pi)=false:=OB;go_wp2_with fail;go_quiet (fail);clear ai a1 aj a2 ax ah ay az a0;go_wp2_with fail;refine⟨⟨_,_,_,.int .i64 ((i:Int)+1),_,_,_,_,_,_,_,_,_,_,_,_,_,_,_,_,_,_,_,_,_,⟨i+1,_,by omega,by go_num,by rw[l.out,World.drewN_drewN],HU.out⟩,rfl⟩,by simp[intOf];omega⟩
   ·have M:Hid (¬ (k).drop (m+2 - q)=b.params):=fun e=>E (by rw[<- aa.out]at e;rw[e,List.getElem?_eq_getElem Q]at D;injection D with h;exact h.symm)
    have au:(yv != b.params[i])=true:=(by simp[E]);generalize b.params[i]=pi at *;clear V B C D E;go_wp2_with fail;go_quiet (fail);go_wp2_with fail;all_goals go_ret3
    all_goals rw[<- J.out,<- I.out,<- H.out,if_neg M.out,if_neg M.out,decide_eq_false M.out]
    all_goals exact⟨⟨.slice (some (OK wr 0)) 0 0,by (first|rfl|(simp;done)|(simp[*];done)|(simp_all;done)|(simp;omega)),Ac.newZ (Z:=wr) (hs:=[]) _ _ rfl⟩,by first|exact Ab v _|exact Below.drew (Ab v _)|exact B9 _ (Ab v _)|exact Ab (B9 _ v) _⟩
  ·have K:(k).drop r=b.params:=by
    refine List.ext_getElem? (fun u => ?_);by_cases h:u < q
    ·exact V u Ou
    ·rw[List.getElem?_eq_none (by rw[ao.out];omega),List.getElem?_eq_none (by rw[X.out];omega)]
   have S:Hid ((k).drop (m+2 - q)=b.params):=(by rw[Hid,<- aa.out];exact K);clear V K;by_cases hres:b.result=0
   ·have aw:(b.result == 0)=true:=(by simp[hres]);go_wp2_with fail;all_goals go_ret3
    all_goals rw[<- J.out,<- I.out,<- H.out,if_pos S.out,if_pos S.out,if_pos hres,decide_eq_true S.out]
    all_goals exact⟨⟨.slice (some (OK wr 0)) 0 0,by (first|rfl|(simp;done)|(simp[*];done)|(simp_all;done)|(simp;omega)),Ac.newZ (Z:=wr) (hs:=[]) _ _ rfl⟩,by first|exact Ab v _|exact Below.drew (Ab v _)⟩
   ·have aw:(b.result == 0)=false:=(by simp[hres]);have S0:wr.cell? (OK Z 2)=some (.int .i64 b.result):=R;have S1:wr.drew.cell? (OK Z 2)=some (.int .i64 b.result):=R;have ak:Z.heap.size < wr.heap.size:=by rw[l.out];show Z.heap.size < F.heap.size;have:=ab.out;omega
    have S2:∀ o:Obj,(wr.alloc o).cell? (OK Z 2)=some (.int .i64 b.result):=fun o=>((Ao wr o).cell (p:=(OK Z 2)) ak).trans R
    have S3:∀ o:Obj,(wr.drew.alloc o).cell? (OK Z 2)=some (.int .i64 b.result):=fun o=>S2 o
    have S4:∀ o:Obj,(wr.alloc o).drew.cell? (OK Z 2)=some (.int .i64 b.result):=fun o=>S2 o
    clear ak;go_wp2_with fail;go_region_held3 (fun w'=>w'.cell? (OK Z 2)=some (.int .i64 b.result)) (with_reducible first|exact S0|exact S1|exact S2 _|exact S3 _|exact S4 _) (fail);all_goals go_wp2_with fail
    all_goals go_ret3
    all_goals rw[<- J.out,<- I.out,<- H.out,if_pos S.out,if_pos S.out,if_neg hres,decide_eq_true S.out]
    all_goals exact⟨⟨.slice (some (OK wr 0)) 1 1,by (first|rfl|(simp;done)|(simp[*];done)|(simp_all;done)|(simp;omega)),Ac.newZ (Z:=wr) (hs:=[b.result]) _ _ rfl⟩,by first|exact Ab v _|exact Below.drew (Ab v _)⟩
theorem Za (hkl:k.length=1) (ha0:0<=a) (ha1:a < (c.length:Int)) (hpl:∀ g ∈ c,g.params.length<=8) (hfew:k.length < (c.getD a.toNat A6).params.length) (hC:Al w.heap.size w (.slice ca c.length cc) c):B6 c f pv ca ia sa ka cc ic sc kc s k w ⟨9,a,n,text⟩:=by
 unfold B6;obtain⟨Y1,Y2,Y3,Z,W,X,aa,hZ,ac,ad,ae,u,Q,zc,zf,af,ag,ah,K,B,p⟩:=Co c f 9 a n text s k ca ia sa ka cc ic sc kc pv w hS hK;clear hS hK;obtain⟨x,rfl⟩:∃ x,k=[x]:=by
  cases k with
  | nil=>simp at hkl
  | cons x r=>cases r with
   | nil=>exact⟨x,rfl⟩
   | cons y q=>simp at hkl
 have P:Hid (A3 [x]=x):=(rfl:A3 [x]=x);have v:Hid (An [x]=0):=(rfl:An [x]=0);obtain⟨gk,ok,rfl,_,kx⟩:∃ g o,ka=some (OI g o)/\g < w.heap.size/\Z.cell? (OI g o)=some (.int .i64 x):=by
  obtain⟨a',cp,he,hc⟩:=p.out;injection he with e1;subst e1;exact hc 0 OB
 simp only[List.length_cons,List.length_nil,Nat.zero_add]at hfew hZ K hk600 p |-
 obtain⟨j,rfl⟩:∃ j:Nat,a=(j:Int):=⟨a.toNat,by omega⟩;have E:j < c.length:=Ou
 obtain⟨V,t,I,J,G,H,O,ab,R,N,S,T,U,C,_⟩:=(hC.below u).fn j E;obtain⟨rfl,rfl⟩:ca=some (OI V 0)/\cc=t:=by injection O with e1 e2 e3;exact⟨e1,e3⟩
 obtain⟨b,i⟩:∃ b,Hid (c[j]=b):=⟨_,(rfl:c[j]=_)⟩;rw[i.out]at R N S T U C;have F:b.params.length<=8:=by rw[<- i.out];exact hpl _ (List.getElem_mem E)
 clear hpl;have m:Hid (c.getD j A6=b):=by rw[Hid,List.getD_eq_getElem?_getD,List.getElem?_eq_getElem E,i.out];rfl
 have z:Hid (Ac w.heap.size Z (.slice I b.params.length J) b.params):=C;obtain⟨q,A⟩:∃ q,Hid (b.params.length=q):=⟨_,(rfl:b.params.length=_)⟩;rw[A.out]at N F z;clear C O;obtain⟨l,d⟩:∃ Y,Z.alloc (.cells #[.string b.name,.slice I q J,.int .i64 b.result,.int .i64 b.slots,.slice G b.ins.length H] 130)=Y:=⟨_,rfl⟩;have h:OH w l:=by rw[<- d];exact Ab u _
 have M:Hid (l.heap.size=Z.heap.size+1):=by rw[Hid,<- d];exact World.size_alloc _ _
 have y1:l.cell? (OK Z 1)=some (.slice I q J):=by rw[<- d];exact Bk Z _ _ 1 _ rfl
 have y2:l.cell? (OK Z 2)=some (.int .i64 b.result):=by rw[<- d];exact Bk Z _ _ 2 _ rfl
 have D:1 < q:=by simpa only[m.out,A.out,Int.toNat_natCast]using hfew
 clear hfew;have L:Hid (Ag c f ⟨9,(j:Int),n,text⟩ s [x]=(0,[],false)):=by
  simp only[Hid,Ag];rw[if_neg Ov,if_neg Ov,if_neg Ov,if_neg Ov,if_neg Ov,if_neg Ov,if_neg Ov,if_pos Ov];show (if ([x]:List Int).length < (c.getD (Int.toNat (j:Int)) A6).params.length then _ else _)=_
  simp only[Int.toNat_natCast,m.out,A.out];rw[if_pos (by rw[(rfl:[x].length=1)];exact D)]
 unfold Au;rw[L.out];unfold Bp Aw Ah;clear L B P v;go_enter Tryz.func114,Tryz.ntmps114;go_wp2_with fail;all_goals go_ret3
 all_goals exact⟨⟨.slice (some (OK l 0)) 0 0,by (first|rfl|(simp;done)|(simp[*];done)|(simp_all;done)|(simp;omega)),Ac.newZ (Z:=l) (hs:=[]) _ _ rfl⟩,by first|exact Ab h _|exact Below.drew (Ab h _)⟩
theorem Qbh (hkl:k.length=1) (ha0:0<=a) (ha1:a < (c.length:Int)) (hpl:∀ g ∈ c,g.params.length<=8) (hfew:(c.getD a.toNat A6).params.length<=k.length) (hC:Al w.heap.size w (.slice ca c.length cc) c):B6 c f pv ca ia sa ka cc ic sc kc s k w ⟨9,a,n,text⟩:=by
 unfold B6;obtain⟨Y1,Y2,Y3,Z,a0,a1,a2,hZ,a8,a9,ba,aa,N,zc,zf,bc,bd,be,ah,am,E⟩:=Co c f 9 a n text s k ca ia sa ka cc ic sc kc pv w hS hK;clear hS hK;obtain⟨x,rfl⟩:∃ x,k=[x]:=by
  cases k with
  | nil=>simp at hkl
  | cons x r=>cases r with
   | nil=>exact⟨x,rfl⟩
   | cons y q=>simp at hkl
 have HT:Hid (A3 [x]=x):=(rfl:A3 [x]=x);have ai:Hid (An [x]=0):=(rfl:An [x]=0);obtain⟨gk,ok,rfl,_,kx⟩:∃ g o,ka=some (OI g o)/\g < w.heap.size/\Z.cell? (OI g o)=some (.int .i64 x):=by
  obtain⟨a',cp,C,hc⟩:=E.out;injection C with e1;subst e1;exact hc 0 OB
 simp only[List.length_cons,List.length_nil,Nat.zero_add]at hfew hZ ah hk600 E |-
 obtain⟨j,rfl⟩:∃ j:Nat,a=(j:Int):=⟨a.toNat,by omega⟩;have hj:j < c.length:=Ou
 obtain⟨gc,W,pa,pc,ax,ay,hv,a5,c0,c1,c2,c3,c4,hP,_⟩:=(hC.below aa).fn j hj;obtain⟨rfl,rfl⟩:ca=some (OI gc 0)/\cc=W:=by injection hv with e1 e2 e3;exact⟨e1,e3⟩
 obtain⟨b,J⟩:∃ b,Hid (c[j]=b):=⟨_,(rfl:c[j]=_)⟩;rw[J.out]at c0 c1 c2 c3 c4 hP;have ap:b.params.length<=8:=by rw[<- J.out];exact hpl _ (List.getElem_mem hj)
 clear hpl;have S:Hid (c.getD j A6=b):=by rw[Hid,List.getD_eq_getElem?_getD,List.getElem?_eq_getElem hj,J.out];rfl
 have L:Hid (Ac w.heap.size Z (.slice pa b.params.length pc) b.params):=hP;obtain⟨q,T⟩:∃ q,Hid (b.params.length=q):=⟨_,(rfl:b.params.length=_)⟩;rw[T.out]at c1 ap L;clear hP hv;obtain⟨D,m⟩:∃ Y,Z.alloc (.cells #[.string b.name,.slice pa q pc,.int .i64 b.result,.int .i64 b.slots,.slice ax b.ins.length ay] 130)=Y:=⟨_,rfl⟩;have ab:OH w D:=by rw[<- m];exact Ab aa _
 have V:Hid (D.heap.size=Z.heap.size+1):=by rw[Hid,<- m];exact World.size_alloc _ _
 have y1:D.cell? (OK Z 1)=some (.slice pa q pc):=by rw[<- m];exact Bk Z _ _ 1 _ rfl
 have y2:D.cell? (OK Z 2)=some (.int .i64 b.result):=by rw[<- m];exact Bk Z _ _ 2 _ rfl
 have a3:q<=1:=by simpa only[S.out,T.out,Int.toNat_natCast]using hfew
 clear hfew;obtain⟨tq,H⟩:∃ t,Hid ((if ([x]).drop (1 - q)=b.params then q else 0)=t):=⟨_,(rfl:(if ([x]).drop (1 - q)=b.params then q else 0)=_)⟩;obtain⟨tl,G⟩:∃ t,Hid ((if ([x]).drop (1 - q)=b.params then (if b.result=0 then [] else [b.result]) else ([]:List Int))=t):=⟨_,(rfl:(if ([x]).drop (1 - q)=b.params then (if b.result=0 then [] else [b.result]) else ([]:List Int))=_)⟩;obtain⟨tb,F⟩:∃ t,Hid (decide (([x]).drop (1 - q)=b.params)=t):=⟨_,(rfl:decide (([x]).drop (1 - q)=b.params)=_)⟩;have HG:Hid (Ag c f ⟨9,(j:Int),n,text⟩ s [x]=(tq,tl,tb)):=by
  simp only[Hid,Ag];rw[if_neg Ov,if_neg Ov,if_neg Ov,if_neg Ov,if_neg Ov,if_neg Ov,if_neg Ov,if_pos Ov];show (if ([x]:List Int).length < (c.getD (Int.toNat (j:Int)) A6).params.length then _ else _)=_
  simp only[Int.toNat_natCast,S.out,T.out];rw[if_neg (by rw[(rfl:[x].length=1)];omega),(rfl:[x].length=1),<- H.out,<- G.out,<- F.out];show (if ([x]).drop (1 - q)=b.params then _ else _)=_
  split
  ·rename_i hh
   simp only[decide_eq_true hh];first|rfl|(simp[*];done)|skip
  ·rename_i hh
   simp only[decide_eq_false hh];first|rfl|(simp[*];done)|skip
 unfold Au;rw[HG.out];unfold Bp Aw Ah;clear HG am HT ai;go_enter Tryz.func114,Tryz.ntmps114;obtain⟨r,hr⟩:∃ r,1=r+q:=⟨1 - q,by omega⟩;have ae:wrap64 ((1:Int) - (q:Int))=(r:Int):=by rw[IntWalk.wrap64_in _ Ou];omega
 have av:IntKind.i64.wrap ((1:Int) - (q:Int))=(r:Int):=by rw[IntWalk.i64_left];exact ae
 have M:Hid (1=r+q):=hr;have U:Hid (r=1 - q):=by rw[Hid];omega
 clear hr;have aj:Hid (∀ i,i < q->∃ X o1 y1,((some (OI gk ok)):Option Addr)=some (OI X o1)/\X < w.heap.size/\D.cell? (OI X (o1+(r+i)))=some (.int .i64 y1)/\(([x]).drop r)[i]? = some y1):=fun i hi=>by
  obtain⟨a',cp,C,hc⟩:=E.out;injection C with e1;subst e1;have hl:r+i < ([x]).length:=by have:=M.out;have:=(rfl:[x].length=1);omega
  obtain⟨g,o,ha,hg,v⟩:=hc (r+i) hl;refine⟨g,o,([x])[r+i],ha,hg, ?_,by rw[List.getElem?_drop,List.getElem?_eq_getElem hl]⟩;rw[<- m,Below.cell (Ao Z _) (p:=(OI g (o+(r+i)))) (by show g < _;have:=N.out;omega)];exact v
 have al:Hid (∀ i (hi:i < b.params.length),∃ gp op,pa=some (OI gp op)/\gp < w.heap.size/\D.cell? (OI gp (op+i))=some (.int .i64 b.params[i])):=fun i hi=>by
  obtain⟨a',cp,C,hc⟩:=L.out;injection C with e1;subst e1;obtain⟨g,o,ha,hg,v⟩:=hc i hi;refine⟨g,o,ha,hg, ?_⟩;rw[<- m,Below.cell (Ao Z _) (p:=(OI g (o+i))) (by show g < _;have:=N.out;omega)];exact v
 have ak:Hid ((([x]).drop r).length=q):=by rw[Hid,List.length_drop,(rfl:[x].length=1)];have:=M.out;omega
 have az:D.cell? (OJ w 3 2)=some (.slice (some (OI gk ok)) (1) kc):=by rw[<- m,Below.cell (Ao Z _) (p:=(OJ w 3 2)) (by show w.heap.size+3 < _;have:=N.out;omega)];exact ah
 clear E L;go_wp2_with fail;go_loopw [21] (fun t wr => ∃ i qd:Nat,i<=q/\t = .int .i64 (i:Int)/\wr=D.drewN qd/\∀ u,u < i->(([x]).drop r)[u]? = b.params[u]?) (fun t _=>q - (intOf t).toNat);case atStart=>exact⟨0,0,by omega,rfl,rfl,fun u R=>Ou⟩
 case round =>
  obtain⟨i,qd,hi,rfl,ac,R⟩:=hrel;have d:Hid (wr=D.drewN qd):=ac;clear ac;have l:OH w wr:=by rw[d.out];exact B9 _ ab
  have bb:wr.cell? (OK Z 1)=some (.slice pa q pc):=by rw[d.out];exact y1
  have P:wr.cell? (OK Z 2)=some (.int .i64 b.result):=by rw[d.out];exact y2
  have bf:wr.cell? (OJ w 3 2)=some (.slice (some (OI gk ok)) (1) kc):=by rw[d.out];exact az
  by_cases hlt:i < q
  ·obtain⟨X,o1,yv,an,a4,z,B⟩:=aj.out i hlt;obtain⟨rfl,rfl⟩:gk=X/\ok=o1:=by injection an with e;injection e with e1 e2;exact⟨e1,e2⟩
   have O:i < b.params.length:=(by rw[T.out];exact hlt);obtain⟨gp,op,rfl,a6,A⟩:=al.out i O;have k9:wr.cell? (OI gk (ok+(r+i)))=some (.int .i64 yv):=(by rw[d.out];exact z);have p9:wr.cell? (OI gp (op+i))=some (.int .i64 b.params[i]):=(by rw[d.out];exact A);have ar:(r:Int)+(i:Int) < (1:Int):=(by have:=M.out;omega);have af:wrap64 ((r:Int)+(i:Int))=(r:Int)+(i:Int):=IntWalk.wrap64_in _ Ou;have aw:IntKind.i64.wrap ((r:Int)+(i:Int))=(r:Int)+(i:Int):=(by rw[IntWalk.i64_left];exact af);have ad:(0:Int)<=(r:Int)+(i:Int):=Int.add_nonneg (Int.natCast_nonneg r) (Int.natCast_nonneg i);have au:((r:Int)+(i:Int)).toNat=r+i:=(by rw[<- Int.natCast_add,Int.toNat_natCast]);have a7:(i:Int) < (q:Int):=Int.ofNat_lt.2 hlt;by_cases C:yv=b.params[i]
   ·have HU:Hid (∀ u,u < i+1->(([x]).drop r)[u]? = b.params[u]?):=fun u h=>by
     by_cases e:u=i
     ·subst e;rw[B,List.getElem?_eq_getElem O,C]
     ·exact R u Ou
    clear R z A B;subst C;generalize b.params[i]=pi at *;have ao:(pi != pi)=false:=OB;go_wp2_with fail;go_quiet (fail);clear ae av af aw ar ad au;go_wp2_with fail;go_roundw;case rel=>exact⟨i+1,_,by omega,by go_num,by rw[d.out,World.drewN_drewN],HU.out⟩
    case measure=>simp[intOf];omega
   ·have K:Hid (¬ ([x]).drop (1 - q)=b.params):=fun e=>C (by rw[<- U.out]at e;rw[e,List.getElem?_eq_getElem O]at B;injection B with h;exact h.symm)
    have ao:(yv != b.params[i])=true:=(by simp[C]);generalize b.params[i]=pi at *;clear R z A B C;go_wp2_with fail;go_quiet (fail);go_wp2_with fail;all_goals go_ret3
    all_goals rw[<- H.out,<- G.out,<- F.out,if_neg K.out,if_neg K.out,decide_eq_false K.out]
    all_goals exact⟨⟨.slice (some (OK wr 0)) 0 0,by (first|rfl|(simp;done)|(simp[*];done)|(simp_all;done)|(simp;omega)),Ac.newZ (Z:=wr) (hs:=[]) _ _ rfl⟩,by first|exact Ab l _|exact Below.drew (Ab l _)|exact B9 _ (Ab l _)|exact Ab (B9 _ l) _⟩
  ·have I:([x]).drop r=b.params:=by
    refine List.ext_getElem? (fun u => ?_);by_cases h:u < q
    ·exact R u Ou
    ·rw[List.getElem?_eq_none (by rw[ak.out];omega),List.getElem?_eq_none (by rw[T.out];omega)]
   have Q:Hid (([x]).drop (1 - q)=b.params):=(by rw[Hid,<- U.out];exact I);clear R I;by_cases hres:b.result=0
   ·have aq:(b.result == 0)=true:=(by simp[hres]);go_wp2_with fail;all_goals go_ret3
    all_goals rw[<- H.out,<- G.out,<- F.out,if_pos Q.out,if_pos Q.out,if_pos hres,decide_eq_true Q.out]
    all_goals exact⟨⟨.slice (some (OK wr 0)) 0 0,by (first|rfl|(simp;done)|(simp[*];done)|(simp_all;done)|(simp;omega)),Ac.newZ (Z:=wr) (hs:=[]) _ _ rfl⟩,by first|exact Ab l _|exact Below.drew (Ab l _)⟩
   ·have aq:(b.result == 0)=false:=(by simp[hres]);have S0:wr.cell? (OK Z 2)=some (.int .i64 b.result):=P;have S1:wr.drew.cell? (OK Z 2)=some (.int .i64 b.result):=P;have ag:Z.heap.size < wr.heap.size:=by rw[d.out];show Z.heap.size < D.heap.size;have:=V.out;omega
    have S2:∀ o:Obj,(wr.alloc o).cell? (OK Z 2)=some (.int .i64 b.result):=fun o=>((Ao wr o).cell (p:=(OK Z 2)) ag).trans P
    have S3:∀ o:Obj,(wr.drew.alloc o).cell? (OK Z 2)=some (.int .i64 b.result):=fun o=>S2 o
    have S4:∀ o:Obj,(wr.alloc o).drew.cell? (OK Z 2)=some (.int .i64 b.result):=fun o=>S2 o
    clear ag;go_wp2_with fail;go_region_held3 (fun w'=>w'.cell? (OK Z 2)=some (.int .i64 b.result)) (with_reducible first|exact S0|exact S1|exact S2 _|exact S3 _|exact S4 _) (fail);all_goals go_wp2_with fail
    all_goals go_ret3
    all_goals rw[<- H.out,<- G.out,<- F.out,if_pos Q.out,if_pos Q.out,if_neg hres,decide_eq_true Q.out]
    all_goals exact⟨⟨.slice (some (OK wr 0)) 1 1,by (first|rfl|(simp;done)|(simp[*];done)|(simp_all;done)|(simp;omega)),Ac.newZ (Z:=wr) (hs:=[b.result]) _ _ rfl⟩,by first|exact Ab l _|exact Below.drew (Ab l _)⟩
theorem Y9 (hkl:k.length=0) (ha0:0<=a) (ha1:a < (c.length:Int)) (hpl:∀ g ∈ c,g.params.length<=8) (hfew:k.length < (c.getD a.toNat A6).params.length) (hC:Al w.heap.size w (.slice ca c.length cc) c):B6 c f pv ca ia sa ka cc ic sc kc s k w ⟨9,a,n,text⟩:=by
 unfold B6;obtain⟨Y1,Y2,Y3,Z,S,T,U,V,X,aa,ab,p,M,zc,zf,ac,ad,ae,G,x,t⟩:=Co c f 9 a n text s k ca ia sa ka cc ic sc kc pv w hS hK;clear hS hK;obtain rfl:k=[]:=List.eq_nil_of_length_eq_zero hkl;have L:Hid (A3 []=0):=(rfl:A3 []=0);have r:Hid (An []=0):=(rfl:An []=0);simp only[List.length_nil]at hfew V G hk600 t |-
 obtain⟨j,rfl⟩:∃ j:Nat,a=(j:Int):=⟨a.toNat,by omega⟩;have A:j < c.length:=Ou
 obtain⟨R,o,E,F,C,D,K,W,N,J,O,P,Q,y,_⟩:=(hC.below p).fn j A;obtain⟨rfl,rfl⟩:ca=some (OI R 0)/\cc=o:=by injection K with e1 e2 e3;exact⟨e1,e3⟩
 obtain⟨b,i⟩:∃ b,Hid (c[j]=b):=⟨_,(rfl:c[j]=_)⟩;rw[i.out]at N J O P Q y;have B:b.params.length<=8:=by rw[<- i.out];exact hpl _ (List.getElem_mem A)
 clear hpl;have m:Hid (c.getD j A6=b):=by rw[Hid,List.getD_eq_getElem?_getD,List.getElem?_eq_getElem A,i.out];rfl
 have u:Hid (Ac w.heap.size Z (.slice E b.params.length F) b.params):=y;obtain⟨q,v⟩:∃ q,Hid (b.params.length=q):=⟨_,(rfl:b.params.length=_)⟩;rw[v.out]at J B u;clear y K;obtain⟨l,d⟩:∃ Y,Z.alloc (.cells #[.string b.name,.slice E q F,.int .i64 b.result,.int .i64 b.slots,.slice C b.ins.length D] 130)=Y:=⟨_,rfl⟩;have h:OH w l:=by rw[<- d];exact Ab p _
 have I:Hid (l.heap.size=Z.heap.size+1):=by rw[Hid,<- d];exact World.size_alloc _ _
 have y1:l.cell? (OK Z 1)=some (.slice E q F):=by rw[<- d];exact Bk Z _ _ 1 _ rfl
 have y2:l.cell? (OK Z 2)=some (.int .i64 b.result):=by rw[<- d];exact Bk Z _ _ 2 _ rfl
 have z:0 < q:=by simpa only[m.out,v.out,Int.toNat_natCast]using hfew
 clear hfew;have H:Hid (Ag c f ⟨9,(j:Int),n,text⟩ s []=(0,[],false)):=by
  simp only[Hid,Ag];rw[if_neg Ov,if_neg Ov,if_neg Ov,if_neg Ov,if_neg Ov,if_neg Ov,if_neg Ov,if_pos Ov];show (if (([]:List Int):List Int).length < (c.getD (Int.toNat (j:Int)) A6).params.length then _ else _)=_
  simp only[Int.toNat_natCast,m.out,v.out];rw[if_pos (by rw[(rfl:([]:List Int).length=0)];exact z)]
 unfold Au;rw[H.out];unfold Bp Aw Ah;clear H x L r;go_enter Tryz.func114,Tryz.ntmps114;go_wp2_with fail;all_goals go_ret3
 all_goals exact⟨⟨.slice (some (OK l 0)) 0 0,by (first|rfl|(simp;done)|(simp[*];done)|(simp_all;done)|(simp;omega)),Ac.newZ (Z:=l) (hs:=[]) _ _ rfl⟩,by first|exact Ab h _|exact Below.drew (Ab h _)⟩
theorem Qbg (hkl:k.length=0) (ha0:0<=a) (ha1:a < (c.length:Int)) (hpl:∀ g ∈ c,g.params.length<=8) (hfew:(c.getD a.toNat A6).params.length<=k.length) (hC:Al w.heap.size w (.slice ca c.length cc) c):B6 c f pv ca ia sa ka cc ic sc kc s k w ⟨9,a,n,text⟩:=by
 unfold B6;obtain⟨Y1,Y2,Y3,Z,ak,al,am,hZ,ap,aq,ar,M,F,zc,zf,aw,ax,ay,R,ab,A⟩:=Co c f 9 a n text s k ca ia sa ka cc ic sc kc pv w hS hK;clear hS hK;obtain rfl:k=[]:=List.eq_nil_of_length_eq_zero hkl;have HT:Hid (A3 []=0):=(rfl:A3 []=0);have W:Hid (An []=0):=(rfl:An []=0);simp only[List.length_nil]at hfew hZ R hk600 A |-
 obtain⟨j,rfl⟩:∃ j:Nat,a=(j:Int):=⟨a.toNat,by omega⟩;have hj:j < c.length:=Ou
 obtain⟨gc,L,Q,U,af,ag,hv,ao,c0,c1,c2,c3,c4,hP,_⟩:=(hC.below M).fn j hj;obtain⟨rfl,rfl⟩:ca=some (OI gc 0)/\cc=L:=by injection hv with e1 e2 e3;exact⟨e1,e3⟩
 obtain⟨b,z⟩:∃ b,Hid (c[j]=b):=⟨_,(rfl:c[j]=_)⟩;rw[z.out]at c0 c1 c2 c3 c4 hP;have ac:b.params.length<=8:=by rw[<- z.out];exact hpl _ (List.getElem_mem hj)
 clear hpl;have I:Hid (c.getD j A6=b):=by rw[Hid,List.getD_eq_getElem?_getD,List.getElem?_eq_getElem hj,z.out];rfl
 have B:Hid (Ac w.heap.size Z (.slice Q b.params.length U) b.params):=hP;obtain⟨q,S⟩:∃ q,Hid (b.params.length=q):=⟨_,(rfl:b.params.length=_)⟩;rw[S.out]at c1 ac B;clear hP hv;obtain⟨v,d⟩:∃ Y,Z.alloc (.cells #[.string b.name,.slice Q q U,.int .i64 b.result,.int .i64 b.slots,.slice af b.ins.length ag] 130)=Y:=⟨_,rfl⟩;have N:OH w v:=by rw[<- d];exact Ab M _
 have K:Hid (v.heap.size=Z.heap.size+1):=by rw[Hid,<- d];exact World.size_alloc _ _
 have V:v.cell? (OK Z 1)=some (.slice Q q U):=by rw[<- d];exact Bk Z _ _ 1 _ rfl
 have y2:v.cell? (OK Z 2)=some (.int .i64 b.result):=by rw[<- d];exact Bk Z _ _ 2 _ rfl
 have an:q<=0:=by simpa only[I.out,S.out,Int.toNat_natCast]using hfew
 clear hfew;obtain⟨tq,E⟩:∃ t,Hid ((if (([]:List Int)).drop (0 - q)=b.params then q else 0)=t):=⟨_,(rfl:(if (([]:List Int)).drop (0 - q)=b.params then q else 0)=_)⟩;obtain⟨tl,D⟩:∃ t,Hid ((if (([]:List Int)).drop (0 - q)=b.params then (if b.result=0 then [] else [b.result]) else ([]:List Int))=t):=⟨_,(rfl:(if (([]:List Int)).drop (0 - q)=b.params then (if b.result=0 then [] else [b.result]) else ([]:List Int))=_)⟩;obtain⟨tb,C⟩:∃ t,Hid (decide ((([]:List Int)).drop (0 - q)=b.params)=t):=⟨_,(rfl:decide ((([]:List Int)).drop (0 - q)=b.params)=_)⟩;have HG:Hid (Ag c f ⟨9,(j:Int),n,text⟩ s []=(tq,tl,tb)):=by
  simp only[Hid,Ag];rw[if_neg Ov,if_neg Ov,if_neg Ov,if_neg Ov,if_neg Ov,if_neg Ov,if_neg Ov,if_pos Ov];show (if (([]:List Int):List Int).length < (c.getD (Int.toNat (j:Int)) A6).params.length then _ else _)=_
  simp only[Int.toNat_natCast,I.out,S.out];rw[if_neg (by rw[(rfl:([]:List Int).length=0)];omega),(rfl:([]:List Int).length=0),<- E.out,<- D.out,<- C.out];show (if (([]:List Int)).drop (0 - q)=b.params then _ else _)=_
  split
  ·rename_i hh
   simp only[decide_eq_true hh];first|rfl|(simp[*];done)|skip
  ·rename_i hh
   simp only[decide_eq_false hh];first|rfl|(simp[*];done)|skip
 unfold Au;rw[HG.out];unfold Bp Aw Ah;clear HG ab HT W;go_enter Tryz.func114,Tryz.ntmps114;obtain⟨r,hr⟩:∃ r,0=r+q:=⟨0 - q,by omega⟩;have ae:wrap64 ((0:Int) - (q:Int))=(r:Int):=by rw[IntWalk.wrap64_in _ Ou];omega
 have au:IntKind.i64.wrap ((0:Int) - (q:Int))=(r:Int):=by rw[IntWalk.i64_left];exact ae
 have J:Hid (0=r+q):=hr;have aa:Hid (r=0 - q):=by rw[Hid];omega
 clear hr;have ai:Hid (∀ i,i < q->∃ g1 o1 V,(ka:Option Addr)=some (OI g1 o1)/\g1 < w.heap.size/\v.cell? (OI g1 (o1+(r+i)))=some (.int .i64 V)/\((([]:List Int)).drop r)[i]? = some V):=fun i T=>by
  obtain⟨a',cp,he,hc⟩:=A.out;injection he with e1;subst e1;have hl:r+i < (([]:List Int)).length:=by have:=J.out;have:=(rfl:([]:List Int).length=0);omega
  obtain⟨g,o,ha,hg,l⟩:=hc (r+i) hl;refine⟨g,o,(([]:List Int))[r+i],ha,hg, ?_,by rw[List.getElem?_drop,List.getElem?_eq_getElem hl]⟩;rw[<- d,Below.cell (Ao Z _) (p:=(OI g (o+(r+i)))) (by show g < _;have:=F.out;omega)];exact l
 have aj:Hid (∀ i (T:i < b.params.length),∃ gp op,Q=some (OI gp op)/\gp < w.heap.size/\v.cell? (OI gp (op+i))=some (.int .i64 b.params[i])):=fun i T=>by
  obtain⟨a',cp,he,hc⟩:=B.out;injection he with e1;subst e1;obtain⟨g,o,ha,hg,l⟩:=hc i T;refine⟨g,o,ha,hg, ?_⟩;rw[<- d,Below.cell (Ao Z _) (p:=(OI g (o+i))) (by show g < _;have:=F.out;omega)];exact l
 have X:Hid (((([]:List Int)).drop r).length=q):=by rw[Hid,List.length_drop,(rfl:([]:List Int).length=0)];have:=J.out;omega
 have ah:v.cell? (OJ w 3 2)=some (.slice ka (0) kc):=by rw[<- d,Below.cell (Ao Z _) (p:=(OJ w 3 2)) (by show w.heap.size+3 < _;have:=F.out;omega)];exact R
 clear A B;go_wp2_with fail;go_loopw [21] (fun t wr => ∃ i qd:Nat,i<=q/\t = .int .i64 (i:Int)/\wr=v.drewN qd/\∀ u,u < i->((([]:List Int)).drop r)[u]? = b.params[u]?) (fun t _=>q - (intOf t).toNat);case atStart=>exact⟨0,0,by omega,rfl,rfl,fun u hu=>Ou⟩
 case round =>
  obtain⟨i,qd,T,rfl,O,hu⟩:=hrel;have m:Hid (wr=v.drewN qd):=O;clear O;have x:OH w wr:=by rw[m.out];exact B9 _ N
  have av:wr.cell? (OK Z 1)=some (.slice Q q U):=by rw[m.out];exact V
  have G:wr.cell? (OK Z 2)=some (.int .i64 b.result):=by rw[m.out];exact y2
  have az:wr.cell? (OJ w 3 2)=some (.slice ka (0) kc):=by rw[m.out];exact ah
  by_cases hlt:i < q
  ·exfalso;omega
  ·have y:(([]:List Int)).drop r=b.params:=by
    refine List.ext_getElem? (fun u => ?_);by_cases h:u < q
    ·exact hu u Ou
    ·rw[List.getElem?_eq_none (by rw[X.out];omega),List.getElem?_eq_none (by rw[S.out];omega)]
   have H:Hid ((([]:List Int)).drop (0 - q)=b.params):=(by rw[Hid,<- aa.out];exact y);clear hu y;by_cases hres:b.result=0
   ·have ad:(b.result == 0)=true:=(by simp[hres]);go_wp2_with fail;all_goals go_ret3
    all_goals rw[<- E.out,<- D.out,<- C.out,if_pos H.out,if_pos H.out,if_pos hres,decide_eq_true H.out]
    all_goals exact⟨⟨.slice (some (OK wr 0)) 0 0,by (first|rfl|(simp;done)|(simp[*];done)|(simp_all;done)|(simp;omega)),Ac.newZ (Z:=wr) (hs:=[]) _ _ rfl⟩,by first|exact Ab x _|exact Below.drew (Ab x _)⟩
   ·have ad:(b.result == 0)=false:=(by simp[hres]);have S0:wr.cell? (OK Z 2)=some (.int .i64 b.result):=G;have S1:wr.drew.cell? (OK Z 2)=some (.int .i64 b.result):=G;have P:Z.heap.size < wr.heap.size:=by rw[m.out];show Z.heap.size < v.heap.size;have:=K.out;omega
    have S2:∀ o:Obj,(wr.alloc o).cell? (OK Z 2)=some (.int .i64 b.result):=fun o=>((Ao wr o).cell (p:=(OK Z 2)) P).trans G
    have S3:∀ o:Obj,(wr.drew.alloc o).cell? (OK Z 2)=some (.int .i64 b.result):=fun o=>S2 o
    have S4:∀ o:Obj,(wr.alloc o).drew.cell? (OK Z 2)=some (.int .i64 b.result):=fun o=>S2 o
    clear P;go_wp2_with fail;go_region_held3 (fun w'=>w'.cell? (OK Z 2)=some (.int .i64 b.result)) (with_reducible first|exact S0|exact S1|exact S2 _|exact S3 _|exact S4 _) (fail);all_goals go_wp2_with fail
    all_goals go_ret3
    all_goals rw[<- E.out,<- D.out,<- C.out,if_pos H.out,if_pos H.out,if_neg hres,decide_eq_true H.out]
    all_goals exact⟨⟨.slice (some (OK wr 0)) 1 1,by (first|rfl|(simp;done)|(simp[*];done)|(simp_all;done)|(simp;omega)),Ac.newZ (Z:=wr) (hs:=[b.result]) _ _ rfl⟩,by first|exact Ab x _|exact Below.drew (Ab x _)⟩
end
end Go.Proofs.YtahibkjkpmdhgaaGreatDoor
