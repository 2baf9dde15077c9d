import Derived.Test.YtahibkjkpmdhgaaGreatDoorKSwH
import Derived.Test.YtahibkjkpmdhgaaGreatDoorCards
import Derived.Test.YtahibkjkpmdhgaaGreatDoorTie
import Derived.Stop.LaidErr
import Derived.Lay
import Derived.SevenTiedAt
import Derived.OpenShut
import Derived.OpenVars
import Derived.Lib.LaidIn
import Derived.Lib.LaidTab
import Derived.Deep.DeepHandedRow
import Derived.Deep.DeepWitnessRowRef
import Derived.SizedLaws
import Derived.ChangeVars
import Derived.Deep.Slices
import Derived.ChangeArms
set_option maxRecDepth 100000
namespace Go.Proofs.YtahibkjkpmdhgaaGreatDoor
namespace Cd
open Go.ChangeShapes Go.WideShapes Go.ChangeAt Go.RowKit Go.Lib Go.Deep
theorem lt_cell {W:World} {b o:Nat} {v:Value} (h:W.cell? (OI b o)=some v):b < W.heap.size:=by
 unfold World.cell? at h;split at h
 ·rename_i hb;exact(Array.getElem?_eq_some_iff.1 hb).1
 ·cases h
theorem cellsInt : Tryz.prog.cellsOf 3=1:=OA
theorem cellsBool : Tryz.prog.cellsOf 4=1:=OA
theorem cellsString : Tryz.prog.cellsOf 9=1:=OA
theorem cellsWord : Tryz.prog.cellsOf 233=2:=OA
theorem cellsTy : Tryz.prog.cellsOf 195=4:=OA
theorem cells3 : Tryz.prog.cellsOf 193=3:=OA
theorem cells2 : Tryz.prog.cellsOf 187=2:=OA
theorem cellsRow : Tryz.prog.cellsOf 189=5:=OA
theorem gWords : Tryz.prog.globalNamed "loop.example/kilnmill/impl.builtWords" = some 2:=OA
theorem gWordsT : (Tryz.prog.globals[2]?).map (·.type)=some 234:=OA
theorem gTys : Tryz.prog.globalNamed "loop.example/kilnmill/impl.builtTypes" = some 1:=OA
theorem gTysT : (Tryz.prog.globals[1]?).map (·.type)=some 196:=OA
theorem gRows : Tryz.prog.globalNamed "loop.example/kilnmill/impl.insRows" = some 0:=OA
theorem gRowsT : (Tryz.prog.globals[0]?).map (·.type)=some 190:=OA
theorem word_of {W:World} {cs:List Value} {fuel:Nat} {p:List MemPlace} {l:List (DataW Unit)} {enc:TypeId × Value->Unit} {base:Nat} {spare:Nat->Bool} {held:Bool} (h:DataW.trod enc Tryz.prog W base spare held fuel 234 cs=some (.agg l,p)) (i:Nat) (hi:i < 13) (a:DataW Unit) (z:Int) (hz:l[i]? = some (.agg [a,.lit (.int .i64 z)])):cs[i * 2+1]? = some (.int .i64 z):=by
 obtain⟨u,m,_,C,s,D,g⟩:=DataW.trod_array Tryz.underlying234 h;have j:l=u.map (·.1):=by have:=(Prod.mk.inj C).1;injection this
 have f:=g i hi;rw[cellsWord]at f;have n:∃ y,u[i]? = some y:=⟨_,List.getElem?_eq_getElem Ou⟩;obtain⟨y,t⟩:=n;rw[t]at f;obtain⟨v,k,_,o,_,c,B⟩:=DataW.trod_struct Tryz.underlying233 f;have b:y.1 = .agg [a,.lit (.int .i64 z)]:=by
  rw[j,List.getElem?_map,t]at hz;simpa using hz
 rw[o]at b;have d:v.length=2:=c;clear c;match v,d with
 | [y0,y1],_ =>
  have r:DataW.trod enc Tryz.prog W base spare held k 3 ((((cs.drop (i * 2)).take 2).drop 1).take (Tryz.prog.cellsOf 3))=some y1:=B 1 _ rfl;rw[cellsInt]at r;simp only[List.map_cons,List.map_nil,DataW.agg.injEq,List.cons.injEq,and_true]at b;obtain⟨E,x,A,_⟩:=DataW.trod_int Tryz.underlying3 r;have q:E=z:=by
   have e:=b.2;rw[A]at e;simpa using e
  subst q;have e:=congrArg (fun l=>l[0]?) x;simpa[List.getElem?_drop,List.getElem?_take]using e
theorem three_of {W:World} {cs:List Value} {fuel:Nat} {x:DataW Unit × List MemPlace} {enc:TypeId × Value->Unit} {base:Nat} {spare:Nat->Bool} {held:Bool} (h:DataW.trod enc Tryz.prog W base spare held fuel 193 cs=some x) (za zb zc:Int) (hz:x.1 = .agg [.lit (.int .i64 za),.lit (.int .i64 zb),.lit (.int .i64 zc)]):cs[0]? = some (.int .i64 za)/\cs[1]? = some (.int .i64 zb)/\cs[2]? = some (.int .i64 zc):=by
 obtain⟨u,m,_,D,t,b,a⟩:=DataW.trod_array Tryz.underlying193 h;have c:u.length=3:=b;rw[D]at hz;clear b;match u,c with
 | [y0,y1,y2],_ =>
  simp only[List.map_cons,List.map_nil,DataW.agg.injEq,List.cons.injEq,and_true]at hz;have n:=a 0 Ou;have o:=a 1 Ou;have p:=a 2 Ou;rw[cellsInt]at n o p;have A:DataW.trod enc Tryz.prog W base spare held m 3 ((cs.drop (0 * 1)).take 1)=some y0:=n;have B:DataW.trod enc Tryz.prog W base spare held m 3 ((cs.drop (1 * 1)).take 1)=some y1:=o;have C:DataW.trod enc Tryz.prog W base spare held m 3 ((cs.drop (2 * 1)).take 1)=some y2:=p;obtain⟨E,d,i,_⟩:=DataW.trod_int Tryz.underlying3 A;obtain⟨F,f,j,_⟩:=DataW.trod_int Tryz.underlying3 B;obtain⟨G,g,k,_⟩:=DataW.trod_int Tryz.underlying3 C;rw[i,j,k]at hz;have v:E=za:=by simpa using hz.1
  have y:F=zb:=by simpa using hz.2.1
  have z:G=zc:=by simpa using hz.2.2
  subst v;subst y;subst z;have q:=congrArg (fun l=>l[0]?) d;have r:=congrArg (fun l=>l[0]?) f;have s:=congrArg (fun l=>l[0]?) g;simp only[List.getElem?_take,List.getElem?_drop]at q r s;exact⟨by simpa using q,by simpa using r,by simpa using s⟩
theorem types_of {W:World} {cs:List Value} {fuel:Nat} {p:List MemPlace} {l:List (DataW Unit)} {enc:TypeId × Value->Unit} {base:Nat} {spare:Nat->Bool} {held:Bool} (h:DataW.trod enc Tryz.prog W base spare held fuel 196 cs=some (.agg l,p)) (i:Nat) (hi:i < 13) (za zb zc zd:Int) (hz:l[i]? = some (.agg [.agg [.lit (.int .i64 za),.lit (.int .i64 zb),.lit (.int .i64 zc)],.lit (.int .i64 zd)])) :
  cs[i * 4]? = some (.int .i64 za)/\cs[i * 4+1]? = some (.int .i64 zb)/\cs[i * 4+2]? = some (.int .i64 zc)/\cs[i * 4+3]? = some (.int .i64 zd):=by
 obtain⟨v,m,_,E,t,F,f⟩:=DataW.trod_array Tryz.underlying196 h;have g:l=v.map (·.1):=by have:=(Prod.mk.inj E).1;injection this
 have d:=f i hi;rw[cellsTy]at d;have j:∃ y,v[i]? = some y:=⟨_,List.getElem?_eq_getElem Ou⟩;obtain⟨y,u⟩:=j;rw[u]at d;obtain⟨x,k,_,n,_,b,s⟩:=DataW.trod_struct Tryz.underlying195 d;have a:y.1 = .agg [.agg [.lit (.int .i64 za),.lit (.int .i64 zb),.lit (.int .i64 zc)],.lit (.int .i64 zd)]:=by
  rw[g,List.getElem?_map,u]at hz;simpa using hz
 rw[n]at a;have c:x.length=2:=b;clear b;match x,c with
 | [y0,y1],_ =>
  have r:DataW.trod enc Tryz.prog W base spare held k 193 ((((cs.drop (i * 4)).take 4).drop 0).take (Tryz.prog.cellsOf 193))=some y0:=s 0 _ rfl;have q:DataW.trod enc Tryz.prog W base spare held k 3 ((((cs.drop (i * 4)).take 4).drop 3).take (Tryz.prog.cellsOf 3))=some y1:=s 1 _ rfl;rw[cells3]at r;rw[cellsInt]at q;simp only[List.map_cons,List.map_nil,DataW.agg.injEq,List.cons.injEq,and_true]at a;obtain⟨z,A,B⟩:=three_of r za zb zc a.1;obtain⟨G,C,D,_⟩:=DataW.trod_int Tryz.underlying3 q;have o:G=zd:=by
   have e:=a.2;rw[D]at e;simpa using e
  subst o;have e:=congrArg (fun l=>l[0]?) C;refine⟨?_, ?_, ?_, ?_⟩
  ·simpa[List.getElem?_drop,List.getElem?_take]using z
  ·simpa[List.getElem?_drop,List.getElem?_take]using A
  ·simpa[List.getElem?_drop,List.getElem?_take]using B
  ·simpa[List.getElem?_drop,List.getElem?_take]using e
theorem two_of {W:World} {cs:List Value} {fuel:Nat} {x:DataW Unit × List MemPlace} {enc:TypeId × Value->Unit} {base:Nat} {spare:Nat->Bool} {held:Bool} (h:DataW.trod enc Tryz.prog W base spare held fuel 187 cs=some x) (za zb:Int) (hz:x.1 = .agg [.lit (.int .i64 za),.lit (.int .i64 zb)]):cs[0]? = some (.int .i64 za)/\cs[1]? = some (.int .i64 zb):=by
 obtain⟨q,m,_,v,p,b,a⟩:=DataW.trod_array Tryz.underlying187 h;have c:q.length=2:=b;rw[v]at hz;clear b;match q,c with
 | [y0,y1],_ =>
  simp only[List.map_cons,List.map_nil,DataW.agg.injEq,List.cons.injEq,and_true]at hz;have j:=a 0 Ou;have k:=a 1 Ou;rw[cellsInt]at j k;have t:DataW.trod enc Tryz.prog W base spare held m 3 ((cs.drop (0 * 1)).take 1)=some y0:=j;have u:DataW.trod enc Tryz.prog W base spare held m 3 ((cs.drop (1 * 1)).take 1)=some y1:=k;obtain⟨y,d,g,_⟩:=DataW.trod_int Tryz.underlying3 t;obtain⟨z,f,i,_⟩:=DataW.trod_int Tryz.underlying3 u;rw[g,i]at hz;have r:y=za:=by simpa using hz.1
  have s:z=zb:=by simpa using hz.2
  subst r;subst s;have n:=congrArg (fun l=>l[0]?) d;have o:=congrArg (fun l=>l[0]?) f;simp only[List.getElem?_take,List.getElem?_drop]at n o;exact⟨by simpa using n,by simpa using o⟩
theorem rows_of {W:World} {cs:List Value} {fuel:Nat} {p:List MemPlace} {l:List (DataW Unit)} {enc:TypeId × Value->Unit} {base:Nat} {spare:Nat->Bool} {held:Bool} (h:DataW.trod enc Tryz.prog W base spare held fuel 190 cs=some (.agg l,p)) (i:Nat) (hi:i < 17) (b:Bool) (za zb zc zd:Int) (hz:l[i]? = some (.agg [.lit (.bool b),.agg [.lit (.int .i64 za),.lit (.int .i64 zb)],.lit (.int .i64 zc),.lit (.int .i64 zd)])) :
  cs[i * 5]? = some (.bool b)/\cs[i * 5+1]? = some (.int .i64 za)/\cs[i * 5+2]? = some (.int .i64 zb)/\cs[i * 5+3]? = some (.int .i64 zc)/\cs[i * 5+4]? = some (.int .i64 zd):=by
 obtain⟨F,m,_,Q,D,R,t⟩:=DataW.trod_array Tryz.underlying190 h;have u:l=F.map (·.1):=by have:=(Prod.mk.inj Q).1;injection this
 have g:=t i hi;rw[cellsRow]at g;have v:∃ y,F[i]? = some y:=⟨_,List.getElem?_eq_getElem Ou⟩;obtain⟨y,E⟩:=v;rw[E]at g;obtain⟨G,k,_,x,_,c,f⟩:=DataW.trod_struct Tryz.underlying189 g;have a:y.1 = .agg [.lit (.bool b),.agg [.lit (.int .i64 za),.lit (.int .i64 zb)],.lit (.int .i64 zc),.lit (.int .i64 zd)]:=by
  rw[u,List.getElem?_map,E]at hz;simpa using hz
 rw[x]at a;have d:G.length=4:=c;clear c;match G,d with
 | [y0,y1,y2,y3],_ =>
  have z:DataW.trod enc Tryz.prog W base spare held k 4 ((((cs.drop (i * 5)).take 5).drop 0).take (Tryz.prog.cellsOf 4))=some y0:=f 0 _ rfl;have A:DataW.trod enc Tryz.prog W base spare held k 187 ((((cs.drop (i * 5)).take 5).drop 1).take (Tryz.prog.cellsOf 187))=some y1:=f 1 _ rfl;have B:DataW.trod enc Tryz.prog W base spare held k 3 ((((cs.drop (i * 5)).take 5).drop 3).take (Tryz.prog.cellsOf 3))=some y2:=f 2 _ rfl;have C:DataW.trod enc Tryz.prog W base spare held k 3 ((((cs.drop (i * 5)).take 5).drop 4).take (Tryz.prog.cellsOf 3))=some y3:=f 3 _ rfl;rw[cellsBool]at z;rw[cells2]at A;rw[cellsInt]at B C;simp only[List.map_cons,List.map_nil,DataW.agg.injEq,List.cons.injEq,and_true]at a;obtain⟨H,I⟩:=two_of A za zb a.2.1;obtain⟨J,o,s⟩:=DataW.trod_bool Tryz.underlying4 z;obtain⟨S,j,q,_⟩:=DataW.trod_int Tryz.underlying3 B;obtain⟨T,n,r,_⟩:=DataW.trod_int Tryz.underlying3 C;have K:J=b:=by
   have e:=a.1;rw[s]at e;simpa using e
  have L:S=zc:=by
   have e:=a.2.2.1;rw[q]at e;simpa using e
  have M:T=zd:=by
   have e:=a.2.2.2;rw[r]at e;simpa using e
  subst K L M;have N:=congrArg (fun l=>l[0]?) o;have O:=congrArg (fun l=>l[0]?) j;have P:=congrArg (fun l=>l[0]?) n;refine⟨?_, ?_, ?_, ?_, ?_⟩
  ·simpa[List.getElem?_drop,List.getElem?_take]using N
  ·simpa[List.getElem?_drop,List.getElem?_take]using H
  ·simpa[List.getElem?_drop,List.getElem?_take]using I
  ·simpa[List.getElem?_drop,List.getElem?_take]using O
  ·simpa[List.getElem?_drop,List.getElem?_take]using P
theorem insTabOf {W:World} {r:List (String × DataW Unit)} (h:laidMet Tryz.prog (("loop.example/kilnmill/impl.insRows",Rows.laid_loop_example_kilnmill_impl_insRows)::r) W):B3 W:=by
 obtain⟨J,⟨I,K,c,v,p,q,g,i,f,b,_,_⟩,_⟩:=h
 obtain rfl:=Option.some.inj (gRows.symm.trans g)
 obtain rfl:=Option.some.inj (gRowsT.symm.trans i)
 have d:∀ k z,c.toList[k]? = some z->W.cell? (OI 0 k)=some z:=fun k z hz=>by
  rw[World.var?_cell gRows f k]
  simpa using hz
 have x:=rows_of b 1 Ou true 0 0 16 0 rfl
 have A:=rows_of b 2 Ou true 0 0 17 0 rfl
 have B:=rows_of b 3 Ou true 12 0 0 0 rfl
 have C:=rows_of b 4 Ou false 12 0 0 0 rfl
 have D:=rows_of b 5 Ou true 12 0 18 0 rfl
 have E:=rows_of b 6 Ou true 12 12 19 0 rfl
 have F:=rows_of b 7 Ou true 11 0 16 0 rfl
 have G:=rows_of b 8 Ou true 13 0 20 0 rfl
 have H:=rows_of b 9 Ou true 14 0 21 0 rfl
 have j:=rows_of b 10 Ou true 0 0 0 1 rfl
 have l:=rows_of b 11 Ou true 1 0 0 2 rfl
 have n:=rows_of b 12 Ou true 15 0 0 3 rfl
 have o:=rows_of b 13 Ou false 2 0 0 3 rfl
 have s:=rows_of b 14 Ou false 2 2 0 0 rfl
 have t:=rows_of b 15 Ou false 2 0 0 0 rfl
 have u:=rows_of b 16 Ou false 0 0 0 0 rfl
 have a:∀ m:Nat,1<=m->m<=16->c.toList[m * 5]? = some (.bool (B5 m).1)/\c.toList[m * 5+1]? = some (.int .i64 (B5 m).2.1)/\c.toList[m * 5+2]? = some (.int .i64 (B5 m).2.2.1)/\c.toList[m * 5+3]? = some (.int .i64 (B5 m).2.2.2.1)/\c.toList[m * 5+4]? = some (.int .i64 (B5 m).2.2.2.2):=fun m h1 h2=>by
  have y:m=1\/m=2\/m=3\/m=4\/m=5\/m=6\/m=7\/m=8\/m=9\/m=10\/m=11\/m=12\/m=13\/m=14\/m=15\/m=16:=Ou
  rcases y with rfl|rfl|rfl|rfl|rfl|rfl|rfl|rfl|rfl|rfl|rfl|rfl|rfl|rfl|rfl|rfl
  ·exact x
  ·exact A
  ·exact B
  ·exact C
  ·exact D
  ·exact E
  ·exact F
  ·exact G
  ·exact H
  ·exact j
  ·exact l
  ·exact n
  ·exact o
  ·exact s
  ·exact t
  ·exact u
 exact⟨lt_cell (d _ _ x.1),fun m h1 h2=>d _ _ (a m h1 h2).1,fun m h1 h2=>d _ _ (a m h1 h2).2.1,fun m h1 h2=>d _ _ (a m h1 h2).2.2.1,fun m h1 h2=>d _ _ (a m h1 h2).2.2.2.1,fun m h1 h2=>d _ _ (a m h1 h2).2.2.2.2⟩
theorem wordsOf {W:World} {r:List (String × DataW Unit)} (h:laidMet Tryz.prog (("loop.example/kilnmill/impl.builtWords",Rows.laid_loop_example_kilnmill_impl_builtWords)::r) W):(∀ m:Nat,1<=m->m<=12->W.cell? (OI 2 (m * 2+1))=some (.int .i64 ((Gt m).length:Int)))/\2 < W.heap.size:=by
 obtain⟨n,⟨l,o,k,g,p,q,d,f,c,j,_,_⟩,_⟩:=h
 obtain rfl:=Option.some.inj (gWords.symm.trans d)
 obtain rfl:=Option.some.inj (gWordsT.symm.trans f)
 have b:∀ i (_:i < 13) a z,_->W.cell? (OI 2 (i * 2+1))=some (.int .i64 z):=fun i hi a z hz=>by
  rw[World.var?_cell gWords c (i * 2+1)]
  have e:=word_of j i hi a z hz
  simpa using e
 refine⟨fun m h1 h2 => ?_,lt_cell (b 0 Ou _ _ rfl)⟩
 have:m=1\/m=2\/m=3\/m=4\/m=5\/m=6\/m=7\/m=8\/m=9\/m=10\/m=11\/m=12:=Ou
 rcases this with rfl|rfl|rfl|rfl|rfl|rfl|rfl|rfl|rfl|rfl|rfl|rfl
 ·exact b 1 Ou _ _ rfl
 ·exact b 2 Ou _ _ rfl
 ·exact b 3 Ou _ _ rfl
 ·exact b 4 Ou _ _ rfl
 ·exact b 5 Ou _ _ rfl
 ·exact b 6 Ou _ _ rfl
 ·exact b 7 Ou _ _ rfl
 ·exact b 8 Ou _ _ rfl
 ·exact b 9 Ou _ _ rfl
 ·exact b 10 Ou _ _ rfl
 ·exact b 11 Ou _ _ rfl
 ·exact b 12 Ou _ _ rfl
theorem typesOf {W:World} {r:List (String × DataW Unit)} (h:laidMet Tryz.prog (("loop.example/kilnmill/impl.builtTypes",Rows.laid_loop_example_kilnmill_impl_builtTypes)::r) W):(∀ m:Nat,1<=m->m<=12->(∀ j,j < 3->W.cell? (OI 1 (m * 4+j))=some (.int .i64 ((Gt m).getD j 0)))/\W.cell? (OI 1 (m * 4+3))=some (.int .i64 (Cm (m:Int))))/\1 < W.heap.size:=by
 obtain⟨L,⟨K,M,i,y,p,q,o,t,n,g,_,_⟩,_⟩:=h
 obtain rfl:=Option.some.inj (gTys.symm.trans o)
 obtain rfl:=Option.some.inj (gTysT.symm.trans t)
 have l:∀ k z,i.toList[k]? = some z->W.cell? (OI 1 k)=some z:=fun k z hz=>by
  rw[World.var?_cell gTys n k]
  simpa using hz
 have A:=types_of g 0 Ou 0 0 0 0 rfl
 have B:=types_of g 1 Ou 2 0 0 2 rfl
 have C:=types_of g 2 Ou 2 0 0 1 rfl
 have D:=types_of g 3 Ou 2 0 0 2 rfl
 have E:=types_of g 4 Ou 2 2 0 2 rfl
 have F:=types_of g 5 Ou 0 0 0 2 rfl
 have G:=types_of g 6 Ou 2 0 0 10 rfl
 have H:=types_of g 7 Ou 2 10 0 3 rfl
 have I:=types_of g 8 Ou 2 10 10 2 rfl
 have J:=types_of g 9 Ou 2 2 0 10 rfl
 have u:=types_of g 10 Ou 3 0 0 2 rfl
 have v:=types_of g 11 Ou 11 0 0 2 rfl
 have x:=types_of g 12 Ou 2 0 0 10 rfl
 have f:∀ (m:Nat) (a b c d:Int),(i.toList[m * 4]? = some (.int .i64 a)/\i.toList[m * 4+1]? = some (.int .i64 b)/\i.toList[m * 4+2]? = some (.int .i64 c)/\i.toList[m * 4+3]? = some (.int .i64 d))->(Gt m).getD 0 0=a->(Gt m).getD 1 0=b->(Gt m).getD 2 0=c->Cm (m:Int)=d->(∀ j,j < 3->W.cell? (OI 1 (m * 4+j))=some (.int .i64 ((Gt m).getD j 0)))/\W.cell? (OI 1 (m * 4+3))=some (.int .i64 (Cm (m:Int))):=fun m a b c d ht ha hb hcc hdd=>by
  refine⟨fun j hj => ?_,by rw[hdd];exact l _ _ ht.2.2.2⟩
  have s:j=0\/j=1\/j=2:=Ou
  rcases s with rfl|rfl|rfl
  ·rw[ha];exact l _ _ ht.1
  ·rw[hb];exact l _ _ ht.2.1
  ·rw[hcc];exact l _ _ ht.2.2.1
 refine⟨fun m h1 h2 => ?_,lt_cell (l _ _ A.1)⟩
 have:m=1\/m=2\/m=3\/m=4\/m=5\/m=6\/m=7\/m=8\/m=9\/m=10\/m=11\/m=12:=Ou
 rcases this with rfl|rfl|rfl|rfl|rfl|rfl|rfl|rfl|rfl|rfl|rfl|rfl
 ·exact f 1 _ _ _ _ B Ov Ov Ov Ov
 ·exact f 2 _ _ _ _ C Ov Ov Ov Ov
 ·exact f 3 _ _ _ _ D Ov Ov Ov Ov
 ·exact f 4 _ _ _ _ E Ov Ov Ov Ov
 ·exact f 5 _ _ _ _ F Ov Ov Ov Ov
 ·exact f 6 _ _ _ _ G Ov Ov Ov Ov
 ·exact f 7 _ _ _ _ H Ov Ov Ov Ov
 ·exact f 8 _ _ _ _ I Ov Ov Ov Ov
 ·exact f 9 _ _ _ _ J Ov Ov Ov Ov
 ·exact f 10 _ _ _ _ u Ov Ov Ov Ov
 ·exact f 11 _ _ _ _ v Ov Ov Ov Ov
 ·exact f 12 _ _ _ _ x Ov Ov Ov Ov
theorem tabsOf {W:World} (h:laidMetH Tryz.prog Rows.fnExactShownRow.laid W):B3 W/\Cw W:=by
 have c:laidMet Tryz.prog Rows.fnExactShownRow.laid W:=h;have d:=laidMet.tail c;have g:=laidMet.tail d;obtain⟨i,k⟩:=wordsOf c;obtain⟨f,l⟩:=typesOf d;exact⟨insTabOf g,⟨l,k,fun m a b j hj=>(f m a b).1 j hj,fun m a b=>(f m a b).2,i⟩⟩
end Cd
end Go.Proofs.YtahibkjkpmdhgaaGreatDoor
namespace Go.Proofs.YtahibkjkpmdhgaaGreatDoor
namespace Cd
open Go.ChangeShapes Go.WideShapes Go.ChangeAt Go.RowKit Go.Lib Go.Deep
theorem cellsInt64 : Tryz.prog.cellsOf 2=1:=OA
theorem cellsLIns : Tryz.prog.cellsOf 224=4:=OA
theorem cellsLFn : Tryz.prog.cellsOf 163=5:=OA
theorem cellsLCode : Tryz.prog.cellsOf 79=1:=OA
theorem cellsInts : Tryz.prog.cellsOf 124=1:=OA
theorem cellsLInss : Tryz.prog.cellsOf 161=1:=OA
theorem cellsLFns : Tryz.prog.cellsOf 77=1:=OA
theorem wf64 {n:Int} (h:(Lit.int .i64 n).wf=true) : -9223372036854775808<=n/\n<=9223372036854775807:=by
 have a:IntKind.i64.min = -9223372036854775808:=by decide
 have b:IntKind.i64.max=9223372036854775807:=by decide
 simp only[Lit.wf,a,b,Bool.and_eq_true,decide_eq_true_eq]at h;exact h
instance : Inhabited Az:=⟨C3⟩
def insFar (d:Az):Prop:=d.text.size<=9223372036854775807 /\ -9223372036854775808<=d.n/\d.n<=9223372036854775807
theorem add_at {b o k:Nat}:(Addr.add (OI b o) k)=(OI b (o+k)):=by unfold Addr.add;split <;> simp_all
theorem rows_open {H:Type} {enc:TypeId × Value->H} {w:World} {base:Nat} {spare:Nat->Bool} {held:Bool} {fuel:Nat} {T E:TypeId} {v:Value} {x:DataW H × List MemPlace} {α:Type} [Inhabited α] (s:Nat) (hs:0 < s) (C:α->List Value->Prop) (hu:Tryz.prog.underlying T=some (.slice E)) (hE:Tryz.prog.cellsOf E=s) (hop:∀ {n:Nat} {c:List Value} {y:DataW H × List MemPlace},DataW.trod enc Tryz.prog w base spare held n E c=some y->∃ d,C d c) (hl:∀ d c,C d c->c.length=s)
  (h:DataW.trod enc Tryz.prog w base spare held fuel T [v]=some x):∃ l:List α,l.length<=9223372036854775807/\∃ a r,v = .slice a l.length r/\∀ i (hi:i < l.length),∃ g o c,a=some (OI g o)/\g < w.heap.size/\C l[i] c/\∀ j,j < s->w.cell? (OI g (o+i * s+j))=c[j]?:=by
 rcases open_slice hu h with⟨K,_⟩|⟨a,f,r,m,n,D,X,K,Y,Q,S,I,_,M⟩
 ·cases K
  exact⟨[],by simp,none,0,rfl,fun i hi=>by simp at hi⟩
 ·cases K
  have R:f<=m:=by rw[I];split <;> omega
  rw[hE]at M;obtain⟨d,L⟩:=choose_lt (α:=α) (n:=f) (p:=fun i d => ∃ c,w.cells? base (a.add (i * s)) s=some c/\C d c) (fun i hi=>by
   obtain⟨A,B,z⟩:=M i Ou
   obtain⟨d,P⟩:=hop z
   exact⟨d,A,B,P⟩)
  refine⟨(List.range f).map d,by simp[maxLen]at S |-;omega,some a,r,by simp,fun i hi => ?_⟩;have F:i < f:=by simpa using hi
  obtain⟨c,B,z⟩:=L i F;obtain⟨_,_,t⟩:=World.cells?_some B;obtain⟨b,o,W⟩:=a;have J:W=none:=by
   obtain⟨N,U,V⟩:=L 0 Ou;obtain⟨_,_,k⟩:=World.cells?_some U;have u:=k 0 Ou;have G:=hl _ _ V;rw[List.getElem?_eq_getElem Ou]at u;simp[Addr.add]at u;exact World.cell?_spot u
  subst J;have q:∀ j,j < s->w.cell? (OI b (o+i * s+j))=c[j]?:=fun j hj=>by
   have e:=t j hj;rw[add_at,add_at]at e;exact e
  have u:=q 0 hs;have G:=hl _ _ z;rw[List.getElem?_eq_getElem Ou]at u;have O:((List.range f).map d)[i]'hi=d i:=by simp
  rw[O];exact⟨b,o,c,rfl,lt_cell u,z,q⟩
theorem ins_open {H:Type} {enc:TypeId × Value->H} {w:World} {base:Nat} {spare:Nat->Bool} {held:Bool} {fuel:Nat} {cs:List Value} {x:DataW H × List MemPlace}
  (h:DataW.trod enc Tryz.prog w base spare held fuel 224 cs=some x):∃ d:Az,cs=G9 d/\insFar d:=by
 obtain⟨l,n,_,_,a,b,f⟩:=DataW.trod_struct Tryz.underlying224 h;rw[cellsLIns]at a;have c:l.length=4:=b;clear b;match l,c,cs,a with
 | [y0,y1,y2,y3],_,[v0,v1,v2,v3],_ =>
  have g:DataW.trod enc Tryz.prog w base spare held n 3 (([v0,v1,v2,v3].drop 0).take (Tryz.prog.cellsOf 3))=some y0:=f 0 _ rfl;have i:DataW.trod enc Tryz.prog w base spare held n 3 (([v0,v1,v2,v3].drop 1).take (Tryz.prog.cellsOf 3))=some y1:=f 1 _ rfl;have j:DataW.trod enc Tryz.prog w base spare held n 2 (([v0,v1,v2,v3].drop 2).take (Tryz.prog.cellsOf 2))=some y2:=f 2 _ rfl;have k:DataW.trod enc Tryz.prog w base spare held n 9 (([v0,v1,v2,v3].drop 3).take (Tryz.prog.cellsOf 9))=some y3:=f 3 _ rfl;rw[cellsInt]at g i;rw[cellsInt64]at j;rw[cellsString]at k;have m:DataW.trod enc Tryz.prog w base spare held n 3 [v0]=some y0:=g;have o:DataW.trod enc Tryz.prog w base spare held n 3 [v1]=some y1:=i;have p:DataW.trod enc Tryz.prog w base spare held n 2 [v2]=some y2:=j;have q:DataW.trod enc Tryz.prog w base spare held n 9 [v3]=some y3:=k;obtain⟨y,r,_,_⟩:=DataW.trod_int Tryz.underlying3 m;obtain⟨z,s,_,_⟩:=DataW.trod_int Tryz.underlying3 o;obtain⟨A,t,_,v⟩:=DataW.trod_int Tryz.underlying2 p;obtain⟨B,u,_,hs⟩:=DataW.trod_string Tryz.underlying9 q;cases r;cases s;cases t;cases u
  exact⟨⟨y,z,A,B⟩,rfl,by simpa[maxLen]using hs,wf64 v⟩
theorem inss_open {H:Type} {enc:TypeId × Value->H} {w:World} {base:Nat} {spare:Nat->Bool} {held:Bool} {fuel:Nat} {v:Value} {x:DataW H × List MemPlace}
  (h:DataW.trod enc Tryz.prog w base spare held fuel 161 [v]=some x):∃ l:List Az,E0 w v l/\l.length<=9223372036854775807/\∀ d ∈ l,insFar d:=by
 obtain⟨l,u,a,k,e,j⟩:=rows_open (α:=Az) 4 Ou (fun d c=>c=G9 d/\insFar d) Tryz.underlying161 cellsLIns (fun f=>ins_open f) (fun d c j=>by rw[j.1];rfl) h;refine⟨l,⟨a,k,e,fun i n => ?_⟩,u,fun d hd => ?_⟩
 ·obtain⟨g,o,c,p,f,m,b⟩:=j i n;have q:=b 0 Ou;have r:=b 1 Ou;have s:=b 2 Ou;have t:=b 3 Ou;rw[m.1]at q r s t;exact⟨g,o,p,f,q,r,s,t⟩
 ·obtain⟨i,n,rfl⟩:=List.getElem_of_mem hd;obtain⟨g,o,c,p,f,m,b⟩:=j i n;exact m.2
theorem ints_open {H:Type} {enc:TypeId × Value->H} {w:World} {base:Nat} {spare:Nat->Bool} {held:Bool} {fuel:Nat} {v:Value} {x:DataW H × List MemPlace}
  (h:DataW.trod enc Tryz.prog w base spare held fuel 124 [v]=some x):∃ l:List Int,Ac w.heap.size w v l/\l.length<=9223372036854775807:=by
 obtain⟨l,r,a,b,e,j⟩:=rows_open (α:=Int) 1 Ou (fun d c=>c=[.int .i64 d]) Tryz.underlying124 cellsInt (fun f=>by
   obtain⟨d,q,_⟩:=DataW.trod_int Tryz.underlying3 f
   exact⟨d,q⟩) (fun d c j=>by rw[j];rfl) h
 refine⟨l,⟨a,b,e,fun i hi => ?_⟩,r⟩;obtain⟨g,o,c,m,f,n,p⟩:=j i hi;have k:=p 0 Ou;rw[n,Nat.mul_one]at k;exact⟨g,o,m,f,k⟩
structure FnArg (w:World) (cs:List Value) (f:Af):Prop where
 cells:∃ pa pc ia ic,cs=Uk f (.slice pa f.params.length pc) (.slice ia f.ins.length ic)/\Ac w.heap.size w (.slice pa f.params.length pc) f.params/\E0 w (.slice ia f.ins.length ic) f.ins
 far:Lv f
 nums:∀ d ∈ f.ins,insFar d
theorem fn_open {H:Type} {enc:TypeId × Value->H} {w:World} {base:Nat} {spare:Nat->Bool} {held:Bool} {fuel:Nat} {cs:List Value} {x:DataW H × List MemPlace}
  (h:DataW.trod enc Tryz.prog w base spare held fuel 163 cs=some x):∃ f:Af,FnArg w cs f:=by
 obtain⟨t,n,_,_,a,g,b⟩:=DataW.trod_struct Tryz.underlying163 h;rw[cellsLFn]at a;have i:t.length=5:=g;clear g;match t,i,cs,a with
 | [y0,y1,y2,y3,y4],_,[v0,v1,v2,v3,v4],_ =>
  have l:DataW.trod enc Tryz.prog w base spare held n 9 (([v0,v1,v2,v3,v4].drop 0).take (Tryz.prog.cellsOf 9))=some y0:=b 0 _ rfl;have m:DataW.trod enc Tryz.prog w base spare held n 124 (([v0,v1,v2,v3,v4].drop 1).take (Tryz.prog.cellsOf 124))=some y1:=b 1 _ rfl;have o:DataW.trod enc Tryz.prog w base spare held n 3 (([v0,v1,v2,v3,v4].drop 2).take (Tryz.prog.cellsOf 3))=some y2:=b 2 _ rfl;have p:DataW.trod enc Tryz.prog w base spare held n 3 (([v0,v1,v2,v3,v4].drop 3).take (Tryz.prog.cellsOf 3))=some y3:=b 3 _ rfl;have q:DataW.trod enc Tryz.prog w base spare held n 161 (([v0,v1,v2,v3,v4].drop 4).take (Tryz.prog.cellsOf 161))=some y4:=b 4 _ rfl;rw[cellsString]at l;rw[cellsInts]at m;rw[cellsInt]at o p;rw[cellsLInss]at q;have u:DataW.trod enc Tryz.prog w base spare held n 9 [v0]=some y0:=l;have v:DataW.trod enc Tryz.prog w base spare held n 124 [v1]=some y1:=m;have y:DataW.trod enc Tryz.prog w base spare held n 3 [v2]=some y2:=o;have z:DataW.trod enc Tryz.prog w base spare held n 3 [v3]=some y3:=p;have A:DataW.trod enc Tryz.prog w base spare held n 161 [v4]=some y4:=q;obtain⟨K,B,_,hs⟩:=DataW.trod_string Tryz.underlying9 u;obtain⟨L,C,_,_⟩:=DataW.trod_int Tryz.underlying3 y;obtain⟨M,D,_,_⟩:=DataW.trod_int Tryz.underlying3 z;obtain⟨J,s,k⟩:=ints_open v;obtain⟨is,r,j,c⟩:=inss_open A;cases B;cases C;cases D
  obtain⟨G,I,rfl,_⟩:=id s;obtain⟨E,F,rfl,_⟩:=id r;exact⟨⟨K,J,L,M,is⟩,⟨G,I,E,F,rfl,s,r⟩,⟨by simpa[maxLen]using hs,k,j,fun d hd=>(c d hd).1⟩,c⟩
instance : Inhabited Af:=⟨A6⟩
theorem fns_open {H:Type} {enc:TypeId × Value->H} {w:World} {base:Nat} {spare:Nat->Bool} {held:Bool} {fuel:Nat} {v:Value} {x:DataW H × List MemPlace}
  (h:DataW.trod enc Tryz.prog w base spare held fuel 77 [v]=some x):∃ c:List Af,Ez w v c/\c.length<=9223372036854775807/\∀ f ∈ c,Lv f/\∀ d ∈ f.ins,insFar d:=by
 obtain⟨l,D,a,p,e,n⟩:=rows_open (α:=Af) 5 Ou (fun f j=>FnArg w j f) Tryz.underlying77 cellsLFn (fun k=>fn_open k) (fun d j n=>by obtain⟨_,_,_,_,e,_⟩:=n.cells;rw[e];rfl) h;refine⟨l,⟨a,p,e,fun i q => ?_⟩,D,fun f hf => ?_⟩
 ·obtain⟨g,o,j,r,k,m,b⟩:=n i q;obtain⟨G,I,E,F,A,C,B⟩:=m.cells;have s:=b 0 Ou;have t:=b 1 Ou;have u:=b 2 Ou;have y:=b 3 Ou;have z:=b 4 Ou;rw[A]at s t u y z;exact⟨g,o,G,I,E,F,r,k,⟨s,t,u,y,z⟩,C,B⟩
 ·obtain⟨i,q,rfl⟩:=List.getElem_of_mem hf;obtain⟨g,o,j,r,k,m,b⟩:=n i q;exact⟨m.far,m.nums⟩
end Cd
end Go.Proofs.YtahibkjkpmdhgaaGreatDoor
namespace Go.Proofs.YtahibkjkpmdhgaaGreatDoor
namespace Cd
open Go.ChangeShapes Go.WideShapes Go.ChangeAt Go.RowKit Go.Lib Go.Deep
theorem strings_open {H:Type} {enc:TypeId × Value->H} {w:World} {base:Nat} {spare:Nat->Bool} {held:Bool} {fuel:Nat} {v:Value} {x:DataW H × List MemPlace}
  (h:DataW.trod enc Tryz.prog w base spare held fuel 23 [v]=some x):∃ ns:List ByteArray,Dw w v ns/\To ns:=by
 obtain⟨l,q,a,j,e,f⟩:=rows_open (α:=ByteArray) 1 Ou (fun d b=>b=[.string d]/\d.size<=9223372036854775807) Tryz.underlying23 cellsString (fun c=>by
   obtain⟨z,r,_,hs⟩:=DataW.trod_string Tryz.underlying9 c
   exact⟨z,r,by simpa[maxLen]using hs⟩) (fun d b f=>by rw[f.1];rfl) h
 refine⟨l,⟨a,j,e,fun i m => ?_⟩,q,fun d hd => ?_⟩
 ·obtain⟨g,o,b,n,c,k,p⟩:=f i m;have:=p 0 Ou;rw[k.1]at this;exact⟨g,o,n,c,by simpa using this⟩
 ·obtain⟨i,m,rfl⟩:=List.getElem_of_mem hd;obtain⟨g,o,b,n,c,k,p⟩:=f i m;exact k.2
theorem cellsLFile : Tryz.prog.cellsOf 85=2:=OA
theorem cellsLV : Tryz.prog.cellsOf 165=3:=OA
theorem cellsLFr : Tryz.prog.cellsOf 83=5:=OA
theorem cellsLVs : Tryz.prog.cellsOf 81=1:=OA
theorem cellsStrings : Tryz.prog.cellsOf 23=1:=OA
theorem cellsFiles : Tryz.prog.cellsOf 25=1:=OA
theorem cellsCodes : Tryz.prog.cellsOf 22=1:=OA
theorem cellsFrames : Tryz.prog.cellsOf 24=1:=OA
theorem cellsMach : Tryz.prog.cellsOf 27=14:=OA
instance : Inhabited Dg:=⟨⟨⟨#[]⟩,⟨#[]⟩⟩⟩
instance : Inhabited Ea:=⟨⟨0,0,⟨#[]⟩⟩⟩
instance : Inhabited Fh:=⟨Gu⟩
theorem file_open {H:Type} {enc:TypeId × Value->H} {w:World} {base:Nat} {spare:Nat->Bool} {held:Bool} {fuel:Nat} {cs:List Value} {x:DataW H × List MemPlace}
  (h:DataW.trod enc Tryz.prog w base spare held fuel 85 cs=some x):∃ d:Dg,cs=Tp d/\Cl d.name.size/\Cl d.text.size:=by
 obtain⟨l,n,_,_,a,g,k⟩:=DataW.trod_struct Tryz.underlying85 h;rw[cellsLFile]at a;have b:l.length=2:=g;match l,b,cs,a with
 | [y0,y1],_,[v0,v1],_ =>
  have i:DataW.trod enc Tryz.prog w base spare held n 9 (([v0,v1].drop 0).take (Tryz.prog.cellsOf 9))=some y0:=k 0 _ rfl;have j:DataW.trod enc Tryz.prog w base spare held n 9 (([v0,v1].drop 1).take (Tryz.prog.cellsOf 9))=some y1:=k 1 _ rfl;rw[cellsString]at i j;obtain⟨p,m,_,c⟩:=DataW.trod_string Tryz.underlying9 i;obtain⟨q,o,_,f⟩:=DataW.trod_string Tryz.underlying9 j;cases m;cases o
  exact⟨⟨p,q⟩,rfl,by simpa[maxLen,Cl]using c,by simpa[maxLen,Cl]using f⟩
theorem files_open {H:Type} {enc:TypeId × Value->H} {w:World} {base:Nat} {spare:Nat->Bool} {held:Bool} {fuel:Nat} {v:Value} {x:DataW H × List MemPlace}
  (h:DataW.trod enc Tryz.prog w base spare held fuel 25 [v]=some x):∃ fs:List Dg,Gc w v fs/\Cl fs.length/\∀ d ∈ fs,Cl d.name.size/\Cl d.text.size:=by
 obtain⟨l,s,a,j,e,f⟩:=rows_open (α:=Dg) 2 Ou (fun d b=>b=Tp d/\Cl d.name.size/\Cl d.text.size) Tryz.underlying25 cellsLFile (fun c=>file_open c) (fun d b f=>by rw[f.1];rfl) h;refine⟨l,⟨a,j,e,fun i n => ?_⟩,s,fun d hd => ?_⟩
 ·obtain⟨g,o,b,p,c,k,m⟩:=f i n;have q:=m 0 Ou;have r:=m 1 Ou;rw[k.1]at q r;exact⟨g,o,p,c,q,r⟩
 ·obtain⟨i,n,rfl⟩:=List.getElem_of_mem hd;obtain⟨g,o,b,p,c,k,m⟩:=f i n;exact k.2
theorem value_open {H:Type} {enc:TypeId × Value->H} {w:World} {base:Nat} {spare:Nat->Bool} {held:Bool} {fuel:Nat} {cs:List Value} {x:DataW H × List MemPlace}
  (h:DataW.trod enc Tryz.prog w base spare held fuel 165 cs=some x):∃ d:Ea,cs=En d/\Cl d.text.size/\Ge d:=by
 obtain⟨k,n,_,_,a,f,c⟩:=DataW.trod_struct Tryz.underlying165 h;rw[cellsLV]at a;have b:k.length=3:=f;match k,b,cs,a with
 | [y0,y1,y2],_,[v0,v1,v2],_ =>
  have g:DataW.trod enc Tryz.prog w base spare held n 3 (([v0,v1,v2].drop 0).take (Tryz.prog.cellsOf 3))=some y0:=c 0 _ rfl;have i:DataW.trod enc Tryz.prog w base spare held n 2 (([v0,v1,v2].drop 1).take (Tryz.prog.cellsOf 2))=some y1:=c 1 _ rfl;have j:DataW.trod enc Tryz.prog w base spare held n 9 (([v0,v1,v2].drop 2).take (Tryz.prog.cellsOf 9))=some y2:=c 2 _ rfl;rw[cellsInt]at g;rw[cellsInt64]at i;rw[cellsString]at j;obtain⟨q,l,_,_⟩:=DataW.trod_int Tryz.underlying3 g;obtain⟨r,m,_,p⟩:=DataW.trod_int Tryz.underlying2 i;obtain⟨s,o,_,hs⟩:=DataW.trod_string Tryz.underlying9 j;cases l;cases m;cases o
  exact⟨⟨q,r,s⟩,rfl,by simpa[maxLen,Cl]using hs,wf64 p⟩
theorem values_open {H:Type} {enc:TypeId × Value->H} {w:World} {base:Nat} {spare:Nat->Bool} {held:Bool} {fuel:Nat} {v:Value} {x:DataW H × List MemPlace}
  (h:DataW.trod enc Tryz.prog w base spare held fuel 81 [v]=some x):∃ ns:List Ea,Ft w v ns/\Jh ns/\∀ d ∈ ns,Ge d:=by
 obtain⟨l,s,a,k,e,f⟩:=rows_open (α:=Ea) 3 Ou (fun d b=>b=En d/\Cl d.text.size/\Ge d) Tryz.underlying81 cellsLV (fun c=>value_open c) (fun d b f=>by rw[f.1];rfl) h;have r:∀ d ∈ l,Cl d.text.size/\Ge d:=fun d hd=>by
  obtain⟨i,n,rfl⟩:=List.getElem_of_mem hd;obtain⟨g,o,b,p,c,m,q⟩:=f i n;exact m.2
 refine⟨l,⟨a,k,e,fun i n => ?_⟩,⟨s,fun d hd=>(r d hd).1⟩,fun d hd=>(r d hd).2⟩;obtain⟨g,o,b,p,c,m,q⟩:=f i n;exact⟨g,o,p,c,fun j hj=>by rw[<- m.1];exact q j hj⟩
def FrArg (w:World) (f:Fh) (cs:List Value):Prop := ∃ sa sc ta tc,cs=[.int .i64 f.code,.int .i64 f.fn,.int .i64 f.at',.slice sa f.slots.length sc,.slice ta f.stack.length tc]/\Ft w (.slice sa f.slots.length sc) f.slots/\Ft w (.slice ta f.stack.length tc) f.stack/\(Jh f.slots/\Jh f.stack)/\(∀ v ∈ f.slots,Ge v)/\∀ v ∈ f.stack,Ge v
theorem frame_open {H:Type} {enc:TypeId × Value->H} {w:World} {base:Nat} {spare:Nat->Bool} {held:Bool} {fuel:Nat} {cs:List Value} {x:DataW H × List MemPlace}
  (h:DataW.trod enc Tryz.prog w base spare held fuel 83 cs=some x):∃ f:Fh,FrArg w f cs:=by
 obtain⟨v,n,_,_,a,k,b⟩:=DataW.trod_struct Tryz.underlying83 h;rw[cellsLFr]at a;have c:v.length=5:=k;match v,c,cs,a with
 | [y0,y1,y2,y3,y4],_,[v0,v1,v2,v3,v4],_ =>
  have l:DataW.trod enc Tryz.prog w base spare held n 3 (([v0,v1,v2,v3,v4].drop 0).take (Tryz.prog.cellsOf 3))=some y0:=b 0 _ rfl;have m:DataW.trod enc Tryz.prog w base spare held n 3 (([v0,v1,v2,v3,v4].drop 1).take (Tryz.prog.cellsOf 3))=some y1:=b 1 _ rfl;have o:DataW.trod enc Tryz.prog w base spare held n 3 (([v0,v1,v2,v3,v4].drop 2).take (Tryz.prog.cellsOf 3))=some y2:=b 2 _ rfl;have p:DataW.trod enc Tryz.prog w base spare held n 81 (([v0,v1,v2,v3,v4].drop 3).take (Tryz.prog.cellsOf 81))=some y3:=b 3 _ rfl;have q:DataW.trod enc Tryz.prog w base spare held n 81 (([v0,v1,v2,v3,v4].drop 4).take (Tryz.prog.cellsOf 81))=some y4:=b 4 _ rfl;rw[cellsInt]at l m o;rw[cellsLVs]at p q;obtain⟨F,y,_,_⟩:=DataW.trod_int Tryz.underlying3 l;obtain⟨G,z,_,_⟩:=DataW.trod_int Tryz.underlying3 m;obtain⟨I,A,_,_⟩:=DataW.trod_int Tryz.underlying3 o;obtain⟨s,r,d,g⟩:=values_open p;obtain⟨t,u,i,j⟩:=values_open q;cases y;cases z;cases A
  obtain⟨B,C,rfl,_⟩:=id r;obtain⟨D,E,rfl,_⟩:=id u;exact⟨⟨F,G,I,s,t⟩,B,C,D,E,rfl,r,u,⟨d,i⟩,g,j⟩
theorem frames_open {H:Type} {enc:TypeId × Value->H} {w:World} {base:Nat} {spare:Nat->Bool} {held:Bool} {fuel:Nat} {v:Value} {x:DataW H × List MemPlace}
  (h:DataW.trod enc Tryz.prog w base spare held fuel 24 [v]=some x):∃ fs:List Fh,H1 w v fs/\Cl fs.length/\(∀ f ∈ fs,Jh f.slots/\Jh f.stack)/\∀ f ∈ fs,(∀ v ∈ f.slots,Ge v)/\∀ v ∈ f.stack,Ge v:=by
 obtain⟨l,D,a,n,e,m⟩:=rows_open (α:=Fh) 5 Ou (FrArg w) Tryz.underlying24 cellsLFr (fun k=>frame_open k) (fun d b m=>by obtain⟨_,_,_,_,e,_⟩:=m;rw[e];rfl) h;have q:∀ f ∈ l,∃ b,FrArg w f b:=fun d hd=>by
  obtain⟨i,p,rfl⟩:=List.getElem_of_mem hd;obtain⟨g,o,b,c,k,C,j⟩:=m i p;exact⟨b,C⟩
 refine⟨l,⟨a,n,e,fun i p => ?_⟩,D,fun f hf => ?_,fun f hf => ?_⟩
 ·obtain⟨g,o,b,c,k,⟨E,F,G,I,z,A,B,J⟩,j⟩:=m i p;have r:=j 0 Ou;have s:=j 1 Ou;have t:=j 2 Ou;have u:=j 3 Ou;have y:=j 4 Ou;rw[z]at r s t u y;exact⟨g,o,E,F,G,I,c,k,⟨r,s,t,u,y⟩,A,B⟩
 ·obtain⟨b,_,_,_,_,_,_,_,c,_⟩:=q f hf;exact c
 ·obtain⟨b,_,_,_,_,_,_,_,_,c⟩:=q f hf;exact c
def CdArg (w:World) (c:List Af) (cs:List Value):Prop := ∃ a cap,cs=[.slice a c.length cap]/\Ez w (.slice a c.length cap) c/\Cl c.length/\∀ f ∈ c,Lv f/\∀ d ∈ f.ins,insFar d
theorem code1_open {H:Type} {enc:TypeId × Value->H} {w:World} {base:Nat} {spare:Nat->Bool} {held:Bool} {fuel:Nat} {cs:List Value} {x:DataW H × List MemPlace}
  (h:DataW.trod enc Tryz.prog w base spare held fuel 79 cs=some x):∃ c:List Af,CdArg w c cs:=by
 obtain⟨k,n,_,_,b,g,l⟩:=DataW.trod_struct Tryz.underlying79 h;rw[cellsLCode]at b;have d:k.length=1:=g;match k,d,cs,b with
 | [y0],_,[v0],_ =>
  have i:DataW.trod enc Tryz.prog w base spare held n 77 (([v0].drop 0).take (Tryz.prog.cellsOf 77))=some y0:=l 0 _ rfl;rw[cellsLFns]at i;obtain⟨c,j,m,o⟩:=fns_open i;obtain⟨a,f,rfl⟩:=j.slice;exact⟨c,a,f,rfl,j,m,o⟩
theorem codes_open {H:Type} {enc:TypeId × Value->H} {w:World} {base:Nat} {spare:Nat->Bool} {held:Bool} {fuel:Nat} {v:Value} {x:DataW H × List MemPlace}
  (h:DataW.trod enc Tryz.prog w base spare held fuel 22 [v]=some x):∃ b:List (List Af),Gj w v b/\Cl b.length/\(∀ c ∈ b,Cl c.length/\∀ f ∈ c,Lv f)/\∀ c ∈ b,∀ f ∈ c,∀ d ∈ f.ins,insFar d:=by
 obtain⟨l,B,a,n,e,m⟩:=rows_open (α:=List Af) 1 Ou (CdArg w) Tryz.underlying22 cellsLCode (fun j=>code1_open j) (fun d b m=>by obtain⟨_,_,e,_⟩:=m;rw[e];rfl) h;have s:∀ c ∈ l,∃ b,CdArg w c b:=fun d hd=>by
  obtain⟨i,q,rfl⟩:=List.getElem_of_mem hd;obtain⟨g,o,b,k,j,z,r⟩:=m i q;exact⟨b,z⟩
 refine⟨l,⟨a,n,e,fun i q => ?_⟩,B,fun f hf => ?_,fun c hc' f hf => ?_⟩
 ·obtain⟨g,o,b,k,j,⟨A,p,u,y,C⟩,r⟩:=m i q;have t:=r 0 Ou;rw[u]at t;exact⟨g,o,A,p,k,j,by simpa using t,y⟩
 ·obtain⟨b,_,_,_,_,k,j⟩:=s f hf;exact⟨k,fun g hg=>(j g hg).1⟩
 ·obtain⟨b,_,_,_,_,k,j⟩:=s c hc';exact(j f hf).2
end Cd
end Go.Proofs.YtahibkjkpmdhgaaGreatDoor
