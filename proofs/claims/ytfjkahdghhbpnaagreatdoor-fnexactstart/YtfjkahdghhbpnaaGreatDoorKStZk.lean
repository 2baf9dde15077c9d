import Derived.Test.YtfjkahdghhbpnaaGreatDoorKStZ
import Derived.Test.YtfjkahdghhbpnaaGreatDoorCards
import Derived.Test.YtfjkahdghhbpnaaGreatDoorTie
import Derived.Stop.LaidErr
import Derived.Lay
import Derived.SevenTiedAt
import Derived.WalkKit
import Derived.ProofKit
import Derived.OpenShut
import Derived.OpenVars
import Derived.Lib.LaidIn
import Derived.Lib.LaidTab
import Derived.Deep.DeepHandedRow
import Derived.Deep.DeepWitnessRowRef
import Derived.SizedLaws
import Derived.ChangeVars
import Derived.Carry
import Derived.Deep.Slices
import Derived.ChangeArms
set_option maxRecDepth 100000
set_option maxHeartbeats 2000000
namespace Go.Proofs.YtfjkahdghhbpnaaGreatDoor
namespace Cd
open Go.ChangeShapes Go.WideShapes Go.ChangeAt Go.RowKit Go.Lib Go.Deep
theorem lt_cell {W:World} {b o:Nat} {v:Value} (h:W.cell? ⟨b,o,none⟩=some v):b < W.heap.size:=by
 unfold World.cell? at h
 split at h
 ·rename_i hb;exact(Array.getElem?_eq_some_iff.1 hb).1
 ·cases h
theorem cellsInt : Tryz.prog.cellsOf 3=1:=by kernel_rfl
theorem cellsBool : Tryz.prog.cellsOf 4=1:=by kernel_rfl
theorem cellsString : Tryz.prog.cellsOf 9=1:=by kernel_rfl
theorem cellsWord : Tryz.prog.cellsOf 247=2:=by kernel_rfl
theorem cellsTy : Tryz.prog.cellsOf 244=4:=by kernel_rfl
theorem cells3 : Tryz.prog.cellsOf 242=3:=by kernel_rfl
theorem cells2 : Tryz.prog.cellsOf 220=2:=by kernel_rfl
theorem cellsRow : Tryz.prog.cellsOf 222=5:=by kernel_rfl
theorem gWords : Tryz.prog.globalNamed "loop.example/kilnmill/impl.builtWords" = some 2:=by kernel_rfl
theorem gWordsT : (Tryz.prog.globals[2]?).map (·.type)=some 248:=by kernel_rfl
theorem gTys : Tryz.prog.globalNamed "loop.example/kilnmill/impl.builtTypes" = some 1:=by kernel_rfl
theorem gTysT : (Tryz.prog.globals[1]?).map (·.type)=some 245:=by kernel_rfl
theorem gRows : Tryz.prog.globalNamed "loop.example/kilnmill/impl.insRows" = some 0:=by kernel_rfl
theorem gRowsT : (Tryz.prog.globals[0]?).map (·.type)=some 223:=by kernel_rfl
theorem word_of {W:World} {cs:List Value} {fuel:Nat} {p:List MemPlace} {l:List (DataW Unit)} {enc:TypeId × Value->Unit} {base:Nat} {spare:Nat->Bool} {held:Bool} (h:DataW.trod enc Tryz.prog W base spare held fuel 248 cs=some (.agg l,p)) (i:Nat) (hi:i < 13) (a:DataW Unit) (z:Int) (hz:l[i]? = some (.agg [a,.lit (.int .i64 z)])):cs[i * 2+1]? = some (.int .i64 z):=by
 obtain⟨u,m,_,C,s,D,g⟩:=DataW.trod_array Tryz.underlying248 h
 have j:l=u.map (·.1):=by have:=(Prod.mk.inj C).1;injection this
 have f:=g i hi
 rw[cellsWord]at f
 have n:∃ y,u[i]? = some y:=⟨_,List.getElem?_eq_getElem (by omega)⟩
 obtain⟨y,t⟩:=n
 rw[t]at f
 obtain⟨v,k,_,o,_,c,B⟩:=DataW.trod_struct Tryz.underlying247 f
 have b:y.1 = .agg [a,.lit (.int .i64 z)]:=by
  rw[j,List.getElem?_map,t]at hz
  simpa using hz
 rw[o]at b
 have d:v.length=2:=c
 clear c
 match v,d with
 | [y0,y1],_ =>
  have r:DataW.trod enc Tryz.prog W base spare held k 3 ((((cs.drop (i * 2)).take 2).drop 1).take (Tryz.prog.cellsOf 3))=some y1:=B 1 _ rfl
  rw[cellsInt]at r
  simp only[List.map_cons,List.map_nil,DataW.agg.injEq,List.cons.injEq,and_true]at b
  obtain⟨E,x,A,_⟩:=DataW.trod_int Tryz.underlying3 r
  have q:E=z:=by
   have e:=b.2
   rw[A]at e
   simpa using e
  subst q
  have e:=congrArg (fun l=>l[0]?) x
  simpa[List.getElem?_drop,List.getElem?_take]using e
theorem three_of {W:World} {cs:List Value} {fuel:Nat} {x:DataW Unit × List MemPlace} {enc:TypeId × Value->Unit} {base:Nat} {spare:Nat->Bool} {held:Bool} (h:DataW.trod enc Tryz.prog W base spare held fuel 242 cs=some x) (za zb zc:Int) (hz:x.1 = .agg [.lit (.int .i64 za),.lit (.int .i64 zb),.lit (.int .i64 zc)]):cs[0]? = some (.int .i64 za)/\cs[1]? = some (.int .i64 zb)/\cs[2]? = some (.int .i64 zc):=by
 obtain⟨u,m,_,D,t,b,a⟩:=DataW.trod_array Tryz.underlying242 h
 have c:u.length=3:=b
 rw[D]at hz
 clear b
 match u,c with
 | [y0,y1,y2],_ =>
  simp only[List.map_cons,List.map_nil,DataW.agg.injEq,List.cons.injEq,and_true]at hz
  have n:=a 0 (by omega);have o:=a 1 (by omega);have p:=a 2 (by omega)
  rw[cellsInt]at n o p
  have A:DataW.trod enc Tryz.prog W base spare held m 3 ((cs.drop (0 * 1)).take 1)=some y0:=n
  have B:DataW.trod enc Tryz.prog W base spare held m 3 ((cs.drop (1 * 1)).take 1)=some y1:=o
  have C:DataW.trod enc Tryz.prog W base spare held m 3 ((cs.drop (2 * 1)).take 1)=some y2:=p
  obtain⟨E,d,i,_⟩:=DataW.trod_int Tryz.underlying3 A
  obtain⟨F,f,j,_⟩:=DataW.trod_int Tryz.underlying3 B
  obtain⟨G,g,k,_⟩:=DataW.trod_int Tryz.underlying3 C
  rw[i,j,k]at hz
  have v:E=za:=by simpa using hz.1
  have y:F=zb:=by simpa using hz.2.1
  have z:G=zc:=by simpa using hz.2.2
  subst v;subst y;subst z
  have q:=congrArg (fun l=>l[0]?) d
  have r:=congrArg (fun l=>l[0]?) f
  have s:=congrArg (fun l=>l[0]?) g
  simp only[List.getElem?_take,List.getElem?_drop]at q r s
  exact⟨by simpa using q,by simpa using r,by simpa using s⟩
theorem types_of {W:World} {cs:List Value} {fuel:Nat} {p:List MemPlace} {l:List (DataW Unit)} {enc:TypeId × Value->Unit} {base:Nat} {spare:Nat->Bool} {held:Bool} (h:DataW.trod enc Tryz.prog W base spare held fuel 245 cs=some (.agg l,p)) (i:Nat) (hi:i < 13) (za zb zc zd:Int) (hz:l[i]? = some (.agg [.agg [.lit (.int .i64 za),.lit (.int .i64 zb),.lit (.int .i64 zc)],.lit (.int .i64 zd)])) :
  cs[i * 4]? = some (.int .i64 za)/\cs[i * 4+1]? = some (.int .i64 zb)/\cs[i * 4+2]? = some (.int .i64 zc)/\cs[i * 4+3]? = some (.int .i64 zd):=by
 obtain⟨v,m,_,E,t,F,f⟩:=DataW.trod_array Tryz.underlying245 h
 have g:l=v.map (·.1):=by have:=(Prod.mk.inj E).1;injection this
 have d:=f i hi
 rw[cellsTy]at d
 have j:∃ y,v[i]? = some y:=⟨_,List.getElem?_eq_getElem (by omega)⟩
 obtain⟨y,u⟩:=j
 rw[u]at d
 obtain⟨x,k,_,n,_,b,s⟩:=DataW.trod_struct Tryz.underlying244 d
 have a:y.1 = .agg [.agg [.lit (.int .i64 za),.lit (.int .i64 zb),.lit (.int .i64 zc)],.lit (.int .i64 zd)]:=by
  rw[g,List.getElem?_map,u]at hz
  simpa using hz
 rw[n]at a
 have c:x.length=2:=b
 clear b
 match x,c with
 | [y0,y1],_ =>
  have r:DataW.trod enc Tryz.prog W base spare held k 242 ((((cs.drop (i * 4)).take 4).drop 0).take (Tryz.prog.cellsOf 242))=some y0:=s 0 _ rfl
  have q:DataW.trod enc Tryz.prog W base spare held k 3 ((((cs.drop (i * 4)).take 4).drop 3).take (Tryz.prog.cellsOf 3))=some y1:=s 1 _ rfl
  rw[cells3]at r
  rw[cellsInt]at q
  simp only[List.map_cons,List.map_nil,DataW.agg.injEq,List.cons.injEq,and_true]at a
  obtain⟨z,A,B⟩:=three_of r za zb zc a.1
  obtain⟨G,C,D,_⟩:=DataW.trod_int Tryz.underlying3 q
  have o:G=zd:=by
   have e:=a.2
   rw[D]at e
   simpa using e
  subst o
  have e:=congrArg (fun l=>l[0]?) C
  refine⟨?_, ?_, ?_, ?_⟩
  ·simpa[List.getElem?_drop,List.getElem?_take]using z
  ·simpa[List.getElem?_drop,List.getElem?_take]using A
  ·simpa[List.getElem?_drop,List.getElem?_take]using B
  ·simpa[List.getElem?_drop,List.getElem?_take]using e
theorem two_of {W:World} {cs:List Value} {fuel:Nat} {x:DataW Unit × List MemPlace} {enc:TypeId × Value->Unit} {base:Nat} {spare:Nat->Bool} {held:Bool} (h:DataW.trod enc Tryz.prog W base spare held fuel 220 cs=some x) (za zb:Int) (hz:x.1 = .agg [.lit (.int .i64 za),.lit (.int .i64 zb)]):cs[0]? = some (.int .i64 za)/\cs[1]? = some (.int .i64 zb):=by
 obtain⟨q,m,_,v,p,b,a⟩:=DataW.trod_array Tryz.underlying220 h
 have c:q.length=2:=b
 rw[v]at hz
 clear b
 match q,c with
 | [y0,y1],_ =>
  simp only[List.map_cons,List.map_nil,DataW.agg.injEq,List.cons.injEq,and_true]at hz
  have j:=a 0 (by omega);have k:=a 1 (by omega)
  rw[cellsInt]at j k
  have t:DataW.trod enc Tryz.prog W base spare held m 3 ((cs.drop (0 * 1)).take 1)=some y0:=j
  have u:DataW.trod enc Tryz.prog W base spare held m 3 ((cs.drop (1 * 1)).take 1)=some y1:=k
  obtain⟨y,d,g,_⟩:=DataW.trod_int Tryz.underlying3 t
  obtain⟨z,f,i,_⟩:=DataW.trod_int Tryz.underlying3 u
  rw[g,i]at hz
  have r:y=za:=by simpa using hz.1
  have s:z=zb:=by simpa using hz.2
  subst r;subst s
  have n:=congrArg (fun l=>l[0]?) d
  have o:=congrArg (fun l=>l[0]?) f
  simp only[List.getElem?_take,List.getElem?_drop]at n o
  exact⟨by simpa using n,by simpa using o⟩
theorem rows_of {W:World} {cs:List Value} {fuel:Nat} {p:List MemPlace} {l:List (DataW Unit)} {enc:TypeId × Value->Unit} {base:Nat} {spare:Nat->Bool} {held:Bool} (h:DataW.trod enc Tryz.prog W base spare held fuel 223 cs=some (.agg l,p)) (i:Nat) (hi:i < 17) (b:Bool) (za zb zc zd:Int) (hz:l[i]? = some (.agg [.lit (.bool b),.agg [.lit (.int .i64 za),.lit (.int .i64 zb)],.lit (.int .i64 zc),.lit (.int .i64 zd)])) :
  cs[i * 5]? = some (.bool b)/\cs[i * 5+1]? = some (.int .i64 za)/\cs[i * 5+2]? = some (.int .i64 zb)/\cs[i * 5+3]? = some (.int .i64 zc)/\cs[i * 5+4]? = some (.int .i64 zd):=by
 obtain⟨F,m,_,Q,D,R,t⟩:=DataW.trod_array Tryz.underlying223 h
 have u:l=F.map (·.1):=by have:=(Prod.mk.inj Q).1;injection this
 have g:=t i hi
 rw[cellsRow]at g
 have v:∃ y,F[i]? = some y:=⟨_,List.getElem?_eq_getElem (by omega)⟩
 obtain⟨y,E⟩:=v
 rw[E]at g
 obtain⟨G,k,_,x,_,c,f⟩:=DataW.trod_struct Tryz.underlying222 g
 have a:y.1 = .agg [.lit (.bool b),.agg [.lit (.int .i64 za),.lit (.int .i64 zb)],.lit (.int .i64 zc),.lit (.int .i64 zd)]:=by
  rw[u,List.getElem?_map,E]at hz
  simpa using hz
 rw[x]at a
 have d:G.length=4:=c
 clear c
 match G,d with
 | [y0,y1,y2,y3],_ =>
  have z:DataW.trod enc Tryz.prog W base spare held k 4 ((((cs.drop (i * 5)).take 5).drop 0).take (Tryz.prog.cellsOf 4))=some y0:=f 0 _ rfl
  have A:DataW.trod enc Tryz.prog W base spare held k 220 ((((cs.drop (i * 5)).take 5).drop 1).take (Tryz.prog.cellsOf 220))=some y1:=f 1 _ rfl
  have B:DataW.trod enc Tryz.prog W base spare held k 3 ((((cs.drop (i * 5)).take 5).drop 3).take (Tryz.prog.cellsOf 3))=some y2:=f 2 _ rfl
  have C:DataW.trod enc Tryz.prog W base spare held k 3 ((((cs.drop (i * 5)).take 5).drop 4).take (Tryz.prog.cellsOf 3))=some y3:=f 3 _ rfl
  rw[cellsBool]at z
  rw[cells2]at A
  rw[cellsInt]at B C
  simp only[List.map_cons,List.map_nil,DataW.agg.injEq,List.cons.injEq,and_true]at a
  obtain⟨H,I⟩:=two_of A za zb a.2.1
  obtain⟨J,o,s⟩:=DataW.trod_bool Tryz.underlying4 z
  obtain⟨S,j,q,_⟩:=DataW.trod_int Tryz.underlying3 B
  obtain⟨T,n,r,_⟩:=DataW.trod_int Tryz.underlying3 C
  have K:J=b:=by
   have e:=a.1
   rw[s]at e
   simpa using e
  have L:S=zc:=by
   have e:=a.2.2.1
   rw[q]at e
   simpa using e
  have M:T=zd:=by
   have e:=a.2.2.2
   rw[r]at e
   simpa using e
  subst K L M
  have N:=congrArg (fun l=>l[0]?) o
  have O:=congrArg (fun l=>l[0]?) j
  have P:=congrArg (fun l=>l[0]?) n
  refine⟨?_, ?_, ?_, ?_, ?_⟩
  ·simpa[List.getElem?_drop,List.getElem?_take]using N
  ·simpa[List.getElem?_drop,List.getElem?_take]using H
  ·simpa[List.getElem?_drop,List.getElem?_take]using I
  ·simpa[List.getElem?_drop,List.getElem?_take]using O
  ·simpa[List.getElem?_drop,List.getElem?_take]using P
theorem insTabOf {W:World} {r:List (String × DataW Unit)} (h:laidMet Tryz.prog (("loop.example/kilnmill/impl.insRows",Rows.laid_loop_example_kilnmill_impl_insRows)::r) W):Cg W:=by
 obtain⟨J,⟨I,K,c,v,p,q,g,i,f,b,_,_⟩,_⟩:=h
 obtain rfl:=Option.some.inj (gRows.symm.trans g)
 obtain rfl:=Option.some.inj (gRowsT.symm.trans i)
 have d:∀ k z,c.toList[k]? = some z->W.cell? ⟨0,k,none⟩=some z:=fun k z hz=>by
  rw[World.var?_cell gRows f k]
  simpa using hz
 have x:=rows_of b 1 (by omega) true 0 0 16 0 rfl
 have A:=rows_of b 2 (by omega) true 0 0 17 0 rfl
 have B:=rows_of b 3 (by omega) true 12 0 0 0 rfl
 have C:=rows_of b 4 (by omega) false 12 0 0 0 rfl
 have D:=rows_of b 5 (by omega) true 12 0 18 0 rfl
 have E:=rows_of b 6 (by omega) true 12 12 19 0 rfl
 have F:=rows_of b 7 (by omega) true 11 0 16 0 rfl
 have G:=rows_of b 8 (by omega) true 13 0 20 0 rfl
 have H:=rows_of b 9 (by omega) true 14 0 21 0 rfl
 have j:=rows_of b 10 (by omega) true 0 0 0 1 rfl
 have l:=rows_of b 11 (by omega) true 1 0 0 2 rfl
 have n:=rows_of b 12 (by omega) true 15 0 0 3 rfl
 have o:=rows_of b 13 (by omega) false 2 0 0 3 rfl
 have s:=rows_of b 14 (by omega) false 2 2 0 0 rfl
 have t:=rows_of b 15 (by omega) false 2 0 0 0 rfl
 have u:=rows_of b 16 (by omega) false 0 0 0 0 rfl
 have a:∀ m:Nat,1<=m->m<=16->c.toList[m * 5]? = some (.bool (B2 m).1)/\c.toList[m * 5+1]? = some (.int .i64 (B2 m).2.1)/\c.toList[m * 5+2]? = some (.int .i64 (B2 m).2.2.1)/\c.toList[m * 5+3]? = some (.int .i64 (B2 m).2.2.2.1)/\c.toList[m * 5+4]? = some (.int .i64 (B2 m).2.2.2.2):=fun m h1 h2=>by
  have y:m=1\/m=2\/m=3\/m=4\/m=5\/m=6\/m=7\/m=8\/m=9\/m=10\/m=11\/m=12\/m=13\/m=14\/m=15\/m=16:=by omega
  rcases y with rfl|rfl|rfl|rfl|rfl|rfl|rfl|rfl|rfl|rfl|rfl|rfl|rfl|rfl|rfl|rfl
  ·exact x
  ·exact A
  ·exact B
  ·exact C
  ·exact D
  ·exact E
  ·exact F
  ·exact G
  ·exact H
  ·exact j
  ·exact l
  ·exact n
  ·exact o
  ·exact s
  ·exact t
  ·exact u
 exact⟨lt_cell (d _ _ x.1),fun m h1 h2=>d _ _ (a m h1 h2).1,fun m h1 h2=>d _ _ (a m h1 h2).2.1,fun m h1 h2=>d _ _ (a m h1 h2).2.2.1,fun m h1 h2=>d _ _ (a m h1 h2).2.2.2.1,fun m h1 h2=>d _ _ (a m h1 h2).2.2.2.2⟩
theorem wordsOf {W:World} {r:List (String × DataW Unit)} (h:laidMet Tryz.prog (("loop.example/kilnmill/impl.builtWords",Rows.laid_loop_example_kilnmill_impl_builtWords)::r) W):(∀ m:Nat,1<=m->m<=12->W.cell? ⟨2,m * 2+1,none⟩=some (.int .i64 ((Fv m).length:Int)))/\2 < W.heap.size:=by
 obtain⟨n,⟨l,o,k,g,p,q,d,f,c,j,_,_⟩,_⟩:=h
 obtain rfl:=Option.some.inj (gWords.symm.trans d)
 obtain rfl:=Option.some.inj (gWordsT.symm.trans f)
 have b:∀ i (_:i < 13) a z,_->W.cell? ⟨2,i * 2+1,none⟩=some (.int .i64 z):=fun i hi a z hz=>by
  rw[World.var?_cell gWords c (i * 2+1)]
  have e:=word_of j i hi a z hz
  simpa using e
 refine⟨fun m h1 h2 => ?_,lt_cell (b 0 (by omega) _ _ rfl)⟩
 have:m=1\/m=2\/m=3\/m=4\/m=5\/m=6\/m=7\/m=8\/m=9\/m=10\/m=11\/m=12:=by omega
 rcases this with rfl|rfl|rfl|rfl|rfl|rfl|rfl|rfl|rfl|rfl|rfl|rfl
 ·exact b 1 (by omega) _ _ rfl
 ·exact b 2 (by omega) _ _ rfl
 ·exact b 3 (by omega) _ _ rfl
 ·exact b 4 (by omega) _ _ rfl
 ·exact b 5 (by omega) _ _ rfl
 ·exact b 6 (by omega) _ _ rfl
 ·exact b 7 (by omega) _ _ rfl
 ·exact b 8 (by omega) _ _ rfl
 ·exact b 9 (by omega) _ _ rfl
 ·exact b 10 (by omega) _ _ rfl
 ·exact b 11 (by omega) _ _ rfl
 ·exact b 12 (by omega) _ _ rfl
theorem typesOf {W:World} {r:List (String × DataW Unit)} (h:laidMet Tryz.prog (("loop.example/kilnmill/impl.builtTypes",Rows.laid_loop_example_kilnmill_impl_builtTypes)::r) W):(∀ m:Nat,1<=m->m<=12->(∀ j,j < 3->W.cell? ⟨1,m * 4+j,none⟩=some (.int .i64 ((Fv m).getD j 0)))/\W.cell? ⟨1,m * 4+3,none⟩=some (.int .i64 (Dc (m:Int))))/\1 < W.heap.size:=by
 obtain⟨L,⟨K,M,i,y,p,q,o,t,n,g,_,_⟩,_⟩:=h
 obtain rfl:=Option.some.inj (gTys.symm.trans o)
 obtain rfl:=Option.some.inj (gTysT.symm.trans t)
 have l:∀ k z,i.toList[k]? = some z->W.cell? ⟨1,k,none⟩=some z:=fun k z hz=>by
  rw[World.var?_cell gTys n k]
  simpa using hz
 have A:=types_of g 0 (by omega) 0 0 0 0 rfl
 have B:=types_of g 1 (by omega) 2 0 0 2 rfl
 have C:=types_of g 2 (by omega) 2 0 0 1 rfl
 have D:=types_of g 3 (by omega) 2 0 0 2 rfl
 have E:=types_of g 4 (by omega) 2 2 0 2 rfl
 have F:=types_of g 5 (by omega) 0 0 0 2 rfl
 have G:=types_of g 6 (by omega) 2 0 0 10 rfl
 have H:=types_of g 7 (by omega) 2 10 0 3 rfl
 have I:=types_of g 8 (by omega) 2 10 10 2 rfl
 have J:=types_of g 9 (by omega) 2 2 0 10 rfl
 have u:=types_of g 10 (by omega) 3 0 0 2 rfl
 have v:=types_of g 11 (by omega) 11 0 0 2 rfl
 have x:=types_of g 12 (by omega) 2 0 0 10 rfl
 have f:∀ (m:Nat) (a b c d:Int),(i.toList[m * 4]? = some (.int .i64 a)/\i.toList[m * 4+1]? = some (.int .i64 b)/\i.toList[m * 4+2]? = some (.int .i64 c)/\i.toList[m * 4+3]? = some (.int .i64 d))->(Fv m).getD 0 0=a->(Fv m).getD 1 0=b->(Fv m).getD 2 0=c->Dc (m:Int)=d->(∀ j,j < 3->W.cell? ⟨1,m * 4+j,none⟩=some (.int .i64 ((Fv m).getD j 0)))/\W.cell? ⟨1,m * 4+3,none⟩=some (.int .i64 (Dc (m:Int))):=fun m a b c d ht ha hb hcc hdd=>by
  refine⟨fun j hj => ?_,by rw[hdd];exact l _ _ ht.2.2.2⟩
  have s:j=0\/j=1\/j=2:=by omega
  rcases s with rfl|rfl|rfl
  ·rw[ha];exact l _ _ ht.1
  ·rw[hb];exact l _ _ ht.2.1
  ·rw[hcc];exact l _ _ ht.2.2.1
 refine⟨fun m h1 h2 => ?_,lt_cell (l _ _ A.1)⟩
 have:m=1\/m=2\/m=3\/m=4\/m=5\/m=6\/m=7\/m=8\/m=9\/m=10\/m=11\/m=12:=by omega
 rcases this with rfl|rfl|rfl|rfl|rfl|rfl|rfl|rfl|rfl|rfl|rfl|rfl
 ·exact f 1 _ _ _ _ B (by decide) (by decide) (by decide) (by decide)
 ·exact f 2 _ _ _ _ C (by decide) (by decide) (by decide) (by decide)
 ·exact f 3 _ _ _ _ D (by decide) (by decide) (by decide) (by decide)
 ·exact f 4 _ _ _ _ E (by decide) (by decide) (by decide) (by decide)
 ·exact f 5 _ _ _ _ F (by decide) (by decide) (by decide) (by decide)
 ·exact f 6 _ _ _ _ G (by decide) (by decide) (by decide) (by decide)
 ·exact f 7 _ _ _ _ H (by decide) (by decide) (by decide) (by decide)
 ·exact f 8 _ _ _ _ I (by decide) (by decide) (by decide) (by decide)
 ·exact f 9 _ _ _ _ J (by decide) (by decide) (by decide) (by decide)
 ·exact f 10 _ _ _ _ u (by decide) (by decide) (by decide) (by decide)
 ·exact f 11 _ _ _ _ v (by decide) (by decide) (by decide) (by decide)
 ·exact f 12 _ _ _ _ x (by decide) (by decide) (by decide) (by decide)
theorem tabsOf {W:World} (h:laidMetH Tryz.prog Rows.fnExactStartRow.laid W):Cg W/\Dj W:=by
 have c:laidMet Tryz.prog Rows.fnExactStartRow.laid W:=h
 have d:=laidMet.tail c
 have g:=laidMet.tail d
 obtain⟨i,k⟩:=wordsOf c
 obtain⟨f,l⟩:=typesOf d
 exact⟨insTabOf g,⟨l,k,fun m a b j hj=>(f m a b).1 j hj,fun m a b=>(f m a b).2,i⟩⟩
end Cd
end Go.Proofs.YtfjkahdghhbpnaaGreatDoor
namespace Go.Proofs.YtfjkahdghhbpnaaGreatDoor
namespace Cd
open Go.ChangeShapes Go.WideShapes Go.ChangeAt Go.RowKit Go.Lib Go.Deep
theorem cellsInt64 : Tryz.prog.cellsOf 2=1:=by kernel_rfl
theorem cellsLIns : Tryz.prog.cellsOf 169=4:=by kernel_rfl
theorem cellsLFn : Tryz.prog.cellsOf 93=5:=by kernel_rfl
theorem cellsLCode : Tryz.prog.cellsOf 24=1:=by kernel_rfl
theorem cellsInts : Tryz.prog.cellsOf 90=1:=by kernel_rfl
theorem cellsLInss : Tryz.prog.cellsOf 91=1:=by kernel_rfl
theorem cellsLFns : Tryz.prog.cellsOf 22=1:=by kernel_rfl
theorem wf64 {n:Int} (h:(Lit.int .i64 n).wf=true) : -9223372036854775808<=n/\n<=9223372036854775807:=by
 have a:IntKind.i64.min = -9223372036854775808:=by decide
 have b:IntKind.i64.max=9223372036854775807:=by decide
 simp only[Lit.wf,a,b,Bool.and_eq_true,decide_eq_true_eq]at h
 exact h
instance : Inhabited Ax:=⟨H6⟩
def insFar (d:Ax):Prop:=d.text.size<=9223372036854775807 /\ -9223372036854775808<=d.n/\d.n<=9223372036854775807
theorem add_at {b o k:Nat}:(Addr.add ⟨b,o,none⟩ k)=⟨b,o+k,none⟩:=by unfold Addr.add;split <;> simp_all
theorem ins_open {H:Type} {enc:TypeId × Value->H} {w:World} {base:Nat} {spare:Nat->Bool} {held:Bool} {fuel:Nat} {cs:List Value} {x:DataW H × List MemPlace}
  (h:DataW.trod enc Tryz.prog w base spare held fuel 169 cs=some x):∃ d:Ax,cs=Cz d/\insFar d:=by
 obtain⟨l,n,_,_,a,b,f⟩:=DataW.trod_struct Tryz.underlying169 h
 rw[cellsLIns]at a
 have c:l.length=4:=b
 clear b
 match l,c,cs,a with
 | [y0,y1,y2,y3],_,[v0,v1,v2,v3],_ =>
  have g:DataW.trod enc Tryz.prog w base spare held n 3 (([v0,v1,v2,v3].drop 0).take (Tryz.prog.cellsOf 3))=some y0:=f 0 _ rfl
  have i:DataW.trod enc Tryz.prog w base spare held n 3 (([v0,v1,v2,v3].drop 1).take (Tryz.prog.cellsOf 3))=some y1:=f 1 _ rfl
  have j:DataW.trod enc Tryz.prog w base spare held n 2 (([v0,v1,v2,v3].drop 2).take (Tryz.prog.cellsOf 2))=some y2:=f 2 _ rfl
  have k:DataW.trod enc Tryz.prog w base spare held n 9 (([v0,v1,v2,v3].drop 3).take (Tryz.prog.cellsOf 9))=some y3:=f 3 _ rfl
  rw[cellsInt]at g i
  rw[cellsInt64]at j
  rw[cellsString]at k
  have m:DataW.trod enc Tryz.prog w base spare held n 3 [v0]=some y0:=g
  have o:DataW.trod enc Tryz.prog w base spare held n 3 [v1]=some y1:=i
  have p:DataW.trod enc Tryz.prog w base spare held n 2 [v2]=some y2:=j
  have q:DataW.trod enc Tryz.prog w base spare held n 9 [v3]=some y3:=k
  obtain⟨y,r,_,_⟩:=DataW.trod_int Tryz.underlying3 m
  obtain⟨z,s,_,_⟩:=DataW.trod_int Tryz.underlying3 o
  obtain⟨A,t,_,v⟩:=DataW.trod_int Tryz.underlying2 p
  obtain⟨B,u,_,hs⟩:=DataW.trod_string Tryz.underlying9 q
  cases r;cases s;cases t;cases u
  exact⟨⟨y,z,A,B⟩,rfl,by simpa[maxLen]using hs,wf64 v⟩
theorem inss_open {H:Type} {enc:TypeId × Value->H} {w:World} {base:Nat} {spare:Nat->Bool} {held:Bool} {fuel:Nat} {v:Value} {x:DataW H × List MemPlace}
  (h:DataW.trod enc Tryz.prog w base spare held fuel 91 [v]=some x):∃ l:List Ax,Ee w v l/\l.length<=9223372036854775807/\∀ d ∈ l,insFar d:=by
 rcases open_slice Tryz.underlying91 h with⟨C,_⟩|⟨a,j,t,m,n,D,M,C,N,O,L,A,_,F⟩
 ·cases C
  exact⟨[],⟨none,0,rfl,fun i k=>by simp at k⟩,by simp,by simp⟩
 ·cases C
  have K:j<=m:=by rw[A];split <;> omega
  rw[cellsLIns]at F
  obtain⟨d,y⟩:=choose_lt (α:=Ax) (n:=j) (p:=fun i d=>w.cells? base (a.add (i * 4)) 4=some (Cz d)/\insFar d) (fun i k=>by
   obtain⟨I,u,J⟩:=F i (by omega)
   obtain⟨d,rfl,hs⟩:=ins_open J
   exact⟨d,u,hs⟩)
  refine⟨(List.range j).map d,⟨some a,t,by simp,fun i k => ?_⟩,by simp[maxLen]at L |-;omega,fun e he => ?_⟩
  ·have z:i < j:=by simpa using k
   obtain⟨u,_⟩:=y i z
   obtain⟨_,_,c⟩:=World.cells?_some u
   have f:w.cell? ((a.add (i * 4)).add 0)=some (.int .i64 (d i).op):=c 0 (by omega)
   have q:w.cell? ((a.add (i * 4)).add 1)=some (.int .i64 (d i).a):=c 1 (by omega)
   have r:w.cell? ((a.add (i * 4)).add 2)=some (.int .i64 (d i).n):=c 2 (by omega)
   have s:w.cell? ((a.add (i * 4)).add 3)=some (.string (d i).text):=c 3 (by omega)
   obtain⟨b,o,G⟩:=a
   have B:G=none:=by
    obtain⟨_,_,g⟩:=World.cells?_some (y 0 (by omega)).1
    have E:w.cell? ((Addr.add ⟨b,o,G⟩ (0 * 4)).add 0)=some (.int .i64 (d 0).op):=g 0 (by omega)
    simp[Addr.add]at E
    exact World.cell?_spot E
   subst B
   rw[add_at,add_at]at f q r s
   rw[Nat.add_zero]at f
   refine⟨b,o,rfl,lt_cell f, ?_, ?_, ?_, ?_⟩
   ·rw[f];simp
   ·rw[q];simp
   ·rw[r];simp
   ·rw[s];simp
  ·simp only[List.mem_map,List.mem_range]at he
   obtain⟨i,k,rfl⟩:=he
   exact(y i k).2
theorem ints_open {H:Type} {enc:TypeId × Value->H} {w:World} {base:Nat} {spare:Nat->Bool} {held:Bool} {fuel:Nat} {v:Value} {x:DataW H × List MemPlace}
  (h:DataW.trod enc Tryz.prog w base spare held fuel 90 [v]=some x):∃ l:List Int,Ab w.heap.size w v l/\l.length<=9223372036854775807:=by
 rcases open_slice Tryz.underlying90 h with⟨u,_⟩|⟨a,f,k,m,n,D,I,u,J,K,G,s,_,A⟩
 ·cases u
  exact⟨[],⟨none,0,rfl,fun i hi=>by simp at hi⟩,by simp⟩
 ·cases u
  have F:f<=m:=by rw[s];split <;> omega
  rw[cellsInt]at A
  obtain⟨d,z⟩:=choose_lt (α:=Int) (n:=f) (p:=fun i d=>w.cells? base (a.add (i * 1)) 1=some [.int .i64 d]) (fun i hi=>by
   obtain⟨C,q,E⟩:=A i (by omega)
   obtain⟨d,rfl,_⟩:=DataW.trod_int Tryz.underlying3 E
   exact⟨d,q⟩)
  refine⟨(List.range f).map d,⟨some a,k,by simp,fun i hi => ?_⟩,by simp[maxLen]at G |-;omega⟩
  have r:i < f:=by simpa using hi
  have q:=z i r
  obtain⟨_,_,j⟩:=World.cells?_some q
  have g:w.cell? ((a.add (i * 1)).add 0)=some (.int .i64 (d i)):=j 0 (by omega)
  obtain⟨b,o,B⟩:=a
  have t:B=none:=by
   obtain⟨_,_,c⟩:=World.cells?_some (z 0 (by omega))
   have y:w.cell? ((Addr.add ⟨b,o,B⟩ (0 * 1)).add 0)=some (.int .i64 (d 0)):=c 0 (by omega)
   simp[Addr.add]at y
   exact World.cell?_spot y
  subst t
  rw[add_at,add_at,Nat.add_zero,Nat.mul_one]at g
  refine⟨b,o,rfl,lt_cell g, ?_⟩
  rw[g];simp
structure FnArg (w:World) (cs:List Value) (f:Ae):Prop where
 cells:∃ pa pc ia ic,cs=Ig f (.slice pa f.params.length pc) (.slice ia f.ins.length ic)/\Ab w.heap.size w (.slice pa f.params.length pc) f.params/\Ee w (.slice ia f.ins.length ic) f.ins
 far:Pz f
 nums:∀ d ∈ f.ins,insFar d
theorem fn_open {H:Type} {enc:TypeId × Value->H} {w:World} {base:Nat} {spare:Nat->Bool} {held:Bool} {fuel:Nat} {cs:List Value} {x:DataW H × List MemPlace}
  (h:DataW.trod enc Tryz.prog w base spare held fuel 93 cs=some x):∃ f:Ae,FnArg w cs f:=by
 obtain⟨t,n,_,_,a,g,b⟩:=DataW.trod_struct Tryz.underlying93 h
 rw[cellsLFn]at a
 have i:t.length=5:=g
 clear g
 match t,i,cs,a with
 | [y0,y1,y2,y3,y4],_,[v0,v1,v2,v3,v4],_ =>
  have l:DataW.trod enc Tryz.prog w base spare held n 9 (([v0,v1,v2,v3,v4].drop 0).take (Tryz.prog.cellsOf 9))=some y0:=b 0 _ rfl
  have m:DataW.trod enc Tryz.prog w base spare held n 90 (([v0,v1,v2,v3,v4].drop 1).take (Tryz.prog.cellsOf 90))=some y1:=b 1 _ rfl
  have o:DataW.trod enc Tryz.prog w base spare held n 3 (([v0,v1,v2,v3,v4].drop 2).take (Tryz.prog.cellsOf 3))=some y2:=b 2 _ rfl
  have p:DataW.trod enc Tryz.prog w base spare held n 3 (([v0,v1,v2,v3,v4].drop 3).take (Tryz.prog.cellsOf 3))=some y3:=b 3 _ rfl
  have q:DataW.trod enc Tryz.prog w base spare held n 91 (([v0,v1,v2,v3,v4].drop 4).take (Tryz.prog.cellsOf 91))=some y4:=b 4 _ rfl
  rw[cellsString]at l
  rw[cellsInts]at m
  rw[cellsInt]at o p
  rw[cellsLInss]at q
  have u:DataW.trod enc Tryz.prog w base spare held n 9 [v0]=some y0:=l
  have v:DataW.trod enc Tryz.prog w base spare held n 90 [v1]=some y1:=m
  have y:DataW.trod enc Tryz.prog w base spare held n 3 [v2]=some y2:=o
  have z:DataW.trod enc Tryz.prog w base spare held n 3 [v3]=some y3:=p
  have A:DataW.trod enc Tryz.prog w base spare held n 91 [v4]=some y4:=q
  obtain⟨K,B,_,hs⟩:=DataW.trod_string Tryz.underlying9 u
  obtain⟨L,C,_,_⟩:=DataW.trod_int Tryz.underlying3 y
  obtain⟨M,D,_,_⟩:=DataW.trod_int Tryz.underlying3 z
  obtain⟨J,s,k⟩:=ints_open v
  obtain⟨is,r,j,c⟩:=inss_open A
  cases B;cases C;cases D
  obtain⟨G,I,rfl,_⟩:=id s
  obtain⟨E,F,rfl,_⟩:=id r
  exact⟨⟨K,J,L,M,is⟩,⟨G,I,E,F,rfl,s,r⟩,⟨by simpa[maxLen]using hs,k,j,fun d hd=>(c d hd).1⟩,c⟩
instance : Inhabited Ae:=⟨B1⟩
theorem fns_open {H:Type} {enc:TypeId × Value->H} {w:World} {base:Nat} {spare:Nat->Bool} {held:Bool} {fuel:Nat} {v:Value} {x:DataW H × List MemPlace}
  (h:DataW.trod enc Tryz.prog w base spare held fuel 22 [v]=some x):∃ c:List Ae,Es w v c/\c.length<=9223372036854775807/\∀ f ∈ c,Pz f/\∀ d ∈ f.ins,insFar d:=by
 rcases open_slice Tryz.underlying22 h with⟨J,_⟩|⟨a,j,A,m,n,D,Z,J,hb,hl,W,G,_,L⟩
 ·cases J
  exact⟨[],⟨none,0,rfl,fun i q=>by simp at q⟩,by simp,by simp⟩
 ·cases J
  have V:j<=m:=by rw[G];split <;> omega
  rw[cellsLFn]at L
  obtain⟨d,E⟩:=choose_lt (α:=Ae) (n:=j) (p:=fun i d => ∃ z,w.cells? base (a.add (i * 5)) 5=some z/\FnArg w z d) (fun i q=>by
   obtain⟨B,C,r⟩:=L i (by omega)
   obtain⟨d,hs⟩:=fn_open r
   exact⟨d,B,C,hs⟩)
  refine⟨(List.range j).map d,⟨some a,A,by simp,fun i q => ?_⟩,by simp[maxLen]at W |-;omega,fun e he => ?_⟩
  ·have F:i < j:=by simpa using q
   obtain⟨z,C,r⟩:=E i F
   obtain⟨O,P,M,N,rfl,U,T⟩:=r.cells
   obtain⟨_,_,g⟩:=World.cells?_some C
   have k:w.cell? ((a.add (i * 5)).add 0)=some (.string (d i).name):=g 0 (by omega)
   have s:w.cell? ((a.add (i * 5)).add 1)=some (.slice O (d i).params.length P):=g 1 (by omega)
   have t:w.cell? ((a.add (i * 5)).add 2)=some (.int .i64 (d i).result):=g 2 (by omega)
   have u:w.cell? ((a.add (i * 5)).add 3)=some (.int .i64 (d i).slots):=g 3 (by omega)
   have y:w.cell? ((a.add (i * 5)).add 4)=some (.slice M (d i).ins.length N):=g 4 (by omega)
   obtain⟨b,o,Q⟩:=a
   have I:Q=none:=by
    obtain⟨R,X,Y⟩:=E 0 (by omega)
    obtain⟨_,_,_,_,rfl,_,_⟩:=Y.cells
    obtain⟨_,_,l⟩:=World.cells?_some X
    have K:w.cell? ((Addr.add ⟨b,o,Q⟩ (0 * 5)).add 0)=some (.string (d 0).name):=l 0 (by omega)
    simp[Addr.add]at K
    exact World.cell?_spot K
   subst I
   rw[add_at,add_at]at k s t u y
   rw[Nat.add_zero]at k
   have S:((List.range j).map d)[i]'q=d i:=by simp
   rw[S]
   exact⟨b,o,O,P,M,N,rfl,lt_cell k,⟨k,s,t,u,y⟩,U,T⟩
  ·simp only[List.mem_map,List.mem_range]at he
   obtain⟨i,q,rfl⟩:=he
   obtain⟨z,_,r⟩:=E i q
   exact⟨r.far,r.nums⟩
theorem code_open {H:Type} {enc:TypeId × Value->H} {w:World} {base b0:Nat} {r:Go.Reach} {spare:Nat->Bool} {held:Bool} {v:Value} {d:DataW H} {p:List MemPlace} (hv:Value.okWide Tryz.prog w r b0 24 v)
  (h:DataW.Trod enc Tryz.prog w base spare held 24 v d p):∃ (a:Option Addr) (b:Nat) (c:List Ae),v = .agg #[.slice a c.length b]/\Es w (.slice a c.length b) c/\c.length<=9223372036854775807/\∀ f ∈ c,Pz f/\∀ d ∈ f.ins,insFar d:=by
 obtain⟨t,rfl,i⟩:=okWide_struct Tryz.underlying24 hv
 rw[cellsLCode]at i
 obtain⟨o,x⟩:=h
 obtain⟨s,m,_,_,_,k,g⟩:=DataW.trod_struct Tryz.underlying24 x
 have j:s.length=1:=k
 obtain⟨l⟩:=t
 match l,i,s,j with
 | [v0],_,[y0],_ =>
  have n:DataW.trod enc Tryz.prog w base spare held m 22 (((Value.agg #[v0]).cells.toList.drop 0).take (Tryz.prog.cellsOf 22))=some y0:=g 0 _ rfl
  rw[cellsLFns]at n
  have u:DataW.trod enc Tryz.prog w base spare held m 22 [v0]=some y0:=n
  obtain⟨c,q,y,z⟩:=fns_open u
  obtain⟨a,b,rfl⟩:=q.slice
  exact⟨a,b,c,rfl,q,y,z⟩
end Cd
end Go.Proofs.YtfjkahdghhbpnaaGreatDoor
namespace Go.Proofs.YtfjkahdghhbpnaaGreatDoor
namespace Cd
open Go.ChangeShapes Go.WideShapes Go.ChangeAt Go.RowKit Go.Lib Go.Deep
theorem cellsLV : Tryz.prog.cellsOf 27=2:=by kernel_rfl
theorem cellsStrings : Tryz.prog.cellsOf 25=1:=by kernel_rfl
theorem strings_open {H:Type} {enc:TypeId × Value->H} {w:World} {base:Nat} {spare:Nat->Bool} {held:Bool} {fuel:Nat} {v:Value} {x:DataW H × List MemPlace}
  (h:DataW.trod enc Tryz.prog w base spare held fuel 25 [v]=some x):∃ ns:List ByteArray,Cx w v ns/\ns.length<=9223372036854775807/\∀ d ∈ ns,d.size<=9223372036854775807:=by
 rcases open_slice Tryz.underlying25 h with⟨B,_⟩|⟨a,g,r,m,n,D,M,B,N,O,K,y,_,E⟩
 ·cases B
  exact⟨[],⟨none,0,rfl,fun i q=>by simp at q⟩,by simp,by simp⟩
 ·cases B
  have J:g<=m:=by rw[y];split <;> omega
  rw[cellsString]at E
  obtain⟨d,t⟩:=choose_lt (α:=ByteArray) (n:=g) (p:=fun i d=>w.cells? base (a.add (i * 1)) 1=some [.string d]/\d.size<=9223372036854775807) (fun i q=>by
   obtain⟨G,s,I⟩:=E i (by omega)
   obtain⟨z,L,_,hs⟩:=DataW.trod_string Tryz.underlying9 I
   subst L
   exact⟨z,s,by simpa[maxLen]using hs⟩)
  refine⟨(List.range g).map d,⟨some a,r,by simp,fun i q => ?_⟩,by simp[maxLen]at K |-;omega,fun e he => ?_⟩
  ·have u:i < g:=by simpa using q
   obtain⟨s,_⟩:=t i u
   obtain⟨_,_,l⟩:=World.cells?_some s
   have c:w.cell? ((a.add (i * 1)).add 0)=some (.string (d i)):=l 0 (by omega)
   obtain⟨b,o,F⟩:=a
   have A:F=none:=by
    obtain⟨_,_,f⟩:=World.cells?_some (t 0 (by omega)).1
    have C:w.cell? ((Addr.add ⟨b,o,F⟩ (0 * 1)).add 0)=some (.string (d 0)):=f 0 (by omega)
    simp[Addr.add]at C
    exact World.cell?_spot C
   subst A
   have j:∀ o k,(Addr.add ⟨b,o,none⟩ k)=⟨b,o+k,none⟩:=fun o k=>by unfold Addr.add;split <;> simp_all
   rw[j,j]at c
   refine⟨b,o,rfl,lt_cell c, ?_⟩
   rw[Nat.mul_one,Nat.add_zero]at c
   rw[c];simp
  ·simp only[List.mem_map,List.mem_range]at he
   obtain⟨i,q,rfl⟩:=he
   exact(t i q).2
theorem job_open {H:Type} {enc:TypeId × Value->H} {w:World} {base b0:Nat} {r:Go.Reach} {spare:Nat->Bool} {held:Bool} {v:Value} {d:DataW H} {p:List MemPlace} (hv:Value.okWide Tryz.prog w r b0 27 v)
  (h:DataW.Trod enc Tryz.prog w base spare held 27 v d p):∃ (a:ByteArray) (s:Value) (g:List ByteArray),v = .agg #[.string a,s]/\a.size<=9223372036854775807/\Cx w s g/\g.length<=9223372036854775807/\∀ d ∈ g,d.size<=9223372036854775807:=by
 obtain⟨q,rfl,c⟩:=okWide_struct Tryz.underlying27 hv
 rw[cellsLV]at c
 obtain⟨n,z⟩:=h
 obtain⟨o,m,_,_,_,i,b⟩:=DataW.trod_struct Tryz.underlying27 z
 have f:o.length=2:=i
 obtain⟨l⟩:=q
 match l,c,o,f with
 | [v0,v2],_,[y0,y2],_ =>
  have j:DataW.trod enc Tryz.prog w base spare held m 9 (((Value.agg #[v0,v2]).cells.toList.drop 0).take (Tryz.prog.cellsOf 9))=some y0:=b 0 _ rfl
  rw[cellsString]at j
  have t:DataW.trod enc Tryz.prog w base spare held m 9 [v0]=some y0:=j
  have k:DataW.trod enc Tryz.prog w base spare held m 25 (((Value.agg #[v0,v2]).cells.toList.drop 1).take (Tryz.prog.cellsOf 25))=some y2:=b 1 _ rfl
  rw[cellsStrings]at k
  have u:DataW.trod enc Tryz.prog w base spare held m 25 [v2]=some y2:=k
  obtain⟨C,x,_,hs⟩:=DataW.trod_string Tryz.underlying9 t
  obtain⟨g,y,A,B⟩:=strings_open u
  cases x
  exact⟨C,v2,g,rfl,by simpa[maxLen]using hs,y,A,B⟩
theorem own : ownKnob Tryz.prog.godebug=none:=by kernel_rfl
theorem laidOut : laidOutB Tryz.prog=true:=by kernel_rfl
theorem vars_len {H:Type} {enc:TypeId × Value->H} {w:World} {spare:Nat->Bool}:∀ (ns:List String) (gs:List (DataW H)) (ps:List MemPlace),DataW.TrodVars enc Tryz.prog w spare ns gs ps->gs.length=ns.length
 | [],[],_,_=>rfl
 | [],_::_,_,h=>by simp[DataW.TrodVars]at h
 | _::_,[],_,h=>by simp[DataW.TrodVars]at h
 | n::ns,d::ds,_,h=>by
  obtain⟨g,t,b,a,p,q,_,_,_,_,hs,_⟩:=h
  simp[vars_len ns ds q hs]
theorem three {α:Type} {l:List α} (h:l.length=3):∃ a b c,l=[a,b,c]:=by
 match l,h with
 | [a,b,c],_=>exact⟨a,b,c,rfl⟩
set_option maxRecDepth 1000000 in
theorem bLaid (os:Os) (args:Array Value):laidMet Tryz.prog Rows.fnExactStartRow.laid (((World.laidAll Tryz.prog os Rows.fnExactStartRow.laid)).forCall (fun _ _=>0) ⟨#[],args,[]⟩).memory :=
 laidMet_laidAll args (by kernel_rfl) (by kernel_rfl)
set_option maxRecDepth 1000000 in
theorem bWitness (os:Os) {H:Type} (enc:TypeId × Value->H) :
  (OpenSpec.ofChange Rows.fnExactStartSpec).preRow enc Tryz.prog Tryz.f3 Rows.fnExactStartRow.domain false Rows.fnExactStartRow.laid (((World.laidAll Tryz.prog os Rows.fnExactStartRow.laid).forCall (fun _ _=>0) ⟨#[],#[.agg #[.slice none 0 0],.agg #[.string ⟨#[]⟩,.slice none 0 0]],[]⟩).memory) #[.agg #[.slice none 0 0],.agg #[.string ⟨#[]⟩,.slice none 0 0]]:=by
 have hw:(DataW.whole enc Tryz.prog (((World.laidAll Tryz.prog os Rows.fnExactStartRow.laid).forCall (fun _ _=>0) ⟨#[],#[.agg #[.slice none 0 0],.agg #[.string ⟨#[]⟩,.slice none 0 0]],[]⟩).memory) Tryz.f3.params.toList Rows.fnExactStartSpec.vars false ((#[.agg #[.slice none 0 0],.agg #[.string ⟨#[]⟩,.slice none 0 0]]:Array Value).toList) 8).map (fun x=>(x.1,x.2.1)) =
   some ([.agg [.nil],.agg [.lit (.string []),.nil]],[Rows.laid_loop_example_kilnmill_impl_insRows,Rows.laid_loop_example_kilnmill_impl_builtTypes,Rows.laid_loop_example_kilnmill_impl_builtWords]):=by kernel_rfl
 obtain⟨⟨x1,x2,x3⟩,hx,hx1⟩:=Option.map_eq_some_iff.1 hw
 simp only[Prod.mk.injEq]at hx1
 obtain⟨rfl,rfl⟩:=hx1
 exact OpenSpec.preRow_of_cond 8 hx (by kernel_rfl) (fun k hk=>by cases hk) (by kernel_rfl) (bLaid os _)
theorem bLifted (os:Os) (started:os.Started) (H:Type) (enc:TypeId × Value->H) (F:Stop.Interp) :
  ReturnsInHanded {} Tryz.checked os 3 .any ((OpenSpec.ofChange Rows.fnExactStartSpec).preRow enc Tryz.prog Tryz.f3 Rows.fnExactStartRow.domain false Rows.fnExactStartRow.laid) (((OpenSpec.ofChange Rows.fnExactStartSpec).at F).post enc Tryz.prog Tryz.f3 false true false false):=by
 refine returnsInHanded_of_row (C:=Tryz.checked) (s:=OpenSpec.ofChange Rows.fnExactStartSpec) own started (by kernel_rfl) Tryz.func3
  (witness_row_atRef (enc:=enc) (C:=Tryz.checked) false (World.laidAll Tryz.prog os Rows.fnExactStartRow.laid) #[.agg #[.slice none 0 0],.agg #[.string ⟨#[]⟩,.slice none 0 0]] (World.laidAll_os _ _ _) (by kernel_rfl) (by kernel_rfl) (by kernel_rfl) (bWitness os enc)) ?_
 intro W m args Y E z d V _ _ _ Z _ _
 have b:∀ (j:Nat) t v,Tryz.f3.params[j]? = some t->args[j]? = some v->Value.okWide Tryz.prog W .any m t v:=d
 have I:=V
 obtain⟨p,q,n,o,rfl,_,_⟩:=V
 have G:DataW.TrodAll enc Tryz.prog W 0 (fun _=>true) true Tryz.f3.params.toList args.toList Y p:=n
 have U:DataW.TrodVars enc Tryz.prog W (fun _=>true) ["loop.example/kilnmill/impl.insRows", "loop.example/kilnmill/impl.builtTypes", "loop.example/kilnmill/impl.builtWords"] E q:=o
 rw[Tryz.params3]at G b
 have u:=G.lt
 obtain⟨v0,v1,P,Q,p0,p1,rfl,rfl,rfl,R,S⟩:=trodAll_two G
 obtain⟨a,B,c,rfl,hN,hn,X⟩:=code_open (b 0 24 v0 rfl rfl) R
 obtain⟨A,sv,l,rfl,r,T,L,M⟩:=job_open (b 1 27 v1 rfl rfl) S
 obtain⟨N,O,rfl⟩:∃ N O,sv = .slice N l.length O:=by obtain⟨x,y,h,_⟩:=T;exact⟨x,y,h⟩
 obtain⟨hT,J⟩:=tabsOf Z
 obtain⟨g1,g2,g3,K⟩:=three (vars_len _ _ _ U)
 clear n o d
 refine(Qby c a B A l N O hn (fun f hf=>(X f hf).1) (fun k hk i hi=>((X c[k] (List.getElem_mem hk)).2 c[k].ins[i] (List.getElem_mem hi)).2) r L M W hN T hT J).mono ?_
 rintro e W' ⟨rfl,g⟩
 have D:((OpenSpec.ofChange Rows.fnExactStartSpec).at F).fn H ([P,Q]++E) = { results:=[.lit (.bool true)],args:=[P,Q],vars:=E }:=by rw[K];rfl
 refine⟨_,rfl,_,_,_,[],p0++p1,q,I, ?_, ?_, ?_,g.frame _,fun h=>by cases h⟩
 ·rw[D];exact trodAll_mk1 (shut_bool Tryz.underlying4 _)
 ·rw[D];exact trodAll_mk2 (Below.trod laidOut (by kernel_rfl) (of_decide_eq_true (by kernel_rfl)) R g (fun p hp=>u p (List.mem_append_left _ hp))) (Below.trod laidOut (by kernel_rfl) (of_decide_eq_true (by kernel_rfl)) S g (fun p hp=>u p (List.mem_append_right _ hp)))
 ·rw[D];exact Below.trodVars laidOut g (by kernel_rfl) U
theorem bSaid : Rows.FnExactStartSaid :=
 OpenClaim.holds_of_cond 3 Tryz.f3 rfl rfl rfl rfl rfl rfl rfl ⟨rfl,rfl,rfl,rfl,rfl⟩ rfl rfl rfl rfl rfl (by kernel_rfl) Tryz.func3 (by kernel_rfl)
  (of_decide_eq_true (by kernel_rfl)) (by unfold Func.isWrapper;first|(rw[if_pos (by decide +kernel)];kernel_rfl)|(rw[if_neg (by decide +kernel)];exact⟨rfl,rfl⟩))
  (fun os started H enc _ F0=>by rw[OpenClaim.pre_eq_preRow];exact bLifted os started H enc F0)
theorem bPlain (f:FuncId) (fn:Func) (hf:Tryz.pinned.checked.prog.funcNamed "loop.example/kilnmill/laws.FnExactStart" = some f) (hfn:Tryz.pinned.checked.prog.funcs[f]? = some fn) :
  false=Tryz.pinned.checked.prog.looks []/\∀ (j:Nat) t,fn.params[j]? = some t->Tryz.pinned.checked.prog.wantsStandIn t=false:=by
 obtain rfl:f=3:=Option.some.inj ((show Tryz.prog.funcNamed "loop.example/kilnmill/laws.FnExactStart" = some 3 by kernel_rfl).symm.trans hf) |>.symm
 obtain rfl:fn=Tryz.f3:=(Option.some.inj (Tryz.func3.symm.trans hfn)).symm
 refine⟨by kernel_rfl,fun j t ht => ?_⟩
 rw[Tryz.params3]at ht
 have a:t=24\/t=27:=by simpa using Array.mem_of_getElem? ht
 rcases a with rfl|rfl
 ·exact(show Tryz.prog.wantsStandIn 24=false by kernel_rfl)
 ·exact(show Tryz.prog.wantsStandIn 27=false by kernel_rfl)
end Cd
theorem fnExactStart_holds : Rows.FnExactStartCardSaid :=
 Claim7.holds_tied_plain_at .later [] _ _ _ _ Cd.bSaid (fun _ h=>by cases h) (by kernel_rfl) (fun _ h=>by cases h) fnExactStart_row_tie rfl ⟨rfl,rfl⟩ (by kernel_rfl) rfl Cd.bPlain (by kernel_rfl)
end Go.Proofs.YtfjkahdghhbpnaaGreatDoor
