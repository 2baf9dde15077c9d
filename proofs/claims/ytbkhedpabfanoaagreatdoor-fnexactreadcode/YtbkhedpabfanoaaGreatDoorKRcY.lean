import Derived.Test.YtbkhedpabfanoaaGreatDoorKRcL
import Derived.LaidHandle
import Derived.LaidLaws
import Derived.Test.YtbkhedpabfanoaaGreatDoorCards
import Derived.Test.YtbkhedpabfanoaaGreatDoorTie
import Derived.Stop.LaidErr
import Derived.Lay
import Derived.SevenTiedAt
import Derived.WalkKit
import Derived.ProofKit
import Derived.OpenShut
import Derived.OpenVars
import Derived.Lib.LaidIn
import Derived.Lib.LaidTab
import Derived.Deep.DeepHandedRow
import Derived.Deep.DeepWitnessRowRef
import Derived.SizedLaws
import Derived.ChangeVars
import Derived.Carry
import Derived.Deep.Slices
import Derived.ChangeArms
namespace Go.Proofs.YtbkhedpabfanoaaGreatDoor
namespace Cd
open Go.ChangeShapes Go.WideShapes Go.ChangeAt Go.RowKit Go.Lib Go.Deep

theorem lt_cell {W:World} {b o:Nat} {v:Value} (h:W.cell? ⟨b,o,none⟩=some v):b < W.heap.size:=by
  unfold World.cell? at h
  split at h
  · rename_i hb;exact (Array.getElem?_eq_some_iff.1 hb).1
  · cases h
theorem cellsInt : Tryz.prog.cellsOf 3=1:=by kernel_rfl
theorem cellsBool : Tryz.prog.cellsOf 4=1:=by kernel_rfl
theorem cellsString : Tryz.prog.cellsOf 9=1:=by kernel_rfl
theorem cellsWord : Tryz.prog.cellsOf 211=2:=by kernel_rfl
theorem cellsTy : Tryz.prog.cellsOf 208=4:=by kernel_rfl
theorem cells3 : Tryz.prog.cellsOf 206=3:=by kernel_rfl
theorem cells2 : Tryz.prog.cellsOf 140=2:=by kernel_rfl
theorem cellsRow : Tryz.prog.cellsOf 142=5:=by kernel_rfl
theorem gWords : Tryz.prog.globalNamed "loop.example/kilnmill/impl.builtWords" = some 10:=by kernel_rfl
theorem gWordsT : (Tryz.prog.globals[10]?).map (·.type)=some 212:=by kernel_rfl
theorem gTys : Tryz.prog.globalNamed "loop.example/kilnmill/impl.builtTypes" = some 9:=by kernel_rfl
theorem gTysT : (Tryz.prog.globals[9]?).map (·.type)=some 209:=by kernel_rfl
theorem gRows : Tryz.prog.globalNamed "loop.example/kilnmill/impl.insRows" = some 7:=by kernel_rfl
theorem gRowsT : (Tryz.prog.globals[7]?).map (·.type)=some 143:=by kernel_rfl
set_option maxRecDepth 100000 in
theorem word_of {W:World} {cs:List Value} {fuel:Nat} {p:List MemPlace} {l:List (DataW Unit)} {enc:TypeId × Value→Unit} {base:Nat} {spare:Nat→Bool} {held:Bool} (h:DataW.trod enc Tryz.prog W base spare held fuel 212 cs=some (.agg l,p)) (i:Nat) (hi:i < 13) (a:DataW Unit) (z:Int) (hz:l[i]? = some (.agg [a,.lit (.int .i64 z)])):cs[i * 2+1]? = some (.int .i64 z):=by
  obtain ⟨xs,m,_,hx,hlen,hxl,hel⟩:=DataW.trod_array Tryz.underlying212 h
  have hx1:l=xs.map (·.1):=by have:=(Prod.mk.inj hx).1;injection this
  have h1:=hel i hi
  rw [cellsWord] at h1
  have hxi:∃ y,xs[i]? = some y:=⟨_,List.getElem?_eq_getElem (by omega)⟩
  obtain ⟨y,hy⟩:=hxi
  rw [hy] at h1
  obtain ⟨ys,k,_,hys,_,hyl,hf⟩:=DataW.trod_struct Tryz.underlying211 h1
  have hyd:y.1 = .agg [a,.lit (.int .i64 z)]:=by
    rw [hx1,List.getElem?_map,hy] at hz
    simpa using hz
  rw [hys] at hyd
  have hyl2:ys.length=2:=hyl
  clear hyl
  match ys,hyl2 with
  | [y0,y1],_ =>
    have h2:DataW.trod enc Tryz.prog W base spare held k 3 ((((cs.drop (i * 2)).take 2).drop 1).take (Tryz.prog.cellsOf 3))=some y1:=hf 1 _ rfl
    rw [cellsInt] at h2
    simp only [List.map_cons,List.map_nil,DataW.agg.injEq,List.cons.injEq,and_true] at hyd
    obtain ⟨z',hc,hd,_⟩:=DataW.trod_int Tryz.underlying3 h2
    have hzz:z'=z:=by
      have e:=hyd.2
      rw [hd] at e
      simpa using e
    subst hzz
    have e:=congrArg (fun l=>l[0]?) hc
    simpa [List.getElem?_drop,List.getElem?_take] using e
set_option maxRecDepth 100000 in
theorem three_of {W:World} {cs:List Value} {fuel:Nat} {x:DataW Unit × List MemPlace} {enc:TypeId × Value→Unit} {base:Nat} {spare:Nat→Bool} {held:Bool} (h:DataW.trod enc Tryz.prog W base spare held fuel 206 cs=some x) (za zb zc:Int) (hz:x.1 = .agg [.lit (.int .i64 za),.lit (.int .i64 zb),.lit (.int .i64 zc)]):cs[0]? = some (.int .i64 za)∧cs[1]? = some (.int .i64 zb)∧cs[2]? = some (.int .i64 zc):=by
  obtain ⟨xs,m,_,hx,hlen,hxl,hel⟩:=DataW.trod_array Tryz.underlying206 h
  have hxl3:xs.length=3:=hxl
  rw [hx] at hz
  clear hxl
  match xs,hxl3 with
  | [y0,y1,y2],_ =>
    simp only [List.map_cons,List.map_nil,DataW.agg.injEq,List.cons.injEq,and_true] at hz
    have f0:=hel 0 (by omega);have f1:=hel 1 (by omega);have f2:=hel 2 (by omega)
    rw [cellsInt] at f0 f1 f2
    have g0:DataW.trod enc Tryz.prog W base spare held m 3 ((cs.drop (0 * 1)).take 1)=some y0:=f0
    have g1:DataW.trod enc Tryz.prog W base spare held m 3 ((cs.drop (1 * 1)).take 1)=some y1:=f1
    have g2:DataW.trod enc Tryz.prog W base spare held m 3 ((cs.drop (2 * 1)).take 1)=some y2:=f2
    obtain ⟨z0,hc0,hd0,_⟩:=DataW.trod_int Tryz.underlying3 g0
    obtain ⟨z1,hc1,hd1,_⟩:=DataW.trod_int Tryz.underlying3 g1
    obtain ⟨z2,hc2,hd2,_⟩:=DataW.trod_int Tryz.underlying3 g2
    rw [hd0,hd1,hd2] at hz
    have e0:z0=za:=by simpa using hz.1
    have e1:z1=zb:=by simpa using hz.2.1
    have e2:z2=zc:=by simpa using hz.2.2
    subst e0;subst e1;subst e2
    have h0:=congrArg (fun l=>l[0]?) hc0
    have h1:=congrArg (fun l=>l[0]?) hc1
    have h2:=congrArg (fun l=>l[0]?) hc2
    simp only [List.getElem?_take,List.getElem?_drop] at h0 h1 h2
    exact ⟨by simpa using h0,by simpa using h1,by simpa using h2⟩
set_option maxRecDepth 100000 in
theorem types_of {W:World} {cs:List Value} {fuel:Nat} {p:List MemPlace} {l:List (DataW Unit)} {enc:TypeId × Value→Unit} {base:Nat} {spare:Nat→Bool} {held:Bool} (h:DataW.trod enc Tryz.prog W base spare held fuel 209 cs=some (.agg l,p)) (i:Nat) (hi:i < 13) (za zb zc zd:Int) (hz:l[i]? = some (.agg [.agg [.lit (.int .i64 za),.lit (.int .i64 zb),.lit (.int .i64 zc)],.lit (.int .i64 zd)])) :
    cs[i * 4]? = some (.int .i64 za)∧cs[i * 4+1]? = some (.int .i64 zb)∧cs[i * 4+2]? = some (.int .i64 zc)∧cs[i * 4+3]? = some (.int .i64 zd):=by
  obtain ⟨xs,m,_,hx,hlen,hxl,hel⟩:=DataW.trod_array Tryz.underlying209 h
  have hx1:l=xs.map (·.1):=by have:=(Prod.mk.inj hx).1;injection this
  have h1:=hel i hi
  rw [cellsTy] at h1
  have hxi:∃ y,xs[i]? = some y:=⟨_,List.getElem?_eq_getElem (by omega)⟩
  obtain ⟨y,hy⟩:=hxi
  rw [hy] at h1
  obtain ⟨ys,k,_,hys,_,hyl,hf⟩:=DataW.trod_struct Tryz.underlying208 h1
  have hyd:y.1 = .agg [.agg [.lit (.int .i64 za),.lit (.int .i64 zb),.lit (.int .i64 zc)],.lit (.int .i64 zd)]:=by
    rw [hx1,List.getElem?_map,hy] at hz
    simpa using hz
  rw [hys] at hyd
  have hyl2:ys.length=2:=hyl
  clear hyl
  match ys,hyl2 with
  | [y0,y1],_ =>
    have h3:DataW.trod enc Tryz.prog W base spare held k 206 ((((cs.drop (i * 4)).take 4).drop 0).take (Tryz.prog.cellsOf 206))=some y0:=hf 0 _ rfl
    have h2:DataW.trod enc Tryz.prog W base spare held k 3 ((((cs.drop (i * 4)).take 4).drop 3).take (Tryz.prog.cellsOf 3))=some y1:=hf 1 _ rfl
    rw [cells3] at h3
    rw [cellsInt] at h2
    simp only [List.map_cons,List.map_nil,DataW.agg.injEq,List.cons.injEq,and_true] at hyd
    obtain ⟨a0,a1,a2⟩:=three_of h3 za zb zc hyd.1
    obtain ⟨z',hc,hd,_⟩:=DataW.trod_int Tryz.underlying3 h2
    have hzz:z'=zd:=by
      have e:=hyd.2
      rw [hd] at e
      simpa using e
    subst hzz
    have e:=congrArg (fun l=>l[0]?) hc
    refine ⟨?_, ?_, ?_, ?_⟩
    · simpa [List.getElem?_drop,List.getElem?_take] using a0
    · simpa [List.getElem?_drop,List.getElem?_take] using a1
    · simpa [List.getElem?_drop,List.getElem?_take] using a2
    · simpa [List.getElem?_drop,List.getElem?_take] using e
set_option maxRecDepth 100000 in
theorem two_of {W:World} {cs:List Value} {fuel:Nat} {x:DataW Unit × List MemPlace} {enc:TypeId × Value→Unit} {base:Nat} {spare:Nat→Bool} {held:Bool} (h:DataW.trod enc Tryz.prog W base spare held fuel 140 cs=some x) (za zb:Int) (hz:x.1 = .agg [.lit (.int .i64 za),.lit (.int .i64 zb)]):cs[0]? = some (.int .i64 za)∧cs[1]? = some (.int .i64 zb):=by
  obtain ⟨xs,m,_,hx,hlen,hxl,hel⟩:=DataW.trod_array Tryz.underlying140 h
  have hxl3:xs.length=2:=hxl
  rw [hx] at hz
  clear hxl
  match xs,hxl3 with
  | [y0,y1],_ =>
    simp only [List.map_cons,List.map_nil,DataW.agg.injEq,List.cons.injEq,and_true] at hz
    have f0:=hel 0 (by omega);have f1:=hel 1 (by omega)
    rw [cellsInt] at f0 f1
    have g0:DataW.trod enc Tryz.prog W base spare held m 3 ((cs.drop (0 * 1)).take 1)=some y0:=f0
    have g1:DataW.trod enc Tryz.prog W base spare held m 3 ((cs.drop (1 * 1)).take 1)=some y1:=f1
    obtain ⟨z0,hc0,hd0,_⟩:=DataW.trod_int Tryz.underlying3 g0
    obtain ⟨z1,hc1,hd1,_⟩:=DataW.trod_int Tryz.underlying3 g1
    rw [hd0,hd1] at hz
    have e0:z0=za:=by simpa using hz.1
    have e1:z1=zb:=by simpa using hz.2
    subst e0;subst e1
    have h0:=congrArg (fun l=>l[0]?) hc0
    have h1:=congrArg (fun l=>l[0]?) hc1
    simp only [List.getElem?_take,List.getElem?_drop] at h0 h1
    exact ⟨by simpa using h0,by simpa using h1⟩
set_option maxRecDepth 100000 in
theorem rows_of {W:World} {cs:List Value} {fuel:Nat} {p:List MemPlace} {l:List (DataW Unit)} {enc:TypeId × Value→Unit} {base:Nat} {spare:Nat→Bool} {held:Bool} (h:DataW.trod enc Tryz.prog W base spare held fuel 143 cs=some (.agg l,p)) (i:Nat) (hi:i < 17) (b:Bool) (za zb zc zd:Int) (hz:l[i]? = some (.agg [.lit (.bool b),.agg [.lit (.int .i64 za),.lit (.int .i64 zb)],.lit (.int .i64 zc),.lit (.int .i64 zd)])) :
    cs[i * 5]? = some (.bool b)∧cs[i * 5+1]? = some (.int .i64 za)∧cs[i * 5+2]? = some (.int .i64 zb)∧cs[i * 5+3]? = some (.int .i64 zc)∧cs[i * 5+4]? = some (.int .i64 zd):=by
  obtain ⟨xs,m,_,hx,hlen,hxl,hel⟩:=DataW.trod_array Tryz.underlying143 h
  have hx1:l=xs.map (·.1):=by have:=(Prod.mk.inj hx).1;injection this
  have h1:=hel i hi
  rw [cellsRow] at h1
  have hxi:∃ y,xs[i]? = some y:=⟨_,List.getElem?_eq_getElem (by omega)⟩
  obtain ⟨y,hy⟩:=hxi
  rw [hy] at h1
  obtain ⟨ys,k,_,hys,_,hyl,hf⟩:=DataW.trod_struct Tryz.underlying142 h1
  have hyd:y.1 = .agg [.lit (.bool b),.agg [.lit (.int .i64 za),.lit (.int .i64 zb)],.lit (.int .i64 zc),.lit (.int .i64 zd)]:=by
    rw [hx1,List.getElem?_map,hy] at hz
    simpa using hz
  rw [hys] at hyd
  have hyl2:ys.length=4:=hyl
  clear hyl
  match ys,hyl2 with
  | [y0,y1,y2,y3],_ =>
    have h0:DataW.trod enc Tryz.prog W base spare held k 4 ((((cs.drop (i * 5)).take 5).drop 0).take (Tryz.prog.cellsOf 4))=some y0:=hf 0 _ rfl
    have h2:DataW.trod enc Tryz.prog W base spare held k 140 ((((cs.drop (i * 5)).take 5).drop 1).take (Tryz.prog.cellsOf 140))=some y1:=hf 1 _ rfl
    have h3:DataW.trod enc Tryz.prog W base spare held k 3 ((((cs.drop (i * 5)).take 5).drop 3).take (Tryz.prog.cellsOf 3))=some y2:=hf 2 _ rfl
    have h4:DataW.trod enc Tryz.prog W base spare held k 3 ((((cs.drop (i * 5)).take 5).drop 4).take (Tryz.prog.cellsOf 3))=some y3:=hf 3 _ rfl
    rw [cellsBool] at h0
    rw [cells2] at h2
    rw [cellsInt] at h3 h4
    simp only [List.map_cons,List.map_nil,DataW.agg.injEq,List.cons.injEq,and_true] at hyd
    obtain ⟨a0,a1⟩:=two_of h2 za zb hyd.2.1
    obtain ⟨b',hcb,hdb⟩:=DataW.trod_bool Tryz.underlying4 h0
    obtain ⟨z3,hc3,hd3,_⟩:=DataW.trod_int Tryz.underlying3 h3
    obtain ⟨z4,hc4,hd4,_⟩:=DataW.trod_int Tryz.underlying3 h4
    have e0:b'=b:=by
      have e:=hyd.1
      rw [hdb] at e
      simpa using e
    have e3:z3=zc:=by
      have e:=hyd.2.2.1
      rw [hd3] at e
      simpa using e
    have e4:z4=zd:=by
      have e:=hyd.2.2.2
      rw [hd4] at e
      simpa using e
    subst e0 e3 e4
    have g0:=congrArg (fun l=>l[0]?) hcb
    have g3:=congrArg (fun l=>l[0]?) hc3
    have g4:=congrArg (fun l=>l[0]?) hc4
    refine ⟨?_, ?_, ?_, ?_, ?_⟩
    · simpa [List.getElem?_drop,List.getElem?_take] using g0
    · simpa [List.getElem?_drop,List.getElem?_take] using a0
    · simpa [List.getElem?_drop,List.getElem?_take] using a1
    · simpa [List.getElem?_drop,List.getElem?_take] using g3
    · simpa [List.getElem?_drop,List.getElem?_take] using g4
set_option maxRecDepth 100000 in
theorem insTabOf {W:World} {r:List (String × DataW Unit)} (h:laidMet Tryz.prog (("loop.example/kilnmill/impl.insRows",Rows.laid_loop_example_kilnmill_impl_insRows)::r) W):Cd.InsTab W:=by
  obtain ⟨ps,⟨g',t',cs,fuel,p,q,hg',ht',hvar,hd,_,_⟩,_⟩:=h
  obtain rfl:=Option.some.inj (gRows.symm.trans hg')
  obtain rfl:=Option.some.inj (gRowsT.symm.trans ht')
  have hc:∀ k z,cs.toList[k]? = some z→W.cell? ⟨7,k,none⟩=some z:=fun k z hz=>by
    rw [World.var?_cell gRows hvar k]
    simpa using hz
  have t1:=rows_of hd 1 (by omega) true 0 0 16 0 rfl
  have t2:=rows_of hd 2 (by omega) true 0 0 17 0 rfl
  have t3:=rows_of hd 3 (by omega) true 12 0 0 0 rfl
  have t4:=rows_of hd 4 (by omega) false 12 0 0 0 rfl
  have t5:=rows_of hd 5 (by omega) true 12 0 18 0 rfl
  have t6:=rows_of hd 6 (by omega) true 12 12 19 0 rfl
  have t7:=rows_of hd 7 (by omega) true 11 0 16 0 rfl
  have t8:=rows_of hd 8 (by omega) true 13 0 20 0 rfl
  have t9:=rows_of hd 9 (by omega) true 14 0 21 0 rfl
  have t10:=rows_of hd 10 (by omega) true 0 0 0 1 rfl
  have t11:=rows_of hd 11 (by omega) true 1 0 0 2 rfl
  have t12:=rows_of hd 12 (by omega) true 15 0 0 3 rfl
  have t13:=rows_of hd 13 (by omega) false 2 0 0 3 rfl
  have t14:=rows_of hd 14 (by omega) false 2 2 0 0 rfl
  have t15:=rows_of hd 15 (by omega) false 2 0 0 0 rfl
  have t16:=rows_of hd 16 (by omega) false 0 0 0 0 rfl
  have hall:∀ m:Nat,1≤m→m≤16→cs.toList[m * 5]? = some (.bool (Cd.rowOf m).1)∧cs.toList[m * 5+1]? = some (.int .i64 (Cd.rowOf m).2.1)∧cs.toList[m * 5+2]? = some (.int .i64 (Cd.rowOf m).2.2.1)∧cs.toList[m * 5+3]? = some (.int .i64 (Cd.rowOf m).2.2.2.1)∧cs.toList[m * 5+4]? = some (.int .i64 (Cd.rowOf m).2.2.2.2):=fun m h1 h2=>by
    have hm:m=1∨m=2∨m=3∨m=4∨m=5∨m=6∨m=7∨m=8∨m=9∨m=10∨m=11∨m=12∨m=13∨m=14∨m=15∨m=16:=by omega
    rcases hm with rfl | rfl | rfl | rfl | rfl | rfl | rfl | rfl | rfl | rfl | rfl | rfl | rfl | rfl | rfl | rfl
    · exact t1
    · exact t2
    · exact t3
    · exact t4
    · exact t5
    · exact t6
    · exact t7
    · exact t8
    · exact t9
    · exact t10
    · exact t11
    · exact t12
    · exact t13
    · exact t14
    · exact t15
    · exact t16
  exact ⟨lt_cell (hc _ _ t1.1),fun m h1 h2=>hc _ _ (hall m h1 h2).1,fun m h1 h2=>hc _ _ (hall m h1 h2).2.1,fun m h1 h2=>hc _ _ (hall m h1 h2).2.2.1,fun m h1 h2=>hc _ _ (hall m h1 h2).2.2.2.1,fun m h1 h2=>hc _ _ (hall m h1 h2).2.2.2.2⟩
set_option maxRecDepth 100000 in
theorem wordsOf {W:World} {r:List (String × DataW Unit)} (h:laidMet Tryz.prog (("loop.example/kilnmill/impl.builtWords",Rows.laid_loop_example_kilnmill_impl_builtWords)::r) W):(∀ m:Nat,1≤m→m≤12→W.cell? ⟨10,m * 2+1,none⟩=some (.int .i64 ((Cd.kidE m).length:Int)))∧10 < W.heap.size:=by
  obtain ⟨ps,⟨g',t',cs,fuel,p,q,hg',ht',hvar,hd,_,_⟩,_⟩:=h
  obtain rfl:=Option.some.inj (gWords.symm.trans hg')
  obtain rfl:=Option.some.inj (gWordsT.symm.trans ht')
  have hcell:∀ i (_:i < 13) a z,_→W.cell? ⟨10,i * 2+1,none⟩=some (.int .i64 z):=fun i hi a z hz=>by
    rw [World.var?_cell gWords hvar (i * 2+1)]
    have e:=word_of hd i hi a z hz
    simpa using e
  refine ⟨fun m h1 h2 => ?_,lt_cell (hcell 0 (by omega) _ _ rfl)⟩
  have:m=1∨m=2∨m=3∨m=4∨m=5∨m=6∨m=7∨m=8∨m=9∨m=10∨m=11∨m=12:=by omega
  rcases this with rfl | rfl | rfl | rfl | rfl | rfl | rfl | rfl | rfl | rfl | rfl | rfl
  · exact hcell 1 (by omega) _ _ rfl
  · exact hcell 2 (by omega) _ _ rfl
  · exact hcell 3 (by omega) _ _ rfl
  · exact hcell 4 (by omega) _ _ rfl
  · exact hcell 5 (by omega) _ _ rfl
  · exact hcell 6 (by omega) _ _ rfl
  · exact hcell 7 (by omega) _ _ rfl
  · exact hcell 8 (by omega) _ _ rfl
  · exact hcell 9 (by omega) _ _ rfl
  · exact hcell 10 (by omega) _ _ rfl
  · exact hcell 11 (by omega) _ _ rfl
  · exact hcell 12 (by omega) _ _ rfl
set_option maxRecDepth 100000 in
theorem typesOf {W:World} {r:List (String × DataW Unit)} (h:laidMet Tryz.prog (("loop.example/kilnmill/impl.builtTypes",Rows.laid_loop_example_kilnmill_impl_builtTypes)::r) W):(∀ m:Nat,1≤m→m≤12→(∀ j,j < 3→W.cell? ⟨9,m * 4+j,none⟩=some (.int .i64 ((Cd.kidE m).getD j 0)))∧W.cell? ⟨9,m * 4+3,none⟩=some (.int .i64 (Cd.makes (m:Int))))∧9 < W.heap.size:=by
  obtain ⟨ps,⟨g',t',cs,fuel,p,q,hg',ht',hvar,hd,_,_⟩,_⟩:=h
  obtain rfl:=Option.some.inj (gTys.symm.trans hg')
  obtain rfl:=Option.some.inj (gTysT.symm.trans ht')
  have hc:∀ k z,cs.toList[k]? = some z→W.cell? ⟨9,k,none⟩=some z:=fun k z hz=>by
    rw [World.var?_cell gTys hvar k]
    simpa using hz
  have t0:=types_of hd 0 (by omega) 0 0 0 0 rfl
  have t1:=types_of hd 1 (by omega) 2 0 0 2 rfl
  have t2:=types_of hd 2 (by omega) 2 0 0 1 rfl
  have t3:=types_of hd 3 (by omega) 2 0 0 2 rfl
  have t4:=types_of hd 4 (by omega) 2 2 0 2 rfl
  have t5:=types_of hd 5 (by omega) 0 0 0 2 rfl
  have t6:=types_of hd 6 (by omega) 2 0 0 10 rfl
  have t7:=types_of hd 7 (by omega) 2 10 0 3 rfl
  have t8:=types_of hd 8 (by omega) 2 10 10 2 rfl
  have t9:=types_of hd 9 (by omega) 2 2 0 10 rfl
  have t10:=types_of hd 10 (by omega) 3 0 0 2 rfl
  have t11:=types_of hd 11 (by omega) 11 0 0 2 rfl
  have t12:=types_of hd 12 (by omega) 2 0 0 10 rfl
  have hone:∀ (m:Nat) (a b c d:Int),(cs.toList[m * 4]? = some (.int .i64 a)∧cs.toList[m * 4+1]? = some (.int .i64 b)∧cs.toList[m * 4+2]? = some (.int .i64 c)∧cs.toList[m * 4+3]? = some (.int .i64 d))→(Cd.kidE m).getD 0 0=a→(Cd.kidE m).getD 1 0=b→(Cd.kidE m).getD 2 0=c→Cd.makes (m:Int)=d→(∀ j,j < 3→W.cell? ⟨9,m * 4+j,none⟩=some (.int .i64 ((Cd.kidE m).getD j 0)))∧W.cell? ⟨9,m * 4+3,none⟩=some (.int .i64 (Cd.makes (m:Int))):=fun m a b c d ht ha hb hcc hdd=>by
    refine ⟨fun j hj => ?_,by rw [hdd];exact hc _ _ ht.2.2.2⟩
    have hj3:j=0∨j=1∨j=2:=by omega
    rcases hj3 with rfl | rfl | rfl
    · rw [ha];exact hc _ _ ht.1
    · rw [hb];exact hc _ _ ht.2.1
    · rw [hcc];exact hc _ _ ht.2.2.1
  refine ⟨fun m h1 h2 => ?_,lt_cell (hc _ _ t0.1)⟩
  have:m=1∨m=2∨m=3∨m=4∨m=5∨m=6∨m=7∨m=8∨m=9∨m=10∨m=11∨m=12:=by omega
  rcases this with rfl | rfl | rfl | rfl | rfl | rfl | rfl | rfl | rfl | rfl | rfl | rfl
  · exact hone 1 _ _ _ _ t1 (by decide) (by decide) (by decide) (by decide)
  · exact hone 2 _ _ _ _ t2 (by decide) (by decide) (by decide) (by decide)
  · exact hone 3 _ _ _ _ t3 (by decide) (by decide) (by decide) (by decide)
  · exact hone 4 _ _ _ _ t4 (by decide) (by decide) (by decide) (by decide)
  · exact hone 5 _ _ _ _ t5 (by decide) (by decide) (by decide) (by decide)
  · exact hone 6 _ _ _ _ t6 (by decide) (by decide) (by decide) (by decide)
  · exact hone 7 _ _ _ _ t7 (by decide) (by decide) (by decide) (by decide)
  · exact hone 8 _ _ _ _ t8 (by decide) (by decide) (by decide) (by decide)
  · exact hone 9 _ _ _ _ t9 (by decide) (by decide) (by decide) (by decide)
  · exact hone 10 _ _ _ _ t10 (by decide) (by decide) (by decide) (by decide)
  · exact hone 11 _ _ _ _ t11 (by decide) (by decide) (by decide) (by decide)
  · exact hone 12 _ _ _ _ t12 (by decide) (by decide) (by decide) (by decide)
theorem insZeroOf {W:World} {r:List (String × DataW Unit)} (h:laidMet Tryz.prog (("loop.example/kilnmill/impl.insRows",Rows.laid_loop_example_kilnmill_impl_insRows)::r) W):W.cell? ⟨7,0,none⟩=some (.bool false):=by
  obtain ⟨ps,⟨g',t',cs,fuel,p,q,hg',ht',hvar,hd,_,_⟩,_⟩:=h
  obtain rfl:=Option.some.inj (gRows.symm.trans hg')
  obtain rfl:=Option.some.inj (gRowsT.symm.trans ht')
  have t0:=(rows_of hd 0 (by omega) false 0 0 0 0 rfl).1
  rw [World.var?_cell gRows hvar 0]
  simpa using t0
theorem cellsErr : Tryz.prog.cellsOf 239=1:=by kernel_rfl
theorem rowErr : ∀ u,Tryz.prog.typeName? 3 u=some "*errors.errorString" → u=214:=typeName_ptr_named (nm := "errors.errorString") (by kernel_rfl) (by kernel_rfl) (by decide)
theorem errOf {W:World} {n:String} {g:Nat} {text:List UInt8} {r:List (String × DataW Unit)} (hg:Tryz.prog.globalNamed n=some g) (hgt:(Tryz.prog.globals[g]?).map (·.type)=some 41)
    (h:laidMet Tryz.prog ((n,.iface "*errors.errorString" (.ptr (.agg [.lit (.string text)])))::r) W):∃ a,W.cell? ⟨g,0,none⟩=some (.iface 214 (.pointer (some a))):=by
  obtain ⟨a,s,hv,hc,hs,_⟩:=laid_sentinel h hg hgt Tryz.underlying41 rowErr Tryz.underlying214 Tryz.underlying239 rfl rfl Tryz.underlying9 cellsErr cellsString
  exact ⟨a,by simpa using World.var?_cell hg hv 0⟩
theorem gEt : Tryz.prog.globalNamed "errors.errorType" = some 0:=by kernel_rfl
theorem gRt : (Tryz.prog.cutTypes.find? (·.1 == "internal/reflectlite.rtype")).map (·.2)=some 91:=by kernel_rfl
theorem gOne : ((List.range 250).filter fun t=>Tryz.prog.rowNamed t [101,114,114,111,114])=[41]:=by kernel_rfl
theorem gSize : Tryz.prog.types.size=250:=by kernel_rfl
theorem handleOf {W:World} (h:handlesMet Tryz.prog [("errors.errorType",Rows.laid_errors_errorType)] W):W.cell? ⟨0,0,none⟩=some (.iface 91 (.agg #[.pointer (some ⟨11,41,none⟩)])):=by
  obtain ⟨name,u,ty,e1,e2,e3,e4,e5⟩:=h _ (List.mem_singleton.2 rfl)
  have en:name=[101,114,114,111,114]:=(Option.some.inj e1).symm
  subst en
  obtain rfl:=Option.some.inj (gRt.symm.trans e2)
  have hm:ty ∈ (List.range 250).filter fun t=>Tryz.prog.rowNamed t [101,114,114,111,114]:=List.mem_filter.2 ⟨List.mem_range.2 (by rw [← gSize];exact e3),e4⟩
  rw [gOne] at hm
  obtain rfl:=List.mem_singleton.1 hm
  have hh:typeHandle Tryz.prog 41 = .pointer (some ⟨11,41,none⟩):=by kernel_rfl
  rw [hh] at e5
  simpa using World.var?_cell gEt e5 0
theorem tabsOf {W:World} (h:laidMetH Tryz.prog Rows.fnExactReadCodeRow.laid W):Rc.Tb W:=by
  have hh:laidMet Tryz.prog [("loop.example/kilnmill/impl.builtWords",Rows.laid_loop_example_kilnmill_impl_builtWords),("loop.example/kilnmill/impl.builtTypes",Rows.laid_loop_example_kilnmill_impl_builtTypes),("loop.example/kilnmill/impl.insRows",Rows.laid_loop_example_kilnmill_impl_insRows),("loop.example/kilnmill/impl.errHead",Rows.laid_loop_example_kilnmill_impl_errHead),("loop.example/kilnmill/impl.errForm",Rows.laid_loop_example_kilnmill_impl_errForm),("loop.example/kilnmill/impl.errShort",Rows.laid_loop_example_kilnmill_impl_errShort),("loop.example/kilnmill/impl.errRest",Rows.laid_loop_example_kilnmill_impl_errRest),("loop.example/kilnmill/impl.errGreat",Rows.laid_loop_example_kilnmill_impl_errGreat),("loop.example/kilnmill/impl.errZero",Rows.laid_loop_example_kilnmill_impl_errZero),("loop.example/kilnmill/impl.errCode",Rows.laid_loop_example_kilnmill_impl_errCode)] W∧handlesMet Tryz.prog [("errors.errorType",Rows.laid_errors_errorType)] W:=h
  obtain ⟨h0,hH⟩:=hh
  have h1:=laidMet.tail h0
  have h2:=laidMet.tail h1
  have h3:=laidMet.tail h2
  have h4:=laidMet.tail h3
  have h5:=laidMet.tail h4
  have h6:=laidMet.tail h5
  have h7:=laidMet.tail h6
  have h8:=laidMet.tail h7
  have h9:=laidMet.tail h8
  obtain ⟨w1,w2⟩:=wordsOf h0
  obtain ⟨y1,y2⟩:=typesOf h1
  exact {
    ins:=insTabOf h2
    word:=⟨y2,w2,fun m a b j hj=>(y1 m a b).1 j hj,fun m a b=>(y1 m a b).2,w1⟩
    zero:=insZeroOf h2
    siz:=w2
    head:=errOf (by kernel_rfl) (by kernel_rfl) h3
    form:=errOf (by kernel_rfl) (by kernel_rfl) h4
    short:=errOf (by kernel_rfl) (by kernel_rfl) h5
    rest:=errOf (by kernel_rfl) (by kernel_rfl) h6
    great:=errOf (by kernel_rfl) (by kernel_rfl) h7
    zeroE:=errOf (by kernel_rfl) (by kernel_rfl) h8
    code:=errOf (by kernel_rfl) (by kernel_rfl) h9
    ty:=handleOf hH }
end Cd
end Go.Proofs.YtbkhedpabfanoaaGreatDoor
