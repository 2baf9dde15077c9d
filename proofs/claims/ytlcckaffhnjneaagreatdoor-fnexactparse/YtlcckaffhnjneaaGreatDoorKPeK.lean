import Derived.Test.YtlcckaffhnjneaaGreatDoorKPeI
import Derived.Test.YtlcckaffhnjneaaGreatDoorKScanAA
import Derived.Test.YtlcckaffhnjneaaGreatDoorCards
import Derived.Test.YtlcckaffhnjneaaGreatDoorTie
import Derived.Lay
import Derived.WalkKit
import Derived.ProofKit
import Derived.OpenShut
import Derived.OpenVars
import Derived.Lib.LaidIn
import Derived.Lib.LaidTab
import Derived.Stop.LaidErr
import Derived.Deep.DeepHandedRow
import Derived.Deep.DeepWitnessRowRef
import Derived.SizedLaws
import Derived.ChangeVars
import Derived.Carry
import Derived.SevenTiedAt
set_option maxRecDepth 100000
namespace Go.Proofs.YtlcckaffhnjneaaGreatDoor
namespace Pj
open Go.ChangeShapes Go.WideShapes Go.ChangeAt Go.RowKit Go.Lib
theorem cString : Tryz.prog.cellsOf 9=1:=by kernel_rfl
theorem cInt : Tryz.prog.cellsOf 3=1:=by kernel_rfl
theorem cU64 : Tryz.prog.cellsOf 96=1:=by kernel_rfl
theorem cGreat : Tryz.prog.cellsOf 129=11:=by kernel_rfl
theorem cCalled : Tryz.prog.cellsOf 170=2:=by kernel_rfl
theorem cRanked : Tryz.prog.cellsOf 211=2:=by kernel_rfl
theorem cErr : Tryz.prog.cellsOf 215=1:=by kernel_rfl
theorem star : "*" ++ "errors.errorString" = "*errors.errorString" := by decide
theorem rowErr (u:TypeId) (h:Tryz.prog.typeName? 3 u=some "*errors.errorString"):u=213 :=
 typeName_ptr_named (nm := "errors.errorString") (by rw [star];kernel_rfl) (by kernel_rfl) (by decide) u (by rw [star];exact h)
theorem gErr : Tryz.prog.globalNamed "strconv.ErrRange" = some 5:=by kernel_rfl
theorem gErrT : (Tryz.prog.globals[5]?).map (·.type)=some 126:=by kernel_rfl
theorem gGreat : Tryz.prog.globalNamed "loop.example/kilnmill/impl.greatest" = some 0:=by kernel_rfl
theorem gGreatT : (Tryz.prog.globals[0]?).map (·.type)=some 129:=by kernel_rfl
theorem gType : Tryz.prog.globalNamed "loop.example/kilnmill/impl.typeWords" = some 1:=by kernel_rfl
theorem gTypeT : (Tryz.prog.globals[1]?).map (·.type)=some 149:=by kernel_rfl
theorem gUn : Tryz.prog.globalNamed "loop.example/kilnmill/impl.unMarks" = some 7:=by kernel_rfl
theorem gUnT : (Tryz.prog.globals[7]?).map (·.type)=some 216:=by kernel_rfl
theorem gBin : Tryz.prog.globalNamed "loop.example/kilnmill/impl.binMarks" = some 6:=by kernel_rfl
theorem gBinT : (Tryz.prog.globals[6]?).map (·.type)=some 212:=by kernel_rfl
theorem gBuilt : Tryz.prog.globalNamed "loop.example/kilnmill/impl.builtWords" = some 2:=by kernel_rfl
theorem gBuiltT : (Tryz.prog.globals[2]?).map (·.type)=some 171:=by kernel_rfl
theorem tlt_cell {W:World} {b o:Nat} {v:Value} (h:W.cell? ⟨b,o,none⟩=some v):b < W.heap.size:=World.block_lt_of_cell? _ _ h
theorem mk_bytes {s:ByteArray} {b:List UInt8} (h:s.data.toList=b):s=⟨b.toArray⟩:=by
 obtain ⟨⟨l⟩⟩:=s
 have:l=b:=h
 subst this;rfl
theorem pairs_at (rows:List (List UInt8 × Int)):∀ (j:Nat) (v:Value),(rows.flatMap fun r=>[Value.string ⟨r.1.toArray⟩,.int .i64 r.2])[j]? = some v→∃ i r,rows[i]? = some r∧((j=i * 2∧v = .string ⟨r.1.toArray⟩)∨(j=i * 2+1∧v = .int .i64 r.2)):=by
 induction rows with
 | nil=>intro j v h;simp at h
 | cons x xs ih =>
  intro j v h
  match j with
  | 0=>exact ⟨0,x,rfl,.inl ⟨rfl,by simpa using h.symm⟩⟩
  | 1=>exact ⟨0,x,rfl,.inr ⟨rfl,by simpa using h.symm⟩⟩
  | j+2 =>
   obtain ⟨i,r,h1,h2⟩:=ih j v (by simpa using h)
   refine ⟨i+1,r,by simpa using h1, ?_⟩
   rcases h2 with ⟨rfl,h2⟩ | ⟨rfl,h2⟩
   ·exact .inl ⟨by omega,h2⟩
   ·exact .inr ⟨by omega,h2⟩
theorem strsType {W:World} {cs:List Value} {fuel:Nat} {p:List MemPlace} {l:List (DataW Unit)} {enc:TypeId × Value→Unit} {base:Nat} {spare:Nat→Bool} {held:Bool} (h:DataW.trod enc Tryz.prog W base spare held fuel 149 cs=some (.agg l,p)) (i:Nat) (hi:i < 11) (b:List UInt8) (hz:l[i]? = some (.lit (.string b))):cs[i]? = some (.string ⟨b.toArray⟩):=by
 obtain ⟨xs,m,_,hx,hlen,hxl,hel⟩:=DataW.trod_array Tryz.underlying149 h
 have hx1:l=xs.map (·.1):=by have:=(Prod.mk.inj hx).1;injection this
 have h1:=hel i hi
 rw [cString] at h1
 have hxi:∃ y,xs[i]? = some y:=⟨_,List.getElem?_eq_getElem (by omega)⟩
 obtain ⟨y,hy⟩:=hxi
 rw [hy] at h1
 have hyd:y.1 = .lit (.string b):=by
  rw [hx1,List.getElem?_map,hy] at hz
  simpa using hz
 obtain ⟨s,hc,hd,_⟩:=DataW.trod_string Tryz.underlying9 h1
 have hss:s.data.toList=b:=by
  rw [hd] at hyd
  simpa using hyd
 rw [mk_bytes hss] at hc
 have e:=congrArg (fun l=>l[0]?) hc
 simpa [List.getElem?_drop,List.getElem?_take] using e
theorem strsUn {W:World} {cs:List Value} {fuel:Nat} {p:List MemPlace} {l:List (DataW Unit)} {enc:TypeId × Value→Unit} {base:Nat} {spare:Nat→Bool} {held:Bool} (h:DataW.trod enc Tryz.prog W base spare held fuel 216 cs=some (.agg l,p)) (i:Nat) (hi:i < 4) (b:List UInt8) (hz:l[i]? = some (.lit (.string b))):cs[i]? = some (.string ⟨b.toArray⟩):=by
 obtain ⟨xs,m,_,hx,hlen,hxl,hel⟩:=DataW.trod_array Tryz.underlying216 h
 have hx1:l=xs.map (·.1):=by have:=(Prod.mk.inj hx).1;injection this
 have h1:=hel i hi
 rw [cString] at h1
 have hxi:∃ y,xs[i]? = some y:=⟨_,List.getElem?_eq_getElem (by omega)⟩
 obtain ⟨y,hy⟩:=hxi
 rw [hy] at h1
 have hyd:y.1 = .lit (.string b):=by
  rw [hx1,List.getElem?_map,hy] at hz
  simpa using hz
 obtain ⟨s,hc,hd,_⟩:=DataW.trod_string Tryz.underlying9 h1
 have hss:s.data.toList=b:=by
  rw [hd] at hyd
  simpa using hyd
 rw [mk_bytes hss] at hc
 have e:=congrArg (fun l=>l[0]?) hc
 simpa [List.getElem?_drop,List.getElem?_take] using e
theorem pairBin {W:World} {cs:List Value} {fuel:Nat} {p:List MemPlace} {l:List (DataW Unit)} {enc:TypeId × Value→Unit} {base:Nat} {spare:Nat→Bool} {held:Bool} (h:DataW.trod enc Tryz.prog W base spare held fuel 212 cs=some (.agg l,p)) (i:Nat) (hi:i < 19) (b:List UInt8) (z:Int) (hz:l[i]? = some (.agg [.lit (.string b),.lit (.int .i64 z)])):cs[i * 2]? = some (.string ⟨b.toArray⟩)∧cs[i * 2+1]? = some (.int .i64 z):=by
 obtain ⟨xs,m,_,hx,hlen,hxl,hel⟩:=DataW.trod_array Tryz.underlying212 h
 have hx1:l=xs.map (·.1):=by have:=(Prod.mk.inj hx).1;injection this
 have h1:=hel i hi
 rw [cRanked] at h1
 have hxi:∃ y,xs[i]? = some y:=⟨_,List.getElem?_eq_getElem (by omega)⟩
 obtain ⟨y,hy⟩:=hxi
 rw [hy] at h1
 obtain ⟨ys,k,_,hys,_,hyl,hf⟩:=DataW.trod_struct Tryz.underlying211 h1
 have hyd:y.1 = .agg [.lit (.string b),.lit (.int .i64 z)]:=by
  rw [hx1,List.getElem?_map,hy] at hz
  simpa using hz
 rw [hys] at hyd
 have hyl2:ys.length=2:=hyl
 clear hyl
 match ys,hyl2 with
 | [y0,y1],_ =>
  have h0:DataW.trod enc Tryz.prog W base spare held k 9 ((((cs.drop (i * 2)).take 2).drop 0).take (Tryz.prog.cellsOf 9))=some y0:=hf 0 _ rfl
  have h2:DataW.trod enc Tryz.prog W base spare held k 3 ((((cs.drop (i * 2)).take 2).drop 1).take (Tryz.prog.cellsOf 3))=some y1:=hf 1 _ rfl
  rw [cString] at h0
  rw [cInt] at h2
  simp only [List.map_cons,List.map_nil,DataW.agg.injEq,List.cons.injEq,and_true] at hyd
  obtain ⟨s,hc0,hd0,_⟩:=DataW.trod_string Tryz.underlying9 h0
  obtain ⟨z',hc,hd,_⟩:=DataW.trod_int Tryz.underlying3 h2
  have hzz:z'=z:=by
   have e:=hyd.2
   rw [hd] at e
   simpa using e
  have hss:s.data.toList=b:=by
   have e:=hyd.1
   rw [hd0] at e
   simpa using e
  subst hzz
  rw [mk_bytes hss] at hc0
  have e0:=congrArg (fun l=>l[0]?) hc0
  have e:=congrArg (fun l=>l[0]?) hc
  refine ⟨?_, ?_⟩
  ·simpa [List.getElem?_drop,List.getElem?_take] using e0
  ·simpa [List.getElem?_drop,List.getElem?_take] using e
theorem pairBuilt {W:World} {cs:List Value} {fuel:Nat} {p:List MemPlace} {l:List (DataW Unit)} {enc:TypeId × Value→Unit} {base:Nat} {spare:Nat→Bool} {held:Bool} (h:DataW.trod enc Tryz.prog W base spare held fuel 171 cs=some (.agg l,p)) (i:Nat) (hi:i < 13) (b:List UInt8) (z:Int) (hz:l[i]? = some (.agg [.lit (.string b),.lit (.int .i64 z)])):cs[i * 2]? = some (.string ⟨b.toArray⟩)∧cs[i * 2+1]? = some (.int .i64 z):=by
 obtain ⟨xs,m,_,hx,hlen,hxl,hel⟩:=DataW.trod_array Tryz.underlying171 h
 have hx1:l=xs.map (·.1):=by have:=(Prod.mk.inj hx).1;injection this
 have h1:=hel i hi
 rw [cCalled] at h1
 have hxi:∃ y,xs[i]? = some y:=⟨_,List.getElem?_eq_getElem (by omega)⟩
 obtain ⟨y,hy⟩:=hxi
 rw [hy] at h1
 obtain ⟨ys,k,_,hys,_,hyl,hf⟩:=DataW.trod_struct Tryz.underlying170 h1
 have hyd:y.1 = .agg [.lit (.string b),.lit (.int .i64 z)]:=by
  rw [hx1,List.getElem?_map,hy] at hz
  simpa using hz
 rw [hys] at hyd
 have hyl2:ys.length=2:=hyl
 clear hyl
 match ys,hyl2 with
 | [y0,y1],_ =>
  have h0:DataW.trod enc Tryz.prog W base spare held k 9 ((((cs.drop (i * 2)).take 2).drop 0).take (Tryz.prog.cellsOf 9))=some y0:=hf 0 _ rfl
  have h2:DataW.trod enc Tryz.prog W base spare held k 3 ((((cs.drop (i * 2)).take 2).drop 1).take (Tryz.prog.cellsOf 3))=some y1:=hf 1 _ rfl
  rw [cString] at h0
  rw [cInt] at h2
  simp only [List.map_cons,List.map_nil,DataW.agg.injEq,List.cons.injEq,and_true] at hyd
  obtain ⟨s,hc0,hd0,_⟩:=DataW.trod_string Tryz.underlying9 h0
  obtain ⟨z',hc,hd,_⟩:=DataW.trod_int Tryz.underlying3 h2
  have hzz:z'=z:=by
   have e:=hyd.2
   rw [hd] at e
   simpa using e
  have hss:s.data.toList=b:=by
   have e:=hyd.1
   rw [hd0] at e
   simpa using e
  subst hzz
  rw [mk_bytes hss] at hc0
  have e0:=congrArg (fun l=>l[0]?) hc0
  have e:=congrArg (fun l=>l[0]?) hc
  refine ⟨?_, ?_⟩
  ·simpa [List.getElem?_drop,List.getElem?_take] using e0
  ·simpa [List.getElem?_drop,List.getElem?_take] using e
theorem tabType {W:World} {r:List (String × DataW Unit)} (h:laidMet Tryz.prog (("loop.example/kilnmill/impl.typeWords",Rows.laid_loop_example_kilnmill_impl_typeWords)::r) W):W.rangeAt 1 0 Pa.tC∧1 < W.heap.size:=by
 obtain ⟨ps,⟨g',t',cs,fuel,p,q,hg',ht',hvar,hd,_,_⟩,_⟩:=h
 obtain rfl:=Option.some.inj (gType.symm.trans hg')
 obtain rfl:=Option.some.inj (gTypeT.symm.trans ht')
 have hd2:DataW.trod _ Tryz.prog W _ _ _ fuel _ cs.toList=some (.agg (([]::Pa.words).map fun b => .lit (.string b)),p):=hd
 have hcell:∀ i b,([]::Pa.words)[i]? = some b→W.cell? ⟨1,i,none⟩=some (.string ⟨b.toArray⟩):=fun i b hz=>by
  rw [World.var?_cell gType hvar i]
  have hi:i < 11:=(List.getElem?_eq_some_iff.1 hz).1
  have e:=strsType hd2 i hi b (by rw [List.getElem?_map,hz];rfl)
  simpa using e
 have e0:Pa.tC=([]::Pa.words).map fun b=>Value.string ⟨b.toArray⟩:=rfl
 refine ⟨fun j v hv => ?_,tlt_cell (hcell 0 _ rfl)⟩
 rw [e0,List.getElem?_map] at hv
 obtain ⟨b,hb,rfl⟩:=Option.map_eq_some_iff.1 hv
 rw [Nat.zero_add]
 exact hcell j b hb
theorem tabUn {W:World} {r:List (String × DataW Unit)} (h:laidMet Tryz.prog (("loop.example/kilnmill/impl.unMarks",Rows.laid_loop_example_kilnmill_impl_unMarks)::r) W):W.rangeAt 7 0 Pa.uC∧7 < W.heap.size:=by
 obtain ⟨ps,⟨g',t',cs,fuel,p,q,hg',ht',hvar,hd,_,_⟩,_⟩:=h
 obtain rfl:=Option.some.inj (gUn.symm.trans hg')
 obtain rfl:=Option.some.inj (gUnT.symm.trans ht')
 have hd2:DataW.trod _ Tryz.prog W _ _ _ fuel _ cs.toList=some (.agg (([]::Pa.marks1).map fun b => .lit (.string b)),p):=hd
 have hcell:∀ i b,([]::Pa.marks1)[i]? = some b→W.cell? ⟨7,i,none⟩=some (.string ⟨b.toArray⟩):=fun i b hz=>by
  rw [World.var?_cell gUn hvar i]
  have hi:i < 4:=(List.getElem?_eq_some_iff.1 hz).1
  have e:=strsUn hd2 i hi b (by rw [List.getElem?_map,hz];rfl)
  simpa using e
 have e0:Pa.uC=([]::Pa.marks1).map fun b=>Value.string ⟨b.toArray⟩:=rfl
 refine ⟨fun j v hv => ?_,tlt_cell (hcell 0 _ rfl)⟩
 rw [e0,List.getElem?_map] at hv
 obtain ⟨b,hb,rfl⟩:=Option.map_eq_some_iff.1 hv
 rw [Nat.zero_add]
 exact hcell j b hb
def rowsBin : List (List UInt8 × Int):=[([],0),([124,124],1),([38,38],2),([61,61],3),([33,61],3),([60],3),([60,61],3),([62],3),([62,61],3),([43],4),([45],4),([124],4),([94],4),([42],5),([47],5),([37],5),([38],5),([60,60],5),([62,62],5)]
theorem tabBin {W:World} {r:List (String × DataW Unit)} (h:laidMet Tryz.prog (("loop.example/kilnmill/impl.binMarks",Rows.laid_loop_example_kilnmill_impl_binMarks)::r) W):W.rangeAt 6 0 Pa.bC∧6 < W.heap.size:=by
 obtain ⟨ps,⟨g',t',cs,fuel,p,q,hg',ht',hvar,hd,_,_⟩,_⟩:=h
 obtain rfl:=Option.some.inj (gBin.symm.trans hg')
 obtain rfl:=Option.some.inj (gBinT.symm.trans ht')
 have hd2:DataW.trod _ Tryz.prog W _ _ _ fuel _ cs.toList=some (.agg (rowsBin.map fun r => .agg [.lit (.string r.1),.lit (.int .i64 r.2)]),p):=hd
 have hcell:∀ i r,rowsBin[i]? = some r→W.cell? ⟨6,i * 2,none⟩=some (.string ⟨r.1.toArray⟩)∧W.cell? ⟨6,i * 2+1,none⟩=some (.int .i64 r.2):=fun i r hz=>by
  have hi:i < 19:=(List.getElem?_eq_some_iff.1 hz).1
  have e:=pairBin hd2 i hi r.1 r.2 (by rw [List.getElem?_map,hz];rfl)
  refine ⟨?_, ?_⟩
  ·rw [World.var?_cell gBin hvar];simpa using e.1
  ·rw [World.var?_cell gBin hvar];simpa using e.2
 have e0:Pa.bC=rowsBin.flatMap fun r=>[Value.string ⟨r.1.toArray⟩,.int .i64 r.2]:=rfl
 refine ⟨fun j v hv => ?_,tlt_cell (hcell 0 _ rfl).1⟩
 rw [e0] at hv
 obtain ⟨i,r,hr,hj⟩:=pairs_at rowsBin j v hv
 rw [Nat.zero_add]
 rcases hj with ⟨rfl,rfl⟩ | ⟨rfl,rfl⟩
 ·exact (hcell i r hr).1
 ·exact (hcell i r hr).2
def rowsBuilt : List (List UInt8 × Int):=[([],0),([114,101,97,100],1),([104,97,115],1),([108,105,115,116],1),([116,111,111,108],2),([97,114,103],0),([108,101,110],1),([97,116],2),([99,117,116],3),([102,105,110,100],2),([99,104,114],1),([100,101,99],1),([110,117,109],1)]
theorem tabBuilt {W:World} {r:List (String × DataW Unit)} (h:laidMet Tryz.prog (("loop.example/kilnmill/impl.builtWords",Rows.laid_loop_example_kilnmill_impl_builtWords)::r) W):W.rangeAt 2 0 Pa.wC∧2 < W.heap.size:=by
 obtain ⟨ps,⟨g',t',cs,fuel,p,q,hg',ht',hvar,hd,_,_⟩,_⟩:=h
 obtain rfl:=Option.some.inj (gBuilt.symm.trans hg')
 obtain rfl:=Option.some.inj (gBuiltT.symm.trans ht')
 have hd2:DataW.trod _ Tryz.prog W _ _ _ fuel _ cs.toList=some (.agg (rowsBuilt.map fun r => .agg [.lit (.string r.1),.lit (.int .i64 r.2)]),p):=hd
 have hcell:∀ i r,rowsBuilt[i]? = some r→W.cell? ⟨2,i * 2,none⟩=some (.string ⟨r.1.toArray⟩)∧W.cell? ⟨2,i * 2+1,none⟩=some (.int .i64 r.2):=fun i r hz=>by
  have hi:i < 13:=(List.getElem?_eq_some_iff.1 hz).1
  have e:=pairBuilt hd2 i hi r.1 r.2 (by rw [List.getElem?_map,hz];rfl)
  refine ⟨?_, ?_⟩
  ·rw [World.var?_cell gBuilt hvar];simpa using e.1
  ·rw [World.var?_cell gBuilt hvar];simpa using e.2
 have e0:Pa.wC=rowsBuilt.flatMap fun r=>[Value.string ⟨r.1.toArray⟩,.int .i64 r.2]:=rfl
 refine ⟨fun j v hv => ?_,tlt_cell (hcell 0 _ rfl).1⟩
 rw [e0] at hv
 obtain ⟨i,r,hr,hj⟩:=pairs_at rowsBuilt j v hv
 rw [Nat.zero_add]
 rcases hj with ⟨rfl,rfl⟩ | ⟨rfl,rfl⟩
 ·exact (hcell i r hr).1
 ·exact (hcell i r hr).2
theorem tabGreat {W:World} {r:List (String × DataW Unit)} (h:laidMet Tryz.prog (("loop.example/kilnmill/impl.greatest",Rows.laid_loop_example_kilnmill_impl_greatest)::r) W):Lib.TabIs Tryz.prog W "loop.example/kilnmill/impl.greatest" .u64 [0,0,0,255,65535,4294967295,18446744073709551615,127,32767,2147483647,9223372036854775807] :=
 Lib.tabIs_of_head (rest:=r) gGreat gGreatT Tryz.underlying129 Tryz.underlying96 cU64 cGreat h
theorem greats {W:World} (ht:Lib.TabIs Tryz.prog W "loop.example/kilnmill/impl.greatest" .u64 [0,0,0,255,65535,4294967295,18446744073709551615,127,32767,2147483647,9223372036854775807]):Mill.Greats W:=by
 refine ⟨fun t h1 h2 => ?_,tlt_cell (ht.cell gGreat 3 (by decide))⟩
 rw [ht.cell gGreat t (by simp;omega)]
 have:t=3∨t=4∨t=5∨t=6∨t=7∨t=8∨t=9∨t=10:=by omega
 rcases this with rfl | rfl | rfl | rfl | rfl | rfl | rfl | rfl <;> rfl
theorem globs {W:World} (hg:Mill.Greats W) {te:TypeId} {pe:Value} (he:W.cell? ⟨5,0,none⟩=some (.iface te pe)):Mill.Globs W :=
 ⟨hg.1,⟨te,pe,he⟩,hg.2,tlt_cell he⟩
theorem builts {W:World} (h:W.rangeAt 2 0 Pa.wC∧2 < W.heap.size):Mill.Builts W:=by
 refine ⟨fun m h1 h2 => ?_,h.2⟩
 have h3:=h.1 (m * 2+1)
 rw [Nat.zero_add] at h3
 have:m=1∨m=2∨m=3∨m=4∨m=5∨m=6∨m=7∨m=8∨m=9∨m=10∨m=11∨m=12:=by omega
 rcases this with rfl | rfl | rfl | rfl | rfl | rfl | rfl | rfl | rfl | rfl | rfl | rfl <;> exact h3 _ rfl
theorem errOf {W:World} {r:List (String × DataW Unit)} (h:laidMet Tryz.prog (("strconv.ErrRange",Rows.laid_strconv_ErrRange)::r) W):∃ te pe,W.cell? ⟨5,0,none⟩=some (.iface te pe):=by
 obtain ⟨a,s,hv,_⟩:=laid_sentinel (g:=5) h gErr gErrT Tryz.underlying126 rowErr Tryz.underlying213 Tryz.underlying215 rfl rfl Tryz.underlying9 cErr cString
 exact ⟨_,_,by simpa using World.var?_cell gErr hv 0⟩
theorem allOf {W:World} (h:laidMetH Tryz.prog Rows.fnExactParseRow.laid W):Mill.Globs W∧Pa.Tg W:=by
 have h0:laidMet Tryz.prog Rows.fnExactParseRow.laid W:=h
 have h3:=laidMet.tail (laidMet.tail (laidMet.tail h0))
 have h5:=laidMet.tail (laidMet.tail h3)
 have h6:=laidMet.tail h5
 have h7:=laidMet.tail h6
 have h8:=laidMet.tail h7
 have h9:=laidMet.tail h8
 obtain ⟨te,pe,he⟩:=errOf h3
 have hg:=greats (tabGreat h5)
 have hd:=tabBuilt h9
 exact ⟨globs hg he,(tabType h6).1,(tabUn h7).1,(tabBin h8).1,hd.1,⟨(tabType h6).2,(tabUn h7).2,(tabBin h8).2,hd.2⟩,hg,builts hd⟩
end Pj
end Go.Proofs.YtlcckaffhnjneaaGreatDoor
