import Derived.Test.YtahibkjkpmdhgaaGreatDoorKVmV
import Derived.Test.YtahibkjkpmdhgaaGreatDoorKVmU
set_option maxRecDepth 100000
set_option maxHeartbeats 4000000
namespace Go.Proofs.YtahibkjkpmdhgaaGreatDoor
open Go.RowKit
theorem Qeq (w:World) (o1 o2:Obj):∃ Y,(w.alloc o1).alloc o2=Y/\Y.heap.size=w.heap.size+2/\Y.heap[w.heap.size]? = some o1/\Y.heap[w.heap.size+1]? = some o2/\OH w Y:=by
 refine⟨_,rfl,by rw[World.size_alloc,World.size_alloc],Ak _ (Ae w _), ?_,Ka w _ _⟩;have h:=Ae (w.alloc o1) o2;rw[World.size_alloc]at h;exact h
def Kc : Option (Int × Int)->Az
 | none=>⟨0,0,0,⟨#[]⟩⟩
 | some (op,a)=>⟨op,a,0,⟨#[]⟩⟩
def My (i:Az) (w:World) (e:Ending) (w':World):Prop:=e = .returned (.agg #[.int .i64 i.op,.int .i64 i.a,.int .i64 0,.string ⟨#[]⟩])/\OH w w'
theorem Lr {w Y:World} (hb:OH w Y) {d:Nat} {v0 v1 v2 v3:Value} (h:Y.heap[w.heap.size+d]? = some (.cells #[v0,v1,v2,v3] 107)) (x y:Int):∃ Z,((((Y.setCell (OI (w.heap.size+d) 0) (.int .i64 x)).setCell (OI (w.heap.size+d) 1) (.int .i64 y)).setCell (OI (w.heap.size+d) 2) (.int .i64 0)).setCell (OI (w.heap.size+d) 3) (.string ⟨#[]⟩))=Z/\Z.heap[w.heap.size+d]? = some (.cells #[.int .i64 x,.int .i64 y,.int .i64 0,.string ⟨#[]⟩] 107)/\OH w Z :=
 ⟨_,rfl,by simp[World.setCell,Array.getElem?_modify,h],Ad (Ad (Ad (Ad hb d 0 _) d 1 _) d 2 _) d 3 _⟩
theorem H2 {Y:World} {g:Nat} {x y:Int} (h:Y.heap[g]? = some (.cells #[.int .i64 x,.int .i64 y,.int .i64 0,.string ⟨#[]⟩] 107)):(Y.cell? (OI g 0)=some (.int .i64 x)/\Y.cell? (OI g 1)=some (.int .i64 y)/\Y.cell? (OI g 2)=some (.int .i64 0)/\Y.cell? (OI g 3)=some (.string ⟨#[]⟩))/\(Y.frozen? (OI g 0)=false/\Y.frozen? (OI g 1)=false/\Y.frozen? (OI g 2)=false/\Y.frozen? (OI g 3)=false) :=
 ⟨⟨(Aa h 0 _ rfl).1,(Aa h 1 _ rfl).1,(Aa h 2 _ rfl).1,(Aa h 3 _ rfl).1⟩,(Aa h 0 _ rfl).2,(Aa h 1 _ rfl).2,(Aa h 2 _ rfl).2,(Aa h 3 _ rfl).2⟩
theorem Qcu (m:Ds) (ca aa oa fa ia sa:Option Addr) (cc ac oc fc ic sc:Nat) (A:Nat) (w:World) (hl:m.frames.length<=1048576) (hF:Cn A w (.slice fa m.frames.length fc) m.frames) (k:Nat) (hk:k < m.frames.length) :
  Calls Tryz.prog 70 #[.agg #[.slice ca m.codes.length cc,.slice aa m.args.length ac,.slice oa m.outs.length oc,.slice fa m.frames.length fc,.int .i64 m.steps,.int .i64 m.looks,.int .i64 m.kind,.string m.name,.string m.hold,.bool m.over,.int .i64 m.fin,.string m.text,.slice ia m.files.length ic,.slice sa m.said.length sc],.int .i64 (k:Int)] w (My (Kc (Bw m k)) w):=by
 obtain⟨n,l⟩:∃ n,Hid (m.frames.length=n):=⟨_,(rfl:m.frames.length=_)⟩;obtain⟨q,G⟩:∃ n,Hid (m.kind=n):=⟨_,(rfl:m.kind=_)⟩;obtain⟨j,s1,k1,s2,k2,s,h,⟨e0,e1,e2,e3,e4⟩,-,-⟩:=F9 hF k hk;subst s;have F:=fun (hk2:k+1 < m.frames.length)=>F9 hF (k+1) hk2
 obtain⟨V,r⟩:∃ b,Hid (Bw m k=b):=⟨_,(rfl:Bw m k=_)⟩;rw[r.out,l.out,G.out];rw[l.out]at hl;have al:(k:Int) < (n:Int):=by have:=l.out;omega
 obtain⟨o,ak,ae,U,T,c⟩:∃ Y,(w.alloc (.cells #[.slice ca m.codes.length cc,.slice aa m.args.length ac,.slice oa m.outs.length oc,.slice (some (OI j 0)) n fc,.int .i64 m.steps,.int .i64 m.looks,.int .i64 q,.string m.name,.string m.hold,.bool m.over,.int .i64 m.fin,.string m.text,.slice ia m.files.length ic,.slice sa m.said.length sc] 34)).alloc (.cells #[.int .i64 0,.int .i64 0,.int .i64 0,.string ⟨#[]⟩] 107)=Y/\Y.heap.size=w.heap.size+2/\Y.heap[w.heap.size]? = some (.cells #[.slice ca m.codes.length cc,.slice aa m.args.length ac,.slice oa m.outs.length oc,.slice (some (OI j 0)) n fc,.int .i64 m.steps,.int .i64 m.looks,.int .i64 q,.string m.name,.string m.hold,.bool m.over,.int .i64 m.fin,.string m.text,.slice ia m.files.length ic,.slice sa m.said.length sc] 34)/\Y.heap[w.heap.size+1]? = some (.cells #[.int .i64 0,.int .i64 0,.int .i64 0,.string ⟨#[]⟩] 107)/\OH w Y:=Qeq w _ _;obtain⟨c1,E⟩:∃ x,Hid (m.frames[k].code=x):=⟨_,(rfl:m.frames[k].code=_)⟩;rw[E.out]at e0;have d0:=(c.cell (p:=(OI j (k * 5))) h).trans e0;obtain⟨m3,-⟩:=Aa U 3 _ rfl;obtain⟨m6,-⟩:=Aa U 6 _ rfl;have an:wrap64 ((n:Int) - 1)=(n:Int) - 1:=IntWalk.wrap64_in _ Ou;have ai:IntKind.i64.wrap ((n:Int) - 1)=(n:Int) - 1:=wrap_small _ Ou Ou;clear e1 e2 e3 e4;by_cases hlast:k+1 < n
 ·have ad:(k:Int) < (n:Int) - 1:=Ou
  have am:wrap64 ((k:Int)+1)=((k+1:Nat):Int):=by rw[IntWalk.wrap64_in _ Ou];omega
  have ah:((k+1:Nat):Int) < (n:Int):=Ou
  obtain⟨aj,t1,R,t2,S,s,ag,⟨W,X,a2,a3,a4⟩,-,-⟩:=F (by rw[l.out];exact hlast);injection s with s;injection s with s;subst s;have a:Bw m k=if (m.frames.getD (k+1) Gu).code=(m.frames.getD k Gu).code then some (9,(m.frames.getD (k+1) Gu).fn) else some (8,4):=by
   unfold Bw;rw[if_pos (by rw[l.out];exact hlast)]
  have O:m.frames.getD (k+1) Gu=m.frames[k+1]'(by rw[l.out];exact hlast):=by rw[List.getD_eq_getElem?_getD,List.getElem?_eq_getElem (by rw[l.out];exact hlast)];rfl
  have N:m.frames.getD k Gu=m.frames[k]:=by rw[List.getD_eq_getElem?_getD,List.getElem?_eq_getElem hk];rfl
  rw[O,N,E.out,r.out]at a;generalize m.frames[k+1]'(by rw[l.out];exact hlast)=fr at a W X a2 a3 a4;obtain⟨J,K,z2,P,Q⟩:=fr;simp only at a W X a2 a3 a4;have b0:=(c.cell (p:=(OI j ((k+1) * 5))) h).trans W;have b1:=(c.cell (p:=(OI j ((k+1) * 5+1))) h).trans X;have b2:=(c.cell (p:=(OI j ((k+1) * 5+2))) h).trans a2;have b3:=(c.cell (p:=(OI j ((k+1) * 5+3))) h).trans a3;have b4:=(c.cell (p:=(OI j ((k+1) * 5+4))) h).trans a4;clear W X a2 a3 a4 hlast O N;obtain⟨D,M⟩:∃ Y,o.alloc (.cells #[.int .i64 J,.int .i64 K,.int .i64 z2,.slice t1 P.length R,.slice t2 Q.length S] 91)=Y:=⟨_,rfl⟩;have L:OH o D:=by rw[<- M];exact Ao o _
  have x3:D.heap[w.heap.size+2]? = some (.cells #[.int .i64 J,.int .i64 K,.int .i64 z2,.slice t1 P.length R,.slice t2 Q.length S] 91):=by rw[<- M,<- ae];exact Ae o _
  have yM:=(L.block _ Ou).trans U;have yI:=(L.block _ Ou).trans T;have D0:=(L.cell (p:=(OI j (k * 5))) (by show j < _;omega)).trans d0;obtain⟨n3,-⟩:=Aa yM 3 _ rfl;obtain⟨q0,-⟩:=Aa x3 0 _ rfl;obtain⟨q1,-⟩:=Aa x3 1 _ rfl;obtain⟨⟨i0,i1,i2,i3⟩,j0,j1,j2,j3⟩:=H2 yI;have I:Hid (OH w D):=c.trans (L.mono c.size);have i:Hid (D.heap[w.heap.size+1]? = _):=yI;clear yM yI U T x3 L;by_cases hsame:J=c1
  ·have af:(J == c1)=true:=(by simp[hsame]);have f:Hid (Kc V=⟨9,K,0,⟨#[]⟩⟩):=(by rw[Hid,a,if_pos hsame];rfl);rw[f.out];clear hsame a;go_enter Tryz.func70,Tryz.ntmps70;go_wp2_with fail;go_quiet (fail);go_wp2_with fail;obtain⟨Z,t,C,g⟩:=Lr (w:=w) (Y:=(D.drewN nq)) (d:=1) (Aj _ I.out) i.out 9 K;rw[t];obtain⟨⟨u,y,z,B⟩,-⟩:=H2 C;exact bodyPost_ret (v:=.agg #[.int .i64 9,.int .i64 K,.int .i64 0,.string ⟨#[]⟩]) (by simp[results,Tryz.results70,go_sem,u,y,z,B]) rfl ⟨rfl,g⟩
  ·have af:(J == c1)=false:=(by simp[hsame]);have f:Hid (Kc V=⟨8,4,0,⟨#[]⟩⟩):=(by rw[Hid,a,if_neg hsame];rfl);rw[f.out];clear hsame a;go_enter Tryz.func70,Tryz.ntmps70;go_wp2_with fail;go_quiet (fail);go_wp2_with fail;obtain⟨Z,t,C,g⟩:=Lr (w:=w) (Y:=(D.drewN nq)) (d:=1) (Aj _ I.out) i.out 8 4;rw[t];obtain⟨⟨u,y,z,B⟩,-⟩:=H2 C;exact bodyPost_ret (v:=.agg #[.int .i64 8,.int .i64 4,.int .i64 0,.string ⟨#[]⟩]) (by simp[results,Tryz.results70,go_sem,u,y,z,B]) rfl ⟨rfl,g⟩
 ·have ad:¬ (k:Int) < (n:Int) - 1:=Ou
  have a:Bw m k=if m.kind=0 then none else some (8,m.kind):=by
   unfold Bw;rw[if_neg (by rw[l.out];exact hlast)]
  rw[G.out,r.out]at a;obtain⟨⟨i0,i1,i2,i3⟩,j0,j1,j2,j3⟩:=H2 T;clear hlast F;have i:Hid (o.heap[w.heap.size+1]? = _):=T;have H:Hid (OH w o):=c;clear T U c;by_cases hkd:q=0
  ·have ab:(q != 0)=false:=(by simp[hkd]);have f:Hid (Kc V=⟨0,0,0,⟨#[]⟩⟩):=(by rw[Hid,a,if_pos hkd];rfl);rw[f.out];clear hkd a;go_enter Tryz.func70,Tryz.ntmps70;go_wp2_with fail;obtain⟨Z,t,C,g⟩:=Lr (w:=w) (Y:=o) (d:=1) H.out i.out 0 0;rw[t];obtain⟨⟨u,y,z,B⟩,-⟩:=H2 C;exact bodyPost_ret (v:=.agg #[.int .i64 0,.int .i64 0,.int .i64 0,.string ⟨#[]⟩]) (by simp[results,Tryz.results70,go_sem,u,y,z,B]) rfl ⟨rfl,g⟩
  ·have ab:(q != 0)=true:=(by simp[hkd]);have f:Hid (Kc V=⟨8,q,0,⟨#[]⟩⟩):=(by rw[Hid,a,if_neg hkd];rfl);rw[f.out];clear hkd a;go_enter Tryz.func70,Tryz.ntmps70;go_wp2_with fail;obtain⟨Z,t,C,g⟩:=Lr (w:=w) (Y:=o) (d:=1) H.out i.out 8 q;rw[t];obtain⟨⟨u,y,z,B⟩,-⟩:=H2 C;exact bodyPost_ret (v:=.agg #[.int .i64 8,.int .i64 q,.int .i64 0,.string ⟨#[]⟩]) (by simp[results,Tryz.results70,go_sem,u,y,z,B]) rfl ⟨rfl,g⟩
theorem Qs (a0 a1 a2 b0 b1 b2:Int) (a3 b3:ByteArray) (W:World):(Op.equalIn 10000 107 (.agg #[.int .i64 a0,.int .i64 a1,.int .i64 a2,.string a3]) (.agg #[.int .i64 b0,.int .i64 b1,.int .i64 b2,.string b3])).run Tryz.prog W = .ok (a0 == b0 && a1 == b1 && a2 == b2 && a3.toList == b3.toList) W:=by
 have d:=Tryz.underlying3;have c:=Tryz.underlying2;have f:=Tryz.underlying9;have a:Tryz.prog.underlying 107=some (.struct (Tryz.prog.fieldsOf 107)):=OA
 have b:Tryz.prog.stoodInHeld 107=false:=OA
 rw[show (10000:Nat)=9999+1 from rfl,run_equalIn_agg W 9999 107 _ _ a b];simp only[Program.fieldsOf,Tryz.underlying107];go_simp;by_cases h1:a0=b0 <;> by_cases h2:a1=b1 <;> by_cases h3:a2=b2 <;> by_cases h4:a3.toList=b3.toList <;> simp[h1,h2,h3,h4]
theorem Qcw : Tryz.prog.eqGuardType Tryz.prog.depth 107=false:=OA
theorem Qc0 {c:List Af} {f:Af} {i:Az} (h:Aq c f i=true) {op a:Int} (h89:op=8\/op=9):(i.op == op && i.a == a && i.n == 0 && i.text.toList == (⟨#[]⟩:ByteArray).toList)=decide (i.op=op/\i.a=a):=by
 by_cases h1:i.op=op
 ·obtain⟨g,j⟩:=I5 h Ou;have b:i.text.toList=[]:=by simpa using j
  have d:(⟨#[]⟩:ByteArray).toList=[]:=by rw[ByteArray.toList_eq]
  by_cases ha:i.a=a <;> simp[h1,g,b,d,ha]
 ·simp[h1]
theorem Qgl (c:List Af) (hcl:c.length<=60) (f:Af) (op a:Int) (h89:op=8\/op=9) (h8:op=8->1<=a/\a<=12) (h9:op=9->0<=a/\a < c.length) (ca:Option Addr) (cc:Nat) (pv iv lv wv:Value) (g:Nat) (w:World) (hT:B3 w) (hW:Cw w) (hC:Al w.heap.size w (.slice ca c.length cc) c) (hTr:Gh g w (.slice ca c.length cc) f pv iv lv wv) :
  Calls Tryz.prog 98 #[.pointer (some (OI g 0)),.agg #[.int .i64 op,.int .i64 a,.int .i64 0,.string ⟨#[]⟩],.string ⟨#[]⟩,.string ⟨#[]⟩] w (fun e w' => ∃ b,e = .returned (.tuple #[.int .i64 (Dh c op a),.bool b])/\OH w w'):=by
 rcases h89 with rfl|rfl
 ·obtain⟨i,j⟩:=h8 rfl;obtain⟨q,rfl⟩:∃ q:Nat,a=(q:Int):=⟨a.toNat,by omega⟩;have h:=Yc 8 Ou Ou 20 rfl rfl q Ou Ou 0 ⟨#[]⟩ ⟨#[]⟩ ⟨#[]⟩ g w hT hW;exact h.mono (fun e w' he=>⟨_,he.1,he.2⟩)
 ·obtain⟨i,j⟩:=h9 rfl;obtain⟨q,rfl⟩:∃ q:Nat,a=(q:Int):=⟨a.toNat,by omega⟩;have d:q < c.length:=Ou
  have h:=Yd 9 Ou Ou 21 rfl rfl c q d hcl 0 ⟨#[]⟩ ⟨#[]⟩ ⟨#[]⟩ ca cc f pv iv lv wv g w hT hC hTr;have e:Dh c 9 (q:Int)=c[q].result:=by
   unfold Dh;rw[if_pos rfl,Int.toNat_natCast,List.getD_eq_getElem?_getD,List.getElem?_eq_getElem d];rfl
  rw[e];exact h.mono (fun e w' he=>⟨_,he.1,he.2⟩)
theorem Yj {b:Option (Int × Int)} {f:Fh} {c:List Af} {fn:Af} {X:List Am} {u:Nat} {s t:List Int} (hz:f.at'=(u:Int)) (hu:u < fn.ins.length) (hx:Ai X u = .known s t):Fu b f c fn X ↔ (Eb s f.slots/\match b with
  | none=>Cg t f.stack
  | some (op,a)=>1<=f.at'/\(∃ s0 t0,Ai X (f.at'.toNat - 1) = .known s0 t0)/\(fn.ins.getD (f.at'.toNat - 1) C3).op=op/\(fn.ins.getD (f.at'.toNat - 1) C3).a=a/\Cg (if Dh c op a=0 then t else t.dropLast) f.stack):=by
 have d:Ai X f.at'.toNat = .known s t:=by rw[hz,Int.toNat_natCast];exact hx
 constructor
 ·rintro⟨_,_,k,l,g,j,i⟩;rw[d]at g;injection g with g h4;subst g h4;exact⟨j,i⟩
 ·intro h;exact⟨by omega,by omega,s,t,d,h.1,h.2⟩
theorem Vx {b:Option (Int × Int)} {f:Fh} {c:List Af} {fn:Af} {X:List Am} {u:Nat} (hz:f.at'=(u:Int)) (hx:∀ s t,Ai X u ≠ .known s t):¬ Fu b f c fn X:=by
 rintro⟨_,_,h,i,a,g,d⟩;rw[hz,Int.toNat_natCast]at a;exact hx _ _ a
theorem Qcv {K:ByteArray} {l:Nat} (h:K.size=l+1) (h6:l<=600):wrap64 ((K.size:Int) - 1)=(l:Int)/\IntKind.i64.wrap ((K.size:Int) - 1)=(l:Int)/\(l:Int)<=(K.size:Int)/\(0:Int)<=(l:Int)/\l<=K.size:=by
 have e:(K.size:Int) - 1=(l:Int):=Ou
 exact⟨by rw[e];exact IntWalk.wrap64_in _ Ou,by rw[e];exact wrap_small _ Ou Ou,by omega,by omega,by omega⟩
theorem Hc.no {m:Ds} {k:Nat} (hk:k < m.frames.length) (h:¬ Hj m k hk):¬ Hc m:=fun ho=>h (ho.1 k hk)
theorem Qd7 (m:Ds) (ca aa oa fa ia sa:Option Addr) (cc ac oc fc ic sc:Nat) (A:Nat) (hs:H4 m) (w:World) (hF:Cn A w (.slice fa m.frames.length fc) m.frames) (hC:Bq A w (.slice ca m.codes.length cc) m.codes) :
  Calls Tryz.prog 67 #[.agg #[.slice ca m.codes.length cc,.slice aa m.args.length ac,.slice oa m.outs.length oc,.slice fa m.frames.length fc,.int .i64 m.steps,.int .i64 m.looks,.int .i64 m.kind,.string m.name,.string m.hold,.bool m.over,.int .i64 m.fin,.string m.text,.slice ia m.files.length ic,.slice sa m.said.length sc]] w (Eh (Hc m) w):=by
 have ao:Hid (∀ U,OH w U->Cn A U (.slice fa m.frames.length fc) m.frames):=fun U hU=>hF.below hU
 have an:Hid (∀ U,OH w U->Bq A U (.slice ca m.codes.length cc) m.codes):=fun U hU=>hC.below hU
 have hl:m.frames.length<=1048576:=hs.frames.1;have ay:m.codes.length<=1048576:=hs.codes.1;have aq:Hid (∀ c ∈ m.codes,c.length<=1048576):=fun c hc=>(hs.codes.2 c hc).1
 obtain⟨n,T⟩:∃ n,Hid (m.frames.length=n):=⟨_,(rfl:m.frames.length=_)⟩;obtain⟨g,v⟩:∃ n,Hid (m.codes.length=n):=⟨_,(rfl:m.codes.length=_)⟩;obtain⟨P,V⟩:∃ P,Hid (Hc m ↔ P):=⟨_,Iff.rfl⟩;rw[show Hc m=P from propext V.out,T.out,v.out];rw[T.out]at hl;rw[v.out]at ay;clear hF hC hs;go_enter Tryz.func67,Tryz.ntmps67;go_wp2_with fail;obtain⟨Y,hY⟩:∃ Y,w.alloc (.cells #[.slice ca g cc,.slice aa m.args.length ac,.slice oa m.outs.length oc,.slice fa n fc,.int .i64 m.steps,.int .i64 m.looks,.int .i64 m.kind,.string m.name,.string m.hold,.bool m.over,.int .i64 m.fin,.string m.text,.slice ia m.files.length ic,.slice sa m.said.length sc] 34)=Y:=⟨_,rfl⟩;have HY:Hid (Y.heap[w.heap.size]? = some (.cells #[.slice ca g cc,.slice aa m.args.length ac,.slice oa m.outs.length oc,.slice fa n fc,.int .i64 m.steps,.int .i64 m.looks,.int .i64 m.kind,.string m.name,.string m.hold,.bool m.over,.int .i64 m.fin,.string m.text,.slice ia m.files.length ic,.slice sa m.said.length sc] 34)):=by rw[Hid,<- hY];exact Ae w _
 have W:Hid (OH w Y):=by rw[Hid,<- hY];exact Ao w _
 have a7:Y.heap.size=w.heap.size+1:=by rw[<- hY];exact World.size_alloc _ _
 rw[hY];clear hY;go_loopw [3,9] (fun bt t wr => ∃ k:Nat,k<=n/\bt = .int .i64 (Dt m k)/\t = .int .i64 (k:Int)/\OH Y wr/\Hid (∀ q (hq:q < m.frames.length),q < k->Hj m q hq)) (fun _ t _=>n - (intOf t).toNat);case atStart=>exact⟨0,by omega,by rw[J2],rfl,Below.refl _ _,fun q hq h=>Ou⟩
 case round =>
  obtain⟨k,hk,rfl,rfl,H,HD⟩:=hrel;have az:=H.size;have E:OH w wr:=W.out.trans (H.mono W.out.size);have aM:=(H.block _ Ou).trans HY.out;obtain⟨m0,-⟩:=Aa aM 0 _ rfl;obtain⟨aw,ae,-⟩:=Mj (n:=k) (by rw[T.out];exact hk) (fun q hq h=>HD.out q hq h);rw[v.out]at ae;obtain⟨b,HB⟩:∃ b,Hid (Dt m k=b):=⟨_,(rfl:Dt m k=_)⟩;rw[HB.out]at aw ae |-
  have a8:wrap64 (b+1)=b+1:=IntWalk.wrap64_in _ Ou;have a2:IntKind.i64.wrap (b+1)=b+1:=wrap_small _ Ou Ou;have a9:wrap64 ((g:Int) - 1)=(g:Int) - 1:=IntWalk.wrap64_in _ Ou;by_cases hlt:k < n
  ·have al:(k:Int) < (n:Int):=Ou;have i:k < m.frames.length:=(by rw[T.out];exact hlt);obtain⟨gf,s1,k1,s2,k2,eg,a5,⟨e0,e1,e2,e3,e4⟩,-,-⟩:=F9 (ao.out wr E) k i;subst eg;have a:Hid (Hj m k i ↔ ((m.frames[k].code=b+1/\m.frames[k].code < (g:Int)/\m.frames[k].fn=D4 (m.codes.getD m.frames[k].code.toNat []) D3)\/(m.frames[k].code=b/\0<=b))):=by
    rw[Hid];unfold Hj;rw[HB.out,v.out]
   have F:Hid (Dt m (k+1)=m.frames[k].code):=Gn m k i;obtain⟨d,ai⟩:∃ f,m.frames[k]=f:=⟨_,rfl⟩;rw[ai]at e0 e1 e2 e3 e4 a F;obtain⟨l1,ak⟩:∃ x,d.slots.length=x:=⟨_,rfl⟩;obtain⟨l2,M⟩:∃ x,d.stack.length=x:=⟨_,rfl⟩;rw[ak]at e3;rw[M]at e4;obtain⟨Z,hZ⟩:∃ Z,wr.alloc (.cells #[.int .i64 d.code,.int .i64 d.fn,.int .i64 d.at',.slice s1 l1 k1,.slice s2 l2 k2] 91)=Z:=⟨_,rfl⟩;have G:OH wr Z:=(by rw[<- hZ];exact Ao wr _);have zF:Z.heap[wr.heap.size]? = some (.cells #[.int .i64 d.code,.int .i64 d.fn,.int .i64 d.at',.slice s1 l1 k1,.slice s2 l2 k2] 91):=(by rw[<- hZ];exact Ae wr _);obtain⟨z0,-⟩:=Aa zF 0 _ rfl;obtain⟨z1,-⟩:=Aa zF 1 _ rfl;have a0:Z.cell? (OK w 0)=some (.slice ca g cc):=(G.cell (p:=(OK w 0)) (by show w.heap.size < _;omega)).trans m0;have u:Hid (OH w Z):=E.trans (G.mono E.size);have z:Hid (OH Y Z):=H.trans (G.mono az);have ba:Z.heap.size=wr.heap.size+1:=(by rw[<- hZ];exact World.size_alloc _ _);have au:Hid (Z.heap[wr.heap.size]? = _):=zF;clear aM m0 zF G ai ak M;by_cases hc1:d.code=b+1
   ·have J:(d.code == b+1)=true:=(by simp[hc1]);have y:¬ d.code=b:=Ou;have ag:(d.code != b)=true:=(by simp[y]);by_cases hcl:d.code < (g:Int)
    ·have L:decide (d.code < (g:Int))=true:=(by simpa using hcl);obtain⟨j,hj⟩:∃ j:Nat,d.code=(j:Int):=⟨d.code.toNat,by omega⟩;have O:j < m.codes.length:=(by rw[v.out];omega);obtain⟨av,l,a3,a4,a1⟩:=d;simp only at e0 e1 e2 a F z0 z1 hZ au hc1 J y ag hcl L hj;subst hj;obtain⟨r,Q,ec,ax,v0,ab⟩:=Gl (an.out Z u.out) j O;subst ec;have K:=aq.out _ (List.getElem_mem O);have HG:Hid (m.codes.getD ((j:Int)).toNat []=m.codes[j]):=(by rw[Hid,Int.toNat_natCast,M0 m j O]);rw[HG.out]at a;obtain⟨I,X⟩:∃ x,Hid (D4 m.codes[j] D3=x):=⟨_,(rfl:D4 m.codes[j] D3=_)⟩;have B:Hid (∀ U,OH Z U->Calls Tryz.prog 94 #[.slice Q m.codes[j].length m.codes[j].length,.string ⟨#[109,97,105,110]⟩] U fun e w'=>e = .returned (.int .i64 I)/\OH U w'):=fun U hU=>by
      have h:=Ly m.codes[j] Q m.codes[j].length D3 K Z.heap.size U hU.size (ab.below hU);rw[X.out]at h;exact h
     rw[X.out]at a;have a6:(j:Int) < (g:Int):=hcl;generalize m.codes[j].length=cl at v0 B;have HK:Hid (∀ U,OH Z U->(fun w'=>w'.cell? (OK wr 0)=some (.int .i64 (j:Int))/\w'.cell? (OK wr 1)=some (.int .i64 l)/\w'.cell? (OK w 0)=some (.slice (some (OI r 0)) g cc)/\w'.cell? (OI r j)=some (.slice Q cl cl)) U):=fun U hU=>⟨(hU.cell (p:=(OK wr 0)) (by show wr.heap.size < _;omega)).trans z0,(hU.cell (p:=(OK wr 1)) (by show wr.heap.size < _;omega)).trans z1,(hU.cell (p:=(OK w 0)) (by show w.heap.size < _;omega)).trans a0,(hU.cell (p:=(OI r j)) ax).trans v0⟩
     have K0:=HK.out Z (Below.refl _ _);have K1:=HK.out Z.drew (Below.refl _ _).drew;clear ab K;by_cases hfn:l=I
     ·have ah:(l == I)=true:=(by simp[hfn]);have C:Hid (Hj m k i):=(by rw[Hid,a.out];exact .inl ⟨hc1,hcl,hfn⟩);clear hfn y hc1 hcl;go_wp2_with fail;refine wp_region_held_drew (S:=fun w'=>w'.cell? (OK wr 0)=some (.int .i64 (j:Int))/\w'.cell? (OK wr 1)=some (.int .i64 l)/\w'.cell? (OK w 0)=some (.slice (some (OI r 0)) g cc)/\w'.cell? (OI r j)=some (.slice Q cl cl)) OA (K1) fun _=>?_
      refine Tk 0 (.pointer (some (OK wr 0))) ?_;refine Tk 1 (.int .i64 (j:Int)) ?_;refine Tk 2 (.int .i64 b) ?_;(try simp[Act.put]);refine Tk 3 (.int .i64 (b+1)) ?_;refine Tk 4 (.bool true) ?_;refine Tk 5 (.bool true) ?_;(try simp[Act.put]);refine Tk 6 (.pointer (some (OK wr 0))) ?_;refine Tk 7 (.int .i64 (j:Int)) ?_;refine Tk 8 (.pointer (some (OK w 0))) ?_;(try simp[Act.put]);refine Tk 9 (.slice (some (OI r 0)) g cc) ?_;refine Tk 10 (.int .i64 (g:Int)) ?_;refine Tk 11 (.bool true) ?_;(try simp[Act.put]);refine Tk 12 (.bool true) ?_;refine Tk 13 (.bool true) ?_;refine Tk 14 (.pointer (some (OK wr 1))) ?_;(try simp[Act.put]);refine Tk 15 (.int .i64 l) ?_;refine Tk 16 (.pointer (some (OK w 0))) ?_;refine Tk 17 (.slice (some (OI r 0)) g cc) ?_;(try simp[Act.put]);refine Tk 18 (.pointer (some (OK wr 0))) ?_;refine Tk 19 (.int .i64 (j:Int)) ?_;refine Tk 20 (.pointer (some (OI r j))) ?_;(try simp[Act.put]);refine Tk 21 (.pointer (some (OI r j))) ?_;refine Tk 22 (.slice Q cl cl) ?_;(try simp[Act.put]);refine Tr 23 rfl fun KK hK=>?_
      go_simp;(go_at_call 94;refine(B.out _ (Below.refl _ _).drew).mono ?_;rintro e R ⟨rfl,D⟩;have s:OH Z R:=((Below.refl _ Z).drew).trans D;have N:Hid (OH Z R):=s;have K2:=HK.out R s;clear D s);go_wp2;refine hK.out _ _ (K2) fun _=>?_
      clear hK;(try simp[Act.put]);refine Tk 24 (.bool true) ?_;refine Tk 25 (.bool true) ?_;(try simp[Act.put]);refine wpAnyH_done OA ?_ _;go_wp2_with fail;go_roundw;case rel =>
       refine⟨k+1,by omega,by rw[F.out],by go_num,z.out.trans (N.out.mono z.out.size),fun q hq h => ?_⟩;by_cases e:q=k
       ·subst e;exact C.out
       ·exact HD.out q hq Ou
      case measure=>simp[intOf];omega
     ·have ah:(l == I)=false:=(by simp[hfn]);have o:Hid (¬ P):=fun h=>absurd (V.out.2 h) (Hc.no i (fun hh=>(a.out.1 hh).elim (fun e=>hfn e.2.2) (fun e=>y e.1)))
      clear hfn y hc1 hcl;go_wp2_with fail;refine wp_region_held_drew (S:=fun w'=>w'.cell? (OK wr 0)=some (.int .i64 (j:Int))/\w'.cell? (OK wr 1)=some (.int .i64 l)/\w'.cell? (OK w 0)=some (.slice (some (OI r 0)) g cc)/\w'.cell? (OI r j)=some (.slice Q cl cl)) OA (K1) fun _=>?_
      refine Tk 0 (.pointer (some (OK wr 0))) ?_;refine Tk 1 (.int .i64 (j:Int)) ?_;refine Tk 2 (.int .i64 b) ?_;(try simp[Act.put]);refine Tk 3 (.int .i64 (b+1)) ?_;refine Tk 4 (.bool true) ?_;refine Tk 5 (.bool true) ?_;(try simp[Act.put]);refine Tk 6 (.pointer (some (OK wr 0))) ?_;refine Tk 7 (.int .i64 (j:Int)) ?_;refine Tk 8 (.pointer (some (OK w 0))) ?_;(try simp[Act.put]);refine Tk 9 (.slice (some (OI r 0)) g cc) ?_;refine Tk 10 (.int .i64 (g:Int)) ?_;refine Tk 11 (.bool true) ?_;(try simp[Act.put]);refine Tk 12 (.bool true) ?_;refine Tk 13 (.bool true) ?_;refine Tk 14 (.pointer (some (OK wr 1))) ?_;(try simp[Act.put]);refine Tk 15 (.int .i64 l) ?_;refine Tk 16 (.pointer (some (OK w 0))) ?_;refine Tk 17 (.slice (some (OI r 0)) g cc) ?_;(try simp[Act.put]);refine Tk 18 (.pointer (some (OK wr 0))) ?_;refine Tk 19 (.int .i64 (j:Int)) ?_;refine Tk 20 (.pointer (some (OI r j))) ?_;(try simp[Act.put]);refine Tk 21 (.pointer (some (OI r j))) ?_;refine Tk 22 (.slice Q cl cl) ?_;(try simp[Act.put]);refine Tr 23 rfl fun KK hK=>?_
      go_simp;(go_at_call 94;refine(B.out _ (Below.refl _ _).drew).mono ?_;rintro e R ⟨rfl,D⟩;have s:OH Z R:=((Below.refl _ Z).drew).trans D;have N:Hid (OH Z R):=s;have K2:=HK.out R s;clear D s);go_wp2;refine hK.out _ _ (K2) fun _=>?_
      clear hK;(try simp[Act.put]);refine Tk 24 (.bool false) ?_;refine Tk 25 (.bool false) ?_;(try simp[Act.put]);refine wpAnyH_done OA ?_ _;go_wp2_with fail;go_ret;exact⟨false,rfl,⟨fun h=>by simp at h,fun h=>absurd h o.out⟩,u.out.trans (N.out.mono u.out.size)⟩
    ·have L:decide (d.code < (g:Int))=false:=(by simpa using hcl);have o:Hid (¬ P):=fun h=>absurd (V.out.2 h) (Hc.no i (fun hh=>(a.out.1 hh).elim (fun e=>by have:=e.1;have:=e.2.1;omega) (fun e=>by have:=e.1;have:=e.2;omega)))
     clear hc1 y;go_wp2_with fail;go_quiet (fail);go_wp2_with fail;go_ret;exact⟨false,rfl,⟨fun h=>by simp at h,fun h=>absurd h o.out⟩,Aj _ u.out⟩
   ·have J:(d.code == b+1)=false:=(by simp[hc1]);by_cases hcb:d.code=b
    ·have af:(d.code != b)=false:=(by simp[hcb]);by_cases hb00:b < 0
     ·have ad:decide (b < 0)=true:=(by simpa using hb00);have o:Hid (¬ P):=fun h=>absurd (V.out.2 h) (Hc.no i (fun hh=>(a.out.1 hh).elim (fun e=>by have:=e.1;have:=e.2.1;omega) (fun e=>by have:=e.1;have:=e.2;omega)))
      clear hcb hc1;go_wp2_with fail;go_quiet (fail);go_wp2_with fail;go_ret;exact⟨false,rfl,⟨fun h=>by simp at h,fun h=>absurd h o.out⟩,Aj _ u.out⟩
     ·have ad:decide (b < 0)=false:=(by simpa using hb00);have C:Hid (Hj m k i):=a.out.2 (.inr ⟨hcb,by omega⟩);have ar:Hid (Dt m (k+1)=b):=(by rw[Hid,F.out];exact hcb);clear hcb hc1;go_wp2_with fail;go_quiet (fail);go_wp2_with fail;go_roundw;case rel =>
       refine⟨k+1,by omega,by rw[ar.out],by go_num,Aj _ z.out,fun q hq h => ?_⟩;by_cases e:q=k
       ·subst e;exact C.out
       ·exact HD.out q hq Ou
      case measure=>simp[intOf];omega
    ·have af:(d.code != b)=true:=(by simp[hcb]);have o:Hid (¬ P):=fun h=>absurd (V.out.2 h) (Hc.no i (fun hh=>(a.out.1 hh).elim (fun e=>by have:=e.1;have:=e.2.1;omega) (fun e=>by have:=e.1;have:=e.2;omega)))
     clear hcb hc1;go_wp2_with fail;go_quiet (fail);go_wp2_with fail;go_ret;exact⟨false,rfl,⟨fun h=>by simp at h,fun h=>absurd h o.out⟩,Aj _ u.out⟩
  ·have al:¬ (k:Int) < (n:Int):=Ou;have aj:k=n:=Ou;have ap:Hid (P ↔ (0<=b/\b=(g:Int) - 1)):=by
    rw[Hid,<- V.out];have hW:Dt m m.frames.length=b:=(by rw[T.out,<- aj];exact HB.out);unfold Hc;rw[hW,v.out];exact⟨fun h=>h.2,fun h=>⟨fun q hq=>HD.out q hq (by have:=T.out;omega),h⟩⟩
   have am:Hid (OH w wr):=E;clear E aM aj;go_wp2_with fail;all_goals (go_ret;refine⟨_,rfl, ?_,am.out⟩;rw[ap.out];grind)
end Go.Proofs.YtahibkjkpmdhgaaGreatDoor
