import Derived.Test.YtjlaedokfbcbpaaGreatDoorKTkF
set_option maxRecDepth 100000
set_option maxHeartbeats 8000000
namespace Go.Proofs.YtjlaedokfbcbpaaGreatDoor
open Go.RowKit Proofs.Tryz
theorem Ak.blk {B:Nat} {U U':World} (hf:Ak B U U') {b:Nat} {cur:Array Value} {t:TypeId} (h:U.heap[b]? = some (.cells cur t)) (ht:t≠81/\t≠131/\t≠162):U'.heap[b]? = some (.cells cur t) :=
 (hf.keep b (Array.getElem?_eq_some_iff.1 h).1 (.inr (fun c2 t2 fr hc=>by rw[h]at hc;injection hc with hc;injection hc with _ hc _;rw[<- hc];exact ht))).trans h
theorem Aw.clear {B g R P:Nat} {w:World} {nv:Value} {nl:List (ByteArray × Int)} {fv:Value} {F:List Ca} {ret loops count size:Int} (h:Aw B g R P w nv nl fv F ret loops count size) :
  Aw B g R P ((w.alloc (.cells #[] 162)).setCell (OK g 1) (.slice (some (OK w.heap.size 0)) 0 0)) (.slice (some (OK w.heap.size 0)) 0 0) [] fv F ret loops count size/\Ak B w ((w.alloc (.cells #[] 162)).setCell (OK g 1) (.slice (some (OK w.heap.size 0)) 0 0)):=by
 have d:Below w.heap.size w (w.alloc (.cells #[] 162)):=OP w _;have l:g < w.heap.size:=(Array.getElem?_eq_some_iff.1 h.box).1;have b:=h.below d;have a:(w.alloc (.cells #[] 162)).heap[w.heap.size]? = some (.cells #[] 162):=World.alloc_heap_new w _;generalize w.alloc (.cells #[] 162)=V at b d a |-
 have i:=b.lo;have f:Ak B V (V.setCell (OK g 1) (.slice (some (OK w.heap.size 0)) 0 0)):=⟨rfl,rfl,rfl,by simp[World.setCell],fun j hj c=>Bd (fun e=>by
  subst e
  rcases c with c|c
  ·omega
  ·exact(c _ _ _ b.box).2.1 rfl)⟩
 obtain⟨p,c,k⟩:=b.rd;refine⟨⟨h.lo,⟨p,by omega,H6 k (fun j hj=>Bd OC)⟩,by rw[Ha b.box];rfl,⟨rfl,.inr ⟨w.heap.size,0,#[],rfl,by omega,(Bd OC).trans a,Nat.le_refl _,by unfold maxLen;omega,rfl,rfl⟩⟩,⟨by simp,by simp⟩,b.fns.fw f,b.bd⟩,(Ak.of_below d).trans f⟩
theorem Aw.setRet {B g R P:Nat} {w:World} {nv:Value} {nl:List (ByteArray × Int)} {fv:Value} {F:List Ca} {ret loops count size:Int} (h:Aw B g R P w nv nl fv F ret loops count size) (r:Int) (hr:Hs r):Aw B g R P (w.setCell (OK g 3) (.int .i64 r)) nv nl fv F r loops count size/\Ak B w (w.setCell (OK g 3) (.int .i64 r)):=by
 have a:=h.bd;exact h.putW OC 3 _ rfl ⟨hr,by omega,by omega,by omega⟩
theorem Aw.setLoops {B g R P:Nat} {w:World} {nv:Value} {nl:List (ByteArray × Int)} {fv:Value} {F:List Ca} {ret loops count size:Int} (h:Aw B g R P w nv nl fv F ret loops count size):Aw B g R P (w.setCell (OK g 4) (.int .i64 0)) nv nl fv F ret 0 count size/\Ak B w (w.setCell (OK g 4) (.int .i64 0)):=by
 have a:=h.bd;exact h.putW OC 4 _ rfl ⟨a.1,by omega,by omega,by omega⟩
theorem Qgj {w:World} {ops:Array Oper} {o:Oper} {a:Act} {K:Act->World->Prop} {Q:Exit->Act->World->Prop} {E:Prop} (hgd:o.guard=none) (s x:Operand)
  (ho:o.op = .call { callee:=.builtin .append,args := #[s,x],argTypes := #[128,128] }) {B g R P:Nat} {nv:Value} {nl:List (ByteArray × Int)} {fv:Value} {F:List Ca} {ret loops count size:Int} (hst:Aw B g R P w nv nl fv F ret loops count size) (t:ByteArray) (ty:Int) (ht:t.size<=30) (hty:Hs ty) (hP:P<=900000000) {V:World} {b:Nat} (hb:Below w.heap.size w V) (hV:V.heap[b]? = some (.cells #[.string t,.int .i64 ty] 162))
  (hs:a.eval s=nv) (hx:a.eval x = .slice (some (OK b 0)) 1 1)
  (h:∀ a' c' w',(w'.cell? (OK g 1)=some nv/\w'.frozen? (OK g 1)=false)->Aw B g R (P+1) (w'.setCell (OK g 1) (.slice a' (nl.length+1) c')) (.slice a' (nl.length+1) c') (nl++[(t,ty)]) fv F ret loops count size->Ak B w (w'.setCell (OK g 1) (.slice a' (nl.length+1) c'))->Ak B w w'->K (a.put o.dst (.slice a' (nl.length+1) c')) w') :
  if Region.wanted o (yielded ops a.tmps)=true then Oper.wp prog o a V K Q else E:=by
 have v:Region.wanted o (yielded ops a.tmps)=true:=by simp[Region.wanted,hgd]
 rw[if_pos v];obtain⟨T,q,y,z,A⟩:=info_parts Z8;have S:=hb.size;have f:=hst.below hb;have L:g < w.heap.size:=(Array.getElem?_eq_some_iff.1 hst.box).1;have l:Jn V (some (OK b 0)) 1 [.string t,.int .i64 ty]:=fun _=>⟨_,rfl,fun k u hk=>by
  rw[Ld,Lib.cell_of_heap hV]
  simpa using hk⟩
 have N:=hst.nbd.1;obtain⟨U,C,O,i,d⟩:=Io (P:=prog) (w:=V) g 128 o.type 162 T (.agg #[.string ⟨#[]⟩,.int .i64 0]) 2 24 underlying128 q y z A rfl OD nv _ _ f.names (some (OK b 0)) 1 1 [.string t,.int .i64 ty] rfl l (by intro u D;simp at D;rcases D with rfl|rfl <;> rfl) OI OC OC;obtain⟨r,n⟩:=hst.addName t ty ht hty hb i d;obtain⟨G,I,J⟩:=B3 i;subst J;have j:C.heap[g]? = V.heap[g]?:=d.block g OC (fun e=>by
  obtain⟨_,H,c⟩:=A8 f.names e.symm
  rw[f.box]at c;injection c with c;injection c with _ c _;exact absurd c OD)
 rw[f.box]at j;have p:Ak B V C:=⟨d.os,d.tape,d.output,d.size,fun k hk m=>d.block k hk (fun e=>by
  obtain⟨M,H,c⟩:=A8 f.names e.symm
  rcases m with m|m
  ·have:=hst.lo;omega
  ·exact(m _ _ _ c).2.2 rfl)⟩
 unfold Oper.wp execOp;simp only[ho,resolve,invoke,builtin,Sem.run_bind,Sem.run_pure,Result.andThen_ok,List.map_toArray,List.map_cons,List.map_nil,hs,hx,O];exact h G I C ⟨by rw[Lib.cell_of_heap j];rfl,by simp[World.frozen?,j]⟩ r n ((Ak.of_below hb).trans p)
def Qoi (B g R P K:Nat) (w:World) (fv:Value) (F:List Ca) (res:Int) (e:Ending) (w':World):Prop := ∃ a m c nv' nl' count' size',e = .returned (.slice a m c)/\As w.heap.size w' (.slice a m c) K/\Aw B g R P w' nv' nl' fv F res 0 count' size'/\Ak B w w'
theorem Qp5 {k j:Int} (h:0<=k/\k<=6) (h2:0<=j/\j<=6):wrap64 (k+j)=k+j:=IntWalk.wrap64_in _ OC
theorem Qoz {k j:Int} (h:0<=k/\k<=6) (h2:0<=j/\j<=6):wrap64 (k+j+1)=k+j+1:=IntWalk.wrap64_in _ OC
theorem Uu {B:Nat} {w:World} {b n c:Nat} {l:List Int} (h:w.ownsRow B 3 1 (.slice (some (OK b 0)) n c) n (Gf l)) (hn:l.length=n) (i:Nat) (hi:i < n) (hl:i < l.length) {t:Int} (ht:l[i]=t):w.cell? (OK b i)=some (.int .i64 t):=by
 obtain⟨d,e,a⟩:=To h hn i hi;injection e with e;injection e with e;subst e
 rw[<- ht];exact a
theorem Qfg {a t:ByteArray} {x:ByteArray} (h:a++t=x) (ha:a.size=1) (ht:t.size<=20):x.size<=30:=by rw[<- h,ByteArray.size_append];omega
theorem Qqn {j:Int} {m:Nat} (h:0<=j/\j<=(m:Int)) (hm:m<=3):wrap64 (j+1)=j+1:=IntWalk.wrap64_in _ OC
theorem Qp1 {j:Int} {m:Nat} (h:0<=j/\j<=(m:Int)) (hm:m<=3):j<=9223372036854775807:=OC
theorem Qmm {j:Int} {m k:Nat} (h:0<=j/\j<=(m:Int)) (hk:j.toNat=k):(j+1).toNat=k+1:=OC
theorem Qqp {m:Nat} (hm:m<=3):wrap64 ((m:Int)+1)=(m:Int)+1:=IntWalk.wrap64_in _ OC
theorem Qgc {P k M Z:Nat} (hk:k<=3) (hP:P+7 * M<=700000000) (hm:13000<=M) (hZ:Z=8000):(P+k+3 * M+10<=700000000)/\(P+k+3 * M+10+3 * M+10<=700000000)/\(3 * M+10+(3 * M+10)<=1000000000)/\(P+k+3 * M+10+3 * M+10<=1000000000)/\(P+k+3 * M+10+3 * M+10+1+2500<=700000000)/\(P+k+3 * M+10+3 * M+10+1+2500+2600<=700000000)/\(P+k+3 * M+10+3 * M+10+1+2500+2600+2600<=700000000)/\(3 * M+10+(3 * M+10)+(2500+(2600+1)+(2600+1)+1)<=1000000000)/\(P+k+3 * M+10+3 * M+10+1+2600<=700000000)/\(3 * M+10+(3 * M+10)+2600<=1000000000)/\(P+k+3 * M+10+3 * M+10+1+2500+2600+2600<=P+7 * M)/\(P+k+3 * M+10+3 * M+10+1+2600<=P+7 * M)/\(P+k+3 * M+10+3 * M+10<=P+7 * M)/\(3 * M+10+(3 * M+10)+(2500+(2600+1)+(2600+1)+1)<=6 * M+Z)/\(3 * M+10+(3 * M+10)+2600<=6 * M+Z)/\(3 * M+10+(3 * M+10)<=6 * M+Z)/\(k+(6 * M+Z)<=1000000000)/\(k+(6 * M+Z)+1<=1000000000)/\(k+(6 * M+Z)+1+1<=1000000000)/\(k+(6 * M+Z)+1+1<=7 * M):=by
 refine⟨?_, ?_, ?_, ?_, ?_, ?_, ?_, ?_, ?_, ?_, ?_, ?_, ?_, ?_, ?_, ?_, ?_, ?_, ?_, ?_⟩ <;> omega
theorem Dg (w:World) (o:Obj):Below w.heap.size w (w.alloc o):=OP w o
theorem Qop {k m:Nat} (h:k < m) (hm:m<=3):k+1<=1000000000:=OC
theorem Qmo {t:ByteArray} (h:t.size<=20):¬ (9223372036854775807 < 1+t.size):=OC
theorem Qmp {t:ByteArray} (h:t.size<=20):¬ (9223372036854775806 < t.size):=OC
theorem Qp2 {P k m M:Nat} (h:k < m) (hm:m<=3) (hP:P+7 * M<=700000000):P+k<=900000000:=OC
theorem Ny {w V:World} (d:Ae) (hd:Fi d) (h:w.alloc (.cells #[.int .i64 d.kind,.int .i64 d.op,.int .i64 d.type,.int .i64 d.n,.string d.text,.int .i64 d.kids] 62)=V):As w.heap.size V (.slice (some (OK w.heap.size 0)) 1 1) 1:=by rw[<- h];exact Fj w d hd
theorem DdGenZx146 {P:Prop} (h:P:=by
 refine hK.out _ _ (⟨l1,l2⟩) (fun hHeld => ?_)
 clear hK
 try simp[Act.put]
 refine Tr 13 rfl fun KK hK=>?_
 refine Qgj rfl _ _ rfl aa x tk hx et (Qp2 hkm2 hpl hP) cx dp rfl rfl ?_
 intro na c5 w7 en dl bg db
 obtain⟨y1,y2⟩:=en
 have cj:=bf.trans db
 have bh:=bf.trans bg
 have m1:w7.cell? (OK w.heap.size 1)=some (.slice (some (OK pb 0)) m pc):=by rw[Lib.cell_of_heap (cj.blk K.out OD)];rfl
 have m2:=Uu (cj.row al.out OD) L.out k hkm2 aw am.out
 obtain⟨V8,ch⟩:∃ V,w7.setCell (OK g 1) (.slice na (cn.length+1) c5)=V:=⟨_,rfl⟩
 rw[ch]at dl bg bh
 have o1:V8.cell? (OK w.heap.size 1)=some (.slice (some (OK pb 0)) m pc):=by rw[Lib.cell_of_heap (bh.blk K.out OD)];rfl
 have o2:=Uu (bh.row al.out OD) L.out k hkm2 aw am.out
 refine hK.out _ _ (⟨m1,m2⟩) (fun hHeld => ?_)
 clear hK
 try simp[Act.put]
 refine Tk 14 (.pointer (some (OK g 0))) ?_
 try simp[Act.put]
 refine Tk 15 (.pointer (some (OK g 1))) ?_
 try simp[Act.put]
 refine Tr 16 rfl fun KK hK=>?_
 go_simp
 try rw[ch]
 refine hK.out _ _ (⟨o1,o2⟩) (fun hHeld => ?_)
 clear hK
 try simp[Act.put]
 refine wpAnyH_done OE ?_ _
 have ah:=ag.fw bg
 have c7:=cz.trans bg
 clear hHeld j1 j2 c1 ej l1 l2 l3 cx dp hV m1 m2 o1 o2 y1 y2 cj db bs dn de cl cg ba ch
 go_wp2_with fail
 go_roundw
 case rel=>exact⟨j+1,a6,n6,c6,_,_,by omega,rfl,rfl,by rw[Qmm hj hk];exact ah,by rw[Qmm hj hk];exact dl,bh,c7⟩
 case measure=>simp[intOf];omega
 ):P:=h
theorem L8 (B g R n:Nat) (HSM:Hid (Ij B g R n)) (d:Int) (hd : -1<=d) (hdn:d.toNat=n) (nm:ByteArray) (pv:Value) (ps:List Int) (res:Int) {P:Nat} {w:World} {nv:Value} {nl:List (ByteArray × Int)} {fv:Value} {F:List Ca} {ret loops count size:Int} (h:Aw B g R P w nv nl fv F ret loops count size) (hpar:w.ownsRow B 3 1 pv ps.length (Gf ps)) (hnm:nm.size<=30) (hpl:ps.length<=3) (hres:Hs res) (hpt:∀ t ∈ ps,Hs t) (hP:P+7 * Cj n<=700000000) :
    Calls prog 61 #[.pointer (some (OK g 0)),.agg #[.string nm,pv,.int .i64 res],.int .i64 d] w (Qoi B g R (P+7 * Cj n) (7 * Cj n) w fv F res):=by
  have dy:Hid (F6 B g R 2):=L7 B g R 2;have e2:Bm 2=2500:=rfl;have cq:Hid (d.toNat=n):=hdn;have eq:=Kk n;have ck:g < w.heap.size:=(Array.getElem?_eq_some_iff.1 h.box).1;obtain⟨pa,pc,rfl⟩:=B3 hpar;obtain⟨m,L⟩:∃ m,Hid (ps.length=m):=⟨_,(rfl:ps.length=_)⟩;rw[L.out]at hpar hpl;rw[L.out];have d3:Hid (∀ t ∈ ps,Hs t):=hpt;obtain⟨X,ct⟩:∃ V,w.alloc (.cells #[.string nm,.slice pa m pc,.int .i64 res] 133)=V:=⟨_,rfl⟩;have bd:Below w.heap.size w X:=Cb ct;have K:Hid (X.heap[w.heap.size]? = some (.cells #[.string nm,.slice pa m pc,.int .i64 res] 133)):=by rw[Hid,<- ct];exact World.alloc_heap_new w _
  have cm:=h.below bd;have al:Hid (X.ownsRow B 3 1 (.slice pa m pc) m (Gf ps)):=B1 hpar (fun k _ _ hl=>bd.block k hl);obtain⟨d6,bp⟩:∃ V,X.alloc (.cells #[] 162)=V:=⟨_,rfl⟩;have az:=cm.below (Cb bp);have c1:=az.cells.2.1;have f1:=az.froz 1;obtain⟨l,p⟩:=cm.clear;rw[bp]at l p;obtain⟨V1,ek⟩:∃ V,d6.setCell (OK g 1) (.slice (some (OK X.heap.size 0)) 0 0)=V:=⟨_,rfl⟩;rw[ek]at l p;have c3:=l.cells.2.2.2.1;have f3:=l.froz 3;have b3:=p.blk K.out OD;have fa:V1.cell? (OK w.heap.size 2)=some (.int .i64 res):=by rw[Lib.cell_of_heap b3];rfl
  obtain⟨T,be⟩:=l.setRet res hres;obtain⟨V2,el⟩:∃ V,V1.setCell (OK g 3) (.int .i64 res)=V:=⟨_,rfl⟩;rw[el]at T be;have c4:=T.cells.2.2.2.2.1;have f4:=T.froz 4;obtain⟨H,E⟩:=T.setLoops;obtain⟨C,em⟩:∃ V,V2.setCell (OK g 4) (.int .i64 0)=V:=⟨_,rfl⟩;rw[em]at H E;obtain⟨V4,cu⟩:∃ V,C.alloc (.cells #[] 62)=V:=⟨_,rfl⟩;have ao:Below C.heap.size C V4:=Cb cu;have d4:Hid (As C.heap.size V4 (.slice (some (OK C.heap.size 0)) 0 0) 0):=by rw[Hid,<- cu];exact Mg C
  have d5:Hid (Aw B g R P V4 (.slice (some (OK X.heap.size 0)) 0 0) [] fv F res 0 count size):=H.below ao;have dz:Hid (Ak B X V4):=((p.trans be).trans E).trans (Ak.of_below ao);have J:X.heap.size<=C.heap.size:=((p.trans be).trans E).size;have fb:C.heap.size<=V4.heap.size:=ao.size;have cr:Hid (Ak B C V4):=Ak.of_below ao;have ak:Hid (Ak B w X):=Ak.of_below bd;clear h hpar hdn cm az l T H p be E b3 bd ao hpt;go_enter func61,ntmps61;go_wp2_with fail;go_loopw [7,8] (fun o i wr => ∃ (j:Int) (oa:Option Addr) (on oc:Nat) (bo:Value) (cn:List (ByteArray × Int)),(0<=j/\j<=(m:Int))/\i = .int .i64 j/\o = .slice oa on oc/\As C.heap.size wr (.slice oa on oc) j.toNat/\Aw B g R (P+j.toNat) wr bo cn fv F res 0 count size/\Ak B X wr/\Ak B C wr) (fun _ i _=>m - (intOf i).toNat);case atStart=>exact⟨0,_,_,_,_,_,⟨by decide,by omega⟩,rfl,rfl,d4.out,d5.out,dz.out,cr.out⟩
  case round =>
    obtain⟨j,oa,on,oc,bo,cn,hj,rfl,rfl,ay,hs,hf,E⟩:=hrel;obtain⟨k,hk⟩:∃ k,j.toNat=k:=⟨_,rfl⟩;rw[hk]at ay hs;have hz:=E.size;have ci:=hf.blk K.out OD;have d0:wr.cell? (OK w.heap.size 0)=some (.string nm):=(by rw[Lib.cell_of_heap ci];rfl);have d1:wr.cell? (OK w.heap.size 1)=some (.slice pa m pc):=(by rw[Lib.cell_of_heap ci];rfl);have d2:wr.cell? (OK w.heap.size 2)=some (.int .i64 res):=(by rw[Lib.cell_of_heap ci];rfl);by_cases hkm2:k < m
    · have ep:j < (m:Int):=OC;have aw:k < ps.length:=(by rw[L.out];exact hkm2);obtain⟨pb,rfl,-⟩:=To (hf.row al.out OD) L.out k hkm2;obtain⟨tk,am⟩:∃ t,Hid (ps[k]=t):=⟨_,(rfl:ps[k]=_)⟩;have et:Hs tk:=(by rw[<- am.out];exact d3.out _ (List.getElem_mem aw));have eu:=Qqn hj hpl;have k1:=hj.1;have k2:=Qp1 hj hpl;go_wp2_with (first
        | (go_at_call 59;refine(M1 j k1 k2 wr).mono ?_;rintro e w1 ⟨t,rfl,ht,ad⟩
           have de:=Qmo ht
           have cl:=Qmp ht
           obtain⟨x,dn⟩:∃ x,(⟨#[112]⟩:ByteArray)++t=x:=⟨_,rfl⟩
           have hx:=Qfg dn rfl ht
           have l:=hs.below ad
           have p:=hf.trans (Ak.of_below ad)
           have bq:=p.blk K.out OD
           have i1:w1.cell? (OK w.heap.size 1)=some (.slice (some (OK pb 0)) m pc):=by rw[Lib.cell_of_heap bq];rfl
           have i2:=Uu (p.row al.out OD) L.out k hkm2 aw am.out
           obtain⟨V5,cg⟩:∃ V,w1.alloc (.cells #[.int .i64 22,.int .i64 0,.int .i64 tk,.int .i64 0,.string x,.int .i64 0] 62)=V:=⟨_,rfl⟩
           have ae:=Cb cg
           have df:=Ny ⟨22,0,tk,0,x,0⟩ (L1 (Nat.le_trans hx OD)) cg
           have b0:=(ay.fw (Ak.of_below (B:=B) ad)).fw (Ak.of_below (B:=B) ae)
           have I:=l.below ae
           have bt:=(E.trans (Ak.of_below ad)).trans (Ak.of_below ae)
           have da:=p.trans (Ak.of_below ae)
           have ba:C.heap.size<=V5.heap.size:=Nat.le_trans (Nat.le_trans hz ad.size) ae.size
           clear l p bq ae ad)
        | (at_builtin;refine C8 rfl _ _ rfl rfl rfl b0 df ba (Qop hkm2 hpl) ?_;intro a6 n6 c6 w6 ag au cc
           have aa:=cc _ _ _ _ _ _ _ _ _ _ _ _ (Nat.lt_of_lt_of_le ck (Nat.le_trans ak.out.size J)) I
           have bf:=au B X J da
           have cz:=au B C ON bt
           clear I da b0 df cc au bt i1 i2 d0 d1 d2))
      have bs:=bf.blk K.out OD;have j1:w6.cell? (OK w.heap.size 1)=some (.slice (some (OK pb 0)) m pc):=(by rw[Lib.cell_of_heap bs];rfl);have j2:=Uu (bf.row al.out OD) L.out k hkm2 aw am.out;have c1:=aa.cells.2.1;refine wp_region_held_drew (S:=(fun W=>W.cell? (OK w.heap.size 1)=some (.slice (some (OK pb 0)) m pc)/\W.cell? (OK pb k)=some (.int .i64 tk))) OE (⟨j1,j2⟩) (fun hHeld => ?_);refine Tk 0 (.pointer (some (OK g 0))) ?_;refine Tk 1 (.pointer (some (OK g 0))) ?_;refine Tk 2 (.pointer (some (OK g 0))) ?_;(try simp[Act.put]);refine Tk 3 (.pointer (some (OK g 1))) ?_;refine Tk 5 (.string x) ?_;refine Tk 6 (.pointer (some (OK w.heap.size 1))) ?_;(try simp[Act.put]);refine Tk 7 (.slice (some (OK pb 0)) m pc) ?_;refine Tk 8 (.int .i64 j) ?_;refine Tk 9 (.pointer (some (OK pb k))) ?_;(try simp[Act.put]);refine Tk 10 (.int .i64 tk) ?_;refine Tk 11 (.agg #[.string x,.int .i64 tk]) ?_;(try simp[Act.put]);have ej:w6.drew.cell? (OK g 1)=some bo:=c1;obtain⟨V,hV⟩:∃ V,(w6.alloc (.cells #[.string x,.int .i64 tk] 162)).drew=V:=⟨_,rfl⟩;have cx:Below w6.heap.size w6 V:=(by rw[<- hV];exact(OP w6 _).drew);have dp:V.heap[w6.heap.size]? = some (.cells #[.string x,.int .i64 tk] 162):=(by rw[<- hV];exact World.alloc_heap_new w6 _);have l1:V.cell? (OK w.heap.size 1)=some (.slice (some (OK pb 0)) m pc):=(by rw[<- hV];exact Ge j1);have l2:V.cell? (OK pb k)=some (.int .i64 tk):=(by rw[<- hV];exact Ge j2);have l3:V.cell? (OK g 1)=some bo:=(by rw[<- hV];exact Ge c1);refine wpAnyH_ready (rs:=[4,12]) OE OF ?_;refine AllReadyH.cons rfl (fun KK hK => ?_) (AllReadyH.cons rfl (fun KK hK => ?_) AllReadyH.nil)
      · go_simp;refine hK.out _ _ (hHeld) (fun hHeld => ?_);clear hK;(try simp[Act.put]);refine Tr 12 rfl fun KK hK=>?_
        go_simp;try rw[hV]
        exact DdGenZx146
      · go_simp;try rw[hV]
        refine hK.out _ _ (⟨l1,l2⟩) (fun hHeld => ?_);clear hK;(try simp[Act.put]);refine Tr 4 rfl fun KK hK=>?_
        go_simp;exact DdGenZx146
    · have ep:¬ j < (m:Int):=OC;have eo:k<=3:=OC;have e3:Hid (wrap64 ((m:Int)+1)=(m:Int)+1):=Qqp hpl;have t0:B0:=trivial;have av:g < wr.heap.size:=Nat.lt_of_lt_of_le ck (Nat.le_trans (Nat.le_trans ak.out.size J) hz);have bi:g < C.heap.size:=Nat.lt_of_lt_of_le ck (Nat.le_trans ak.out.size J);obtain⟨Z,hZ⟩:∃ Z:Nat,Z=8000:=⟨_,rfl⟩;obtain⟨b1,b2,b3,b4,b5,b6,b8,eb,ec,ed,p1,p2,p3,q1,q2,q3,cs,ee,ef,r1⟩:=Qgc eo hP eq hZ;clear hZ;go_wp2_with (first
    | (go_at_call 100;have _t:=t0;clear t0;refine(HSM.out d hd cq.out _ wr _ _ _ _ _ _ _ _ hs b1).mono ?_;rintro e w1 ⟨a1,n1,c1,k1,fh,ff,ez,fj,rfl,dc,bj,l,er,a⟩;have t1:B0:=trivial)
    | (go_at_call 100;have _t:=t1;clear t1;refine(HSM.out d hd cq.out _ w1 _ _ _ _ _ _ _ _ l b2).mono ?_;rintro e w2 ⟨a2,n2,c2,k2,fi,fg,e0,fk,rfl,dd,dj,T,es,s⟩;have bj:=bj.fw s;have a:=a.trans s;have eu:=Qp5 dc dd;have e1:=Qoz dc dd;have bb:=a.size;clear l er es;have t2:B0:=trivial)
    | (at_builtin;have _t:=t2;clear t2;refine C8 rfl _ _ rfl rfl rfl bj dj bb b3 ?_;intro a3 n3 c3 w3 c bu cb;have H:=cb _ _ _ _ _ _ _ _ _ _ _ _ av T;have a:=bu B wr ON a;have br:=(hf.trans a).blk K.out OD;have d2:w3.cell? (OK w.heap.size 2)=some (.int .i64 res):=(by rw[Lib.cell_of_heap br];rfl);have c0:=H.cells.1;clear T bj dj cb bu br;have t3:B0:=trivial;by_cases hr0:res=0)
    | (go_at_call 26;have _t:=t3;clear t3;refine(Ln H 5 OD OD b4).mono ?_;rintro e w4 ⟨v,rfl,hv,bl,s⟩;have c:=c.fw s;have a:=a.trans s;clear H c0 d2;have t4:B0:=trivial)
    | (go_at_call 101;have _t:=t4;clear t4;refine(dy.out _ w4 _ _ _ _ _ _ _ _ 1 bl (by rw[e2];exact b5)).mono ?_;rintro e w5 ⟨a5,n5,c5,s5,rfl,Q,I,s⟩;rw[e2]at Q I;have c:=c.fr s;have cf:=a.trans s.w;have ba:=cf.size;clear bl a;have dr:B0:=trivial)
    | (go_at_call 102;have _t:=dr;clear dr;refine(L6 I b6).mono ?_;rintro e w6 ⟨a6,n6,c6,s6,rfl,ag,aa,f6⟩;obtain⟨V6,cv⟩:∃ V,w6.alloc (.cells #[.int .i64 21,.int .i64 0,.int .i64 0,.int .i64 0,.string ⟨#[]⟩,.int .i64 1] 62)=V:=⟨_,rfl⟩;have b:=Cb cv;have dg:=Ny ⟨21,0,0,0,⟨#[]⟩,1⟩ Bh cv;have ag:=ag.fw (Ak.of_below (B:=B) b);have aa:=aa.below b;have f6:=f6.trans (Ak.of_below b);have bc:=f6.size;clear I b;have ds:B0:=trivial)
    | (at_builtin;have _t:=ds;clear ds;refine C8 rfl _ _ rfl rfl rfl ag dg bc OD ?_;intro a8 n8 c8 w8 ah bv cd;have dm:=cd _ _ _ _ _ _ _ _ _ _ _ _ (Nat.lt_of_lt_of_le av ba) aa;have an:=bv B w5 ON f6;have ev:=Nat.le_trans ba an.size;clear aa ag dg f6 cd bv bc;have dt:B0:=trivial)
    | (go_at_call 102;have _t:=dt;clear dt;refine(L6 dm b8).mono ?_;rintro e w9 ⟨a9,n9,c9,s9,rfl,bk,bm,f9⟩;obtain⟨V9,cw⟩:∃ V,w9.alloc (.cells #[.int .i64 21,.int .i64 0,.int .i64 0,.int .i64 0,.string ⟨#[]⟩,.int .i64 1] 62)=V:=⟨_,rfl⟩;have b:=Cb cw;have dh:=Ny ⟨21,0,0,0,⟨#[]⟩,1⟩ Bh cw;have bk:=bk.fw (Ak.of_below (B:=B) b);have bm:=bm.below b;have f9:=f9.trans (Ak.of_below b);have bc:=f9.size;clear dm b;have du:B0:=trivial)
    | (at_builtin;have _t:=du;clear du;refine C8 rfl _ _ rfl rfl rfl bk dh bc OD ?_;intro e4 fc e7 fl bw aq a0;have b7:=a0 _ _ _ _ _ _ _ _ _ _ _ _ (Nat.lt_of_lt_of_le av ev) bm;have M:=aq B w8 ON f9;have Q:=(Q.fw an).fw M;have ah:=ah.fw M;have c:=(c.fw an).fw M;have a:=(cf.trans an).trans M;clear bm bk dh f9 a0 aq bc cf an M;have dv:B0:=trivial)
    | (go_at_call 54;have _t:=dv;clear dv;refine(Qfi ⟨12,0,0,0,⟨#[]⟩,0⟩ Bh Q ah bw OD).mono ?_;rintro e fm ⟨e5,fd,e8,rfl,bx,ab⟩;have b9:=b7.below ab;have c:=c.fw (Ak.of_below (B:=B) ab);have a:=a.trans (Ak.of_below ab);have bb:=a.size;clear b7 Q ah bw ab;have dw:B0:=trivial)
    | (at_builtin;have _t:=dw;clear dw;refine C8 rfl _ _ rfl rfl rfl c bx bb eb ?_;intro d8 ew eg co O r z;have aj:=(z _ _ _ _ _ _ _ _ _ _ _ _ av b9).mono p1;have a:=r B wr ON a;have ai:=O.mono ON q1;have D:=ay.fw a;have bn:C.heap.size<=co.heap.size:=Nat.le_trans hz a.size;have af:=hf.trans a;clear b9 c bx z r O;have f1:B0:=trivial)
    | (go_at_call 102;have _t:=t4;clear t4;refine(L6 bl ec).mono ?_;rintro e w5 ⟨a5,n5,c5,s5,rfl,Q,I,s⟩;have c:=c.fw s;have a:=a.trans s;have bb:=a.size;clear bl;have dx:B0:=trivial)
    | (at_builtin;have _t:=dx;clear dx;refine C8 rfl _ _ rfl rfl rfl c Q bb ed ?_;intro d8 ew eg co O r z;have aj:=(z _ _ _ _ _ _ _ _ _ _ _ _ av I).mono p2;have a:=r B wr ON a;have ai:=O.mono ON q2;have D:=ay.fw a;have bn:C.heap.size<=co.heap.size:=Nat.le_trans hz a.size;have af:=hf.trans a;clear I c Q z r O;have f1:B0:=trivial)
    | (at_builtin;have _t:=f1;clear f1;refine C8 rfl _ _ rfl rfl rfl D ai bn cs ?_;intro d9 ex eh cp u f A;have y:=A _ _ _ _ _ _ _ _ _ _ _ _ bi aj;have q:=f B X J af;obtain⟨d7,N⟩:∃ V,cp.alloc (.cells #[.int .i64 21,.int .i64 0,.int .i64 0,.int .i64 0,.string ⟨#[]⟩,.int .i64 (k1+k2+1)] 62)=V:=⟨_,rfl⟩;have b:=Cb N;have ax:=Ny ⟨21,0,0,0,⟨#[]⟩,k1+k2+1⟩ Bh N;have u:=u.fw (Ak.of_below (B:=B) b);have y:=y.below b;have q:=q.trans (Ak.of_below b);have G:=(f B C ON (E.trans a)).trans (Ak.of_below b);have ce:=G.size;clear aj D ai af A f b;have f2:B0:=trivial)
    | (at_builtin;have _t:=t3;clear t3;have aj:=H.mono p3;have ai:=c.mono ON q3;have D:=ay.fw a;have bn:C.heap.size<=w3.heap.size:=Nat.le_trans hz a.size;have af:=hf.trans a;clear H c;refine C8 rfl _ _ rfl rfl rfl D ai bn cs ?_;intro d9 ex eh cp u f A;have y:=A _ _ _ _ _ _ _ _ _ _ _ _ bi aj;have q:=f B X J af;obtain⟨d7,N⟩:∃ V,cp.alloc (.cells #[.int .i64 21,.int .i64 0,.int .i64 0,.int .i64 0,.string ⟨#[]⟩,.int .i64 (k1+k2)] 62)=V:=⟨_,rfl⟩;have b:=Cb N;have ax:=Ny ⟨21,0,0,0,⟨#[]⟩,k1+k2⟩ Bh N;have u:=u.fw (Ak.of_below (B:=B) b);have y:=y.below b;have q:=q.trans (Ak.of_below b);have G:=(f B C ON (E.trans a)).trans (Ak.of_below b);have ce:=G.size;clear aj D ai af A f b;have f2:B0:=trivial)
    | (at_builtin;have _t:=f2;clear f2;refine C8 rfl _ _ rfl rfl rfl u ax ce ee ?_;intro e6 fe e9 U bz Y a4;have ca:=a4 _ _ _ _ _ _ _ _ _ _ _ _ bi y;have ap:=Y B X J q;have ac:=ap.blk K.out OD;have g0:U.cell? (OK w.heap.size 0)=some (.string nm):=(by rw[Lib.cell_of_heap ac];rfl);have g1:U.cell? (OK w.heap.size 1)=some (.slice pa m pc):=(by rw[Lib.cell_of_heap ac];rfl);have g2:U.cell? (OK w.heap.size 2)=some (.int .i64 res):=(by rw[Lib.cell_of_heap ac];rfl);have dq:=(Y B C ON G).size;clear y u ax q a4 Y ac;have f3:B0:=trivial)
    | (at_builtin;have _t:=f3;clear f3;refine C8 rfl _ _ rfl rfl rfl (bz.fw (Ak.of_below (B:=B) (Dg U _))) (Fj U ⟨23,0,_,0,nm,_⟩ (L1 (Nat.le_trans hnm OD))) (Nat.le_trans dq (Dg U _).size) ef ?_;intro ea ey ei fn di ar a7;have dk:=a7 _ _ _ _ _ _ _ _ _ _ _ _ bi (ca.below (Dg U _));have cy:=ar B X J (ap.trans (Ak.of_below (Dg U _)));clear ca bz ap a7 ar))
      all_goals
        go_ret;exact⟨ea,ey,ei,_,_,_,_,rfl,di.mono (Nat.le_trans ak.out.size J) r1,dk,ak.out.trans cy⟩
theorem Aw.new {B R p P:Nat} {w V:World} (hr:Dn w R p) (hp:p<=P) (hB:B<=R) (size:Int) (hs : -(P:Int)<=size/\size<=P) (hV:w.alloc (.cells #[.pointer (some (OK R 0)),.slice none 0 0,.slice none 0 0,.int .i64 0,.int .i64 0,.int .i64 0,.int .i64 size] 131)=V) :
  Aw B w.heap.size R P V (.slice none 0 0) [] (.slice none 0 0) [] 0 0 0 size:=by
 have b:=Cb hV;have a:V.heap[w.heap.size]? = some (.cells #[.pointer (some (OK R 0)),.slice none 0 0,.slice none 0 0,.int .i64 0,.int .i64 0,.int .i64 0,.int .i64 size] 131):=by rw[<- hV];exact World.alloc_heap_new w _
 exact⟨⟨hB,hr.lt⟩,⟨p,hp,hr.below b⟩,a,⟨rfl,.inl ⟨rfl,rfl⟩⟩,⟨by simp,by simp⟩,⟨⟨rfl,.inl ⟨rfl,rfl⟩⟩,by simp,by simp⟩,by unfold Hs;omega,by omega,by omega,by omega⟩
structure Jl (B g R P:Nat) (w wr:World) (fv:Value) (F:List Ca) (size:Int):Prop where
 st:Aw B g R P wr (.slice none 0 0) [] fv F 0 0 0 size
 row:wr.ownsRow w.heap.size 133 3 fv F.length (Rv F)
 par:∀ s ∈ F,wr.ownsRow w.heap.size 3 1 s.pv s.params.length (Gf s.params)
 fw:Ak B w wr
 lo:R < w.heap.size/\w.heap.size<=g
theorem Jl.fr {B g R P P':Nat} {w wr wr':World} {fv:Value} {F:List Ca} {size:Int} (h:Jl B g R P w wr fv F size) (hs:Aw B g R P' wr' (.slice none 0 0) [] fv F 0 0 0 size) (hf:Bg B wr wr'):Jl B g R P' w wr' fv F size :=
 ⟨hs,hf.row h.row OD,fun s hs=>hf.row (h.par s hs) OD,h.fw.trans hf.w,h.lo⟩
theorem Jl.below {B g R P:Nat} {w wr wr':World} {fv:Value} {F:List Ca} {size:Int} (h:Jl B g R P w wr fv F size) (hb:Below wr.heap.size wr wr'):Jl B g R P w wr' fv F size:=h.fr (h.st.below hb) (Bg.of_below hb)
theorem Jl.mono {B g R P P':Nat} {w wr:World} {fv:Value} {F:List Ca} {size:Int} (h:Jl B g R P w wr fv F size) (hP:P<=P'):Jl B g R P' w wr fv F size:=⟨h.st.mono hP,h.row,h.par,h.fw,h.lo⟩
def Qie (z:Nat) (fv:Value) (F:List Ca):Prop:=(∀ k,fv.ownBlock=some k->k < z)/\∀ s ∈ F,∀ k,s.pv.ownBlock=some k->k < z
theorem Jl.lt {B g R P:Nat} {w wr:World} {fv:Value} {F:List Ca} {size:Int} (h:Jl B g R P w wr fv F size):Qie wr.heap.size fv F:=⟨fun _ hk=>(A8 h.row hk).1.2,fun s hs _ hk=>(A8 (h.par s hs) hk).1.2⟩
theorem Jl.high {B g R P z:Nat} {w wr wr':World} {fv:Value} {F:List Ca} {size:Int} (h:Jl B g R P w wr fv F size) (hl:Qie z fv F) (hg:g < z) (h1:wr'.os=wr.os) (h2:wr'.tape=wr.tape) (h3:wr'.output=wr.output) (h4:wr.heap.size<=wr'.heap.size) (hk:∀ k,k < wr.heap.size->k < z->wr'.heap[k]? = wr.heap[k]?):Jl B g R P w wr' fv F size:=by
 have a:=h.st;have i:=a.lo;have l:=h.lo;have f:g < wr.heap.size:=(Array.getElem?_eq_some_iff.1 a.box).1;have d:Ak B w wr':=⟨h1.trans h.fw.os,h2.trans h.fw.tape,h3.trans h.fw.output,Nat.le_trans h.fw.size h4,fun k hk1 hk2=>(hk k (Nat.lt_of_lt_of_le hk1 h.fw.size) OC).trans (h.fw.keep k hk1 hk2)⟩;have c:wr'.ownsRow w.heap.size 133 3 fv F.length (Rv F):=B1 h.row (fun k e _ hl2=>hk k hl2 (hl.1 k e));have b:∀ s ∈ F,wr'.ownsRow w.heap.size 3 1 s.pv s.params.length (Gf s.params):=fun s hs=>B1 (h.par s hs) (fun k e _ hl2=>hk k hl2 (hl.2 s hs k e))
 obtain⟨p,j,m⟩:=a.rd;exact⟨⟨a.lo,⟨p,j,H6 m (fun k hk2=>hk k OC OC)⟩,(hk g f hg).trans a.box,⟨rfl,.inl ⟨rfl,rfl⟩⟩,a.nbd,⟨G0 c OC,fun s hs=>G0 (b s hs) OC,a.fns.bd⟩,a.bd⟩,c,b,d,h.lo⟩
theorem Jl.addFn {B g R P:Nat} {w wr V w5:World} {fv v5:Value} {F:List Ca} {size:Int} (h:Jl B g R P w wr fv F size) (hF:F.length<=4) (s:Ca) (hsb:s.name.size<=30/\s.params.length<=3/\Hs s.result/\∀ t ∈ s.params,Hs t) (hb:Below wr.heap.size wr V) (hp:V.ownsRow w.heap.size 3 1 s.pv s.params.length (Gf s.params)) (ho:w5.ownsRow w.heap.size 133 3 v5 (F.length+1) (Rv F++Qb3 s)) (hg:V.grownBy w5 fv.ownBlock) :
  Jl B g R P w (w5.setCell (OK g 2) v5) v5 (F++[s]) size/\(w5.cell? (OK g 2)=some fv/\w5.frozen? (OK g 2)=false):=by
 have b:=h.below hb;have E:=h.st.lo;have G:=h.lo;have D:=hg.size;have z:g < V.heap.size:=(Array.getElem?_eq_some_iff.1 b.st.box).1;have f:∀ k,fv.ownBlock=some k->k≠g/\w.heap.size<=k/\∃ m,V.heap[k]? = some (.cells m 133):=fun k hk=>by
  obtain⟨A,m,a⟩:=A8 b.row hk;refine⟨fun e => ?_,A.1,m,a⟩;subst e;rw[b.st.box]at a;injection a with a;injection a with _ a _;exact absurd a OD
 have d:w5.heap[g]? = V.heap[g]?:=hg.block g z (fun e=>(f g e.symm).1 rfl);rw[b.st.box]at d;have o:∀ k,v5.ownBlock=some k->k≠g:=fun k hk e=>by
  obtain⟨_,m,a⟩:=A8 ho hk;subst e;rw[d]at a;injection a with a;injection a with _ a _;exact absurd a OD
 have i:∀ {v:Value} {n:Nat} {xs:List Value},V.ownsRow w.heap.size 3 1 v n xs->(w5.setCell (OK g 2) v5).ownsRow w.heap.size 3 1 v n xs:=fun {v n xs} q=>B1 q (fun k hk _ hl=>by
  obtain⟨_,m,a⟩:=A8 q hk
  refine(Bd (fun e => ?_)).trans (hg.block k hl (fun e => ?_))
  ·subst e;rw[b.st.box]at a;injection a with a;injection a with _ a _;exact absurd a OD
  ·obtain⟨_,_,H,u⟩:=f k e.symm
   rw[u]at a;injection a with a;injection a with _ a _;exact absurd a OD)
 have l:(w5.setCell (OK g 2) v5).ownsRow w.heap.size 133 3 v5 (F++[s]).length (Rv (F++[s])):=by
  rw[List.length_append,List.length_singleton,Rv,List.flatMap_append];have e:List.flatMap Qb3 [s]=Qb3 s:=by simp
  rw[e];exact B1 ho (fun k hk _ _=>Bd (o k hk))
 have j:∀ x ∈ F++[s],(w5.setCell (OK g 2) v5).ownsRow w.heap.size 3 1 x.pv x.params.length (Gf x.params):=fun x c=>by
  rcases List.mem_append.1 c with c|c
  ·exact i (b.par x c)
  ·rw[List.mem_singleton.1 c];exact i hp
 have y:Ak B w (w5.setCell (OK g 2) v5):=⟨hg.os.trans b.fw.os,hg.tape.trans b.fw.tape,hg.output.trans b.fw.output,Nat.le_trans b.fw.size (by simpa[World.setCell]using D),fun k hk1 hk2=>(Bd OC).trans ((hg.block k (Nat.lt_of_lt_of_le hk1 b.fw.size) (fun e=>by have:=(f k e.symm).2.1;omega)).trans (b.fw.keep k hk1 hk2))⟩;obtain⟨p,C,q⟩:=b.st.rd;have r:=b.st.bd;refine⟨⟨⟨b.st.lo,⟨p,C,H6 q (fun k hk2=>(Bd OC).trans (hg.block k OC (fun e=>by have:=(f k e.symm).2.1;omega)))⟩,by rw[Ha d];rfl,⟨rfl,.inl ⟨rfl,rfl⟩⟩,b.st.nbd,⟨G0 l OC,fun x c=>G0 (j x c) OC, ?_⟩,r⟩,l,j,y,h.lo⟩,by rw[Lib.cell_of_heap d];rfl,by simp[World.frozen?,d]⟩;refine⟨by rw[List.length_append,List.length_singleton];omega,fun x c => ?_⟩;rcases List.mem_append.1 c with c|c
 ·exact b.st.fns.bd.2 x c
 ·rw[List.mem_singleton.1 c];exact hsb
end Go.Proofs.YtjlaedokfbcbpaaGreatDoor
