import Derived.Test.YtahibkjkpmdhgaaGreatDoorKVmY
set_option maxRecDepth 100000
set_option maxHeartbeats 8000000
namespace Go.Proofs.YtahibkjkpmdhgaaGreatDoor
open Go.RowKit
structure Yh (m:Ds):Prop where
 codes:∀ c ∈ m.codes,∀ k (hk:k < c.length) i (hi:i < c[k].ins.length),-9223372036854775808<=c[k].ins[i].n/\c[k].ins[i].n<=9223372036854775807
 frames:∀ f ∈ m.frames,(∀ v ∈ f.slots,Ge v)/\∀ v ∈ f.stack,Ge v
theorem Tryz.infoSlT : (Tryz.prog.info? 102).map (fun i=>(i.zero,i.size,i.bytes))=some (some (.slice none 0 0),1,24):=OA
theorem Qeg : ∃ i,Tryz.prog.info? 102=some i/\i.zero=some (.slice none 0 0)/\i.size=1/\i.bytes=24:=by
 have h:=Tryz.infoSlT;cases hi:Tryz.prog.info? 102 with
 | none=>rw[hi]at h;simp at h
 | some i=>rw[hi]at h;simp at h;exact⟨i,rfl,h.1,h.2.1,h.2.2⟩
theorem Qfr (a:Option Addr) (n c:Nat):∀ u ∈ [Value.slice a n c],u.oneCell'=true:=by
 intro u b;simp at b;subst b;rfl
def J9 (D B:Nat) (w:World) (cs:List (List Af)) (k:Nat) (v:Value):Prop :=
 ∃ vs,w.ownsRow B 102 1 v k vs/\∀ q (hq:q < cs.length),q < k->∃ a n c,vs[q]? = some (.slice a n c)/\Ob D w cs[q] (.slice a n c)
theorem J9.next {D B:Nat} {wr w4 w5:World} {cs:List (List Af)} {k:Nat} {v v':Value} {vs:List Value} {pa:Option Addr} {pn pc:Nat} (hD:D<=B) (hB:B<=wr.heap.size) (hq:∀ q (hq:q < cs.length),q < k->∃ a n c,vs[q]? = some (.slice a n c)/\Ob D wr cs[q] (.slice a n c)) (hl:vs.length=k) (h4:OH wr w4) {o:Obj} (hr:(w4.alloc o).ownsRow B 102 1 v k vs) (hg:(w4.alloc o).grownBy w5 v.ownBlock) (ho:w5.ownsRow B 102 1 v' (k+1) (vs++[.slice pa pn pc])) (hk:k < cs.length) (hp:Ob D w4 cs[k] (.slice pa pn pc)):J9 D B w5 cs (k+1) v':=by
 have h:=h4.size;have b:He 102 D w4 w5:=(He.of (Ao w4 o) Ou).trans (He.grown hr hg hD OD);have g:He 102 D wr w5:=(He.of h4 Ou).trans b;refine⟨_,ho,fun q hq1 hq2 => ?_⟩;by_cases e:q=k
 ·subst e;exact⟨_,_,_,by rw[List.getElem?_append_right Ou,hl];simp,hp.keep b Ov Ov Ov⟩
 ·obtain⟨a,n,c,f,d⟩:=hq q hq1 Ou;exact⟨a,n,c,by rw[List.getElem?_append_left Ou];exact f,d.keep g Ov Ov Ov⟩
theorem J9.get {D B:Nat} {w:World} {cs:List (List Af)} {a:Option Addr} {cap:Nat} (h:J9 D B w cs cs.length (.slice a cs.length cap)) (j:Nat) (hj:j < cs.length):∃ g b d c,a=some (OI g 0)/\g < w.heap.size/\w.cell? (OI g j)=some (.slice b d c)/\Ob D w cs[j] (.slice b d c):=by
 obtain⟨r,l,o⟩:=h;obtain⟨b,d,c,q,p⟩:=o j hj hj;rcases l.2 with⟨e,f⟩|⟨g,i,m,e,_,n,_⟩
 ·omega
 ·injection e with e1 e2 e3;subst e1;have k:=l.cells (g:=g) rfl j _ q;refine⟨g,b,d,c,rfl,(Array.getElem?_eq_some_iff.1 n).1, ?_,p⟩;by_cases f:j=0
  ·subst f;simpa[Addr.add]using k
  ·simpa[Addr.add,f]using k
theorem J9.below {D B:Nat} {w w':World} {cs:List (List Af)} {k:Nat} {v:Value} (h:J9 D B w cs k v) (hD:D<=w.heap.size) (hb:OH w w'):J9 D B w' cs k v:=by
 obtain⟨i,b,d⟩:=h;refine⟨i,Kf b hb,fun q h1 h2 => ?_⟩;obtain⟨a,n,c,g,f⟩:=d q h1 h2;exact⟨a,n,c,g,f.keep (e:=102) (He.of hb hD) Ov Ov Ov⟩
theorem Od.get {D:Nat} {w:World} {c:List Af} {a:Option Addr} {n cap:Nat} (h:Od D w c c.length (.slice a n cap)) (q:Nat) (hq:q < c.length):n=c.length/\∃ g p,a=some (OI g 0)/\g < w.heap.size/\w.cell? (OI g q)=some (.pointer p)/\Jf D w c c[q] (.pointer p):=by
 obtain⟨t,j,d⟩:=h;obtain⟨x,r,k⟩:=d q hq hq;rcases j.2 with⟨e,b⟩|⟨g,f,l,e,_,m,_⟩
 ·omega
 ·injection e with e1 e2 e3;subst e1;have i:=j.cells (g:=g) rfl q _ r;obtain⟨s,_,_,_,_,_,_,_,_,_,o,_⟩:=id k;subst o;refine⟨e2,g,_,rfl,(Array.getElem?_eq_some_iff.1 m).1, ?_,k⟩;by_cases b:q=0
  ·subst b;simpa[Addr.add]using i
  ·simpa[Addr.add,b]using i
theorem Hj.at {m:Ds} (h:Hc m) (k:Nat) (hk:k < m.frames.length):∃ j:Nat,m.frames[k].code=(j:Int)/\j < m.codes.length:=by
 obtain⟨a,b,-⟩:=Mj (n:=k+1) Ou (fun q hq _=>h.1 q hq);rw[Gn m k hk]at a b;have d:0<=m.frames[k].code:=by
  obtain⟨f,-,-⟩:=Mj (n:=k) Ou (fun q hq _=>h.1 q hq);rcases h.1 k hk with⟨e,_,_⟩|⟨e,c⟩ <;> omega
 exact⟨m.frames[k].code.toNat,by omega,by omega⟩
theorem Qct {m:Ds} {k:Nat}:∀ b a,Bw m k=some (b,a)->b=8\/b=9:=by
 intro b a h;unfold Bw at h;split at h
 ·split at h <;> (injection h with h;injection h with h1 h2;omega)
 ·split at h
  ·cases h
  ·injection h with h;injection h with h1 h2;omega
theorem V7 (m:Ds) (ca aa oa fa ia sa:Option Addr) (cc ac oc fc ic sc:Nat) (A:Nat) (hs:H4 m) (hRg:Yh m) (w:World) (hF:Cn A w (.slice fa m.frames.length fc) m.frames) (hC:Bq A w (.slice ca m.codes.length cc) m.codes) (hT:B3 w) (hW:Cw w) :
  Calls Tryz.prog 37 #[.agg #[.slice ca m.codes.length cc,.slice aa m.args.length ac,.slice oa m.outs.length oc,.slice fa m.frames.length fc,.int .i64 m.steps,.int .i64 m.looks,.int .i64 m.kind,.string m.name,.string m.hold,.bool m.over,.int .i64 m.fin,.string m.text,.slice ia m.files.length ic,.slice sa m.said.length sc]] w (Eh (Kg m) w):=by
 have ar:Hid (∀ U,OH w U->Cn A U (.slice fa m.frames.length fc) m.frames):=fun U hU=>hF.below hU
 have G:Hid (∀ U,OH w U->Calls Tryz.prog 67 #[.agg #[.slice ca m.codes.length cc,.slice aa m.args.length ac,.slice oa m.outs.length oc,.slice fa m.frames.length fc,.int .i64 m.steps,.int .i64 m.looks,.int .i64 m.kind,.string m.name,.string m.hold,.bool m.over,.int .i64 m.fin,.string m.text,.slice ia m.files.length ic,.slice sa m.said.length sc]] U (Eh (Hc m) U)):=fun U hU=>Qd7 m ca aa oa fa ia sa cc ac oc fc ic sc A hs U (hF.below hU) (hC.below hU)
 have d:Hid (∀ U,OH w U->∀ k (Q:k < m.frames.length),Calls Tryz.prog 70 #[.agg #[.slice ca m.codes.length cc,.slice aa m.args.length ac,.slice oa m.outs.length oc,.slice fa m.frames.length fc,.int .i64 m.steps,.int .i64 m.looks,.int .i64 m.kind,.string m.name,.string m.hold,.bool m.over,.int .i64 m.fin,.string m.text,.slice ia m.files.length ic,.slice sa m.said.length sc],.int .i64 (k:Int)] U (My (Kc (Bw m k)) U)):=fun U hU k Q=>Qcu m ca aa oa fa ia sa cc ac oc fc ic sc A U hs.frames.1 (hF.below hU) k Q
 have av:Hid (∀ U,OH w U->∀ j (hj:j < m.codes.length),∃ g p,ca=some (OI g 0)/\g < w.heap.size/\U.cell? (OI g j)=some (.slice p m.codes[j].length m.codes[j].length)/\∀ V,OH w V->Calls Tryz.prog 68 #[.agg #[.slice p m.codes[j].length m.codes[j].length]] V (Ri w.heap.size m.codes[j] V)):=fun U hU j hj=>by
  obtain⟨g,p,e1,e2,e3,e4⟩:=Gl hC j hj;have hm:=hs.codes.2 _ (List.getElem_mem hj);exact⟨g,p,e1,e2,(hU.cell (p:=(OI g j)) e2).trans e3,fun V hV=>Wb w.heap.size m.codes[j] p _ hm.1 (Nat.le_refl _) (fun k Q=>by have:=hm.2 _ (List.getElem_mem Q);exact⟨this.2.1,this.2.2,this.1⟩) (hRg.codes _ (List.getElem_mem hj)) V hV.size (e4.below hV) (hT.below hV) (hW.below hV)⟩
 have bf:Hid (∀ U,OH w U->B3 U/\Cw U):=fun U hU=>⟨hT.below hU,hW.below hU⟩
 have b7:Hid (∀ k (Q:k < m.frames.length),(∀ v ∈ m.frames[k].slots,Ge v)/\(∀ v ∈ m.frames[k].stack,Ge v)/\m.frames[k].slots.length<=1048576/\m.frames[k].stack.length<=1048576):=fun k Q=>by
  have h1:=hRg.frames _ (List.getElem_mem Q);have h2:=hs.frames.2 _ (List.getElem_mem Q);exact⟨h1.1,h1.2,h2.1.1,h2.2.1⟩
 have hl:m.frames.length<=1048576:=hs.frames.1;have ch:m.codes.length<=1048576:=hs.codes.1;obtain⟨n,HN⟩:∃ n,Hid (m.frames.length=n):=⟨_,(rfl:m.frames.length=_)⟩;obtain⟨nc,R⟩:∃ n,Hid (m.codes.length=n):=⟨_,(rfl:m.codes.length=_)⟩;obtain⟨P,HP⟩:∃ P,Hid (Kg m ↔ P):=⟨_,Iff.rfl⟩;rw[show Kg m=P from propext HP.out];rw[HN.out]at hl G d |-
 rw[R.out]at ch G d |-
 clear hF hC hs hT hW hRg;obtain⟨Y,hY⟩:∃ Y,w.alloc (.cells #[.slice ca nc cc,.slice aa m.args.length ac,.slice oa m.outs.length oc,.slice fa n fc,.int .i64 m.steps,.int .i64 m.looks,.int .i64 m.kind,.string m.name,.string m.hold,.bool m.over,.int .i64 m.fin,.string m.text,.slice ia m.files.length ic,.slice sa m.said.length sc] 34)=Y:=⟨_,rfl⟩;have HY:Hid (∀ U,OH Y U->U.heap[w.heap.size]? = some (.cells #[.slice ca nc cc,.slice aa m.args.length ac,.slice oa m.outs.length oc,.slice fa n fc,.int .i64 m.steps,.int .i64 m.looks,.int .i64 m.kind,.string m.name,.string m.hold,.bool m.over,.int .i64 m.fin,.string m.text,.slice ia m.files.length ic,.slice sa m.said.length sc] 34)):=by
  have h:Y.heap[w.heap.size]? = some (.cells #[.slice ca nc cc,.slice aa m.args.length ac,.slice oa m.outs.length oc,.slice fa n fc,.int .i64 m.steps,.int .i64 m.looks,.int .i64 m.kind,.string m.name,.string m.hold,.bool m.over,.int .i64 m.fin,.string m.text,.slice ia m.files.length ic,.slice sa m.said.length sc] 34):=by rw[<- hY];exact Ae w _
  exact fun U hU=>(hU.block _ (by rw[<- hY,World.size_alloc];omega)).trans h
 have u:Hid (OH w Y):=by rw[Hid,<- hY];exact Ao w _
 have c1:Y.heap.size=w.heap.size+1:=by rw[<- hY];exact World.size_alloc _ _
 have E:=HY.out Y (Below.refl _ _);obtain⟨y0,-⟩:=Aa E 0 _ rfl;obtain⟨y1,-⟩:=Aa E 1 _ rfl;obtain⟨y2,-⟩:=Aa E 2 _ rfl;obtain⟨y3,-⟩:=Aa E 3 _ rfl;obtain⟨y4,-⟩:=Aa E 4 _ rfl;obtain⟨y5,-⟩:=Aa E 5 _ rfl;obtain⟨y6,-⟩:=Aa E 6 _ rfl;obtain⟨y7,-⟩:=Aa E 7 _ rfl;obtain⟨y8,-⟩:=Aa E 8 _ rfl;obtain⟨y9,-⟩:=Aa E 9 _ rfl;obtain⟨co,-⟩:=Aa E 10 _ rfl;obtain⟨cp,-⟩:=Aa E 11 _ rfl;obtain⟨cq,-⟩:=Aa E 12 _ rfl;obtain⟨cr,-⟩:=Aa E 13 _ rfl;clear E;by_cases h40:n<=40
 ·have bi:¬ (40:Int) < (n:Int):=Ou
  go_enter Tryz.func37,Tryz.ntmps37;go_wp2_with (first|(go_at_call 67;refine(G.out _ u.out).mono ?_;rintro e w2 ⟨bo,rfl,bn,ad⟩;have aq:Hid (bo=true ↔ Hc m):=bn;have b0:Hid (OH Y w2):=ad;have y2:=HY.out w2 ad;obtain⟨p0,-⟩:=Aa y2 0 _ rfl;have a9:Hid (OH w w2):=u.out.trans (ad.mono u.out.size);clear bn ad y2;cases bo))
  ·go_ret;exact⟨false,rfl,⟨fun h=>by simp at h,fun h=>aq.out.2 (HP.out.2 h).2.1⟩,a9.out⟩
  ·have HO:Hid (Hc m):=aq.out.1 (by first|rfl|trivial);obtain⟨i0,bp,bw,bx,bz⟩:=Qeg;clear G aq p0 y0 y1 y2 y3 y4 y5 y6 y7 y8 y9 co cp cq cr;go_loopw [3,21] (fun r t wr => ∃ (k:Nat) (a:Option Addr) (J:Nat),k<=nc/\r = .slice a k J/\t = .int .i64 (k:Int)/\OH Y wr/\J9 w.heap.size Y.heap.size wr m.codes k (.slice a k J)) (fun _ t _=>nc - (intOf t).toNat);case atStart=>exact⟨0,none,0,by omega,rfl,rfl,b0.out,⟨[],World.ownsRow_nil _ _ _ _,fun q hq h=>Ou⟩⟩
   case round =>
    obtain⟨k,a,J,Q,rfl,rfl,l,D⟩:=hrel;have a3:=l.size;have b:OH w wr:=u.out.trans (l.mono u.out.size);by_cases hlt:k < nc
    ·have I:(k:Int) < (nc:Int):=Ou;have br:k < m.codes.length:=(by rw[R.out];exact hlt);obtain⟨gc,pj,ec,cu,v0,bl⟩:=av.out wr b k br;subst ec;have bg:Hid (∀ V,OH w V->Calls Tryz.prog 68 #[.agg #[.slice pj m.codes[k].length m.codes[k].length]] V (Ri w.heap.size m.codes[k] V)):=bl;obtain⟨vs,own,bv⟩:=D;have b5:Hid (wr.ownsRow Y.heap.size 102 1 (.slice a k J) k vs):=own;have b9:Hid (∀ q (hq:q < m.codes.length),q < k->∃ a n c,vs[q]? = some (.slice a n c)/\Ob w.heap.size wr m.codes[q] (.slice a n c)):=bv;have cb:Hid (vs.length=k):=(by have:=own.1;rw[Nat.mul_one]at this;exact this);clear own bv bl av ar d;obtain⟨cl,b3⟩:∃ x,Hid (m.codes[k].length=x):=⟨_,(rfl:m.codes[k].length=_)⟩;rw[b3.out]at v0 bg;obtain⟨Z,hZ⟩:∃ Z,wr.alloc (.cells #[.slice pj cl cl] 59)=Z:=⟨_,rfl⟩;have s:OH wr Z:=(by rw[<- hZ];exact Ao wr _);have zF:Z.heap[wr.heap.size]? = some (.cells #[.slice pj cl cl] 59):=(by rw[<- hZ];exact Ae wr _);obtain⟨z0,-⟩:=Aa zF 0 _ rfl;have B:Hid (OH w Z):=b.trans (s.mono b.size);clear zF;go_wp2_with (first
      | (go_at_call 68;refine(bg.out _ B.out).mono ?_;rintro e w4 ⟨xa,z,xc,rfl,al,M⟩;have h4:OH wr w4:=s.trans (M.mono s.size);have c0:=h4.size;have b8:Hid (Ob w.heap.size w4 m.codes[k] (.slice xa z xc)):=al;have O:w4.ownsRow Y.heap.size 102 1 (.slice a k J) k vs:=Kf b5.out h4;clear al)
      | (at_builtin;(refine wpList_append_own_at _ rfl _ _ 101 rfl Y.heap.size 102 i0 (.slice none 0 0) 1 24 Tryz.underlying101 bp bw bx bz rfl Ov _ k vs rfl (O.alloc _) (OK w4 0) 1 1 [.slice xa z xc] rfl rfl (cell_one_new _ _ _) (Qfr _ _ _) OF Ou OD ?_;intro v5 w5 ao bh _ ct;have ci:J9 w.heap.size Y.heap.size w5 m.codes (k+1) v5:=J9.next u.out.size a3 b9.out cb.out h4 (O.alloc _) bh ao br b8.out;have ae:OH Y w5:=(C0 ((l.trans (h4.mono a3)).alloc Ou _) bh OD (fun q hq=>Bu O hq));obtain⟨a5,c5,cj⟩:=Cp ao;subst cj)))
     go_roundw;case rel=>exact⟨k+1,a5,c5,by omega,rfl,by go_num,ae,ci⟩
     case measure=>simp[intOf];omega
    ·have I:¬ (k:Int) < (nc:Int):=Ou;have cg:k=nc:=Ou;subst cg;obtain⟨w3,ck⟩:∃ V,V=wr:=⟨_,rfl⟩;subst ck;have y3:=HY.out w3 l;obtain⟨p3,-⟩:=Aa y3 3 _ rfl;have be:Hid (∀ U,OH w3 U->J9 w.heap.size Y.heap.size U m.codes m.codes.length (.slice a m.codes.length J)):=fun U hU=>by rw[R.out];exact D.below (Nat.le_trans u.out.size a3) hU
     have a4:Hid (OH Y w3):=l;have aj:Hid (OH w w3):=b;clear y3 D l b av bp bw bx bz hlt I Q;go_wp2_with fail;go_loopw [34] (fun t wr => ∃ i:Nat,i<=n/\t = .int .i64 (i:Int)/\OH w3 wr/\Hid (∀ q (hq:q < m.frames.length),q < i->Rj m q hq)) (fun t _=>n - (intOf t).toNat);case atStart=>exact⟨0,by omega,rfl,Below.refl _ _,fun q hq h=>Ou⟩
     case round =>
      obtain⟨i,hi,rfl,l,HD⟩:=hrel;have cn:=l.size;have b:OH w wr:=aj.out.trans (l.mono aj.out.size);by_cases hlt:i < n
      ·have I:(i:Int) < (n:Int):=Ou;have o:i < m.frames.length:=(by rw[HN.out];exact hlt);obtain⟨gf,s1,k1,s2,k2,eg,cv,⟨e0,e1,e2,e3,e4⟩,bj,bk⟩:=F9 (ar.out wr b) i o;subst eg;obtain⟨j,ag,bq⟩:=Hj.at HO.out i o;obtain⟨gt,xa,z,xc,ea,cf,x0,D⟩:=J9.get (be.out wr l) j bq;subst ea;have cw:(j:Int) < (k:Int):=(by have:=R.out;omega);obtain⟨r1,r2,r3,r4⟩:=b7.out i o;have ai:Hid (∀ U,OH w U->Calls Tryz.prog 70 #[.agg #[.slice ca k cc,.slice aa m.args.length ac,.slice oa m.outs.length oc,.slice (some (OI gf 0)) n fc,.int .i64 m.steps,.int .i64 m.looks,.int .i64 m.kind,.string m.name,.string m.hold,.bool m.over,.int .i64 m.fin,.string m.text,.slice ia m.files.length ic,.slice sa m.said.length sc],.int .i64 (i:Int)] U (My (Kc (Bw m i)) U)):=fun U hU=>d.out U hU i hlt
       have HI:Hid (Rj m i o ↔ (Bd (m.codes.getD m.frames[i].code.toNat [])/\0<=m.frames[i].fn/\m.frames[i].fn < ((m.codes.getD m.frames[i].code.toNat []).length:Int)/\∃ X,Cr (m.codes.getD m.frames[i].code.toNat []) ((m.codes.getD m.frames[i].code.toNat []).getD m.frames[i].fn.toNat A6) X/\Fu (Bw m i) m.frames[i] (m.codes.getD m.frames[i].code.toNat []) ((m.codes.getD m.frames[i].code.toNat []).getD m.frames[i].fn.toNat A6) X)):=Iff.rfl;rw[ag,Int.toNat_natCast,M0 m j bq]at HI;rw[ag]at e0;have W:Hid (∀ U,OH wr U->D6 U (.slice s1 m.frames[i].slots.length k1) m.frames[i].slots):=fun U hU=>Cj bj hU
       have ab:Hid (∀ U,OH wr U->D6 U (.slice s2 m.frames[i].stack.length k2) m.frames[i].stack):=fun U hU=>Cj bk hU
       have HR:Hid ((∀ v ∈ m.frames[i].slots,Ge v)/\(∀ v ∈ m.frames[i].stack,Ge v)/\m.frames[i].slots.length<=1048576/\m.frames[i].stack.length<=1048576):=⟨r1,r2,r3,r4⟩;have ba:Hid (m.frames[i].code=(j:Int)):=ag;clear bj bk r1 r2 r3 r4 ag;obtain⟨fr,bc⟩:∃ f,Hid (m.frames[i]=f):=⟨_,(rfl:m.frames[i]=_)⟩;rw[bc.out]at e1 e2 e3 e4 HI W ab HR ba;obtain⟨c,b2⟩:∃ c,Hid (m.codes[j]=c):=⟨_,(rfl:m.codes[j]=_)⟩;rw[b2.out]at HI D;obtain⟨l1,a1⟩:∃ x,fr.slots.length=x:=⟨_,rfl⟩;obtain⟨l2,N⟩:∃ x,fr.stack.length=x:=⟨_,rfl⟩;rw[a1]at e3 W;rw[N]at e4 ab;obtain⟨L,az⟩:∃ x,fr.fn=x:=⟨_,rfl⟩;obtain⟨fz,a0⟩:∃ x,fr.at'=x:=⟨_,rfl⟩;rw[az]at e1 HI;rw[a0]at e2;have b4:Hid (fr.slots.length=l1/\fr.stack.length=l2/\fr.fn=L/\fr.at'=fz):=⟨a1,N,az,a0⟩;clear a1 N az a0;have T:Hid (Ob w.heap.size wr c (.slice xa z xc)):=D;have au:Hid (Bd c->z=c.length):=fun hc=>by
        rcases T.out with⟨_,vs,ho,_⟩|⟨h,_⟩
        ·obtain⟨_,_,e⟩:=Cp ho;injection e
        ·exact absurd hc h
       have bd:Hid (¬ Bd c->z=0):=fun hc=>by
        rcases T.out with⟨h,_⟩|⟨_,e⟩
        ·exact absurd h hc
        ·injection e
       obtain⟨Z,hZ⟩:∃ Z,wr.alloc (.cells #[.int .i64 (j:Int),.int .i64 L,.int .i64 fz,.slice s1 l1 k1,.slice s2 l2 k2] 91)=Z:=⟨_,rfl⟩;have s:OH wr Z:=(by rw[<- hZ];exact Ao wr _);have zF:Z.heap[wr.heap.size]? = some (.cells #[.int .i64 (j:Int),.int .i64 L,.int .i64 fz,.slice s1 l1 k1,.slice s2 l2 k2] 91):=(by rw[<- hZ];exact Ae wr _);have c2:Z.heap.size=wr.heap.size+1:=(by rw[<- hZ];exact World.size_alloc _ _);obtain⟨z0,-⟩:=Aa zF 0 _ rfl;obtain⟨z1,-⟩:=Aa zF 1 _ rfl;have zx:Z.cell? (OI gt j)=some (.slice xa z xc):=(s.cell (p:=(OI gt j)) cf).trans x0;have B:Hid (OH w Z):=b.trans (s.mono b.size);have F:Hid (OH w3 Z):=l.trans (s.mono cn);have aw:Hid (OH wr Z):=s;clear D s be ar d;by_cases hq0:L < 0
       ·have bs:decide (L < 0)=true:=(by simpa using hq0);have C:Hid (¬ P):=fun h=>by have:=(HI.out.1 ((HP.out.2 h).2.2 i o)).2.1;omega
        clear zF;go_wp2_with fail;go_quiet (fail);go_wp2_with fail;go_ret;exact⟨false,rfl,⟨fun h=>by simp at h,fun h=>absurd h C.out⟩,Aj _ B.out⟩
       ·have bs:decide (L < 0)=false:=(by simpa using hq0);by_cases hqx:(z:Int)<=L
        ·have bt:decide ((z:Int)<=L)=true:=(by simpa using hqx);have C:Hid (¬ P):=fun h=>by
          have h1:=HI.out.1 ((HP.out.2 h).2.2 i o);have h2:=au.out h1.1;have h3:=h1.2.2.1;omega
         clear zF;go_wp2_with fail;go_quiet (fail);go_wp2_with fail;go_ret;exact⟨false,rfl,⟨fun h=>by simp at h,fun h=>absurd h C.out⟩,Aj _ B.out⟩
        ·have bt:decide ((z:Int)<=L)=false:=(by simpa using hqx);obtain⟨q,rfl⟩:∃ q:Nat,L=(q:Int):=⟨L.toNat,by omega⟩;have y:Bd c:=Classical.byContradiction (fun h=>by have:=bd.out h;omega);have cm:=au.out y;have a2:q < c.length:=Ou;obtain⟨-,an⟩|⟨h,-⟩:=T.out
         ·obtain⟨-,gi,pt,ex,ce,u0,am⟩:=Od.get an q a2;subst ex;have ak:Hid (∀ U,OH wr U->Jf w.heap.size U c c[q] (.pointer pt)):=fun U hU=>am.keep (e:=102) (He.of hU b.size) Ov Ov
          have b6:Hid (∀ U,OH Z U->Calls Tryz.prog 69 #[.pointer pt,.agg #[.int .i64 (j:Int),.int .i64 (q:Int),.int .i64 fz,.slice s1 l1 k1,.slice s2 l2 k2],.agg #[.int .i64 (Kc (Bw m i)).op,.int .i64 (Kc (Bw m i)).a,.int .i64 0,.string ⟨#[]⟩]] U (Eh (Rj m i o) U)):=fun U hU=>by
           have ah:OH wr U:=aw.out.trans (hU.mono aw.out.size);have ax:OH w U:=b.trans (ah.mono b.size);have bu:=ak.out U ah;obtain⟨_,_,_,_,_,_,_,_,_,X,_,_,_,_,_,hX,_,_⟩:=id bu;obtain⟨f1,f2,f3,f4⟩:=b4.out;have h:=Qd8 w.heap.size c y.sound q a2 c[q] rfl fr (Bw m i) Qct X hX (.pointer pt) U ax.size bu (bf.out U ax).1 (bf.out U ax).2 s1 s2 k1 k2 (by rw[f1];exact W.out U ah) (by rw[f2];exact ab.out U ah) HR.out.1 HR.out.2.1 HR.out.2.2.1 HR.out.2.2.2;rw[ba.out,f1,f2,f3,f4]at h;refine h.mono ?_;rintro e w' ⟨bb,he,af,cd⟩;refine⟨bb,he,af.trans ?_,cd⟩;rw[HI.out,Int.toNat_natCast,List.getD_eq_getElem?_getD,List.getElem?_eq_getElem a2];exact⟨fun h=>⟨y,by omega,by omega,X,hX,h⟩,fun ⟨_,_,_,X',h1,h2⟩=>(h1.one hX) ▸ h2⟩
          have HK:Hid (∀ U,OH Z U->(fun w'=>w'.cell? (OK w 0)=some (.slice ca k cc)/\w'.cell? (OK w 1)=some (.slice aa m.args.length ac)/\w'.cell? (OK w 2)=some (.slice oa m.outs.length oc)/\w'.cell? (OK w 3)=some (.slice (some (OI gf 0)) n fc)/\w'.cell? (OK w 4)=some (.int .i64 m.steps)/\w'.cell? (OK w 5)=some (.int .i64 m.looks)/\w'.cell? (OK w 6)=some (.int .i64 m.kind)/\w'.cell? (OK w 7)=some (.string m.name)/\w'.cell? (OK w 8)=some (.string m.hold)/\w'.cell? (OK w 9)=some (.bool m.over)/\w'.cell? (OK w 10)=some (.int .i64 m.fin)/\w'.cell? (OK w 11)=some (.string m.text)/\w'.cell? (OK w 12)=some (.slice ia m.files.length ic)/\w'.cell? (OK w 13)=some (.slice sa m.said.length sc)/\w'.cell? (OK wr 0)=some (.int .i64 (j:Int))/\w'.cell? (OK wr 1)=some (.int .i64 (q:Int))/\w'.cell? (OK wr 2)=some (.int .i64 fz)/\w'.cell? (OK wr 3)=some (.slice s1 l1 k1)/\w'.cell? (OK wr 4)=some (.slice s2 l2 k2)/\w'.cell? (OI gi q)=some (.pointer pt)) U):=fun U hU=>by
           have H:=HY.out U (a4.out.trans ((F.out.trans (hU.mono F.out.size)).mono a4.out.size));have bF:=(hU.block _ Ou).trans zF;exact⟨(Aa H 0 _ rfl).1,(Aa H 1 _ rfl).1,(Aa H 2 _ rfl).1,(Aa H 3 _ rfl).1,(Aa H 4 _ rfl).1,(Aa H 5 _ rfl).1,(Aa H 6 _ rfl).1,(Aa H 7 _ rfl).1,(Aa H 8 _ rfl).1,(Aa H 9 _ rfl).1,(Aa H 10 _ rfl).1,(Aa H 11 _ rfl).1,(Aa H 12 _ rfl).1,(Aa H 13 _ rfl).1,(Aa bF 0 _ rfl).1,(Aa bF 1 _ rfl).1,(Aa bF 2 _ rfl).1,(Aa bF 3 _ rfl).1,(Aa bF 4 _ rfl).1,(hU.cell (p:=(OI gi q)) (by show gi < _;omega)).trans ((aw.out.cell (p:=(OI gi q)) ce).trans u0)⟩
          have a8:Hid (∀ U,OH w U->Calls Tryz.prog 70 #[.agg #[.slice ca k cc,.slice aa m.args.length ac,.slice oa m.outs.length oc,.slice (some (OI gf 0)) n fc,.int .i64 m.steps,.int .i64 m.looks,.int .i64 m.kind,.string m.name,.string m.hold,.bool m.over,.int .i64 m.fin,.string m.text,.slice ia m.files.length ic,.slice sa m.said.length sc],.int .i64 (i:Int)] U (My (Kc (Bw m i)) U)):=ai;have K1:=HK.out Z.drew (Below.refl _ _).drew;have cx:(q:Int) < (z:Int):=Ou;have cy:decide ((q:Int) < 0)=false:=OB;have cz:decide (z<=q)=false:=OD;have cs:¬ z<=q:=Ou;clear an am y cm hqx hq0 HI T au bd ak W ab HR ai u0 zF;go_wp2_with fail;refine wp_region_held_drew (S:=fun w'=>w'.cell? (OK w 0)=some (.slice ca k cc)/\w'.cell? (OK w 1)=some (.slice aa m.args.length ac)/\w'.cell? (OK w 2)=some (.slice oa m.outs.length oc)/\w'.cell? (OK w 3)=some (.slice (some (OI gf 0)) n fc)/\w'.cell? (OK w 4)=some (.int .i64 m.steps)/\w'.cell? (OK w 5)=some (.int .i64 m.looks)/\w'.cell? (OK w 6)=some (.int .i64 m.kind)/\w'.cell? (OK w 7)=some (.string m.name)/\w'.cell? (OK w 8)=some (.string m.hold)/\w'.cell? (OK w 9)=some (.bool m.over)/\w'.cell? (OK w 10)=some (.int .i64 m.fin)/\w'.cell? (OK w 11)=some (.string m.text)/\w'.cell? (OK w 12)=some (.slice ia m.files.length ic)/\w'.cell? (OK w 13)=some (.slice sa m.said.length sc)/\w'.cell? (OK wr 0)=some (.int .i64 (j:Int))/\w'.cell? (OK wr 1)=some (.int .i64 (q:Int))/\w'.cell? (OK wr 2)=some (.int .i64 fz)/\w'.cell? (OK wr 3)=some (.slice s1 l1 k1)/\w'.cell? (OK wr 4)=some (.slice s2 l2 k2)/\w'.cell? (OI gi q)=some (.pointer pt)) OA (K1) fun _=>?_
          refine Tk 0 (.pointer (some (OK wr 1))) ?_;refine Tk 1 (.int .i64 (q:Int)) ?_;refine Tk 2 (.bool false) ?_;(try simp[Act.put]);refine Tk 3 (.bool false) ?_;refine Tk 4 (.pointer (some (OK wr 1))) ?_;refine Tk 5 (.int .i64 (q:Int)) ?_;(try simp[Act.put]);refine Tk 6 (.slice (some (OI gi 0)) z xc) ?_;refine Tk 7 (.int .i64 (z:Int)) ?_;refine Tk 8 (.bool false) ?_;(try simp[Act.put]);refine Tk 9 (.bool false) ?_;refine Tk 10 (.bool false) ?_;refine Tk 11 (.slice (some (OI gi 0)) z xc) ?_;(try simp[Act.put]);refine Tk 12 (.pointer (some (OK wr 1))) ?_;refine Tk 13 (.int .i64 (q:Int)) ?_;refine Tk 14 (.pointer (some (OI gi q))) ?_;(try simp[Act.put]);refine Tk 15 (.pointer pt) ?_;refine Tk 16 (.agg #[.int .i64 (j:Int),.int .i64 (q:Int),.int .i64 fz,.slice s1 l1 k1,.slice s2 l2 k2]) ?_;refine Tk 17 (.agg #[.slice ca k cc,.slice aa m.args.length ac,.slice oa m.outs.length oc,.slice (some (OI gf 0)) n fc,.int .i64 m.steps,.int .i64 m.looks,.int .i64 m.kind,.string m.name,.string m.hold,.bool m.over,.int .i64 m.fin,.string m.text,.slice ia m.files.length ic,.slice sa m.said.length sc]) ?_;(try simp[Act.put]);refine Tk 18 (.int .i64 (i:Int)) ?_;(try simp[Act.put]);refine Tr 19 rfl fun KK hK=>?_
          go_simp;(go_at_call 70;refine(a8.out _ B.out.drew).mono ?_;rintro e w7 ⟨rfl,bm⟩;have M:OH Z w7:=((Below.refl _ Z).drew).trans bm;have ap:Hid (OH Z w7):=M;have K2:=HK.out w7 M;clear bm M);go_wp2;refine hK.out _ _ (K2) fun _=>?_
          clear hK;(try simp[Act.put]);refine Tr 20 rfl fun KK hK=>?_
          go_simp;(go_at_call 69;refine(b6.out w7 ap.out).mono ?_;rintro e w8 ⟨bb,rfl,af,ae⟩;have a7:Hid (bb=true ↔ Rj m i o):=af;have ay:OH Z w8:=ap.out.trans (ae.mono ap.out.size);have a6:Hid (OH Z w8):=ay;have K3:=HK.out w8 ay;clear af ae ay);go_wp2;refine hK.out _ _ (K3) fun _=>?_
          clear hK;(try simp[Act.put]);refine Tk 21 (.bool (!bb)) ?_;refine Tk 22 (.bool (!bb)) ?_;(try simp[Act.put]);refine wpAnyH_done OA ?_ _;clear K1 K2 K3 HK;cases bb with
          | true =>
           have K:Hid (Rj m i o):=a7.out.1 (by first|rfl|trivial);go_wp2_with fail;go_roundw;case rel =>
            refine⟨i+1,by omega,by go_num,F.out.trans (a6.out.mono F.out.size),fun q hq h => ?_⟩;by_cases e:q=i
            ·subst e;exact K.out
            ·exact HD.out q hq Ou
           case measure=>simp[intOf];omega
          | false =>
           have C:Hid (¬ P):=fun h=>by have:=a7.out.2 ((HP.out.2 h).2.2 i o);simp at this
           go_wp2_with fail;go_ret;exact⟨false,rfl,⟨fun h=>by simp at h,fun h=>absurd h C.out⟩,B.out.trans (a6.out.mono B.out.size)⟩
         ·exact absurd y h
      ·have I:¬ (i:Int) < (n:Int):=Ou;have K:Hid P:=HP.out.1 ⟨by rw[HN.out];exact h40,HO.out,fun q hq=>HD.out q hq (by have:=HN.out;omega)⟩;have b1:Hid (OH w wr):=b;go_wp2_with fail;go_ret;exact⟨true,rfl,⟨fun _=>K.out,fun _=>rfl⟩,b1.out⟩
 ·have bi:(40:Int) < (n:Int):=Ou
  have C:Hid (¬ P):=fun h=>by have:=(HP.out.2 h).1;rw[HN.out]at this;omega
  clear h40;go_enter Tryz.func37,Tryz.ntmps37;go_wp2_with fail;go_ret;exact⟨false,rfl,⟨fun h=>by simp at h,fun h=>absurd h C.out⟩,u.out⟩
end Go.Proofs.YtahibkjkpmdhgaaGreatDoor
