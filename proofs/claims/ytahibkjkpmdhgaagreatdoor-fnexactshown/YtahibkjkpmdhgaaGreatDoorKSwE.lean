import Derived.Test.YtahibkjkpmdhgaaGreatDoorKVmZc
import Derived.Test.YtahibkjkpmdhgaaGreatDoorKVmL
set_option maxRecDepth 100000
set_option maxHeartbeats 8000000
namespace Go.Proofs.YtahibkjkpmdhgaaGreatDoor
open Go.RowKit
structure Xs where
 over:Bool
 code:Int
 text:ByteArray
 kind:Int
 name:ByteArray
 steps:Int
 files:List Dg
 said:List ByteArray
def Vg (t:Xs) (w:World) (e:Ending) (w':World):Prop := ∃ fa fc sa sc,e = .returned (.agg #[.bool t.over,.int .i64 t.code,.string t.text,.int .i64 t.kind,.string t.name,.int .i64 t.steps,.slice fa t.files.length fc,.slice sa t.said.length sc])/\w'.ownsRow w.heap.size 55 2 (.slice fa t.files.length fc) t.files.length (Di t.files)/\w'.ownsRow w.heap.size 9 1 (.slice sa t.said.length sc) t.said.length (t.said.map Value.string)/\OH w w'
abbrev Ff (a:Bool) (b:Int) (c:ByteArray) (d:Int) (e:ByteArray) (f:Int) (g h:Value):Array Value := #[.bool a,.int .i64 b,.string c,.int .i64 d,.string e,.int .i64 f,g,h]
abbrev Fs : Value:=.slice none 0 0
abbrev F8 : Array Value:=Ff false 0 ⟨#[]⟩ 0 ⟨#[]⟩ 0 Fs Fs
theorem Qg2 {w:World} {b k:Nat} {v:Value} {cur:Array Value} {t:TypeId} (h:w.heap[b]? = some (.cells cur t)):(w.setCell (OI b k) v).heap[b]? = some (.cells (cur.setIfInBounds k v) t):=by simp[World.setCell,Array.getElem?_modify,h]
theorem Hv (w:World) (A e size:Nat):w.ownsRow A e size (.slice none 0 0) 0 []:=⟨by simp,.inl ⟨rfl,rfl⟩⟩
structure J0 (w V:World) (a8 z8:Array Value):Prop where
 tn:V.heap[w.heap.size]? = some (.cells a8 39)
 an:V.heap[w.heap.size+1]? = some (.cells z8 39)
 lo:w.heap.size+2<=V.heap.size
 be:OH w V
theorem J0.new (w:World) (a8 z8:Array Value):J0 w ((w.alloc (.cells a8 39)).alloc (.cells z8 39)) a8 z8:=by
 have h:=(MapKept.heap_alloc (w.alloc (.cells a8 39)) (.cells z8 39)).1;rw[World.size_alloc]at h;exact⟨((Ao (w.alloc (.cells a8 39)) _).block _ OB).trans (Ae w _),h,by simp,((Below.refl _ w).alloc (Nat.le_refl _) _).alloc OB _⟩
theorem J0.call {w V U:World} {a8 z8:Array Value} (h:J0 w V a8 z8) (hb:OH V U):J0 w U a8 z8 :=
 ⟨(hb.block _ (by have:=h.lo;omega)).trans h.tn,(hb.block _ (by have:=h.lo;omega)).trans h.an,Nat.le_trans h.lo hb.size,h.be.trans (hb.mono h.be.size)⟩
theorem J0.set {w V:World} {a8 z8:Array Value} (h:J0 w V a8 z8) (k:Nat) (v:Value):J0 w (V.setCell (OI w.heap.size k) v) (a8.setIfInBounds k v) z8 :=
 ⟨Qg2 h.tn,(Below.heap_setCell _ _ _ _ OB).trans h.an,by simp;exact h.lo,h.be.setCell (Nat.le_refl _) v⟩
theorem Qgs {w:World} {a:Option Addr} {c:Nat} {ss:List ByteArray} (h:Dw w (.slice a ss.length c) ss):∀ i (hi:i < ss.length),∃ g o,a=some (OI g o)/\g < w.heap.size/\w.cell? (OI g (o+i))=some (.string ss[i]):=by
 obtain⟨b,d,e,h⟩:=h;injection e with e1 _ _;subst e1;exact h
theorem Qco {w:World} {a:Option Addr} {c:Nat} {ss:List Dg} (h:Gc w (.slice a ss.length c) ss):∀ i (hi:i < ss.length),∃ g o,a=some (OI g o)/\g < w.heap.size/\w.cell? (OI g (o+i * 2))=some (.string ss[i].name)/\w.cell? (OI g (o+i * 2+1))=some (.string ss[i].text):=by
 obtain⟨b,d,e,h⟩:=h;injection e with e1 _ _;subst e1;exact h
theorem Qge (w V:World) (x0 x1 x2 x3 x4 x5 x6 x7:Value) (hb:OH w V):Bf (w.heap.size+2) V (((((((( V.setCell (OI (w.heap.size+1) 0) x0).setCell (OI (w.heap.size+1) 1) x1).setCell (OI (w.heap.size+1) 2) x2).setCell (OI (w.heap.size+1) 3) x3).setCell (OI (w.heap.size+1) 4) x4).setCell (OI (w.heap.size+1) 5) x5).setCell (OI (w.heap.size+1) 6) x6).setCell (OI (w.heap.size+1) 7) x7)/\OH w (((((((( V.setCell (OI (w.heap.size+1) 0) x0).setCell (OI (w.heap.size+1) 1) x1).setCell (OI (w.heap.size+1) 2) x2).setCell (OI (w.heap.size+1) 3) x3).setCell (OI (w.heap.size+1) 4) x4).setCell (OI (w.heap.size+1) 5) x5).setCell (OI (w.heap.size+1) 6) x6).setCell (OI (w.heap.size+1) 7) x7)/\∀ k,k≠w.heap.size+1->(((((((( V.setCell (OI (w.heap.size+1) 0) x0).setCell (OI (w.heap.size+1) 1) x1).setCell (OI (w.heap.size+1) 2) x2).setCell (OI (w.heap.size+1) 3) x3).setCell (OI (w.heap.size+1) 4) x4).setCell (OI (w.heap.size+1) 5) x5).setCell (OI (w.heap.size+1) 6) x6).setCell (OI (w.heap.size+1) 7) x7).heap[k]? = V.heap[k]? :=
 ⟨(((((((((Bf.refl (w.heap.size+2) _).trans (Bf.set _ Ou)).trans (Bf.set _ Ou)).trans (Bf.set _ Ou)).trans (Bf.set _ Ou)).trans (Bf.set _ Ou)).trans (Bf.set _ Ou)).trans (Bf.set _ Ou)).trans (Bf.set _ Ou)),((((((((hb.setCell (p:=(OI (w.heap.size+1) 0)) OG _).setCell (p:=(OI (w.heap.size+1) 1)) OG _).setCell (p:=(OI (w.heap.size+1) 2)) OG _).setCell (p:=(OI (w.heap.size+1) 3)) OG _).setCell (p:=(OI (w.heap.size+1) 4)) OG _).setCell (p:=(OI (w.heap.size+1) 5)) OG _).setCell (p:=(OI (w.heap.size+1) 6)) OG _).setCell (p:=(OI (w.heap.size+1) 7)) OG _),fun k hk=>((Below.heap_setCell _ _ _ _ hk).trans ((Below.heap_setCell _ _ _ _ hk).trans ((Below.heap_setCell _ _ _ _ hk).trans ((Below.heap_setCell _ _ _ _ hk).trans ((Below.heap_setCell _ _ _ _ hk).trans ((Below.heap_setCell _ _ _ _ hk).trans ((Below.heap_setCell _ _ _ _ hk).trans ((Below.heap_setCell _ _ _ _ hk).trans rfl))))))))⟩
theorem Mw {w V:World} {t:Xs} {fa sa:Option Addr} {fc sc:Nat} {x0 x1 x2 x3 x4 x5 x6 x7:Value} (hb:OH w V) (h1:V.ownsRow (w.heap.size+2) 55 2 (.slice fa t.files.length fc) t.files.length (Di t.files)) (h2:V.ownsRow (w.heap.size+2) 9 1 (.slice sa t.said.length sc) t.said.length (t.said.map Value.string)):Vg t w (.returned (.agg (Ff t.over t.code t.text t.kind t.name t.steps (.slice fa t.files.length fc) (.slice sa t.said.length sc)))) (((((((( V.setCell (OI (w.heap.size+1) 0) x0).setCell (OI (w.heap.size+1) 1) x1).setCell (OI (w.heap.size+1) 2) x2).setCell (OI (w.heap.size+1) 3) x3).setCell (OI (w.heap.size+1) 4) x4).setCell (OI (w.heap.size+1) 5) x5).setCell (OI (w.heap.size+1) 6) x6).setCell (OI (w.heap.size+1) 7) x7) :=
 have K:=Qge w V x0 x1 x2 x3 x4 x5 x6 x7 hb
 ⟨_,_,_,_,rfl,Ch (By h1 (Nat.le_refl _) K.1) Ou,Ch (By h2 (Nat.le_refl _) K.1) Ou,K.2.1⟩
theorem Qgt (ov:Bool) (cd kd st:Int) (tx nm:ByteArray) (fs:List Dg) (ss:List ByteArray) (htx:tx.size<=1048576) (hnm:nm.size<=1048576) (hfs:Qei fs) (hss:Rl ss) (g:Nat) (ia sa:Option Addr) (ic sc:Nat) (w:World) (hg:w.heap[g]? = some (.cells #[.slice none 0 0,.int .i64 st,.int .i64 0,.slice ia fs.length ic,.slice sa ss.length sc] 70)) (hF:Gc w (.slice ia fs.length ic) fs) (hS:Dw w (.slice sa ss.length sc) ss) :
  Calls Tryz.prog 42 #[.pointer (some (OI g 0)),.agg #[.bool ov,.int .i64 cd,.string tx,.int .i64 kd,.string nm,.int .i64 0,.slice none 0 0,.slice none 0 0]] w (Vg ⟨ov,cd,tx,kd,nm,st,if ov=true/\cd=0 then fs else [],ss⟩ w):=by
 obtain⟨Y,hY⟩:∃ Y,(w.alloc (.cells #[.bool ov,.int .i64 cd,.string tx,.int .i64 kd,.string nm,.int .i64 0,.slice none 0 0,.slice none 0 0] 39)).alloc (.cells #[.bool false,.int .i64 0,.string ⟨#[]⟩,.int .i64 0,.string ⟨#[]⟩,.int .i64 0,.slice none 0 0,.slice none 0 0] 39)=Y:=⟨_,rfl⟩;have HA:Hid (J0 w Y (Ff ov cd tx kd nm 0 Fs Fs) F8):=by rw[Hid,<- hY];exact J0.new w _ _
 have Z:=(Array.getElem?_eq_some_iff.1 hg).1;have r:Hid (∀ U,OH w U->(U.cell? (OI g 1)=some (.int .i64 st)/\U.cell? (OI g 3)=some (.slice ia fs.length ic)/\U.cell? (OI g 4)=some (.slice sa ss.length sc))/\Gc U (.slice ia fs.length ic) fs/\Dw U (.slice sa ss.length sc) ss):=fun U hU=>by
  have q:=(hU.block _ Z).trans hg;exact⟨⟨(Aa q 1 _ rfl).1,(Aa q 3 _ rfl).1,(Aa q 4 _ rfl).1⟩,hF.below hU,hS.below hU⟩
 have m0:Cv:=trivial;obtain⟨L,C⟩:∃ L,Hid ((if ov=true/\cd=0 then fs else [])=L):=⟨_,(rfl:_=_)⟩;rw[C.out];obtain⟨⟨-,-,y2,-⟩,-,-,-,-⟩:=Ey HA.out.tn;clear hF hS hg;go_enter Tryz.func42,Tryz.ntmps42;go_wp2_with (first
  | (have _t:=m0;go_at_call 74;refine(Jd tx _ htx).mono ?_;rintro e w1 ⟨rfl,a⟩;have q:=HA.out.call a;obtain⟨⟨-,-,a2,-⟩,-,-,ai,-⟩:=Ey q.tn;obtain⟨V1,T⟩:∃ V,w1.setCell (OI w.heap.size 2) (.string tx)=V:=⟨_,rfl⟩;have q:=q.set 2 (.string tx);rw[T]at q;have A1:Hid (J0 w V1 (Ff ov cd tx kd nm 0 Fs Fs) F8):=q;obtain⟨⟨-,-,-,-,a4,-⟩,-,-,-,-,-,-⟩:=Ey A1.out.tn;clear q a m0;have m1:Cv:=trivial)
  | (have _t:=m1;go_at_call 74;refine(Jd nm _ hnm).mono ?_;rintro e w2 ⟨rfl,a⟩;have q:=A1.out.call a;obtain⟨⟨-,-,-,-,b4,-⟩,-,-,-,-,aj,-⟩:=Ey q.tn;obtain⟨H,W⟩:∃ V,w2.setCell (OI w.heap.size 4) (.string nm)=V:=⟨_,rfl⟩;have q:=q.set 4 (.string nm);rw[W]at q;have E:Hid (J0 w H (Ff ov cd tx kd nm 0 Fs Fs) F8):=q;obtain⟨r1,-,-⟩:=(r.out H E.out.be).1;obtain⟨⟨-,-,-,-,-,c5,-⟩,-,-,-,-,-,ak,-⟩:=Ey E.out.tn;have q:=E.out;obtain⟨I,X⟩:∃ V,H.setCell (OI w.heap.size 5) (.int .i64 st)=V:=⟨_,rfl⟩;have q:=q.set 5 (.int .i64 st);rw[X]at q;have B:Hid (J0 w I (Ff ov cd tx kd nm st Fs Fs) F8):=q;obtain⟨-,-,r4⟩:=(r.out I B.out.be).1;clear q a m1;have m2:Cv:=trivial)
  | (have _t:=m2;go_at_call 75;refine(Z2 ss sa sc _ hss.1 hss.2 (Qgs (r.out I B.out.be).2.2)).mono ?_;rintro e w4 ⟨b,c,rfl,x,a⟩;have q:=B.out.call a;obtain⟨⟨-,-,-,-,-,-,-,d7⟩,-,-,-,-,-,-,-,al⟩:=Ey q.tn;obtain⟨D,s⟩:∃ V,w4.setCell (OI w.heap.size 7) (.slice b ss.length c)=V:=⟨_,rfl⟩;have q:=q.set 7 (.slice b ss.length c);rw[s]at q;have d:Hid (J0 w D (Ff ov cd tx kd nm st Fs (.slice b ss.length c)) F8):=q;have G:Hid (D.ownsRow (w.heap.size+2) 9 1 (.slice b ss.length c) ss.length (ss.map Value.string)):=(by rw[Hid,<- s];exact By (Ch x B.out.lo) (Nat.le_refl _) (Bf.set _ Ou));obtain⟨-,r3,-⟩:=(r.out D d.out.be).1;clear q a x m2;have m3:Cv:=trivial;rcases(show ov=false\/ov=true/\¬ cd=0\/ov=true/\cd=0 by cases ov <;> simp;omega) with h|⟨h,hc⟩|⟨h,hc⟩ <;> subst h <;> (try subst hc) <;> (obtain⟨⟨g0,g1,g2,g3,g4,g5,g6,g7⟩,-⟩:=Ey d.out.tn;obtain⟨⟨f,i,j,k,l,m,n,o⟩,K,M,N,O,P,Q,R,S⟩:=Ey d.out.an;skip))
  | (have _t:=m3;go_at_call 76;refine(Vh fs ia ic _ hfs.1 hfs.2 (Qco (r.out D d.out.be).2.1)).mono ?_;rintro e w5 ⟨z,A,rfl,y,a⟩;have q:=d.out.call a;obtain⟨⟨-,-,-,-,-,-,e6,-⟩,-,-,-,-,-,-,am,-⟩:=Ey q.tn;obtain⟨J,u⟩:∃ V,w5.setCell (OI w.heap.size 6) (.slice z fs.length A)=V:=⟨_,rfl⟩;have q:=q.set 6 (.slice z fs.length A);rw[u]at q;have F:Hid (J0 w J (Ff true 0 tx kd nm st (.slice z fs.length A) (.slice b ss.length c)) F8):=q;have p:Hid (J.ownsRow (w.heap.size+2) 55 2 (.slice z fs.length A) fs.length (Di fs)/\J.ownsRow (w.heap.size+2) 9 1 (.slice b ss.length c) ss.length (ss.map Value.string)):=(by rw[Hid,<- u];exact⟨By (Ch y d.out.lo) (Nat.le_refl _) (Bf.set _ Ou),By (By G.out (Nat.le_refl _) (Bf.below a)) (Nat.le_refl _) (Bf.set _ Ou)⟩);clear g0 f K g1 i M g2 j N g3 k O g4 l P g5 m Q g6 n R g7 o S q a y m3;obtain⟨⟨k0,k1,k2,k3,k4,k5,k6,k7⟩,-⟩:=Ey F.out.tn;obtain⟨⟨aa,ab,ac,ad,ae,af,ag,ah⟩,an,ao,ap,aq,ar,au,av,aw⟩:=Ey F.out.an;have m4:Cv:=trivial))
 rotate_right
 ·exact bodyPost_ret (v:=.agg (Ff true 0 tx kd nm st (.slice z fs.length A) (.slice b ss.length c))) (by simp[results,Tryz.results42,go_sem,aa,ab,ac,ad,ae,af,ag,ah]) rfl (by rw[<- C.out,if_pos OB];exact Mw (t:=⟨true,0,tx,kd,nm,st,fs,ss⟩) F.out.be p.out.1 p.out.2)
 ·exact bodyPost_ret (v:=.agg (Ff false cd tx kd nm st Fs (.slice b ss.length c))) (by simp[results,Tryz.results42,go_sem,f,i,j,k,l,m,n,o]) rfl (by rw[<- C.out,if_neg (by simp[*])];exact Mw (t:=⟨false,cd,tx,kd,nm,st,[],ss⟩) d.out.be (Hv _ _ _ _) G.out)
 ·exact bodyPost_ret (v:=.agg (Ff true cd tx kd nm st Fs (.slice b ss.length c))) (by simp[results,Tryz.results42,go_sem,f,i,j,k,l,m,n,o]) rfl (by rw[<- C.out,if_neg (by simp[*])];exact Mw (t:=⟨true,cd,tx,kd,nm,st,[],ss⟩) d.out.be (Hv _ _ _ _) G.out)
def Kb (m:Ds):Xs:=⟨m.over,m.fin,m.text,if m.kind=4 then 1 else m.kind,m.name,m.steps,if m.over=true/\m.fin=0 then m.files else [],m.said⟩
def Qgh : Xs:=⟨false,0,⟨#[]⟩,0,⟨#[]⟩,0,[],[]⟩
open Classical in
noncomputable def Ip (m:Ds):Xs:=if Gk m then Kb m else Qgh
theorem Qci (k:Int) (w:World):Calls Tryz.prog 43 #[.int .i64 k] w fun e w'=>e = .returned (.int .i64 (if k=4 then 1 else k))/\w=w':=by
 by_cases h:k=4
 ·subst h;go_enter Tryz.func43,Tryz.ntmps43;go_wp2;go_ret;exact⟨rfl,rfl⟩
 ·rw[if_neg h];go_enter Tryz.func43,Tryz.ntmps43;go_wp2;go_ret;exact⟨rfl,rfl⟩
structure Lk (w V:World) (ma z8:Array Value):Prop where
 mb:V.heap[w.heap.size]? = some (.cells ma 34)
 an:V.heap[w.heap.size+1]? = some (.cells z8 39)
 lo:w.heap.size+2<=V.heap.size
 be:OH w V
theorem Lk.call {w V U:World} {a8 z8:Array Value} (h:Lk w V a8 z8) (hb:OH V U):Lk w U a8 z8 :=
 ⟨(hb.block _ (by have:=h.lo;omega)).trans h.mb,(hb.block _ (by have:=h.lo;omega)).trans h.an,Nat.le_trans h.lo hb.size,h.be.trans (hb.mono h.be.size)⟩
theorem Lk.new (w:World) (ma z8:Array Value):Lk w ((w.alloc (.cells ma 34)).alloc (.cells z8 39)) ma z8:=by
 have h:=(MapKept.heap_alloc (w.alloc (.cells ma 34)) (.cells z8 39)).1;rw[World.size_alloc]at h;exact⟨((Ao (w.alloc (.cells ma 34)) _).block _ OB).trans (Ae w _),h,by simp,((Below.refl _ w).alloc (Nat.le_refl _) _).alloc OB _⟩
theorem Z5 (m:Ds) (ca aa oa fa ia sa:Option Addr) (cc ac oc fc ic sc:Nat) (A:Nat) (hs:H4 m) (hRg:Yh m) (w:World) (hM:Gd A w m ca aa oa fa ia sa cc ac oc fc ic sc) (hT:B3 w) (hW:Cw w) :
  Calls Tryz.prog 11 #[.agg (Dc m ca aa oa fa ia sa cc ac oc fc ic sc)] w (Vg (Ip m) w):=by
 obtain⟨Y,hY⟩:∃ Y,(w.alloc (.cells (Dc m ca aa oa fa ia sa cc ac oc fc ic sc) 34)).alloc (.cells F8 39)=Y:=⟨_,rfl⟩;have j:Hid (Lk w Y (Dc m ca aa oa fa ia sa cc ac oc fc ic sc) F8):=by rw[Hid,<- hY];exact Lk.new w _ _
 have T:Hid (Calls Tryz.prog 8 #[.agg (Dc m ca aa oa fa ia sa cc ac oc fc ic sc)] Y (Eh (Gk m) Y)):=Qaj m ca aa oa fa ia sa cc ac oc fc ic sc A hs hRg Y (hM.below j.out.be) (hT.below j.out.be) (hW.below j.out.be);have Q:Hid (∀ U,OH w U->Gc U (.slice ia m.files.length ic) m.files/\Dw U (.slice sa m.said.length sc) m.said):=fun U hU=>⟨(Jw hM.files rfl).below hU,(Gm hM.said rfl).below hU⟩
 have i:Hid (H4 m):=hs;clear hM hT hW hs hRg;obtain⟨⟨y0,y1,y2,y3,y4,y5,y6,y7,y8,y9,ae,af,ag,ah⟩,-⟩:=Ew j.out.mb;unfold F8 Ff Dc at hY;unfold Dc;go_enter Tryz.func11,Tryz.ntmps11;go_wp2_with (go_at_call 8;refine T.out.mono ?_;rintro e g ⟨b,rfl,p,o⟩;have t:Hid (Lk w g (Dc m ca aa oa fa ia sa cc ac oc fc ic sc) F8):=j.out.call o;have P:Hid (b=true ↔ Gk m):=p;clear p o j T;obtain⟨⟨-,-,-,-,x4,-,-,-,-,-,-,-,ab,ad⟩,-⟩:=Ew t.out.mb;obtain⟨⟨u,x,y,z,B,C,D,E⟩,V,W,X,Z,f4,f5,f6,f7⟩:=Ey t.out.an;cases b)
 ·have M:Hid (Ip m=Qgh):=by rw[Hid,Ip,if_neg (fun h=>by have:=P.out.2 h;cases this)]
  exact bodyPost_ret (v:=.agg F8) (by simp[results,Tryz.results11,go_sem,u,x,y,z,B,C,D,E]) rfl (by rw[M.out];exact Mw t.out.be (Hv _ _ _ _) (Hv _ _ _ _))
 ·have M:Hid (Ip m=Kb m):=by rw[Hid,Ip,if_pos (P.out.1 OB)]
  obtain⟨R,J⟩:∃ R,g.alloc (.cells #[.slice none 0 0,.int .i64 m.steps,.int .i64 0,.slice ia m.files.length ic,.slice sa m.said.length sc] 70)=R:=⟨_,rfl⟩;have L:OH g R:=by rw[<- J];exact Ao g _
  have f:Hid (∀ U,OH R U->Lk w U (Dc m ca aa oa fa ia sa cc ac oc fc ic sc) F8):=fun U hU=>(t.out.call L).call hU
  have n:Hid (R.heap[g.heap.size]? = some (.cells #[Fs,.int .i64 m.steps,.int .i64 0,.slice ia m.files.length ic,.slice sa m.said.length sc] 70)/\R.heap.size=g.heap.size+1):=by rw[Hid,<- J];exact⟨Ae g _,by simp⟩
  obtain⟨S,hS⟩:∃ S:World->Prop,S=fun w'=>w'.cell? (OI w.heap.size 6)=some (.int .i64 m.kind)/\w'.cell? (OI w.heap.size 7)=some (.string m.name)/\w'.cell? (OI w.heap.size 9)=some (.bool m.over)/\w'.cell? (OI w.heap.size 10)=some (.int .i64 m.fin)/\w'.cell? (OI w.heap.size 11)=some (.string m.text):=⟨_,rfl⟩
  have G:Hid (∀ U:World,U.heap[w.heap.size]? = some (.cells (Dc m ca aa oa fa ia sa cc ac oc fc ic sc) 34)->S U):=fun U q=>by
   subst hS;obtain⟨⟨-,-,-,-,-,-,a,b,-,c,d,e,-⟩,-⟩:=Ew q;exact⟨a,b,c,d,e⟩
  obtain⟨s,l⟩:∃ s,Hid ((if m.kind=4 then 1 else m.kind)=s):=⟨_,(rfl:_=_)⟩;have F:Hid (∀ U,Calls Tryz.prog 43 #[.int .i64 m.kind] U fun e w'=>e = .returned (.int .i64 s)/\U=w'):=fun U=>by rw[<- l.out];exact Qci m.kind U
  have H:Hid (∀ U,OH R U->Calls Tryz.prog 42 #[.pointer (some (OI g.heap.size 0)),.agg (Ff m.over m.fin m.text s m.name 0 Fs Fs)] U (Vg (Kb m) U)):=fun U hU=>by
   rw[<- l.out];exact Qgt m.over m.fin _ m.steps m.text m.name m.files m.said i.out.text i.out.name i.out.files i.out.said g.heap.size ia sa ic sc U ((hU.block _ (by rw[n.out.2];omega)).trans n.out.1) (Q.out U (f.out U hU).be).1 (Q.out U (f.out U hU).be).2
  have I:S R.drew:=G.out _ (f.out R.drew (Below.refl _ _).drew).mb;clear u V x W y X z Z B f4 C f5 D f6 E f7;go_wp2_with fail;rw[J];refine wp_region_held_drew (S:=S) OA I fun _=>?_
  subst hS;refine Tk 0 (.pointer (some (OI w.heap.size 9))) ?_;refine Tk 1 (.bool m.over) ?_;refine Tk 2 (.pointer (some (OI w.heap.size 10))) ?_;(try simp[Act.put]);refine Tk 3 (.int .i64 m.fin) ?_;refine Tk 4 (.pointer (some (OI w.heap.size 11))) ?_;refine Tk 5 (.string m.text) ?_;(try simp[Act.put]);refine Tk 6 (.pointer (some (OI w.heap.size 6))) ?_;refine Tk 7 (.int .i64 m.kind) ?_;refine Tk 9 (.pointer (some (OI w.heap.size 7))) ?_;(try simp[Act.put]);refine Tk 10 (.string m.name) ?_;(try simp[Act.put]);refine Tr 8 rfl fun KK hK=>?_
  go_simp;(go_at_call 43;refine(F.out _).mono ?_;rintro e w2 ⟨rfl,rfl⟩);go_wp2;refine hK.out _ _ I fun _=>?_
  clear hK;(try simp[Act.put]);refine Tk 11 (.agg (Ff m.over m.fin m.text s m.name 0 Fs Fs)) ?_;(try simp[Act.put]);refine Tr 12 rfl fun KK hK=>?_
  go_simp;(go_at_call 42;refine(H.out _ (Below.refl _ _).drew).mono ?_;rintro e w3 ⟨xa,xc,ya,yc,rfl,N,O,K⟩;have k:=f.out w3 ((Below.refl _ R).drew.trans K);obtain⟨⟨u,x,y,z,B,C,D,E⟩,V,W,X,Z,f4,f5,f6,f7⟩:=Ey k.an);go_wp2;refine hK.out _ _ (G.out _ k.mb) fun _=>?_
  clear hK;(try simp[Act.put]);have r:w.heap.size+2<=R.drew.heap.size:=(f.out R (Below.refl _ _)).lo;refine Tr 13 rfl fun KK hK=>?_
  go_simp;refine hK.out _ _ (G.out _ (((Qge w w3 _ _ _ _ _ _ _ _ k.be).2.2 _ Ou).trans k.mb)) fun _=>?_
  clear hK;(try simp[Act.put]);refine wpAnyH_done OA ?_ _;clear I;go_wp2_with fail;exact bodyPost_ret (v:=.agg (Ff (Kb m).over (Kb m).code (Kb m).text (Kb m).kind (Kb m).name (Kb m).steps (.slice xa (Kb m).files.length xc) (.slice ya (Kb m).said.length yc))) (by simp[results,Tryz.results11,go_sem,u,x,y,z,B,C,D,E]) rfl (by rw[M.out];exact Mw k.be (Ch N r) (Ch O r))
def Q2 (w:World) (ao:Option Addr) (m:Nat) (news:List Value):Prop:=0 < m->∃ ad,ao=some ad/\∀ j u,news[j]? = some u->w.cell? (ad.add j)=some u
theorem Ll {P:Program} {w:World} (base:Nat) (t ty e:TypeId) (i:TypeInfo) (z:Value) (size bytes:Nat) (ht:P.underlying t=some (.slice e)) (hi:P.info? e=some i) (hz:i.zero=some z) (hsize:i.size=size) (hby:i.bytes=bytes) (hzs:z.cells.size=size) (hs0:0 < size)
  (v:Value) (n:Nat) (xs:List Value) (hown:w.ownsRow base e size v n xs) (ao:Option Addr) (m c:Nat) (news:List Value) (hlen:news.length=m * size) (hsrc:Q2 w ao m news) (h1c:∀ u ∈ news,u.oneCell'=true) (b1:n+m<=maxLen) (b2:(n+m) * bytes<=140737488355328) (hbase:base<=w.heap.size) :
  ∃ a w',(Builtin.append_ #[t,t] ty #[v,.slice ao m c]).run P w = .ok a w'/\w'.ownsRow base e size a (n+m) (xs++news)/\w.grownBy w' v.ownBlock:=by
 by_cases h0:m=0
 ·subst h0;have j:news=[]:=List.eq_nil_of_length_eq_zero Ou;subst j;refine⟨v,w,Ky base t ty e i size ht hi v n _ hown ao c, ?_,⟨rfl,rfl,rfl,Nat.le_refl _,fun _ _ _=>rfl⟩⟩;simpa using hown
 ·obtain⟨b,rfl,h⟩:=hsrc Ou;obtain⟨a,w',d,f,g,_⟩:=run_append_own_at (P:=P) (w:=w) base t ty e i z size bytes ht hi hz hsize hby hzs hs0 v n xs hown b m c news hlen h h1c b1 b2 hbase;exact⟨a,w',d,f,g⟩
theorem Q4 {P:Program} {w:World} {ops:Array Oper} {rest:List Oper} {o:Oper} {a:Act} {Q:Exit->Act->World->Prop} (hgd:o.guard=none) (s x:Operand) (t:TypeId)
  (ho:o.op = .call { callee:=.builtin .append,args := #[s,x],argTypes := #[t,t] }) (base:Nat) (e:TypeId) (i:TypeInfo) (z:Value) (size bytes:Nat) (ht:P.underlying t=some (.slice e)) (hi:P.info? e=some i) (hz:i.zero=some z) (hsize:i.size=size) (hby:i.bytes=bytes) (hzs:z.cells.size=size) (hs0:0 < size)
  (v:Value) (n:Nat) (xs:List Value) (hs:a.eval s=v) (hown:w.ownsRow base e size v n xs) (ao:Option Addr) (m c:Nat) (hx:a.eval x = .slice ao m c) (news:List Value) (hlen:news.length=m * size) (hsrc:Q2 w ao m news) (h1c:∀ u ∈ news,u.oneCell'=true) (b1:n+m<=maxLen) (b2:(n+m) * bytes<=140737488355328) (hbase:base<=w.heap.size)
  (h:∀ b w',w'.ownsRow base e size b (n+m) (xs++news)->w.grownBy w' v.ownBlock->wpList P ops Q rest (a.put o.dst b) w') :
  wpList P ops Q (o::rest) a w:=by
 refine wpList_plain hgd fun K hK => ?_
 obtain⟨b,w',g,d,f⟩:=Ll (P:=P) (w:=w) base t o.type e i z size bytes ht hi hz hsize hby hzs hs0 v n xs hown ao m c news hlen hsrc h1c b1 b2 hbase;unfold Oper.wp execOp;simp only[ho,resolve,invoke,builtin,Sem.run_bind,Sem.run_pure,Result.andThen_ok,List.map_toArray,List.map_cons,List.map_nil,hs,hx,g];exact hK _ _ (h b w' d f)
theorem Iq {P:Program} {ops:Array Oper} {o:Oper} {a:Act} {w:World} {K:Act->World->Prop} {Q:Exit->Act->World->Prop} {E:Prop}
  (hg:o.guard=none) (s x:Operand) (t:TypeId) (hop:o.op=Op.call { callee:=Callee.builtin Builtin.append,args := #[s,x],argTypes := #[t,t] })
  (base:Nat) (e:TypeId) (i:TypeInfo) (z:Value) (size bytes:Nat) (ht:P.underlying t=some (.slice e)) (hi:P.info? e=some i) (hz:i.zero=some z) (hsize:i.size=size) (hby:i.bytes=bytes) (hzs:z.cells.size=size) (hs0:0 < size)
  (v:Value) (n:Nat) (xs:List Value) (hs:a.eval s=v) (hown:w.ownsRow base e size v n xs) (ao:Option Addr) (m c:Nat) (hx:a.eval x = .slice ao m c) (news:List Value) (hlen:news.length=m * size) (hsrc:Q2 w ao m news) (h1c:∀ u ∈ news,u.oneCell'=true) (b1:n+m<=maxLen) (b2:(n+m) * bytes<=140737488355328) (hbase:base<=w.heap.size)
  (hK:∀ b w',w'.ownsRow base e size b (n+m) (xs++news)->w.grownBy w' v.ownBlock->K (a.put o.dst b) w') :
  if Region.wanted o (yielded ops a.tmps)=true then Oper.wp P o a w K Q else E:=by
 have h:Region.wanted o (yielded ops a.tmps)=true:=by simp[Region.wanted,hg]
 rw[if_pos h];obtain⟨b,w',g,d,f⟩:=Ll (P:=P) (w:=w) base t o.type e i z size bytes ht hi hz hsize hby hzs hs0 v n xs hown ao m c news hlen hsrc h1c b1 b2 hbase;unfold Oper.wp execOp;simp only[hop,resolve,invoke,builtin,Sem.run_bind,Sem.run_pure,Result.andThen_ok,List.map_toArray,List.map_cons,List.map_nil,hs,hx,g];exact hK b w' d f
theorem Pw {w:World} {a:Option Addr} {cp:Nat} {xs:List ByteArray} (h:Dw w (.slice a xs.length cp) xs):Q2 w a xs.length (xs.map Value.string):=fun h0=>by
 obtain⟨l,i,e,f⟩:=h
 injection e with e1 d e3
 subst e1
 obtain⟨g,o,rfl,-,-⟩:=f 0 h0
 refine⟨(OI g o),rfl,fun j u hj => ?_⟩
 have c:j < xs.length:=by have:=(List.getElem?_eq_some_iff.1 hj).1;simpa using this
 obtain⟨m,n,d,-,b⟩:=f j c
 injection d with d
 injection d with e3 e4
 subst e3;subst e4
 have k:u = .string xs[j]:=by simp[c]at hj;exact hj.symm
 subst k
 by_cases hj0:j=0
 ·subst hj0;simpa[Addr.add]using b
 ·simpa[Addr.add,hj0]using b
theorem Qcf {w:World} {a:Option Addr} {cp:Nat} {xs:List Dg} (h:Gc w (.slice a xs.length cp) xs):Q2 w a xs.length (Di xs):=fun h0=>by
 have k:=Qco h
 obtain⟨g,o,rfl,-,-⟩:=k 0 h0
 refine⟨(OI g o),rfl,fun j u hj => ?_⟩
 have m:j < xs.length * 2:=by have:=(List.getElem?_eq_some_iff.1 hj).1;rw[Ls]at this;exact this
 obtain⟨n,p,d,-,f,i⟩:=k (j / 2) Ou
 injection d with d
 injection d with e3 e4
 subst e3;subst e4
 have c:=Oi xs (j / 2) Ou
 have b:w.cell? (OI g (o+j))=some u:=by
  have l:j % 2=0\/j % 2=1:=Ou
  rcases l with e|e
  ·rw[show j / 2 * 2=j by omega]at c f;rw[c.1]at hj;rw[f,hj]
  ·rw[show j / 2 * 2+1=j by omega]at c;rw[show o+j / 2 * 2+1=o+j by omega]at i;rw[c.2]at hj;rw[i,hj]
 by_cases hj0:j=0
 ·subst hj0;simpa[Addr.add]using b
 ·simpa[Addr.add,hj0]using b
theorem Mv (W:World) (B e size:Nat) (h:B<=W.heap.size):(W.alloc (.cells #[] e)).ownsRow B e size (.slice (some (OI W.heap.size 0)) 0 0) 0 [] :=
 ⟨by simp,.inr ⟨W.heap.size,0,#[],rfl,h,Ae W _,by omega,by unfold maxLen;omega,by simp,by simp⟩⟩
theorem Ix {w w':World} {A e size n:Nat} {v:Value} {xs:List Value} (h:w.ownsRow A e size v n xs) (hk:∀ k,v.ownBlock=some k->w'.heap[k]? = w.heap[k]?):w'.ownsRow A e size v n xs:=by
 refine⟨h.1, ?_⟩;rcases h.2 with f|⟨g,a,b,rfl,d,c,rest⟩
 ·exact .inl f
 ·exact .inr ⟨g,a,b,rfl,d,(hk g rfl).trans c,rest⟩
theorem Q3 {w:World} {A e t size n g:Nat} {v:Value} {xs:List Value} {cs:Array Value} (h:w.ownsRow A e size v n xs) (hg:w.heap[g]? = some (.cells cs t)) (ne:e≠t):v.ownBlock≠some g:=fun hv=>by
 rcases h.2 with⟨rfl,-⟩|⟨d,a,b,rfl,-,c,-⟩
 ·cases hv
 ·injection hv with hv
  subst hv
  rw[c]at hg
  injection hg with hg;injection hg with _ hg
  exact ne hg
structure Vf (w V:World) (g:Nat) (arr ma z8:Array Value) (v:Value) (xs:List ByteArray):Prop where
 ot:V.heap[g]? = some (.cells arr 39)
 bl:Lk w V ma z8
 sd:V.ownsRow (w.heap.size+2) 9 1 v xs.length (xs.map Value.string)
 lo:w.heap.size+2<=g
theorem Vf.call {w V U:World} {g:Nat} {arr ma z8:Array Value} {v:Value} {xs:List ByteArray} (h:Vf w V g arr ma z8 v xs) (hb:OH V U):Vf w U g arr ma z8 v xs :=
 ⟨(hb.block _ (Array.getElem?_eq_some_iff.1 h.ot).1).trans h.ot,h.bl.call hb,By h.sd (Nat.le_refl _) (Bf.below hb),h.lo⟩
theorem Vf.set {w V:World} {g:Nat} {arr ma z8:Array Value} {v:Value} {xs:List ByteArray} (h:Vf w V g arr ma z8 v xs) (k:Nat) (x:Value):Vf w (V.setCell (OI g k) x) g (arr.setIfInBounds k x) ma z8 v xs :=
 ⟨Qg2 h.ot,⟨(Below.heap_setCell _ _ _ _ (by have:=h.lo;simp only;omega)).trans h.bl.mb,(Below.heap_setCell _ _ _ _ (by have:=h.lo;simp only;omega)).trans h.bl.an,by simp;exact h.bl.lo,h.bl.be.setCell (p:=(OI g k)) (by have:=h.lo;simp only;omega) x⟩,
  Ix h.sd (fun j hj=>Below.heap_setCell _ _ _ _ (fun e=>Q3 h.sd h.ot Ov (by rw[hj,e]))),h.lo⟩
abbrev Nd (m:Ds) (ma:Array Value) (w V:World) (g:Nat) (arr:Array Value) (v:Value):Prop:=Vf w V g arr ma F8 v m.said
abbrev Vj (m:Ds) (b:Bool) (ca aa oa fa ia sa:Option Addr) (cc ac oc fc ic sc:Nat):Array Value := #[.slice ca m.codes.length cc,.slice aa m.args.length ac,.slice oa m.outs.length oc,.slice fa m.frames.length fc,.int .i64 m.steps,.int .i64 m.looks,.int .i64 m.kind,.string m.name,.string m.hold,.bool b,.int .i64 m.fin,.string m.text,.slice ia m.files.length ic,.slice sa m.said.length sc]
theorem Pv {l:List ByteArray}:∀ u ∈ l.map Value.string,u.oneCell'=true:=fun u hu=>by
 obtain⟨y,-,rfl⟩:=List.mem_map.1 hu;rfl
theorem Qce {l:List Dg}:∀ u ∈ Di l,u.oneCell'=true:=fun u hu=>by
 obtain⟨y,-,h⟩:=List.mem_flatMap.1 hu
 simp only[Tp,List.mem_cons,List.not_mem_nil,or_false]at h
 rcases h with rfl|rfl <;> rfl
theorem Qcd {b:ByteArray} (h:b.toList=[]):b=⟨#[]⟩:=by
 rw[ByteArray.toList_eq]at h;exact ByteArray.ext (Array.toList_inj.1 (by rw[h]))
theorem Qd3 {m:Ds} (hv:Gk m) (ho:m.over=true):Kb m=⟨true,m.fin,m.text,0,⟨#[]⟩,m.steps,m.files,m.said⟩:=by
 obtain⟨-,-,-,⟨-,⟨-,-,b,c,-⟩,-,-,a⟩|⟨h,-⟩⟩:=hv
 ·rw[Kb,ho,b,Qcd c];rcases a with h|h
  ·simp[h]
  ·rw[List.eq_nil_of_length_eq_zero h];simp
 ·rw[ho]at h;cases h
theorem Vk {m:Ds} (hv:Gk m) (ho:m.over=false):Kb m=⟨false,0,⟨#[]⟩,if m.kind=4 then 1 else m.kind,m.name,m.steps,[],m.said⟩:=by
 obtain⟨-,-,-,⟨h,-⟩|⟨-,-,-,-,-,-,a,b,-⟩⟩:=hv
 ·rw[ho]at h;cases h
 ·rw[Kb,ho,a,Qcd b];simp
theorem Z8 (m:Ds) (ca aa oa fa ia sa:Option Addr) (cc ac oc fc ic sc:Nat) (A:Nat) (hs:H4 m) (w:World) (hM:Gd A w m ca aa oa fa ia sa cc ac oc fc ic sc) :
  Calls Tryz.prog 10 #[.agg (Dc m ca aa oa fa ia sa cc ac oc fc ic sc)] w (Vg (Ip m) w):=by
 obtain⟨Y,hY⟩:∃ Y,(w.alloc (.cells (Dc m ca aa oa fa ia sa cc ac oc fc ic sc) 34)).alloc (.cells F8 39)=Y:=⟨_,rfl⟩;have HA:Hid (Lk w Y (Dc m ca aa oa fa ia sa cc ac oc fc ic sc) F8):=by rw[Hid,<- hY];exact Lk.new w _ _
 have HV:Hid (Calls Tryz.prog 6 #[.agg (Dc m ca aa oa fa ia sa cc ac oc fc ic sc)] Y (Eh (Gk m) Y)):=Qak m ca aa oa fa ia sa cc ac oc fc ic sc A hs Y (hM.below HA.out.be);have HF:Hid (∀ U,OH w U->Gc U (.slice ia m.files.length ic) m.files/\Dw U (.slice sa m.said.length sc) m.said):=fun U hU=>⟨(Jw hM.files rfl).below hU,(Gm hM.said rfl).below hU⟩
 have bl:m.said.length<=1048576:=hs.said.1;have bk:m.files.length<=1048576:=hs.files.1;clear hM hs;obtain⟨⟨y0,y1,y2,y3,y4,y5,y6,y7,y8,y9,a8,a9,ba,bb⟩,-⟩:=Ew HA.out.mb;unfold F8 Ff Dc at hY;unfold Dc;go_enter Tryz.func10,Tryz.ntmps10;go_wp2_with (go_at_call 6;refine HV.out.mono ?_;rintro e f ⟨b,rfl,ax,n⟩;have A1:Hid (Lk w f (Dc m ca aa oa fa ia sa cc ac oc fc ic sc) F8):=HA.out.call n;have HB:Hid (b=true ↔ Gk m):=ax;clear ax n HA HV y0 y1 y2 y3 y4 y5 y6 y7 y8 y9 a8 a9 ba bb;obtain⟨⟨z0,z1,z2,z3,z4,z5,z6,z7⟩,f0,f1,f2,f3,f4,f5,f6,f7⟩:=Ey A1.out.an;cases b)
 ·have hn:Hid (Ip m=Qgh):=by rw[Hid,Ip,if_neg (fun h=>by have:=HB.out.2 h;cases this)]
  exact bodyPost_ret (v:=.agg F8) (by simp[results,Tryz.results10,go_sem,z0,z1,z2,z3,z4,z5,z6,z7]) rfl (by rw[hn.out];exact Mw A1.out.be (Hv _ _ _ _) (Hv _ _ _ _))
 ·have hv:Gk m:=HB.out.1 OB;have hn:Hid (Ip m=Kb m):=by rw[Hid,Ip,if_pos hv]
  clear z0 f0 z1 f1 z2 f2 z3 f3 z4 f4 z5 f5 z6 f6 z7 f7 HB;go_cut [3] (fun s3 wx => ∃ g k l,s3 = .pointer (some (OI g 0))/\Nd m (Dc m ca aa oa fa ia sa cc ac oc fc ic sc) w wx g (Ff m.over 0 ⟨#[]⟩ 0 ⟨#[]⟩ m.steps Fs (.slice k m.said.length l)) (.slice k m.said.length l));case first =>
   obtain⟨i0,W,X,Z,ab⟩:=info_parts Pu;have o:Hid (∀ U,OH f U->Lk w U (Dc m ca aa oa fa ia sa cc ac oc fc ic sc) F8):=fun U hU=>A1.out.call hU
   obtain⟨S,hS⟩:∃ S:World->Prop,S=fun w'=>w'.cell? (OI w.heap.size 4)=some (.int .i64 m.steps)/\w'.cell? (OI w.heap.size 9)=some (.bool m.over)/\w'.cell? (OI w.heap.size 13)=some (.slice sa m.said.length sc):=⟨_,rfl⟩
   have y:Hid (∀ U:World,U.heap[w.heap.size]? = some (.cells (Dc m ca aa oa fa ia sa cc ac oc fc ic sc) 34)->S U):=fun U q=>by
    subst hS;obtain⟨⟨-,-,-,-,a,-,-,-,-,b,-,-,-,c⟩,-⟩:=Ew q;exact⟨a,b,c⟩
   have J:OH f f.drew:=(Below.refl _ _).drew;have HL:Hid (w.heap.size+2<=f.heap.size):=A1.out.lo;clear A1;go_wp2_with fail;refine wp_region_held_drew (S:=S) OA (y.out _ (o.out _ J).mb) fun _=>?_
   subst hS;refine Tk 0 (.pointer (some (OI w.heap.size 9))) ?_;refine Tk 1 (.bool m.over) ?_;refine Tk 2 (.pointer (some (OI w.heap.size 4))) ?_;(try simp[Act.put]);refine Tk 3 (.int .i64 m.steps) ?_;refine Tk 5 (.pointer (some (OI w.heap.size 13))) ?_;refine Tk 6 (.slice sa m.said.length sc) ?_;(try simp[Act.put]);refine wpAnyH_ready (rs:=[4,9]) OA OB ?_;refine AllReadyH.cons rfl (fun KK hK => ?_) (AllReadyH.cons rfl (fun KK hK => ?_) AllReadyH.nil);go_simp;have n:OH f (f.drew.alloc (.cells #[] 9)):=J.alloc J.size _;refine hK.out _ _ (y.out _ (o.out _ n).mb) fun _=>?_
   clear hK;(try simp[Act.put]);refine wpAnyH_ready (rs:=[7,9]) OA OB ?_;refine AllReadyH.cons rfl (fun KK hK => ?_) (AllReadyH.cons rfl (fun KK hK => ?_) AllReadyH.nil);have i:(f.drew.alloc (.cells #[] 9)).ownsRow f.heap.size 9 1 (.slice (some (OI f.heap.size 0)) 0 0) 0 []:=Mv f.drew _ _ _ (Nat.le_refl _);refine Iq rfl (.tmp 12) (.tmp 14) 23 rfl f.heap.size 9 i0 (.string ByteArray.empty) 1 16 Tryz.underlying23 W X Z ab rfl Ov _ 0 [] rfl i sa m.said.length sc rfl (m.said.map Value.string) OB (Pw (HF.out _ ((o.out _ n).be)).2) Pv OF Ou n.size ?_;intro v3 t d s;rw[Nat.zero_add,List.nil_append]at d;obtain⟨k,l,u⟩:=Cp d;subst u;have r:OH f t:=n.grown s n.size (Iw i);refine hK.out _ _ (y.out _ (o.out _ r).mb) fun _=>?_
   clear hK;(try simp[Act.put]);refine Tk 8 (.agg (Ff m.over 0 ⟨#[]⟩ 0 ⟨#[]⟩ m.steps Fs (.slice k m.said.length l))) ?_;(try simp[Act.put]);refine Tr 9 rfl fun KK hK=>?_
   go_simp;have a2:OH f (t.alloc (.cells F8 39)):=r.alloc r.size _;refine hK.out _ _ (y.out _ (o.out _ a2).mb) fun _=>?_
   clear hK;(try simp[Act.put]);refine Tr 10 rfl fun KK hK=>?_
   have O5:Nd m (Dc m ca aa oa fa ia sa cc ac oc fc ic sc) w (t.alloc (.cells (Ff m.over 0 ⟨#[]⟩ 0 ⟨#[]⟩ m.steps Fs (.slice k m.said.length l)) 39)) t.heap.size (Ff m.over 0 ⟨#[]⟩ 0 ⟨#[]⟩ m.steps Fs (.slice k m.said.length l)) (.slice k m.said.length l):=⟨Ae t _,(o.out t r).call (Ao t _),(Ch d HL.out).alloc _,Nat.le_trans HL.out r.size⟩;go_simp;refine hK.out _ _ (y.out _ O5.bl.mb) fun _=>?_
   clear hK;(try simp[Act.put]);refine wpAnyH_done OA ?_ _;go_wp2_with fail;go_meet;case rel=>exact⟨_,_,_,rfl,O5⟩
   go_simp;have p:OH f ((f.drew.alloc (.cells #[] 9)).alloc (.cells F8 39)):=n.alloc n.size _;refine hK.out _ _ (y.out _ (o.out _ p).mb) fun _=>?_
   clear hK;(try simp[Act.put]);refine Tr 7 rfl fun KK hK=>?_
   have i:((f.drew.alloc (.cells #[] 9)).alloc (.cells F8 39)).ownsRow f.heap.size 9 1 (.slice (some (OI f.heap.size 0)) 0 0) 0 []:=(Mv f.drew f.heap.size 9 1 (Nat.le_refl _)).alloc _;refine Iq rfl (.tmp 12) (.tmp 14) 23 rfl f.heap.size 9 i0 (.string ByteArray.empty) 1 16 Tryz.underlying23 W X Z ab rfl Ov _ 0 [] rfl i sa m.said.length sc rfl (m.said.map Value.string) OB (Pw (HF.out _ ((o.out _ p).be)).2) Pv OF Ou p.size ?_;intro v3 t d s;rw[Nat.zero_add,List.nil_append]at d;obtain⟨k,l,u⟩:=Cp d;subst u;have r:OH f t:=p.grown s p.size (Iw i);refine hK.out _ _ (y.out _ (o.out _ r).mb) fun _=>?_
   clear hK;(try simp[Act.put]);refine Tk 8 (.agg (Ff m.over 0 ⟨#[]⟩ 0 ⟨#[]⟩ m.steps Fs (.slice k m.said.length l))) ?_;(try simp[Act.put]);have ad:t.heap[f.heap.size+1]? = some (.cells F8 39):=(s.block _ OB (fun h=>by have h2:some (f.heap.size+1)=some (f.heap.size):=h;injection h2 with h2;omega)).trans (by have h:=Ae (f.drew.alloc (.cells #[] 9)) (.cells F8 39);rw[World.size_alloc]at h;exact h);rotate_left;go_simp;have n:OH f (f.drew.alloc (.cells F8 39)):=J.alloc J.size _;refine hK.out _ _ (y.out _ (o.out _ n).mb) fun _=>?_
   clear hK;(try simp[Act.put]);refine Tr 4 rfl fun KK hK=>?_
   go_simp;have p:OH f ((f.drew.alloc (.cells F8 39)).alloc (.cells #[] 9)):=n.alloc n.size _;refine hK.out _ _ (y.out _ (o.out _ p).mb) fun _=>?_
   clear hK;(try simp[Act.put]);refine Tr 7 rfl fun KK hK=>?_
   have i:((f.drew.alloc (.cells F8 39)).alloc (.cells #[] 9)).ownsRow f.heap.size 9 1 (.slice (some (OI (f.heap.size+1) 0)) 0 0) 0 []:=(by have h:=Mv (f.drew.alloc (.cells F8 39)) f.heap.size 9 1 n.size;rw[World.size_alloc]at h;exact h);refine Iq rfl (.tmp 12) (.tmp 14) 23 rfl f.heap.size 9 i0 (.string ByteArray.empty) 1 16 Tryz.underlying23 W X Z ab rfl Ov _ 0 [] rfl i sa m.said.length sc rfl (m.said.map Value.string) OB (Pw (HF.out _ ((o.out _ p).be)).2) Pv OF Ou p.size ?_;intro v3 t d s;rw[Nat.zero_add,List.nil_append]at d;obtain⟨k,l,u⟩:=Cp d;subst u;have r:OH f t:=p.grown s p.size (Iw i);refine hK.out _ _ (y.out _ (o.out _ r).mb) fun _=>?_
   clear hK;(try simp[Act.put]);refine Tk 8 (.agg (Ff m.over 0 ⟨#[]⟩ 0 ⟨#[]⟩ m.steps Fs (.slice k m.said.length l))) ?_;(try simp[Act.put]);have ad:t.heap[f.heap.size]? = some (.cells F8 39):=(s.block _ OD (fun h=>by have h2:some (f.heap.size)=some (f.heap.size+1):=h;injection h2 with h2;omega)).trans (((Ao (f.drew.alloc (.cells F8 39)) _).block _ OB).trans (Ae f.drew _));all_goals
    refine Tr 10 rfl fun KK hK=>?_
    have L:Nd m (Dc m ca aa oa fa ia sa cc ac oc fc ic sc) w t _ F8 (.slice k m.said.length l):=⟨ad,o.out t r,Ch d HL.out,by have:=HL.out;omega⟩;have O5:=(((((((L.set 0 (.bool m.over)).set 1 (.int .i64 0)).set 2 (.string ⟨#[]⟩)).set 3 (.int .i64 0)).set 4 (.string ⟨#[]⟩)).set 5 (.int .i64 m.steps)).set 6 Fs).set 7 (.slice k m.said.length l);obtain⟨⟨q0,q1,q2,q3,q4,q5,q6,q7⟩,r0,r1,r2,r3,r4,r5,r6,r7⟩:=Ey ad;go_simp;refine hK.out _ _ (y.out _ O5.bl.mb) fun _=>?_
    clear hK;(try simp[Act.put]);refine wpAnyH_done OA ?_ _;go_wp2_with fail;go_meet;case rel=>exact⟨_,_,_,rfl,O5⟩
  case rest =>
   obtain⟨g,k,l,rfl,hO⟩:=hcut;have O:Hid (Nd m (Dc m ca aa oa fa ia sa cc ac oc fc ic sc) w wc g (Ff m.over 0 ⟨#[]⟩ 0 ⟨#[]⟩ m.steps Fs (.slice k m.said.length l)) (.slice k m.said.length l)):=hO;clear hO;obtain⟨ov,M⟩:∃ b,Hid (m.over=b):=⟨_,(rfl:m.over=_)⟩;unfold Nd Ff Dc at O;rw[M.out]at O |-
   cases ov
   rotate_left
   ·obtain⟨⟨-,-,-,-,-,-,-,-,-,x9,bn,-⟩,-⟩:=Ew O.out.bl.mb;obtain⟨⟨-,q1,-⟩,-,r1,-⟩:=Ey O.out.ot;obtain⟨V1,R⟩:∃ V,wc.setCell (OI g 1) (.int .i64 m.fin)=V:=⟨_,rfl⟩;have Q:Hid (Nd m (Vj m true ca aa oa fa ia sa cc ac oc fc ic sc) w V1 g (Ff true m.fin ⟨#[]⟩ 0 ⟨#[]⟩ m.steps Fs (.slice k m.said.length l)) (.slice k m.said.length l)):=(by rw[Hid,<- R];exact O.out.set 1 (.int .i64 m.fin));obtain⟨⟨-,-,-,-,-,-,-,-,-,-,-,bo,-⟩,-⟩:=Ew Q.out.bl.mb;obtain⟨⟨-,-,q2,-⟩,-,-,r2,-⟩:=Ey Q.out.ot;obtain⟨x,T⟩:∃ V,V1.setCell (OI g 2) (.string m.text)=V:=⟨_,rfl⟩;have z:Hid (Nd m (Vj m true ca aa oa fa ia sa cc ac oc fc ic sc) w x g (Ff true m.fin m.text 0 ⟨#[]⟩ m.steps Fs (.slice k m.said.length l)) (.slice k m.said.length l)):=(by rw[Hid,<- T];exact Q.out.set 2 (.string m.text));obtain⟨j0,a3,a5,a6,a7⟩:=info_parts N7;obtain⟨W2,av⟩:∃ V,x.alloc (.cells #[] 55)=V:=⟨_,rfl⟩;have K:OH x W2:=(by rw[<- av];exact Ao x _);have i:W2.ownsRow x.heap.size 55 2 (.slice (some (OI x.heap.size 0)) 0 0) 0 []:=(by rw[<- av];exact Mv x _ _ _ (Nat.le_refl _));have az:Hid (Q2 W2 ia m.files.length (Di m.files)):=Qcf (HF.out W2 (z.out.call K).bl.be).1;obtain⟨⟨-,-,-,-,-,-,-,-,-,-,-,-,bp,-⟩,-⟩:=Ew (z.out.call K).bl.mb;have a0:Hid (OH x W2):=K;have aw:=K.size;clear K;go_wp2_with (at_builtin;refine Q4 rfl _ _ 32 rfl x.heap.size 55 j0 (.agg #[.string ByteArray.empty,.string ByteArray.empty]) 2 32 Tryz.underlying32 a3 a5 a6 a7 rfl Ov _ 0 [] rfl i ia m.files.length ic rfl (Di m.files) (by rw[Ls]) az.out Qce OF Ou aw ?_;intro v3 t d s;rw[Nat.zero_add,List.nil_append]at d;obtain⟨ya,yc,u⟩:=Cp d;subst u;have L:Hid (Nd m (Vj m true ca aa oa fa ia sa cc ac oc fc ic sc) w t g (Ff true m.fin m.text 0 ⟨#[]⟩ m.steps Fs (.slice k m.said.length l)) (.slice k m.said.length l)):=z.out.call (a0.out.grown s aw (Iw i));obtain⟨⟨-,-,-,-,-,-,q6,-⟩,-,-,-,-,-,-,r6,-⟩:=Ey L.out.ot;obtain⟨V3,N⟩:∃ V,t.setCell (OI g 6) (.slice ya m.files.length yc)=V:=⟨_,rfl⟩;have O4:Hid (Nd m (Vj m true ca aa oa fa ia sa cc ac oc fc ic sc) w V3 g (Ff true m.fin m.text 0 ⟨#[]⟩ m.steps (.slice ya m.files.length yc) (.slice k m.said.length l)) (.slice k m.said.length l)):=(by rw[Hid,<- N];exact L.out.set 6 (.slice ya m.files.length yc));have ay:Hid (V3.ownsRow (w.heap.size+2) 55 2 (.slice ya m.files.length yc) m.files.length (Di m.files)):=(by rw[Hid,<- N];exact Ix (Ch d z.out.bl.lo) (fun j hj=>Below.heap_setCell _ _ _ _ (fun e=>Q3 d L.out.ot Ov (by rw[hj,e]))));obtain⟨⟨am,an,ao,a1,ap,aq,ar,au⟩,-⟩:=Ey O4.out.ot;obtain⟨⟨B,C,D,E,F,G,H,I⟩,ae,af,ag,ah,ai,aj,ak,al⟩:=Ey O4.out.bl.an;clear d s);exact bodyPost_ret (v:=.agg (Ff true m.fin m.text 0 ⟨#[]⟩ m.steps (.slice ya m.files.length yc) (.slice k m.said.length l))) (by simp[results,Tryz.results10,go_sem,B,C,D,E,F,G,H,I]) rfl (by rw[hn.out,Qd3 hv M.out];exact Mw O4.out.bl.be ay.out O4.out.sd)
   ·obtain⟨⟨-,-,-,-,-,-,x6,-,-,x9,-⟩,-⟩:=Ew O.out.bl.mb;obtain⟨⟨-,-,-,q3,-⟩,-,-,-,r3,-⟩:=Ey O.out.ot;obtain⟨V1,R⟩:∃ V,wc.setCell (OI g 3) (.int .i64 m.kind)=V:=⟨_,rfl⟩;have Q:Hid (Nd m (Vj m false ca aa oa fa ia sa cc ac oc fc ic sc) w V1 g (Ff false 0 ⟨#[]⟩ m.kind ⟨#[]⟩ m.steps Fs (.slice k m.said.length l)) (.slice k m.said.length l)):=(by rw[Hid,<- R];exact O.out.set 3 (.int .i64 m.kind));obtain⟨⟨-,-,-,-,-,-,-,x7,-⟩,-⟩:=Ew Q.out.bl.mb;obtain⟨⟨-,-,-,-,q4,-⟩,-,-,-,-,r4,-⟩:=Ey Q.out.ot;obtain⟨x,T⟩:∃ V,V1.setCell (OI g 4) (.string m.name)=V:=⟨_,rfl⟩;have z:Hid (Nd m (Vj m false ca aa oa fa ia sa cc ac oc fc ic sc) w x g (Ff false 0 ⟨#[]⟩ m.kind m.name m.steps Fs (.slice k m.said.length l)) (.slice k m.said.length l)):=(by rw[Hid,<- T];exact Q.out.set 4 (.string m.name));obtain⟨⟨-,-,-,-,-,-,bq,-⟩,-⟩:=Ew z.out.bl.mb;obtain⟨⟨am,an,ao,a1,ap,aq,ar,au⟩,-,-,-,bm,-⟩:=Ey z.out.ot;by_cases hk:m.kind=4
    ·have a4:(m.kind == 4)=true:=(by simp[hk]);have P:Hid (m.kind=4):=hk;clear hk;obtain⟨V3,N⟩:∃ V,x.setCell (OI g 3) (.int .i64 1)=V:=⟨_,rfl⟩;have L:Hid (Nd m (Vj m false ca aa oa fa ia sa cc ac oc fc ic sc) w V3 g (Ff false 0 ⟨#[]⟩ 1 m.name m.steps Fs (.slice k m.said.length l)) (.slice k m.said.length l)):=(by rw[Hid,<- N];exact z.out.set 3 (.int .i64 1));clear am an ao ap aq ar au;obtain⟨⟨bc,bd,be,bf,bg,bh,bi,bj⟩,-⟩:=Ey L.out.ot;obtain⟨⟨B,C,D,E,F,G,H,I⟩,ae,af,ag,ah,ai,aj,ak,al⟩:=Ey L.out.bl.an;go_wp2_with fail;exact bodyPost_ret (v:=.agg (Ff false 0 ⟨#[]⟩ 1 m.name m.steps Fs (.slice k m.said.length l))) (by simp[results,Tryz.results10,go_sem,B,C,D,E,F,G,H,I]) rfl (by rw[hn.out,Vk hv M.out,if_pos P.out];exact Mw L.out.bl.be (Hv _ _ _ _) L.out.sd)
    ·have a4:(m.kind == 4)=false:=(by simp[hk]);have P:Hid (¬ m.kind=4):=hk;clear hk;obtain⟨⟨B,C,D,E,F,G,H,I⟩,ae,af,ag,ah,ai,aj,ak,al⟩:=Ey z.out.bl.an;go_wp2_with fail;exact bodyPost_ret (v:=.agg (Ff false 0 ⟨#[]⟩ m.kind m.name m.steps Fs (.slice k m.said.length l))) (by simp[results,Tryz.results10,go_sem,B,C,D,E,F,G,H,I]) rfl (by rw[hn.out,Vk hv M.out,if_neg P.out];exact Mw z.out.bl.be (Hv _ _ _ _) z.out.sd)
end Go.Proofs.YtahibkjkpmdhgaaGreatDoor
