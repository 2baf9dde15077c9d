import Derived.Test.YtahibkjkpmdhgaaGreatDoorKCfJ
set_option maxRecDepth 100000
set_option maxHeartbeats 4000000
namespace Go.Proofs.YtahibkjkpmdhgaaGreatDoor
open Go.RowKit
theorem Qbr (c:List Af) (f:Af) (i:Az) (at':Nat) (hat:at' < f.ins.length) (ao:f.ins[at']=i) (hil:f.ins.length<=50000) (hcl:c.length<=60) (hpl:∀ g ∈ c,g.params.length<=8) (hok:Aq c f i=true) (X:List Am) (hX:X.length=f.ins.length) (st0:Int) (sb0 kb0:ByteArray) (hst0:D5 (X[at']'Ou)=st0) (hsb0:Eu (X[at']'Ou)=sb0) (hkb0:Et (X[at']'Ou)=kb0) (hst1:st0=1) (s k tk:List Int) (hsbs:sb0=Bt s) (hkbs:kb0=Bt k) (hs:∀ t ∈ s,0<=t/\t<=10) (hsl:s.length=f.slots.toNat) (hs2:s.length<=200) (hkt:∀ t ∈ k,1<=t/\t<=10) (r:Nat) (hreach:Nn c f i s k) (hfns:Pi c) (htk:k.drop r=tk) (hpos:r+(Ax c f i).length=kb0.size) (hk6:kb0.size<=600) (hel:(Ax c f i).length<=8) (ca ia:Option Addr) (cc ic:Nat) (pv wv:Value) (lc gl:Nat) (g:Nat) (w:World) (hIn:Hg c f at' ca ia cc ic lc gl g X pv wv w) :
  Calls Tryz.prog 128 #[.pointer (some (OI g 0)),.int .i64 (at':Int)] w fun e w'=>e = .returned (H6 (Hd c f i at' s k))/\OH w w':=by
 obtain⟨gi,rfl,dk,-⟩:=hIn.ins.cells at' hat;have ar:Hid (Hg c f at' ca (some (OI gi 0)) cc ic lc gl g X pv wv w):=hIn;have HS:Hid (∀ W,OH w W->W.cell? (OI g 6)=some (.slice (some (OI gl 0)) f.ins.length lc)/\W.cell? (OI g 5)=some (.slice (some (OI gi 0)) f.ins.length ic)/\W.cell? (OI gl (at' * 3))=some (.int .i64 st0)/\W.cell? (OI gl (at' * 3+1))=some (.string sb0)/\W.cell? (OI gl (at' * 3+2))=some (.string kb0)/\W.cell? (OI gi (at' * 4))=some (.int .i64 i.op)/\W.cell? (OI gi (at' * 4+1))=some (.int .i64 i.a)/\W.cell? (OI gi (at' * 4+2))=some (.int .i64 i.n)/\W.cell? (OI gi (at' * 4+3))=some (.string i.text)):=fun W hW=>by
  have h:=ar.out.below hW;obtain⟨-,-,-,-,-,u5,u6,-⟩:=h.tr.cells;obtain⟨l0,l1,l2⟩:=h.lays.cells at' Ou;rw[hst0]at l0;rw[hsb0]at l1;rw[hkb0]at l2;obtain⟨g2,e2,-,i0,i1,i2,i3⟩:=h.ins.cells at' hat;injection e2 with e2;injection e2 with e2;subst e2;rw[ao]at i0 i1 i2 i3;exact⟨u6,u5,l0,l1,l2,i0,i1,i2,i3⟩
 have c2:(at':Int) < (f.ins.length:Int):=Ou
 clear hIn ao hst0 hsb0 hkb0;obtain⟨l,a,n,d⟩:=i;simp only at HS;obtain⟨A,M⟩:∃ A,Hid (Ax c f ⟨l,a,n,d⟩=A):=⟨_,(rfl:Ax c f ⟨l,a,n,d⟩=_)⟩;obtain⟨L,HL⟩:∃ L,Hid (A.length=L):=⟨_,(rfl:A.length=_)⟩;rw[M.out,HL.out]at hel hpos;have dv:wrap64 ((kb0.size:Int) - (L:Int))=(r:Int):=(IntWalk.wrap64_in _ Ou).trans Ou;have dt:¬ (r:Int) < 0:=Ou
 have da:Hid (kb0.size<=600):=hk6;have bl:Hid (L<=8):=hel;have br:Hid (r+L=kb0.size):=hpos;obtain⟨P,a6⟩:∃ P,Hid (Ct (A5 ⟨l,a,n,d⟩ at')=P):=⟨_,(rfl:Ct (A5 ⟨l,a,n,d⟩ at')=_)⟩;have cb:Hid (P.length<=2):=by
  rw[Hid,<- a6.out];unfold Ct A5;rw[List.length_map];repeat' (first|split)
  all_goals simp
 obtain⟨bc,bj⟩:∃ b,Hid (decide ((f.ins.length:Int) ∈ P)=b):=⟨_,(rfl:decide ((f.ins.length:Int) ∈ P)=_)⟩;have a5:Hid (∀ W,OH w W->Calls Tryz.prog 129 #[.agg #[.int .i64 l,.int .i64 a,.int .i64 n,.string d],.int .i64 (at':Int)] W fun e w' => ∃ N O,e = .returned (.slice N P.length O)/\Ac w'.heap.size w' (.slice N P.length O) P/\OH W w'):=fun W hW=>by
  have h:=ar.out.below hW;obtain⟨g1,cl⟩:=Hs hok;obtain⟨-,-,-,-,-,-,-,ck,-⟩:=I4 hok;have hh:=Wv ⟨l,a,n,d⟩ at' g1 cl Ou (fun e=>(ck e).1) W h.tab;rw[a6.out]at hh;refine hh.mono ?_;rintro e w' ⟨v,rfl,hi,hb⟩;obtain⟨N,O,rfl,hc⟩:=hi;exact⟨N,O,rfl,⟨N,O,rfl,hc⟩,hb⟩
 have ba:Hid (st0=1):=hst1;have e2:(st0 == 2)=false:=by simp[hst1]
 have c8:(r:Int)<=(kb0.size:Int):=Ou
 have c9:r<=kb0.size:=Ou
 obtain⟨T,hT⟩:∃ T,kb0.extract r kb0.size=T:=⟨_,rfl⟩;have HT:Hid (kb0.extract r kb0.size=T):=hT;have bs:Hid (T.size=L):=by rw[Hid,<- hT,ByteArray.size_extract];omega
 have b2:k.length=kb0.size:=by rw[hkbs,Ck]
 have bb:Hid (T=Bt tk):=by
  rw[Hid,<- hT,hkbs,Ub k r Ou,htk]
 have a0:Hid (∀ t ∈ tk,1<=t/\t<=10):=fun t ht=>by rw[<- htk]at ht;exact hkt t (List.mem_of_mem_drop ht)
 have am:Hid (tk.length=L):=by rw[Hid,<- htk,List.length_drop];omega
 obtain⟨⟨p,ok⟩,HP⟩:∃ p,Hid (Bg c ⟨l,a,n,d⟩ s tk=p):=⟨_,(rfl:Bg c ⟨l,a,n,d⟩ s tk=_)⟩;obtain⟨u,az⟩:∃ x,Hid (Hd c f ⟨l,a,n,d⟩ at' s k=x):=⟨_,(rfl:Hd c f ⟨l,a,n,d⟩ at' s k=_)⟩;have a8:Hid (u=if bc=true then .clash else if C1 A tk=false then .clash else if ok=false\/600 < (Cz (k.take r) p).length then .clash else .known (if l=3 then s.take a.toNat++tk++s.drop (a.toNat+1) else s) (Cz (k.take r) p)):=by
  rw[Hid,<- az.out];exact Qbq c f ⟨l,a,n,d⟩ at' s k A tk r L bc p ok M.out HL.out Ou htk (by rw[a6.out];exact bj.out) HP.out
 have aj:Hid (∀ W,OH w W->Calls Tryz.prog 98 #[.pointer (some (OI g 0)),.agg #[.int .i64 l,.int .i64 a,.int .i64 n,.string d],.string sb0,.string T] W (Gw p ok W)):=fun W hW=>by
  have h:=ar.out.below hW;have hh:=Qbw c hcl f ⟨l,a,n,d⟩ hok s tk hs hsl hs2 a0.out (by rw[am.out,M.out,HL.out]) ca cc _ _ _ _ g W h.tab h.words h.code h.tr;rw[HP.out,<- hsbs,<- bb.out]at hh;exact hh
 have cf:Hid ((ok=false/\p=0)\/(ok=true/\p=0)\/(ok=true/\1<=p/\p<=10/\l≠3)):=by
  have hz:ok=false->p=0:=fun e=>by
   have h:=HP.out;subst e;exact Qds h
  have h3:l=3->p=0:=fun e=>by
   have h:=HP.out;rw[e]at h;simp[Bg]at h;exact h.1.symm
  cases ok with
  | false=>exact .inl ⟨rfl,hz rfl⟩
  | true =>
   by_cases h0:p=0
   ·exact .inr (.inl ⟨rfl,h0⟩)
   ·have h:=Yb hfns hreach hs (by rw[M.out,HL.out];omega) (by rw[M.out,HL.out,show k.length - L=r by omega,htk,HP.out]);rw[M.out,HL.out,show k.length - L=r by omega,htk,HP.out]at h;simp only at h;exact .inr (.inr ⟨rfl,by omega,h.2,fun e=>h0 (h3 e)⟩)
 rw[az.out];have cz:Hid (kb0=Bt k):=hkbs;have al:Hid (sb0=Bt s):=hsbs;have de:Hid (k.drop r=tk):=htk;have cd:Hid (k.length=kb0.size):=b2;have dc:Hid (∀ t ∈ s,0<=t/\t<=10):=hs;have dd:Hid (s.length=f.slots.toNat):=hsl;obtain⟨A0,bt⟩:∃ x,kb0.extract 0 r=x:=⟨_,rfl⟩;have a3:Hid (A0=Bt (k.take r)):=by rw[Hid,<- bt,hkbs,Pn k r Ou]
 have ag:Hid (A0.size=r):=by rw[Hid,<- bt,ByteArray.size_extract];omega
 have ak:Hid (r<=600):=by rw[Hid];omega
 have bh:Hid (l=3->0<=a/\a < sb0.size):=fun e=>by
  obtain⟨-,-,a2,-⟩:=I4 hok;have h:=a2 (.inr e);simp only at h;rw[hsbs,Ck,hsl];omega
 have ci:Hid (sb0.size<=200):=by rw[Hid,hsbs,Ck];exact hs2
 clear hkbs hsbs htk b2 hs hsl hkt hs2 hreach hfns;clear hst1 hk6 hel hpos;go_enter Tryz.func128,Tryz.ntmps128;go_wp2_with fail;go_region_held3 (fun W=>W.cell? (OI g 6)=some (.slice (some (OI gl 0)) f.ins.length lc)/\W.cell? (OI g 5)=some (.slice (some (OI gi 0)) f.ins.length ic)/\W.cell? (OI gl (at' * 3))=some (.int .i64 st0)/\W.cell? (OI gl (at' * 3+1))=some (.string sb0)/\W.cell? (OI gl (at' * 3+2))=some (.string kb0)/\W.cell? (OI gi (at' * 4))=some (.int .i64 l)/\W.cell? (OI gi (at' * 4+1))=some (.int .i64 a)/\W.cell? (OI gi (at' * 4+2))=some (.int .i64 n)/\W.cell? (OI gi (at' * 4+3))=some (.string d)) (exact HS.out _ (by repeat' (first|exact Below.refl _ _|apply Below.drew|refine Below.alloc ?_ ?_ _|refine Below.setCell ?_ ?_ _|exact Nat.le_refl _|(simp;done)|(simp;omega)))) (fail);all_goals first
  | (obtain⟨q0,Z,q2,q3,q4⟩:=Ke w (.cells #[.int .i64 0,.string ⟨#[]⟩,.string ⟨#[]⟩] 150) (.cells #[.int .i64 st0,.string sb0,.string kb0] 150) (.cells #[.int .i64 l,.int .i64 a,.int .i64 n,.string d] 107);obtain⟨W0,ad⟩:∃ W,(((w.alloc (.cells #[.int .i64 0,.string ⟨#[]⟩,.string ⟨#[]⟩] 150)).alloc (.cells #[.int .i64 st0,.string sb0,.string kb0] 150)).alloc (.cells #[.int .i64 l,.int .i64 a,.int .i64 n,.string d] 107)).drew=W:=⟨_,rfl⟩;rw[ad];rw[ad]at q0 Z q2 q3 q4;obtain⟨B,ae⟩:∃ b,w.heap.size+1+1=b:=⟨_,rfl⟩;rw[ae];rw[ae]at q2;obtain⟨m,af⟩:∃ b,w.heap.size+1=b:=⟨_,rfl⟩;rw[af];rw[af]at Z;have cr:w.heap.size < m/\w.heap.size < B/\m < w.heap.size+3/\B < w.heap.size+3/\m≠B:=Ou)
  | (obtain⟨q0,q2,Z,q3,q4⟩:=Ke w (.cells #[.int .i64 0,.string ⟨#[]⟩,.string ⟨#[]⟩] 150) (.cells #[.int .i64 l,.int .i64 a,.int .i64 n,.string d] 107) (.cells #[.int .i64 st0,.string sb0,.string kb0] 150);obtain⟨W0,ad⟩:∃ W,(((w.alloc (.cells #[.int .i64 0,.string ⟨#[]⟩,.string ⟨#[]⟩] 150)).alloc (.cells #[.int .i64 l,.int .i64 a,.int .i64 n,.string d] 107)).alloc (.cells #[.int .i64 st0,.string sb0,.string kb0] 150)).drew=W:=⟨_,rfl⟩;rw[ad];rw[ad]at q0 Z q2 q3 q4;obtain⟨m,af⟩:∃ b,w.heap.size+1+1=b:=⟨_,rfl⟩;rw[af];rw[af]at Z;obtain⟨B,ae⟩:∃ b,w.heap.size+1=b:=⟨_,rfl⟩;rw[ae];rw[ae]at q2;have cr:w.heap.size < m/\w.heap.size < B/\m < w.heap.size+3/\B < w.heap.size+3/\m≠B:=Ou)
 all_goals
  clear ae af ad;have n0:W0.cell? (OI B 0)=some (.int .i64 l):=by rw[Lib.cell_of_heap q2];rfl
  have n1:W0.cell? (OI B 1)=some (.int .i64 a):=by rw[Lib.cell_of_heap q2];rfl
  have n2:W0.cell? (OI B 2)=some (.int .i64 n):=by rw[Lib.cell_of_heap q2];rfl
  have n3:W0.cell? (OI B 3)=some (.string d):=by rw[Lib.cell_of_heap q2];rfl
  have b0:B≠W0.heap.size:=Ou
  obtain⟨W1,F⟩:∃ W,W0.alloc (.cells #[.int .i64 2,.string ⟨#[]⟩,.string ⟨#[]⟩] 150)=W:=⟨_,rfl⟩;have a4:Hid (OH w W1):=by rw[Hid,<- F];exact q4.alloc Ou _
  have K:Hid (∀ W,OH W1 W->(W.cell? (OK w 0)=some (.int .i64 0)/\W.cell? (OK w 1)=some (.string ⟨#[]⟩)/\W.cell? (OK w 2)=some (.string ⟨#[]⟩))/\(W.cell? (OI m 0)=some (.int .i64 st0)/\W.cell? (OI m 1)=some (.string sb0)/\W.cell? (OI m 2)=some (.string kb0))/\(W.cell? (OI B 0)=some (.int .i64 l)/\W.cell? (OI B 1)=some (.int .i64 a)/\W.cell? (OI B 2)=some (.int .i64 n)/\W.cell? (OI B 3)=some (.string d))/\(W.cell? (OJ w 3 0)=some (.int .i64 2)/\W.cell? (OJ w 3 1)=some (.string ⟨#[]⟩)/\W.cell? (OJ w 3 2)=some (.string ⟨#[]⟩))/\(W.frozen? (OK w 0)=false/\W.frozen? (OK w 1)=false/\W.frozen? (OK w 2)=false)/\(W.frozen? (OI m 1)=false/\W.frozen? (OI m 2)=false)/\OH w W/\W1.heap.size<=W.heap.size):=fun W hW=>by
   have du:W1.heap.size=w.heap.size+4:=(by rw[<- F,World.size_alloc];omega);have r0:W.heap[w.heap.size]? = some (.cells #[.int .i64 0,.string ⟨#[]⟩,.string ⟨#[]⟩] 150):=(hW.block _ Ou).trans (by rw[<- F];exact Ak _ q0);have r1:W.heap[m]? = some (.cells #[.int .i64 st0,.string sb0,.string kb0] 150):=(hW.block _ Ou).trans (by rw[<- F];exact Ak _ Z);have r2:W.heap[B]? = some (.cells #[.int .i64 l,.int .i64 a,.int .i64 n,.string d] 107):=(hW.block _ Ou).trans (by rw[<- F];exact Ak _ q2);have r3:W.heap[w.heap.size+3]? = some (.cells #[.int .i64 2,.string ⟨#[]⟩,.string ⟨#[]⟩] 150):=(hW.block _ Ou).trans (by rw[<- F,<- q3];exact Ae _ _);exact⟨⟨by rw[Lib.cell_of_heap r0];rfl,by rw[Lib.cell_of_heap r0];rfl,by rw[Lib.cell_of_heap r0];rfl⟩,⟨by rw[Lib.cell_of_heap r1];rfl,by rw[Lib.cell_of_heap r1];rfl,by rw[Lib.cell_of_heap r1];rfl⟩,⟨by rw[Lib.cell_of_heap r2];rfl,by rw[Lib.cell_of_heap r2];rfl,by rw[Lib.cell_of_heap r2];rfl,by rw[Lib.cell_of_heap r2];rfl⟩,⟨by rw[Lib.cell_of_heap r3];rfl,by rw[Lib.cell_of_heap r3];rfl,by rw[Lib.cell_of_heap r3];rfl⟩,⟨by simp[World.frozen?,r0],by simp[World.frozen?,r0],by simp[World.frozen?,r0]⟩,⟨by simp[World.frozen?,r1],by simp[World.frozen?,r1]⟩,a4.out.trans (hW.mono a4.out.size),hW.size⟩
  have cj:Hid (∀ W,OH w W->Calls Tryz.prog 157 #[.pointer (some (OI g 0)),.agg #[.int .i64 l,.int .i64 a,.int .i64 n,.string d]] W (fun e w' => ∃ va vc,e = .returned (.slice va L vc)/\Ac w'.heap.size w' (.slice va L vc) A/\OH W w')):=fun W hW=>by
   have h:=ar.out.below hW;rw[<- HL.out,<- M.out];exact Qf c hcl f ⟨l,a,n,d⟩ hok hpl ca cc _ _ _ _ g W h.tab h.words h.code h.tr
  have au:Hid (W0.alloc (.cells #[.int .i64 2,.string ⟨#[]⟩,.string ⟨#[]⟩] 150)=W1):=F;clear F;go_wp2_with (first|(go_at_call 157;rw[au.out];refine(cj.out W1 a4.out).mono ?_;rintro e S ⟨va,vc,rfl,ap,Q⟩;obtain⟨⟨y0,y1,y2⟩,⟨z0,z1,z2⟩,⟨x0,x1,x2,x3⟩,⟨k0,k1,k2⟩,⟨f0,f1,f2⟩,⟨ab,ac⟩,G,C⟩:=K.out S Q))
 all_goals
  have bo:Hid (Ac S.heap.size S (.slice va L vc) A):=ap;have cy:Hid (OH w S):=G;obtain⟨v6,-⟩:=HS.out S G;have ax:Hid (Calls Tryz.prog 129 #[.agg #[.int .i64 l,.int .i64 a,.int .i64 n,.string d],.int .i64 (at':Int)] S fun e w' => ∃ N O,e = .returned (.slice N P.length O)/\Ac w'.heap.size w' (.slice N P.length O) P/\OH S w'):=a5.out S G;have ah:Hid (Calls Tryz.prog 129 #[.agg #[.int .i64 l,.int .i64 a,.int .i64 n,.string d],.int .i64 (at':Int)] S.drew fun e w' => ∃ N O,e = .returned (.slice N P.length O)/\Ac w'.heap.size w' (.slice N P.length O) P/\OH S w'):=(a5.out S.drew G.drew).mono (by rintro e w' ⟨N,O,h1,h2,h3⟩;exact⟨N,O,h1,h2,(Below.refl _ S).drew.trans h3⟩);clear ap G;first|(go_region_held3 (fun W=>W.cell? (OI m 0)=some (.int .i64 st0)/\W.cell? (OI B 0)=some (.int .i64 l)/\W.cell? (OI B 1)=some (.int .i64 a)/\W.cell? (OI B 2)=some (.int .i64 n)/\W.cell? (OI B 3)=some (.string d)/\W.cell? (OI g 6)=some (.slice (some (OI gl 0)) f.ins.length lc)) (first|exact⟨z0,x0,x1,x2,x3,v6⟩|exact⟨cx,ct,cu,cv,cw,cs⟩) (first|(go_at_call 129;refine(by first|exact ax.out|exact ah.out:Calls Tryz.prog 129 _ _ _).mono ?_;rintro e w3 ⟨N,O,rfl,a1,R⟩;obtain⟨⟨b6,b7,b8⟩,⟨cx,d5,d6⟩,⟨ct,cu,cv,cw⟩,⟨dz,d1,d2⟩,⟨df,dg,dh⟩,⟨c0,c1⟩,U,J⟩:=K.out w3 (Q.trans (R.mono C));obtain⟨cs,-⟩:=HS.out w3 U)|(go_at_call 158;refine(S9 P _ N O (by have:=cb.out;omega) _ _ (by first|exact a1|exact a1) bc bj).mono ?_;rintro e w4 ⟨rfl,rfl⟩)))|fail
  all_goals
   clear ax ah a5 n0 n1 n2 n3 b0 z0 z1 z2 x0 x1 x2 x3 k0 k1 k2 y0 y1 y2 f0 f1 f2 ab ac v6 q0 Z q2 q3 q4;have b5:decide ((r:Int) < 0)=false:=decide_eq_false Ou;rw[b5];clear b5;cases bc with
   | true =>
    go_wp2_with fail;have HR:Hid (H6 u=A7 2 ⟨#[]⟩ ⟨#[]⟩):=by
     have e:u = .clash:=(by rw[a8.out];simp);rw[Hid,e];rfl
    exact bodyPost_ret (v:=A7 2 ⟨#[]⟩ ⟨#[]⟩) (by simp[results,Tryz.results128,go_sem,b6,b7,b8,A7]) rfl ⟨by rw[HR.out],Ad (Ad (Ad U 0 0 _) 0 1 _) 0 2 _⟩
   | false =>
    have a7:Hid (Ac S.heap.size w3 (.slice va L vc) A):=bo.out.below R;have aa:Hid (OH w w3):=U;have ai:Hid (u=if C1 A tk=false then .clash else if ok=false\/600 < (Cz (k.take r) p).length then .clash else .known (if l=3 then s.take a.toNat++tk++s.drop (a.toNat+1) else s) (Cz (k.take r) p)):=by
     rw[Hid,a8.out];simp
    clear U a8;go_wp2_with fail;go_loopw [65] (fun t wr => ∃ i:Nat,i<=L/\t = .int .i64 (i:Int)/\w3=wr/\∀ j (h1:j < A.length) (h2:j < tk.length),j < i->Fm A[j] tk[j]=true) (fun t _=>L - (intOf t).toNat);case atStart=>exact⟨0,by omega,rfl,rfl,fun j h1 h2 h=>Ou⟩
    case round =>
     obtain⟨i,hi,rfl,rfl,b4⟩:=hrel;have bq:Hid (∀ j (h1:j < A.length) (h2:j < tk.length),j < i->Fm A[j] tk[j]=true):=b4;clear b4;by_cases hlt:i < L
     ·have bp:Hid (i < L):=hlt;have b3:(i:Int) < (L:Int):=Ou;have ao:i < A.length:=(by have:=HL.out;omega);have be:i < tk.length:=(by have:=am.out;omega);have dl:i < T.size:=(by have:=bs.out;omega);have c7:(i:Int) < (T.size:Int):=Ou;obtain⟨gv,ov,rfl,d0⟩:∃ g o,va=some (OI g o)/\w3.cell? (OI g (o+i))=some (.int .i64 A[i]):=by
       obtain⟨a',cp,e,hc⟩:=a7.out;injection e with e1;subst e1;obtain⟨g,o,h1,_,h2⟩:=hc i ao;exact⟨g,o,h1,h2⟩
      obtain⟨y,hy⟩:∃ y,T[i]=y:=⟨_,rfl⟩;have HY:Hid ((y.toNat:Int)=tk[i]):=by
       have co:i < (Bt tk).size:=(by rw[Ck];exact be);have h:=Jk (fun t ht=>by have:=a0.out t ht;omega) i be co;rw[Hid,h,<- hy];have cq:=bb.out;subst cq;rfl
      have dy:y.toNat < 256:=y.toNat_lt;obtain⟨t,bd⟩:∃ t,Hid (tk[i]=t):=⟨_,(rfl:tk[i]=_)⟩;obtain⟨ee,bk⟩:∃ t,Hid (A[i]=t):=⟨_,(rfl:A[i]=_)⟩;have dw:IntKind.i64.wrap ((y.toNat:Nat):Int)=t:=(by rw[IntKind.wrap_i64,<- bd.out,<- HY.out];omega);have dx:wrap64 ((y.toNat:Nat):Int)=t:=(by rw[IntWalk.wrap64_in _ Ou,<- bd.out,<- HY.out]);rw[bk.out]at d0;have au:Hid (wrap64 ((i:Int)+1)=(i:Int)+1):=IntWalk.wrap64_in _ (by have:=bl.out;omega);obtain⟨b,HB⟩:∃ b,Hid (Fm ee t=b):=⟨_,(rfl:Fm ee t=_)⟩;have bm:Hid (Fm A[i] tk[i]=b):=(by rw[Hid,bk.out,bd.out];exact HB.out);cases b with
      | false =>
       have HR:Hid (H6 u=A7 2 ⟨#[]⟩ ⟨#[]⟩):=(by rw[Hid,ai.out,if_pos (R6 A tk i ao be bm.out)];rfl);go_wp2_with (first|(go_at_call 159;refine(Sa _ _ _ HB _).mono ?_;rintro e w' ⟨rfl,rfl⟩));exact bodyPost_ret (v:=A7 2 ⟨#[]⟩ ⟨#[]⟩) (by simp[results,Tryz.results128,go_sem,b6,b7,b8,A7]) rfl ⟨by rw[HR.out],Ad (Ad (Ad aa.out 0 0 _) 0 1 _) 0 2 _⟩
      | true =>
       have ce:Hid (∀ j (h1:j < A.length) (h2:j < tk.length),j < i+1->Fm A[j] tk[j]=true):=fun j h1 h2 h=>by
        by_cases e:j=i
        ·subst e;exact bm.out
        ·exact bq.out j h1 h2 Ou
       go_wp2_with (first|(go_at_call 159;refine(Sa _ _ _ HB _).mono ?_;rintro e w' ⟨rfl,rfl⟩));go_roundw;case rel =>
        refine⟨_,_,_,_,_,_,_,_,_,_,_,_,_,_,_,_, ?_,rfl⟩;exact⟨i+1,by have:=bp.out;omega,by rw[au.out];exact congrArg (Value.int IntKind.i64) Ou,by first|rfl|trivial,ce.out⟩
       case measure =>
        have hl:=bp.out;change L - (intOf (Value.int IntKind.i64 (wrap64 ((i:Int)+1)))).toNat < L - (intOf (Value.int IntKind.i64 (i:Int))).toNat;rw[au.out];simp only[intOf];omega
     ·have b3:¬ (i:Int) < (L:Int):=Ou;have HF:Hid (C1 A tk=true):=R5 A tk (by rw[HL.out,am.out]) (fun j h1 h2=>bq.out j h1 h2 (by have:=HL.out;omega));have E:Hid (u=if ok=false\/600 < (Cz (k.take r) p).length then .clash else .known (if l=3 then s.take a.toNat++tk++s.drop (a.toNat+1) else s) (Cz (k.take r) p)):=(by rw[Hid,ai.out,HF.out,if_neg Ov]);clear ai;have c5:m≠w.heap.size:=Ou;have c6:m≠w.heap.size+3:=Ou;have b1:m≠B:=Ou;rcases cf.out with⟨H,bf⟩|⟨H,bf⟩|⟨H,bg,aq,V⟩
      ·subst H;subst bf;have HR:Hid (H6 u=A7 2 ⟨#[]⟩ ⟨#[]⟩):=by
        have e:u = .clash:=(by rw[E.out];simp);rw[Hid,e];rfl
       go_wp2_with (first|(go_at_call 98;refine(aj.out w3 aa.out).mono ?_;rintro e w5 ⟨rfl,D⟩;obtain⟨⟨y0,y1,y2⟩,⟨z0,z1,z2⟩,⟨x0,x1,x2,x3⟩,⟨k0,k1,k2⟩,⟨f0,f1,f2⟩,⟨ab,ac⟩,z,Y⟩:=K.out w5 ((Q.trans (R.mono C)).trans (D.mono J))));exact bodyPost_ret (v:=A7 2 ⟨#[]⟩ ⟨#[]⟩) (by simp[results,Tryz.results128,go_sem,y0,y1,y2,A7]) rfl ⟨by rw[HR.out],Ad (Ad (Ad (Below.setCell (p:=(OI m 2)) z (by show w.heap.size<=m;omega) _) 0 0 _) 0 1 _) 0 2 _⟩
      ·subst H;subst bf;have di:¬ (600:Int) < (A0.size:Int):=(by have:=ag.out;have:=ak.out;omega);by_cases h3:l=3
       ·obtain⟨q,rfl⟩:∃ q:Nat,a=(q:Int):=⟨a.toNat,by have:=bh.out h3;omega⟩;have a9:Hid (q < sb0.size):=(by have:=bh.out h3;rw[Hid];omega);obtain⟨Z,N1,N2,M1,M2,cg,hF⟩:=U5 sb0 T q L a9.out ci.out bs.out bl.out;have HF:Hid ((q:Int)<=(sb0.size:Int)/\(Z:Int)<=(sb0.size:Int)/\Z<=sb0.size/\wrap64 ((q:Int)+1)=(Z:Int)/\IntKind.i64.wrap ((q:Int)+1)=(Z:Int)/\sb0.extract 0 q=N1/\sb0.extract Z sb0.size=N2/\N1++T=M1/\M1++N2=M2/\¬ (9223372036854775807 < N1.size+T.size)/\¬ (9223372036854775807 < M1.size+N2.size)):=hF;have HR:Hid (H6 u=A7 1 M2 A0):=by
         obtain⟨-,-,-,-,-,bx,bz,bv,bw,-,-⟩:=hF;have e:u = .known (s.take q++tk++s.drop (q+1)) (k.take r):=by
          rw[E.out,if_neg,if_pos h3]
          ·simp[Cz]
          ·simp[Cz];have:=ak.out;omega
         rw[Hid,e,Qbz sb0 T N1 N2 M1 M2 s tk q Z a9.out al.out bb.out cg.out bx bz bv bw,a3.out];rfl
        clear hF;subst h3;go_wp2_with (first|(go_at_call 98;refine(aj.out w3 aa.out).mono ?_;rintro e w5 ⟨rfl,D⟩;obtain⟨⟨y0,y1,y2⟩,⟨z0,z1,z2⟩,⟨x0,x1,x2,x3⟩,⟨k0,k1,k2⟩,⟨f0,f1,f2⟩,⟨ab,ac⟩,z,Y⟩:=K.out w5 ((Q.trans (R.mono C)).trans (D.mono J))));obtain⟨⟨z6,x6⟩,d4,d3⟩:=Uz w5 m B (.string A0) _ _ b1 z1 x1;have db:=a9.out;obtain⟨dn,dp,dq,dr,ds,bx,bz,bv,bw,c3,c4⟩:=HF.out;go_region;all_goals go_wp2_with fail
        all_goals rw[ba.out]
        all_goals exact bodyPost_ret (v:=A7 1 M2 A0) (by simp[results,Tryz.results128,go_sem,y0,y1,y2,A7]) rfl ⟨by rw[HR.out],Ad (Ad (Ad (Below.drew (Below.setCell (p:=(OI m 1)) (Below.setCell (p:=(OI m 2)) z (by show w.heap.size<=m;omega) _) (by show w.heap.size<=m;omega) _)) 0 0 _) 0 1 _) 0 2 _⟩
       ·have cm:(l == 3)=false:=(by simp[h3]);have HR:Hid (H6 u=A7 1 sb0 A0):=by
         have e:u = .known s (k.take r):=by
          have hl:¬ 600 < (k.take r).length:=(by rw[List.length_take];have:=ak.out;omega);rw[E.out];simp[Cz,h3];have:=ak.out;omega
         rw[Hid,e,al.out,a3.out];rfl
        have ch:Hid (st0=1):=ba.out;clear h3;go_wp2_with (first|(go_at_call 98;refine(aj.out w3 aa.out).mono ?_;rintro e w5 ⟨rfl,D⟩;obtain⟨⟨y0,y1,y2⟩,⟨z0,z1,z2⟩,⟨x0,x1,x2,x3⟩,⟨k0,k1,k2⟩,⟨f0,f1,f2⟩,⟨ab,ac⟩,z,Y⟩:=K.out w5 ((Q.trans (R.mono C)).trans (D.mono J))));rw[ch.out];exact bodyPost_ret (v:=A7 1 sb0 A0) (by simp[results,Tryz.results128,go_sem,y0,y1,y2,A7]) rfl ⟨by rw[HR.out],Ad (Ad (Ad (Below.setCell (p:=(OI m 2)) z (by show w.heap.size<=m;omega) _) 0 0 _) 0 1 _) 0 2 _⟩
      ·subst H;have hE:Utf8.encode (wrap32 p)=Bt [p]:=Qg4 p bg aq;obtain⟨PB,an⟩:∃ x,Bt [p]=x:=⟨_,rfl⟩;rw[an]at hE;have ay:Hid (PB.size=1):=(by rw[Hid,<- an,Ck];rfl);obtain⟨A1,bu⟩:∃ x,A0++PB=x:=⟨_,rfl⟩;have aw:Hid (A1.size=r+1):=(by rw[Hid,<- bu,ByteArray.size_append,ag.out,ay.out]);have dj:¬ (9223372036854775807 < A0.size+PB.size):=(by have h1:=ag.out;have h2:=ay.out;have:=ak.out;omega);have b9:Hid (A1=Bt (k.take r++[p])):=(by rw[Hid,<- bu,a3.out,<- an,Qw]);have dm:(p != 0)=true:=OD;have cm:(l == 3)=false:=(by simp[V]);have I:¬ p=0:=Ou;have av:(k.take r++[p]).length=r+1:=(by rw[List.length_append,List.length_take];have h1:=cd.out;have h2:=br.out;simp;omega);by_cases h6:600 < r+1
       ·have cn:(600:Int) < (A1.size:Int):=(by have:=aw.out;omega);have HR:Hid (H6 u=A7 2 ⟨#[]⟩ ⟨#[]⟩):=by
         have e:u = .clash:=by
          rw[E.out,if_pos];right;unfold Cz;rw[if_neg I,av];exact h6
         rw[Hid,e];rfl
        clear h6 av I V bg aq an;go_wp2_with (first|(go_at_call 98;refine(aj.out w3 aa.out).mono ?_;rintro e w5 ⟨rfl,D⟩;obtain⟨⟨y0,y1,y2⟩,⟨z0,z1,z2⟩,⟨x0,x1,x2,x3⟩,⟨k0,k1,k2⟩,⟨f0,f1,f2⟩,⟨ab,ac⟩,z,Y⟩:=K.out w5 ((Q.trans (R.mono C)).trans (D.mono J))));exact bodyPost_ret (v:=A7 2 ⟨#[]⟩ ⟨#[]⟩) (by simp[results,Tryz.results128,go_sem,y0,y1,y2,A7]) rfl ⟨by rw[HR.out],Ad (Ad (Ad (Below.setCell (p:=(OI m 2)) (Below.setCell (p:=(OI m 2)) z (by show w.heap.size<=m;omega) _) (by show w.heap.size<=m;omega) _) 0 0 _) 0 1 _) 0 2 _⟩
       ·have cn:¬ (600:Int) < (A1.size:Int):=(by have:=aw.out;omega);have HR:Hid (H6 u=A7 1 sb0 A1):=by
         have e:u = .known s (k.take r++[p]):=by
          rw[E.out,if_neg,if_neg V]
          ·unfold Cz;rw[if_neg I]
          ·unfold Cz;rw[if_neg I,av];simp;omega
         rw[Hid,e,al.out,b9.out];rfl
        clear h6 av I V bg aq an;go_wp2_with (first|(go_at_call 98;refine(aj.out w3 aa.out).mono ?_;rintro e w5 ⟨rfl,D⟩;obtain⟨⟨y0,y1,y2⟩,⟨z0,z1,z2⟩,⟨x0,x1,x2,x3⟩,⟨k0,k1,k2⟩,⟨f0,f1,f2⟩,⟨ab,ac⟩,z,Y⟩:=K.out w5 ((Q.trans (R.mono C)).trans (D.mono J))));rw[ba.out];exact bodyPost_ret (v:=A7 1 sb0 A1) (by simp[results,Tryz.results128,go_sem,y0,y1,y2,A7]) rfl ⟨by rw[HR.out],Ad (Ad (Ad (Below.setCell (p:=(OI m 2)) (Below.setCell (p:=(OI m 2)) z (by show w.heap.size<=m;omega) _) (by show w.heap.size<=m;omega) _) 0 0 _) 0 1 _) 0 2 _⟩
end Go.Proofs.YtahibkjkpmdhgaaGreatDoor
