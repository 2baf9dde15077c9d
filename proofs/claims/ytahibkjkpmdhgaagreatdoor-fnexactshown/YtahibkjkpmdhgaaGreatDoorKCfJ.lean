import Derived.Test.YtahibkjkpmdhgaaGreatDoorKCfF
set_option maxRecDepth 100000
set_option maxHeartbeats 4000000
namespace Go.Proofs.YtahibkjkpmdhgaaGreatDoor
open Go.RowKit
structure Hg (c:List Af) (f:Af) (at':Nat) (ca ia:Option Addr) (cc ic lc gl g:Nat) (X:List Am) (pv wv:Value) (w:World):Prop where
 tr:Gh g w (.slice ca c.length cc) f pv (.slice ia f.ins.length ic) (.slice (some (OI gl 0)) f.ins.length lc) wv
 lays:Ce gl w X
 ins:Ba w.heap.size w (.slice ia f.ins.length ic) f.ins
 code:Al w.heap.size w (.slice ca c.length cc) c
 tab:B3 w
 words:Cw w
theorem Hg.below {c:List Af} {f:Af} {at':Nat} {ca ia:Option Addr} {cc ic lc gl g:Nat} {X:List Am} {pv wv:Value} {w w':World} (h:Hg c f at' ca ia cc ic lc gl g X pv wv w) (hb:OH w w'):Hg c f at' ca ia cc ic lc gl g X pv wv w' :=
 ⟨h.tr.below hb,h.lays.below hb,Ba.mono (h.ins.below hb) hb.size,Al.mono (h.code.below hb) hb.size,h.tab.below hb,h.words.below hb⟩
theorem Sg (c:List Af) (f:Af) (i:Az) (at':Nat) (hat:at' < f.ins.length) (hie:f.ins[at']=i) (_hil:f.ins.length<=50000) (hcl:c.length<=60) (hpl:∀ g ∈ c,g.params.length<=8) (hok:Aq c f i=true) (X:List Am) (hX:X.length=f.ins.length) (st0:Int) (sb0 kb0:ByteArray) (hst0:D5 (X[at']'Ou)=st0) (hsb0:Eu (X[at']'Ou)=sb0) (hkb0:Et (X[at']'Ou)=kb0) (hneg:st0=2\/(st0≠2/\kb0.size < (Ax c f i).length)) (hk6:kb0.size<=600) (hel:(Ax c f i).length<=8) (ca ia:Option Addr) (cc ic:Nat) (pv wv:Value) (lc gl:Nat) (g:Nat) (w:World) (hIn:Hg c f at' ca ia cc ic lc gl g X pv wv w) :
  Calls Tryz.prog 128 #[.pointer (some (OI g 0)),.int .i64 (at':Int)] w fun e w'=>e = .returned (H6 .clash)/\OH w w':=by
 obtain⟨r,rfl,af,-⟩:=hIn.ins.cells at' hat;have E:Hid (Hg c f at' ca (some (OI r 0)) cc ic lc gl g X pv wv w):=hIn;have HS:Hid (∀ W,OH w W->W.cell? (OI g 6)=some (.slice (some (OI gl 0)) f.ins.length lc)/\W.cell? (OI g 5)=some (.slice (some (OI r 0)) f.ins.length ic)/\W.cell? (OI gl (at' * 3))=some (.int .i64 st0)/\W.cell? (OI gl (at' * 3+1))=some (.string sb0)/\W.cell? (OI gl (at' * 3+2))=some (.string kb0)/\W.cell? (OI r (at' * 4))=some (.int .i64 i.op)/\W.cell? (OI r (at' * 4+1))=some (.int .i64 i.a)/\W.cell? (OI r (at' * 4+2))=some (.int .i64 i.n)/\W.cell? (OI r (at' * 4+3))=some (.string i.text)):=fun W hW=>by
  have h:=E.out.below hW;obtain⟨-,-,-,-,-,u5,u6,-⟩:=h.tr.cells;obtain⟨l0,l1,l2⟩:=h.lays.cells at' Ou;rw[hst0]at l0;rw[hsb0]at l1;rw[hkb0]at l2;obtain⟨g2,A,-,i0,i1,i2,i3⟩:=h.ins.cells at' hat;injection A with A;injection A with A;subst A;rw[hie]at i0 i1 i2 i3;exact⟨u6,u5,l0,l1,l2,i0,i1,i2,i3⟩
 have aa:(at':Int) < (f.ins.length:Int):=Ou
 clear hIn hie hst0 hsb0 hkb0;obtain⟨q,a,n,d⟩:=i;simp only at HS;obtain⟨G,D⟩:∃ G,Hid (Ax c f ⟨q,a,n,d⟩=G):=⟨_,(rfl:Ax c f ⟨q,a,n,d⟩=_)⟩;obtain⟨L,HL⟩:∃ L,Hid (G.length=L):=⟨_,(rfl:G.length=_)⟩;rw[D.out,HL.out]at hneg hel;obtain⟨R,H⟩:∃ R,(kb0.size:Int) - (L:Int)=R:=⟨_,rfl⟩;have ah:wrap64 ((kb0.size:Int) - (L:Int))=R:=(IntWalk.wrap64_in _ Ou).trans H;have F:Hid (st0=2\/(st0≠2/\R < 0)):=by
  rcases hneg with h|⟨h,h'⟩
  ·exact .inl h
  ·exact .inr ⟨h,by omega⟩
 clear hneg H hk6 hel;go_enter Tryz.func128,Tryz.ntmps128;go_wp2_with fail;go_region_held3 (fun W=>W.cell? (OI g 6)=some (.slice (some (OI gl 0)) f.ins.length lc)/\W.cell? (OI g 5)=some (.slice (some (OI r 0)) f.ins.length ic)/\W.cell? (OI gl (at' * 3))=some (.int .i64 st0)/\W.cell? (OI gl (at' * 3+1))=some (.string sb0)/\W.cell? (OI gl (at' * 3+2))=some (.string kb0)/\W.cell? (OI r (at' * 4))=some (.int .i64 q)/\W.cell? (OI r (at' * 4+1))=some (.int .i64 a)/\W.cell? (OI r (at' * 4+2))=some (.int .i64 n)/\W.cell? (OI r (at' * 4+3))=some (.string d)) (exact HS.out _ (by repeat' (first|exact Below.refl _ _|apply Below.drew|refine Below.alloc ?_ ?_ _|refine Below.setCell ?_ ?_ _|exact Nat.le_refl _|(simp;done)|(simp;omega)))) (fail);all_goals first
  | (obtain⟨J,B,t,K,M⟩:=Ke w (.cells #[.int .i64 0,.string ⟨#[]⟩,.string ⟨#[]⟩] 150) (.cells #[.int .i64 st0,.string sb0,.string kb0] 150) (.cells #[.int .i64 q,.int .i64 a,.int .i64 n,.string d] 107);obtain⟨u,m⟩:∃ W,(((w.alloc (.cells #[.int .i64 0,.string ⟨#[]⟩,.string ⟨#[]⟩] 150)).alloc (.cells #[.int .i64 st0,.string sb0,.string kb0] 150)).alloc (.cells #[.int .i64 q,.int .i64 a,.int .i64 n,.string d] 107)).drew=W:=⟨_,rfl⟩;rw[m];rw[m]at J B t K M;obtain⟨j,o⟩:∃ b,w.heap.size+1+1=b:=⟨_,rfl⟩;rw[o];rw[o]at t;obtain⟨l,p⟩:∃ b,w.heap.size+1=b:=⟨_,rfl⟩;rw[p];rw[p]at B;have T:w.heap.size < l/\w.heap.size < j/\l < w.heap.size+3/\j < w.heap.size+3/\l≠j:=Ou)
  | (obtain⟨J,t,B,K,M⟩:=Ke w (.cells #[.int .i64 0,.string ⟨#[]⟩,.string ⟨#[]⟩] 150) (.cells #[.int .i64 q,.int .i64 a,.int .i64 n,.string d] 107) (.cells #[.int .i64 st0,.string sb0,.string kb0] 150);obtain⟨u,m⟩:∃ W,(((w.alloc (.cells #[.int .i64 0,.string ⟨#[]⟩,.string ⟨#[]⟩] 150)).alloc (.cells #[.int .i64 q,.int .i64 a,.int .i64 n,.string d] 107)).alloc (.cells #[.int .i64 st0,.string sb0,.string kb0] 150)).drew=W:=⟨_,rfl⟩;rw[m];rw[m]at J B t K M;obtain⟨l,p⟩:∃ b,w.heap.size+1+1=b:=⟨_,rfl⟩;rw[p];rw[p]at B;obtain⟨j,o⟩:∃ b,w.heap.size+1=b:=⟨_,rfl⟩;rw[o];rw[o]at t;have T:w.heap.size < l/\w.heap.size < j/\l < w.heap.size+3/\j < w.heap.size+3/\l≠j:=Ou)
 all_goals
  clear o p m;have n0:u.cell? (OI j 0)=some (.int .i64 q):=by rw[Lib.cell_of_heap t];rfl
  have n1:u.cell? (OI j 1)=some (.int .i64 a):=by rw[Lib.cell_of_heap t];rfl
  have n2:u.cell? (OI j 2)=some (.int .i64 n):=by rw[Lib.cell_of_heap t];rfl
  have n3:u.cell? (OI j 3)=some (.string d):=by rw[Lib.cell_of_heap t];rfl
  have ab:j≠u.heap.size:=Ou
  obtain⟨z,k⟩:∃ W,u.alloc (.cells #[.int .i64 2,.string ⟨#[]⟩,.string ⟨#[]⟩] 150)=W:=⟨_,rfl⟩;have y:Hid (OH w z):=by rw[Hid,<- k];exact M.alloc Ou _
  have O:Hid (∀ W,OH z W->(W.cell? (OK w 0)=some (.int .i64 0)/\W.cell? (OK w 1)=some (.string ⟨#[]⟩)/\W.cell? (OK w 2)=some (.string ⟨#[]⟩))/\(W.cell? (OI l 0)=some (.int .i64 st0)/\W.cell? (OI l 1)=some (.string sb0)/\W.cell? (OI l 2)=some (.string kb0))/\(W.cell? (OI j 0)=some (.int .i64 q)/\W.cell? (OI j 1)=some (.int .i64 a)/\W.cell? (OI j 2)=some (.int .i64 n)/\W.cell? (OI j 3)=some (.string d))/\(W.cell? (OJ w 3 0)=some (.int .i64 2)/\W.cell? (OJ w 3 1)=some (.string ⟨#[]⟩)/\W.cell? (OJ w 3 2)=some (.string ⟨#[]⟩))/\(W.frozen? (OK w 0)=false/\W.frozen? (OK w 1)=false/\W.frozen? (OK w 2)=false)/\(W.frozen? (OI l 1)=false/\W.frozen? (OI l 2)=false)/\OH w W/\z.heap.size<=W.heap.size):=fun W hW=>by
   have ag:z.heap.size=w.heap.size+4:=(by rw[<- k,World.size_alloc];omega);have C:W.heap[w.heap.size]? = some (.cells #[.int .i64 0,.string ⟨#[]⟩,.string ⟨#[]⟩] 150):=(hW.block _ Ou).trans (by rw[<- k];exact Ak _ J);have I:W.heap[l]? = some (.cells #[.int .i64 st0,.string sb0,.string kb0] 150):=(hW.block _ Ou).trans (by rw[<- k];exact Ak _ B);have N:W.heap[j]? = some (.cells #[.int .i64 q,.int .i64 a,.int .i64 n,.string d] 107):=(hW.block _ Ou).trans (by rw[<- k];exact Ak _ t);have V:W.heap[w.heap.size+3]? = some (.cells #[.int .i64 2,.string ⟨#[]⟩,.string ⟨#[]⟩] 150):=(hW.block _ Ou).trans (by rw[<- k,<- K];exact Ae _ _);exact⟨⟨by rw[Lib.cell_of_heap C];rfl,by rw[Lib.cell_of_heap C];rfl,by rw[Lib.cell_of_heap C];rfl⟩,⟨by rw[Lib.cell_of_heap I];rfl,by rw[Lib.cell_of_heap I];rfl,by rw[Lib.cell_of_heap I];rfl⟩,⟨by rw[Lib.cell_of_heap N];rfl,by rw[Lib.cell_of_heap N];rfl,by rw[Lib.cell_of_heap N];rfl,by rw[Lib.cell_of_heap N];rfl⟩,⟨by rw[Lib.cell_of_heap V];rfl,by rw[Lib.cell_of_heap V];rfl,by rw[Lib.cell_of_heap V];rfl⟩,⟨by simp[World.frozen?,C],by simp[World.frozen?,C],by simp[World.frozen?,C]⟩,⟨by simp[World.frozen?,I],by simp[World.frozen?,I]⟩,y.out.trans (hW.mono y.out.size),hW.size⟩
  have Q:Hid (∀ W,OH w W->Calls Tryz.prog 157 #[.pointer (some (OI g 0)),.agg #[.int .i64 q,.int .i64 a,.int .i64 n,.string d]] W (fun e w' => ∃ Y Z,e = .returned (.slice Y L Z)/\Ac w'.heap.size w' (.slice Y L Z) G/\OH W w')):=fun W hW=>by
   have h:=E.out.below hW;rw[<- HL.out,<- D.out];exact Qf c hcl f ⟨q,a,n,d⟩ hok hpl ca cc _ _ _ _ g W h.tab h.words h.code h.tr
  have P:Hid (u.alloc (.cells #[.int .i64 2,.string ⟨#[]⟩,.string ⟨#[]⟩] 150)=z):=k;clear k;go_wp2_with (first|(go_at_call 157;rw[P.out];refine(Q.out z y.out).mono ?_;rintro e w2 ⟨Y,Z,rfl,U,S⟩;obtain⟨⟨y0,y1,y2⟩,⟨z0,z1,z2⟩,⟨x0,x1,x2,x3⟩,⟨k0,k1,k2⟩,⟨f0,f1,f2⟩,⟨ad,ae⟩,x,ac⟩:=O.out w2 S))
 all_goals
  rcases F.out with s|⟨s,hR⟩
  ·have A:(st0 == 2)=true:=(by simp[s]);clear s;go_quiet (fail);go_wp2_with fail;exact bodyPost_ret (v:=A7 2 ⟨#[]⟩ ⟨#[]⟩) (by simp[results,Tryz.results128,go_sem,y0,y1,y2,A7]) rfl ⟨rfl,Ad (Ad (Ad (B9 _ x) 0 0 _) 0 1 _) 0 2 _⟩
  ·have A:(st0 == 2)=false:=(by simp[s]);clear s;go_quiet (fail);go_wp2_with fail;exact bodyPost_ret (v:=A7 2 ⟨#[]⟩ ⟨#[]⟩) (by simp[results,Tryz.results128,go_sem,y0,y1,y2,A7]) rfl ⟨rfl,Ad (Ad (Ad (B9 _ x) 0 0 _) 0 1 _) 0 2 _⟩
theorem Qbv (l:List Nat) (n:Nat):decide ((n:Int) ∈ Ct l)=l.any (fun v=>decide (v=n)):=by
 induction l with
 | nil=>rfl
 | cons a r ih =>
  have e:Ct (a::r)=(a:Int)::Ct r:=rfl;rw[e,List.any_cons,<- ih];by_cases h:a=n
  ·subst h;simp
  ·have:¬ ((n:Int)=(a:Int)):=Ou;simp[h,this]
theorem Qbq (c:List Af) (f:Af) (i:Az) (at':Nat) (s k es tk:List Int) (r L:Nat) (bc:Bool) (p:Int) (ok:Bool) (hes:Ax c f i=es) (hL:es.length=L) (hr:r+L=k.length) (htk:k.drop r=tk) (hbc:decide ((f.ins.length:Int) ∈ Ct (A5 i at'))=bc) (hp:Bg c i s tk=(p,ok)) :
  Hd c f i at' s k=if bc=true then .clash else if C1 es tk=false then .clash else if ok=false\/600 < (Cz (k.take r) p).length then .clash else .known (if i.op=3 then s.take i.a.toNat++tk++s.drop (i.a.toNat+1) else s) (Cz (k.take r) p):=by
 have e:k.length - L=r:=Ou
 unfold Hd;rw[hes,hL,e,htk,hp,<- hbc,Qbv,if_neg Ou]
theorem R5 : ∀ (es tk:List Int) (_:es.length=tk.length),(∀ j (h1:j < es.length) (h2:j < tk.length),Fm es[j] tk[j]=true)->C1 es tk=true
 | [],[],_,_=>rfl
 | [],_::_,h,_=>by simp at h
 | _::_,[],h,_=>by simp at h
 | e::es,t::ts,h,hf=>by
  have a:=hf 0 OB OB
  have b:=R5 es ts (by simpa using h) (fun j h1 h2=>hf (j+1) OD OD)
  simp at a
  simp[C1,a,b]
theorem R6 : ∀ (es tk:List Int) (j:Nat) (h1:j < es.length) (h2:j < tk.length),Fm es[j] tk[j]=false->C1 es tk=false
 | [],_,_,h,_,_=>by simp at h
 | _::_,[],_,_,h,_=>by simp at h
 | e::es,t::ts,0,_,_,hf=>by
  simp at hf
  simp[C1,hf]
 | e::es,t::ts,j+1,h1,h2,hf=>by
  have a:=R6 es ts j (by simpa using h1) (by simpa using h2) (by simpa using hf)
  simp[C1,a]
theorem Ry (s:ByteArray) (i j:Nat):(s.extract i j).data.toList=(s.data.toList.drop i).take (j - i):=by
 have h:(s.extract i j).data=s.data.extract i j:=by simp
 rw[h,Array.toList_extract]
theorem Ub (k:List Int) (r:Nat) (_hr:r<=k.length):(Bt k).extract r (Bt k).size=Bt (k.drop r):=by
 apply ByteArray.ext;apply Array.toList_inj.1;rw[Ry,Ck];simp only[Bt];rw[List.map_drop,List.take_of_length_le];simp
theorem Pn (k:List Int) (r:Nat) (_hr:r<=k.length):(Bt k).extract 0 r=Bt (k.take r):=by
 apply ByteArray.ext;apply Array.toList_inj.1;rw[Ry];simp[Bt,List.map_take]
theorem Qds {c:List Af} {i:Az} {s tk:List Int} {p:Int} (h:Bg c i s tk=(p,false)):p=0:=by
 unfold Bg at h;repeat' (first|split at h)
 all_goals (injection h with h1 h2)
 all_goals first|exact absurd h2 Ov|(simp at h2;rw[<- h1];exact h2)
theorem Qg4 (p:Int) (h1:1<=p) (h10:p<=10):Utf8.encode (wrap32 p)=Bt [p]:=by
 have b:wrap32 p=p:=by unfold wrap32;omega
 have a:Utf8.valid p=true:=by simp[Utf8.valid];omega
 rw[b];unfold Utf8.encode;simp only[a,if_true];rw[if_pos Ou];rfl
theorem Qw (a b:List Int):Bt a++Bt b=Bt (a++b):=by
 apply ByteArray.ext;apply Array.toList_inj.1;simp[Bt,ByteArray.data_append]
theorem U5 (sb T:ByteArray) (q L:Nat) (hq:q < sb.size) (h2:sb.size<=200) (hT:T.size=L) (hL:L<=8):∃ (q1:Nat) (N1 N2 M1 M2:ByteArray),Hid (q+1=q1)/\(q:Int)<=(sb.size:Int)/\(q1:Int)<=(sb.size:Int)/\q1<=sb.size/\wrap64 ((q:Int)+1)=(q1:Int)/\IntKind.i64.wrap ((q:Int)+1)=(q1:Int)/\sb.extract 0 q=N1/\sb.extract q1 sb.size=N2/\N1++T=M1/\M1++N2=M2/\¬ (9223372036854775807 < N1.size+T.size)/\¬ (9223372036854775807 < M1.size+N2.size):=by
 have a:wrap64 ((q:Int)+1)=((q+1:Nat):Int):=(IntWalk.wrap64_in _ Ou).trans Ou;refine⟨q+1,sb.extract 0 q,sb.extract (q+1) sb.size,sb.extract 0 q++T,(sb.extract 0 q++T)++sb.extract (q+1) sb.size,rfl,by omega,by omega,by omega,a,(IntWalk.i64_left _).trans a,rfl,rfl,rfl,rfl, ?_, ?_⟩
 ·rw[ByteArray.size_extract];omega
 ·rw[ByteArray.size_append,ByteArray.size_extract,ByteArray.size_extract];omega
theorem Qbz (sb T N1 N2 M1 M2:ByteArray) (s tk:List Int) (q q1:Nat) (hq:q < sb.size) (hs:sb=Bt s) (hT:T=Bt tk) (e:q+1=q1) (h1:sb.extract 0 q=N1) (h2:sb.extract q1 sb.size=N2) (h3:N1++T=M1) (h4:M1++N2=M2):M2=Bt (s.take q++tk++s.drop (q+1)):=by
 subst e;have a:s.length=sb.size:=by rw[hs,Ck]
 rw[<- h4,<- h3,<- h1,<- h2,hs,hT,Pn s q Ou,Ub s (q+1) Ou,Qw,Qw]
theorem Uz (w5:World) (bn bi:Nat) (A v u:Value) (_hne:bn≠bi) (z1:w5.cell? (OI bn 1)=some v) (x1:w5.cell? (OI bi 1)=some u) :
  ((w5.setCell (OI bn 2) A).cell? (OI bn 1)=some v/\(w5.setCell (OI bn 2) A).cell? (OI bi 1)=some u)/\((w5.setCell (OI bn 2) A).drew.cell? (OI bn 1)=some v/\(w5.setCell (OI bn 2) A).drew.cell? (OI bi 1)=some u):=by
 have a:(w5.setCell (OI bn 2) A).cell? (OI bn 1)=some v:=by
  rw[World.cell?_setCell_other]
  ·exact z1
  ·intro h;simp at h
 have b:(w5.setCell (OI bn 2) A).cell? (OI bi 1)=some u:=by
  rw[World.cell?_setCell_other]
  ·exact x1
  ·intro h;simp at h
 exact⟨⟨a,b⟩,by rw[World.drew_is_drewN,World.cell?_drewN,World.cell?_drewN];exact⟨a,b⟩⟩
end Go.Proofs.YtahibkjkpmdhgaaGreatDoor
