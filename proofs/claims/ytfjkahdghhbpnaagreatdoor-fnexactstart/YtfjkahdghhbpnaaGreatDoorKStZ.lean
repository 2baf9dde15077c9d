import Derived.Test.YtfjkahdghhbpnaaGreatDoorKTk
import Derived.Test.YtfjkahdghhbpnaaGreatDoorKStZa
import Derived.Test.YtfjkahdghhbpnaaGreatDoorKCgB
set_option maxRecDepth 100000
set_option maxHeartbeats 8000000
namespace Go.Proofs.YtfjkahdghhbpnaaGreatDoor
open Go.RowKit
def Qdq (a0:Act) (v25 v27 v28 v6:Value):Act:=(((a0.put (some 25) v25).put (some 27) v27).put (some 28) v28).put (some 6) v6
def Qb0 (a0:Act) (v25 v27 v28 v6:Value):Act:=(((a0.put (some 76) v25).put (some 78) v27).put (some 79) v28).put (some 13) v6
def Qd0 (p:Act->Value->Value->Value->Value->Act) (c:List Ae) (n no:Nat) (arg:ByteArray) (outs:List ByteArray) (b:Bool) (W0:World) (S:World->Prop) (a0:Act) (L:Nat->Bool) (a:Act) (U:World):Prop := ∃ v25 v27 v28 v6,a=p a0 v25 v27 v28 v6/\S U/\Ic c n no arg outs b W0 L U v25 v27 v28 v6
theorem Fg.mono {c:List Ae} {arg:ByteArray} {outs:List ByteArray} {b:Bool} {A B:Nat} {W:World} {m:Value} (h:Fg c arg outs b B W m) (hA:A<=B):Fg c arg outs b A W m:=by
 rcases h with h|⟨j,k,l,g,v,f,r,i,a,d,q,s,E,n,o,p⟩
 ·exact .inl h
 ·exact .inr ⟨j,k,l,g,v,f,r,i,a,d,q,s,E,n,o,p.mono hA⟩
theorem J4 {w:World} {g:Nat} {x y:Value} {t:TypeId} (h:w.heap[g]? = some (.cells #[x,y] t)):w.cell? ⟨g,0,none⟩=some x/\w.cell? ⟨g,1,none⟩=some y:=⟨(Aa h 0 _ rfl).1,(Aa h 1 _ rfl).1⟩
theorem Qby (c:List Ae) (a:Option Addr) (cap:Nat) (arg:ByteArray) (outs:List ByteArray) (oa:Option Addr) (oc:Nat) (hn:c.length<=9223372036854775807) (hx:∀ f ∈ c,Pz f) (hN:∀ k (hk:k < c.length) i (hi:i < c[k].ins.length),-9223372036854775808<=c[k].ins[i].n/\c[k].ins[i].n<=9223372036854775807) (harg:arg.size<=9223372036854775807) (hon:outs.length<=9223372036854775807) (bk:∀ d ∈ outs,d.size<=9223372036854775807) (w:World) (hO:Es w (.slice a c.length cap) c) (hJ:Cx w (.slice oa outs.length oc) outs) (hT:Cg w) (hW:Dj w) :
  Calls Tryz.prog 3 #[.agg #[.slice a c.length cap],.agg #[.string arg,.slice oa outs.length oc]] w fun e w'=>e = .returned (.bool true)/\Below w.heap.size w w':=by
 obtain⟨q1,de⟩:∃ q,Hid (Ke c 1048576=q):=⟨_,(rfl:Ke c 1048576=_)⟩
 have bi:Hid (∀ U:World,Below w.heap.size w U->Calls Tryz.prog 4 #[.agg #[.slice a c.length cap],.int .i64 1048576] U fun e w'=>e = .returned (.int .i64 q1)/\Below U.heap.size U w'):=fun U hU=>by
  have h:=Vg c a cap 1048576 (by omega) (by omega) hn hx U (hO.below hU)
  rw[de.out]at h
  exact h
 obtain⟨n,ch⟩:∃ n,Hid (c.length=n):=⟨_,(rfl:c.length=_)⟩
 obtain⟨no,bh⟩:∃ n,Hid (outs.length=n):=⟨_,(rfl:outs.length=_)⟩
 obtain⟨V1,dj⟩:∃ V,w.alloc (.cells #[.slice a n cap] 24)=V:=⟨_,rfl⟩
 obtain⟨V2,cx⟩:∃ V,V1.alloc (.cells #[.string arg,.slice oa no oc] 27)=V:=⟨_,rfl⟩
 have e0:V1.heap.size=w.heap.size+1:=by rw[<- dj];simp
 have h8:V2.heap.size=w.heap.size+1+1:=by rw[<- cx,World.size_alloc,e0]
 have bg:Hid (Below w.heap.size w V2):=by rw[Hid,<- cx,<- dj];exact(Di w _).alloc (by simp) _
 have ej:Hid (V2.heap[w.heap.size]? = some (.cells #[.slice a n cap] 24)):=by rw[Hid,<- cx];exact Am _ (by rw[<- dj];exact(MapKept.heap_alloc w _).1)
 have dg:Hid (V2.heap[w.heap.size+1]? = some (.cells #[.string arg,.slice oa no oc] 27)):=by rw[Hid,<- cx,<- e0];exact(MapKept.heap_alloc V1 _).1
 have eo:=(De ej.out).1
 by_cases hq1:q1 < 0
 ·rw[ch.out]at bi |-
  rw[bh.out]
  clear hO hJ hx hN bk
  go_enter Tryz.func3,Tryz.ntmps3
  go_wp2_with fail
  refine(bi.out V2 bg.out).mono ?_
  rintro e w1 ⟨rfl,W⟩
  clear eo
  go_wp2_with fail
  go_ret
  exact⟨rfl,bg.out.trans (W.mono (by omega))⟩
 have d8:0<=q1/\q1<=1048576:=by have:=(Tu c 1048576 (by omega)).2.1;rw[de.out]at this;omega
 obtain⟨go,dr⟩:=(Tu c 1048576 (by omega)).2.2 (by rw[de.out];omega)
 have cb:c.length<=1048576:=by omega
 have c7:∀ k (hk:k < c.length),c[k].params.length<=1048576/\c[k].ins.length<=1048576/\c[k].name.size<=1048576:=fun k hk=>by
  obtain⟨h1,h2,h3⟩:=dr c[k] (List.getElem_mem hk)
  exact⟨by omega,by omega,by omega⟩
 have bl:∀ k (hk:k < c.length),c[k].params.length<=1048576/\c[k].ins.length<=1048576:=fun k hk=>⟨(c7 k hk).1,(c7 k hk).2.1⟩
 obtain⟨q2,fo⟩:∃ q,Hid (Wf arg outs q1=q):=⟨_,(rfl:Wf arg outs q1=_)⟩
 have cl:Hid (∀ U:World,Below w.heap.size w U->Calls Tryz.prog 5 #[.agg #[.string arg,.slice oa outs.length oc],.int .i64 q1] U fun e w'=>e = .returned (.int .i64 q2)/\Below U.heap.size U w'):=fun U hU=>by
  have h:=Xy arg outs (.slice oa outs.length oc) q1 harg d8.1 d8.2 hon bk U (hJ.below hU)
  rw[fo.out]at h
  exact h
 by_cases hq2:q2 < 0
 ·rw[ch.out]at bi |-
  rw[bh.out]at cl |-
  clear hO hJ hx hN bk dr c7 bl
  go_enter Tryz.func3,Tryz.ntmps3
  go_wp2_with fail
  refine(bi.out V2 bg.out).mono ?_
  rintro e w1 ⟨rfl,W⟩
  have hj:=J4 ((W.block (w.heap.size+1) (by omega)).trans dg.out)
  obtain⟨ev,ex⟩:=hj
  have gp:=W.size
  have b9:Hid (Below w.heap.size w w1):=bg.out.trans (W.mono (by omega))
  clear eo W
  go_wp2_with fail
  refine(cl.out w1 b9.out).mono ?_
  rintro e w2 ⟨rfl,c0⟩
  clear ev ex
  go_wp2_with fail
  go_ret
  exact⟨rfl,b9.out.trans (c0.mono (by omega))⟩
 obtain⟨ep,f3,d7⟩:=Qdk arg outs q1 (by rw[fo.out];omega)
 have cc:outs.length<=1048576:=by omega
 have fw:arg.size<=1048576:=by omega
 have ez:∀ d ∈ outs,d.size<=1048576:=fun d hd=>by have:=d7 d hd;omega
 have fv:∀ f ∈ c,Iz f:=fun f hf=>by
  obtain⟨h1,h2,h3⟩:=dr f hf
  exact⟨by omega,by omega,by omega,fun d hd=>by have:=Qdr c 1048576 (by rw[de.out];omega) f hf d hd;omega⟩
 have fq:Hid (X9 c):=fun f hf i hi=>by
  obtain⟨k,hk,rfl⟩:=List.getElem_of_mem hf
  obtain⟨j,hj,rfl⟩:=List.getElem_of_mem hi
  exact hN k hk j hj
 obtain⟨b,HB⟩:∃ b,Hid (Qbt c arg outs=b):=⟨_,(rfl:Qbt c arg outs=_)⟩
 have cj:Hid (∀ U:World,Below w.heap.size w U->Calls Tryz.prog 7 #[.agg #[.slice a c.length cap]] U fun e w' => ∃ p,e = .returned (.agg #[.slice p c.length c.length])/\Ed (U.heap.size+3) w'.heap.size w' (.slice p c.length c.length) c/\Below U.heap.size U w'):=fun U hU=>Xs c a cap cb bl U (hO.below hU)
 have ck:Hid (∀ U:World,Below w.heap.size w U->Calls Tryz.prog 8 #[.agg #[.string arg,.slice oa outs.length oc]] U fun e w' => ∃ q k,e = .returned (.agg #[.string arg,.slice q outs.length k])/\w'.ownsRow U.heap.size 9 1 (.slice q outs.length k) outs.length (Be outs)/\Below U.heap.size U w'):=fun U hU=>Yj arg outs oa oc U (hJ.below hU) cc
 have df:Hid (∀ (U:World) p q k,Ak U.heap.size U (.slice p c.length c.length) c->Cx U (.slice q outs.length k) outs->Calls Tryz.prog 6 #[.agg #[.slice p c.length c.length],.agg #[.string arg,.slice q outs.length k]] U fun e w' => ∃ m,e = .returned m/\Fg c arg outs b U.heap.size w' m/\Below U.heap.size U w'):=fun U p q k h1 h2=>(Qj c p c.length arg outs q k cb bl fw cc ez U h1 h2).mono fun e w' h=>by rw[<- HB.out];exact Uf h
 have dc:Hid (∀ (U:World) p q k,Below w.heap.size w U->Ak U.heap.size U (.slice p c.length c.length) c->Cx U (.slice q outs.length k) outs->Calls Tryz.prog 9 #[.agg #[.slice p c.length c.length],.agg #[.string arg,.slice q outs.length k]] U fun e w' => ∃ m,e = .returned m/\Fg c arg outs b U.heap.size w' m/\Below U.heap.size U w'):=fun U p q k hU h1 h2=>(Qf c p c.length arg outs q k cb (Nat.le_refl _) c7 hN fv fw cc ez U h1 h2 (fun Y hY=>hT.below (hU.trans (hY.mono hU.size))) (fun Y hY=>hW.below (hU.trans (hY.mono hU.size)))).mono fun e w' h=>by rw[<- HB.out];exact Uf h
 have ef:Hid (∀ (U:World) A B m m',Fg c arg outs b A U m->Fg c arg outs b B U m'->Calls Tryz.prog 10 #[m,m'] U fun e w'=>e = .returned (.bool true)/\Below U.heap.size U w'):=fun U A B m m' h h'=>Qdn h h' cb bl cc
 have fc:Hid (∀ (U:World) p p',Ak U.heap.size U (.slice p c.length c.length) c->Ak U.heap.size U (.slice p' c.length c.length) c->Calls Tryz.prog 11 #[.agg #[.slice p c.length c.length],.agg #[.slice p' c.length c.length]] U fun e w'=>e = .returned (.bool true)/\Below U.heap.size U w'):=fun U p p' h h'=>Mm c U.heap.size p p' c.length c.length U (Nat.le_refl _) h h' cb bl
 have fd:Hid (∀ (U:World) q k q' k',Cx U (.slice q outs.length k) outs->Cx U (.slice q' outs.length k') outs->Calls Tryz.prog 12 #[.agg #[.string arg,.slice q outs.length k],.agg #[.string arg,.slice q' outs.length k']] U fun e w'=>e = .returned (.bool true)/\Below U.heap.size U w'):=fun U q k q' k' h h'=>Vn arg outs _ _ U h h' cc
 have fk:Hid (∀ (U:World) p A B,(0 < c.length->∃ g R,p=some ⟨g,0,none⟩/\C8 A B g R c U)->Calls Tryz.prog 13 #[.agg #[.slice p c.length c.length],.int .i64 1] U fun e w' => ∃ k,e = .returned (.int .i64 k)/\(1<=k/\k<=10000000000000)/\Cc (F7 A B) U w'):=fun U p A B h=>R3 c p c.length A B cb bl U h
 have fl:Hid (∀ (U:World) A q kk (k:Int),1<=k->k<=10000000000000->U.ownsRow A 9 1 (.slice q outs.length kk) outs.length (Be outs)->Calls Tryz.prog 14 #[.agg #[.string arg,.slice q outs.length kk],.int .i64 k] U fun e w' => ∃ k',e = .returned (.int .i64 k')/\0<=k'/\Au (fun j=>(Value.slice q outs.length kk).ownBlock=some j) U w'):=fun U A q kk k h1 h2 h=>(Ud A arg outs q kk k h1 h2 cc U h).mono fun e w' ⟨h3,h4⟩=>⟨_,h3,by omega,h4⟩
 rw[ch.out]at bi cj df dc fc fk |-
 rw[bh.out]at cl ck df dc fd fl |-
 clear hO hJ hx hN bk dr c7 bl fv ez d7 hT hW go ep f3
 go_enter Tryz.func3,Tryz.ntmps3
 go_wp2_with fail
 refine(bi.out V2 bg.out).mono ?_
 rintro e w1 ⟨rfl,W⟩
 have hj:=J4 ((W.block (w.heap.size+1) (by omega)).trans dg.out)
 obtain⟨ev,ex⟩:=hj
 have gp:=W.size
 have b9:Hid (Below V2.heap.size V2 w1):=W
 clear eo W
 go_wp2_with fail
 refine(cl.out w1 (bg.out.trans (b9.out.mono (by omega)))).mono ?_
 rintro e w2 ⟨rfl,c0⟩
 have h9:=c0.size
 have dq:Below V2.heap.size V2 w2:=b9.out.trans (c0.mono (by omega))
 have ed:Hid (Below w.heap.size w w2):=bg.out.trans (dq.mono (by omega))
 have b7:Hid (w2.heap[w.heap.size]? = some (.cells #[.slice a n cap] 24)/\w2.heap[w.heap.size+1]? = some (.cells #[.string arg,.slice oa no oc] 27)):=⟨(dq.block w.heap.size (by omega)).trans ej.out,(dq.block (w.heap.size+1) (by omega)).trans dg.out⟩
 have ka:w2.cell? ⟨w.heap.size,0,none⟩=some (.slice a n cap):=(De b7.out.1).1
 have kb:=(J4 b7.out.2).1
 have kc:=(J4 b7.out.2).2
 have P:Hid (∀ U,Below w2.heap.size w2 U->U.cell? ⟨w.heap.size,0,none⟩=some (.slice a n cap)/\U.cell? ⟨w.heap.size+1,0,none⟩=some (.string arg)/\U.cell? ⟨w.heap.size+1,1,none⟩=some (.slice oa no oc)):=fun U hU=>⟨(hU.cell (p:=⟨w.heap.size,0,none⟩) (Bv ka)).trans ka,(hU.cell (p:=⟨w.heap.size+1,0,none⟩) (Bv kb)).trans kb,(hU.cell (p:=⟨w.heap.size+1,1,none⟩) (Bv kc)).trans kc⟩
 clear ev ex c0 dq bi cl ej dg b9 dj cx e0
 go_wp2_with fail
 refine wp_region_held_drew (S:=(fun U=>U.cell? ⟨w.heap.size,0,none⟩=some (.slice a n cap)/\U.cell? ⟨w.heap.size+1,0,none⟩=some (.string arg)/\U.cell? ⟨w.heap.size+1,1,none⟩=some (.slice oa no oc))) (by kernel_rfl) (⟨ka,kb,kc⟩) (fun hHeld => ?_)
 refine Tk 0 (.agg #[.slice a n cap]) rfl ?_
 try simp[Act.put]
 refine Tk 2 (.agg #[.string arg,.slice oa no oc]) rfl ?_
 try simp[Act.put]
 refine Nb (Qd0 Qdq c n no arg outs b w2 (fun U=>U.cell? ⟨w.heap.size,0,none⟩=some (.slice a n cap)/\U.cell? ⟨w.heap.size+1,0,none⟩=some (.string arg)/\U.cell? ⟨w.heap.size+1,1,none⟩=some (.slice oa no oc))) (by kernel_rfl) (fun L a U h=>by obtain⟨_,_,_,_,_,hs,_⟩:=h;exact hs) ?stepp8 ?donep8 (by rfl) (by decide) ⟨undef,undef,undef,undef,by rfl,hHeld, ?startp8⟩
 case startp8=>exact⟨⟨rfl,rfl⟩,(fun q=>nomatch q),(Below.refl _ _).drew,(fun q=>nomatch q),(fun q=>nomatch q),(fun q=>nomatch q),(fun q=>nomatch q),(fun q=>nomatch q)⟩
 case stepp8 =>
  clear hHeld ka kb kc
  intro L i o N x H a' U hI K' Q
  obtain⟨a4,a5,a6,v6,rfl,hS,t⟩:=hI
  have ca:Below w.heap.size w U:=ed.out.trans (t.bel.mono (by omega))
  have hi:i < 7:=(Array.getElem?_eq_some_iff.1 N).1
  simp only[Qdq,Act.put,List.setIfInBounds_toArray,List.set_cons_zero,List.set_cons_succ]
  obtain rfl|rfl|rfl|rfl|rfl|rfl|rfl:i=0\/i=1\/i=2\/i=3\/i=4\/i=5\/i=6:=by omega
  ·exact Ey x t.lo.1
  ·obtain rfl:=Option.some.inj N
   go_simp
   refine(cj.out U ca).mono ?_
   rintro e U' ⟨p,rfl,hO,y⟩
   try go_wp2
   exact Q.out _ _ ⟨.agg #[.slice p n n],a5,a6,v6,by rfl,P.out _ (t.bel.trans (y.mono t.bel.size)),(t.keep y).do1 hO.code⟩
  ·exact Ey x t.lo.2
  ·obtain rfl:=Option.some.inj N
   go_simp
   refine(ck.out U ca).mono ?_
   rintro e U' ⟨q,k,rfl,hO,y⟩
   try go_wp2
   exact Q.out _ _ ⟨a4,.agg #[.string arg,.slice q no k],a6,v6,by rfl,P.out _ (t.bel.trans (y.mono t.bel.size)),(t.keep y).do3 (by rw[<- bh.out]at hO |-;exact Ih hO)⟩
  ·obtain rfl:=Option.some.inj N
   obtain⟨p,rfl,hp⟩:=t.f1 (H ⟨1,.data⟩ (by simp) rfl)
   obtain⟨q,k,rfl,hq⟩:=t.f3 (H ⟨3,.data⟩ (by simp) rfl)
   go_simp
   refine(df.out U p q k (hp x) (hq x)).mono ?_
   rintro e U' ⟨m,rfl,hO,y⟩
   try go_wp2
   exact Q.out _ _ ⟨.agg #[.slice p n n],.agg #[.string arg,.slice q no k],m,v6,by rfl,P.out _ (t.bel.trans (y.mono t.bel.size)),(t.keep y).do4 x (hO.mono t.bel.size)⟩
  ·obtain rfl:=Option.some.inj N
   go_simp
   exact Q.out _ _ ⟨a4,a5,a6,.pointer (some ⟨U.heap.size,0,none⟩),by rfl,P.out _ (t.bel.alloc t.bel.size _),t.do5 x⟩
  ·obtain rfl:=Option.some.inj N
   have h4:=H ⟨4,.data⟩ (by simp) rfl
   have h5:=H ⟨5,.data⟩ (by simp) rfl
   obtain⟨g6,rfl,eu,r⟩:=t.f5 h5 x
   obtain⟨x1,n1,y1,x2,n2,y2,x3,n3,y3,x4,n4,y4,s,x5,y5,x6,y6,em⟩:=(t.f4 h4).form
   have gn:=t
   subst em
   unfold Na at r
   have m0:=Aa r 0 _ rfl
   have m1:=Aa r 1 _ rfl
   have m2:=Aa r 2 _ rfl
   have m3:=Aa r 3 _ rfl
   have m4:=Aa r 4 _ rfl
   have m5:=Aa r 5 _ rfl
   have m6:=Aa r 6 _ rfl
   have m7:=Aa r 7 _ rfl
   have m8:=Aa r 8 _ rfl
   have m9:=Aa r 9 _ rfl
   have gu:=Aa r 10 _ rfl
   have gv:=Aa r 11 _ rfl
   have gx:=Aa r 12 _ rfl
   have gy:=Aa r 13 _ rfl
   unfold Rv
   go_simp
   obtain⟨Y,hY,c5,ey,en⟩:=El r t.bel eu (.slice x1 n1 y1) (.slice x2 n2 y2) (.slice x3 n3 y3) (.slice x4 n4 y4) (.int .i64 s) (.int .i64 0) (.int .i64 0) (.string ⟨#[]⟩) (.string ⟨#[]⟩) (.bool false) (.int .i64 0) (.string ⟨#[]⟩) (.slice x5 0 y5) (.slice x6 0 y6)
   try rw[hY]
   exact Q.out _ _ ⟨a4,a5,.agg #[.slice x1 n1 y1,.slice x2 n2 y2,.slice x3 n3 y3,.slice x4 n4 y4,.int .i64 s,.int .i64 0,.int .i64 0,.string ⟨#[]⟩,.string ⟨#[]⟩,.bool false,.int .i64 0,.string ⟨#[]⟩,.slice x5 0 y5,.slice x6 0 y6],.pointer (some ⟨g6,0,none⟩),by rfl,P.out _ c5,t.do6 h4 h5 x rfl rfl c5 ey en⟩
 case donep8 =>
  clear hHeld ka kb kc
  intro L hL a' I hI
  obtain⟨a4,a5,a6,v6,rfl,-,t⟩:=hI
  obtain⟨gw,aw,rfl,h6,em,dp⟩:=t.f6 (hL 6 (by decide))
  have M:=t.f4 (hL 4 (by decide))
  have c4:=t.bel
  clear t hL
  obtain⟨bq,bm,bw,br,bn,bx,bs,bo,bz,bt,bp,b0,sw,bu,b1,bv,b2,ew⟩:=M.form
  subst ew
  injection em with em
  subst em
  unfold Rv at dp M
  have ia:=c4.size
  have f1:gw < I.heap.size:=(Array.getElem?_eq_some_iff.1 dp).1
  have fn:Hid (I.heap[gw]? = some (.cells #[.slice bq bm bw,.slice br bn bx,.slice bs bo bz,.slice bt bp b0,.int .i64 sw,.int .i64 0,.int .i64 0,.string ⟨#[]⟩,.string ⟨#[]⟩,.bool false,.int .i64 0,.string ⟨#[]⟩,.slice bu 0 b1,.slice bv 0 b2] 34)):=dp
  have fe:Hid (Fg c arg outs b w2.heap.size I (.agg #[.slice bq bm bw,.slice br bn bx,.slice bs bo bz,.slice bt bp b0,.int .i64 sw,.int .i64 0,.int .i64 0,.string ⟨#[]⟩,.string ⟨#[]⟩,.bool false,.int .i64 0,.string ⟨#[]⟩,.slice bu 0 b1,.slice bv 0 b2])):=M
  have c9:Hid (Below w.heap.size w I):=ed.out.trans (c4.mono (by omega))
  have b8:Hid (I.heap[w.heap.size]? = some (.cells #[.slice a n cap] 24)/\I.heap[w.heap.size+1]? = some (.cells #[.string arg,.slice oa no oc] 27)):=⟨(c4.block w.heap.size (by omega)).trans b7.out.1,(c4.block (w.heap.size+1) (by omega)).trans b7.out.2⟩
  have ka:I.cell? ⟨w.heap.size,0,none⟩=some (.slice a n cap):=(De b8.out.1).1
  clear dp M c4 P b7 ed df
  simp only[Qdq,Rv,Act.put,List.setIfInBounds_toArray,List.set_cons_zero,List.set_cons_succ]
  go_wp2_with fail
  refine(cj.out I c9.out).mono ?_
  rintro e C ⟨px,rfl,f0,eq⟩
  have ib:=eq.size
  obtain⟨T,dk⟩:∃ V,C.alloc (.cells #[.slice px n n] 38)=V:=⟨_,rfl⟩
  have ht:T.heap.size=C.heap.size+1:=by rw[<- dk];simp
  have c1:Below C.heap.size C T:=by rw[<- dk];exact Di C _
  have ek:Hid (T.heap[C.heap.size]? = some (.cells #[.slice px n n] 38)):=by rw[Hid,<- dk];exact(MapKept.heap_alloc C _).1
  have db:Hid (Ed (I.heap.size+3) C.heap.size C (.slice px n n) c):=f0
  have ap:Hid (Below I.heap.size I T):=eq.trans (c1.mono (by omega))
  have kb:=(J4 ((ap.out.block (w.heap.size+1) (by omega)).trans b8.out.2)).1
  have kc:=(J4 ((ap.out.block (w.heap.size+1) (by omega)).trans b8.out.2)).2
  have b5:Hid (Below C.heap.size C T):=c1
  clear f0 eq c1 ka
  go_wp2_with fail
  refine(ck.out T (c9.out.trans (ap.out.mono (by omega)))).mono ?_
  rintro e J ⟨qx,kx,rfl,bk,er⟩
  have ic:=er.size
  obtain⟨O,dl⟩:∃ V,J.alloc (.cells #[.string arg,.slice qx no kx] 40)=V:=⟨_,rfl⟩
  have hu:O.heap.size=J.heap.size+1:=by rw[<- dl];simp
  have c2:Below J.heap.size J O:=by rw[<- dl];exact Di J _
  have el:Hid (O.heap[J.heap.size]? = some (.cells #[.string arg,.slice qx no kx] 40)):=by rw[Hid,<- dl];exact(MapKept.heap_alloc J _).1
  have dd:Hid (J.ownsRow T.heap.size 9 1 (.slice qx no kx) no (Be outs)):=bk
  have a8:Hid (Below T.heap.size T O):=er.trans (c2.mono (by omega))
  have cd:Hid (Below J.heap.size J O):=c2
  have ka:O.cell? ⟨C.heap.size,0,none⟩=some (.slice px n n):=(De ((a8.out.block C.heap.size (by omega)).trans ek.out)).1
  obtain⟨kd,ke⟩:=J4 el.out
  have dv:Hid (Ak O.heap.size O (.slice px n n) c):=Ak.mono ((db.out.code).below (b5.out.trans (a8.out.mono (by omega)))) (by omega)
  have cg:Hid (Cx O (.slice qx no kx) outs):=by
   have h:=dd.out
   rw[<- bh.out]at h |-
   exact(Ih h).below cd.out
  clear bk er c2 kb kc
  go_wp2_with fail
  refine(dc.out O px qx kx (c9.out.trans ((ap.out.trans (a8.out.mono (by omega))).mono (by omega))) dv.out cg.out).mono ?_
  rintro e w6 ⟨mg,rfl,dh,es⟩
  have ie:=es.size
  obtain⟨ac,X,aj,ad,Z,ak,ae,aa,al,af,ab,am,sg,ag,an,ai,ao,eg⟩:=dh.form
  subst eg
  unfold Rv at dh |-
  obtain⟨v,dm⟩:∃ V,w6.alloc (.cells #[.slice ac X aj,.slice ad Z ak,.slice ae aa al,.slice af ab am,.int .i64 sg,.int .i64 0,.int .i64 0,.string ⟨#[]⟩,.string ⟨#[]⟩,.bool false,.int .i64 0,.string ⟨#[]⟩,.slice ag 0 an,.slice ai 0 ao] 34)=V:=⟨_,rfl⟩
  have hv:v.heap.size=w6.heap.size+1:=by rw[<- dm];simp
  have c3:Below w6.heap.size w6 v:=by rw[<- dm];exact Di w6 _
  have gb:Hid (v.heap[w6.heap.size]? = some (.cells #[.slice ac X aj,.slice ad Z ak,.slice ae aa al,.slice af ab am,.int .i64 sg,.int .i64 0,.int .i64 0,.string ⟨#[]⟩,.string ⟨#[]⟩,.bool false,.int .i64 0,.string ⟨#[]⟩,.slice ag 0 an,.slice ai 0 ao] 34)):=by rw[Hid,<- dm];exact(MapKept.heap_alloc w6 _).1
  have ei:Hid (Fg c arg outs b O.heap.size w6 (.agg #[.slice ac X aj,.slice ad Z ak,.slice ae aa al,.slice af ab am,.int .i64 sg,.int .i64 0,.int .i64 0,.string ⟨#[]⟩,.string ⟨#[]⟩,.bool false,.int .i64 0,.string ⟨#[]⟩,.slice ag 0 an,.slice ai 0 ao])):=dh
  have ce:Hid (Below w6.heap.size w6 v):=c3
  have bf:Below O.heap.size O v:=es.trans (c3.mono (by omega))
  have be:Below T.heap.size T v:=a8.out.trans (bf.mono (by omega))
  have bd:Below I.heap.size I v:=ap.out.trans (be.mono (by omega))
  have HV:Hid (∀ U,Au (fun j=>(I.heap.size<=j/\j < C.heap.size)\/(T.heap.size<=j/\j < J.heap.size)\/(O.heap.size<=j/\j < w6.heap.size)) v U->U.heap[w.heap.size]? = some (.cells #[.slice a n cap] 24)/\U.heap[w.heap.size+1]? = some (.cells #[.string arg,.slice oa no oc] 27)/\U.heap[gw]? = some (.cells #[.slice bq bm bw,.slice br bn bx,.slice bs bo bz,.slice bt bp b0,.int .i64 sw,.int .i64 0,.int .i64 0,.string ⟨#[]⟩,.string ⟨#[]⟩,.bool false,.int .i64 0,.string ⟨#[]⟩,.slice bu 0 b1,.slice bv 0 b2] 34)/\U.heap[C.heap.size]? = some (.cells #[.slice px n n] 38)/\U.heap[J.heap.size]? = some (.cells #[.string arg,.slice qx no kx] 40)/\U.heap[w6.heap.size]? = some (.cells #[.slice ac X aj,.slice ad Z ak,.slice ae aa al,.slice af ab am,.int .i64 sg,.int .i64 0,.int .i64 0,.string ⟨#[]⟩,.string ⟨#[]⟩,.bool false,.int .i64 0,.string ⟨#[]⟩,.slice ag 0 an,.slice ai 0 ao] 34)/\Below w.heap.size w U/\Fg c arg outs b w2.heap.size U (.agg #[.slice bq bm bw,.slice br bn bx,.slice bs bo bz,.slice bt bp b0,.int .i64 sw,.int .i64 0,.int .i64 0,.string ⟨#[]⟩,.string ⟨#[]⟩,.bool false,.int .i64 0,.string ⟨#[]⟩,.slice bu 0 b1,.slice bv 0 b2])):=fun U hU=>by
   have hk:∀ k,k < I.heap.size->U.heap[k]? = I.heap[k]?:=fun k hk=>(hU.keep k (by omega) (by omega)).trans (bd.block k hk)
   refine⟨(hk _ (by omega)).trans b8.out.1,(hk _ (by omega)).trans b8.out.2,(hk _ f1).trans fn.out, ?_, ?_, ?_,c9.out.trans ⟨hU.os.trans bd.os,hU.tape.trans bd.tape,hU.output.trans bd.output,by have:=hU.size;omega,fun k h=>hk k (by omega)⟩,fe.out.keep (fun k _ h=>hk k h)⟩
   ·exact(hU.keep C.heap.size (by omega) (by omega)).trans ((be.block C.heap.size (by omega)).trans ek.out)
   ·exact(hU.keep J.heap.size (by omega) (by omega)).trans ((bf.block J.heap.size (by omega)).trans el.out)
   ·exact(hU.keep w6.heap.size (by omega) (by omega)).trans gb.out
  have HG:Hid (∀ U,Au (fun j=>(I.heap.size<=j/\j < C.heap.size)\/(T.heap.size<=j/\j < J.heap.size)) v U->Fg c arg outs b O.heap.size U (.agg #[.slice ac X aj,.slice ad Z ak,.slice ae aa al,.slice af ab am,.int .i64 sg,.int .i64 0,.int .i64 0,.string ⟨#[]⟩,.string ⟨#[]⟩,.bool false,.int .i64 0,.string ⟨#[]⟩,.slice ag 0 an,.slice ai 0 ao])):=fun U hU=>ei.out.keep (fun k h1 h2=>(hU.keep k (by omega) (by omega)).trans (ce.out.block k h2))
  have ga:Hid (∀ U,Au (fun j=>(I.heap.size<=j/\j < C.heap.size)\/(T.heap.size<=j/\j < J.heap.size)) v U->Calls Tryz.prog 15 #[.agg #[.slice ac X aj,.slice ad Z ak,.slice ae aa al,.slice af ab am,.int .i64 sg,.int .i64 0,.int .i64 0,.string ⟨#[]⟩,.string ⟨#[]⟩,.bool false,.int .i64 0,.string ⟨#[]⟩,.slice ag 0 an,.slice ai 0 ao],.int .i64 1] U fun e w' => ∃ K,e = .returned (.int .i64 K)/\1<=K/\Ky b O.heap.size w' (.agg #[.slice ac X aj,.slice ad Z ak,.slice ae aa al,.slice af ab am,.int .i64 sg,.int .i64 0,.int .i64 0,.string ⟨#[]⟩,.string ⟨#[]⟩,.bool false,.int .i64 0,.string ⟨#[]⟩,.slice ag 0 an,.slice ai 0 ao]) K/\Au (fun j=>O.heap.size<=j/\j < w6.heap.size) U w'):=fun U hU=>Qbz ei.out fq.out (by have:=hU.size;omega) (fun k h1 h2=>(hU.keep k (by omega) (by omega)).trans (ce.out.block k h2))
  have fa:Hid (∀ U,Below v.heap.size v U->Ak U.heap.size U (.slice px n n) c):=fun U hU=>by
   have h:=db.out.code.below (b5.out.trans ((be.trans (hU.mono (by omega))).mono (by omega)))
   exact Ak.mono h (by have:=hU.size;omega)
  have fg:Hid (∀ U,Below v.heap.size v U->Cx U (.slice qx no kx) outs):=fun U hU=>cg.out.below (bf.trans (hU.mono (by omega)))
  have fm:Hid (∀ U,Below v.heap.size v U->(0 < n->∃ g R,px=some ⟨g,0,none⟩/\C8 (I.heap.size+3) C.heap.size g R c U)):=fun U hU h0=>by
   have h:=db.out
   rw[<- ch.out]at h
   obtain⟨g,R,e,hm⟩:=h.marks (by rw[ch.out];exact h0)
   exact⟨g,R,e,hm.tch (Cc.of_below (S:=fun _=>False) (b5.out.trans ((be.trans (hU.mono (by omega))).mono (by omega)))) id⟩
  have ff:Hid (∀ U,Au (fun j=>I.heap.size<=j/\j < C.heap.size) v U->U.ownsRow T.heap.size 9 1 (.slice qx no kx) no (Be outs)):=fun U hU=>Ah dd.out (fun k _ h1 h2=>(hU.keep k (by omega) (by omega)).trans ((bf.block k (by omega)).trans (cd.out.block k h2)))
  have f9:Hid (∀ j,(Value.slice qx no kx).ownBlock=some j->T.heap.size<=j/\j < J.heap.size):=fun j hj=>(A3 dd.out hj).1
  clear bd be bf es c3 dh ka kd ke dv cg ap a8 b8 fn fe ek el ei dd db fq ce cd b5 dk dl
  obtain⟨-,-,u,-,-,l,-,M⟩:=HV.out v (Au.refl _ _)
  have fb:Hid (Fg c arg outs b w2.heap.size v (.agg #[.slice bq bm bw,.slice br bn bx,.slice bs bo bz,.slice bt bp b0,.int .i64 sw,.int .i64 0,.int .i64 0,.string ⟨#[]⟩,.string ⟨#[]⟩,.bool false,.int .i64 0,.string ⟨#[]⟩,.slice bu 0 b1,.slice bv 0 b2])):=M
  clear M
  have cm:=(Aa u 0 _ rfl).1
  have cn:=(Aa u 1 _ rfl).1
  have co:=(Aa u 2 _ rfl).1
  have cp:=(Aa u 3 _ rfl).1
  have cq:=(Aa u 4 _ rfl).1
  have cr:=(Aa u 5 _ rfl).1
  have cs:=(Aa u 6 _ rfl).1
  have ct:=(Aa u 7 _ rfl).1
  have cu:=(Aa u 8 _ rfl).1
  have cv:=(Aa u 9 _ rfl).1
  have a9:=(Aa u 10 _ rfl).1
  have ba:=(Aa u 11 _ rfl).1
  have bb:=(Aa u 12 _ rfl).1
  have bc:=(Aa u 13 _ rfl).1
  have ar:=(Aa l 0 _ rfl).1
  have au:=(Aa l 1 _ rfl).1
  have av:=(Aa l 2 _ rfl).1
  have ax:=(Aa l 3 _ rfl).1
  have ay:=(Aa l 4 _ rfl).1
  have az:=(Aa l 5 _ rfl).1
  have a0:=(Aa l 6 _ rfl).1
  have a1:=(Aa l 7 _ rfl).1
  have a2:=(Aa l 8 _ rfl).1
  have a3:=(Aa l 9 _ rfl).1
  have D:=(Aa l 10 _ rfl).1
  have E:=(Aa l 11 _ rfl).1
  have F:=(Aa l 12 _ rfl).1
  have G:=(Aa l 13 _ rfl).1
  clear u l
  go_wp2_with fail
  refine(ef.out v _ _ _ _ (HG.out v (Au.refl _ _)) fb.out).mono ?_
  rintro e w7 ⟨rfl,et⟩
  clear cm ar cn au co av cp ax cq ay cr az cs a0 ct a1 cu a2 cv a3 a9 D ba E bb F bc G dm fb
  have gq:=et.size
  have ee:Hid (Below v.heap.size v w7):=et
  clear et
  have fp:Hid (∀ U,Below v.heap.size v U->Below w.heap.size w U):=fun U hU=>(HV.out U (Au.of_below hU)).2.2.2.2.2.2.1
  have b6:Hid (∀ U,Below v.heap.size v U->U.cell? ⟨C.heap.size,0,none⟩=some (.slice px n n)/\U.cell? ⟨w.heap.size,0,none⟩=some (.slice a n cap)):=fun U hU=>by
   obtain⟨h1,-,-,h2,-⟩:=HV.out U (Au.of_below hU)
   exact⟨(De h2).1,(De h1).1⟩
  have ci:Hid (∀ U,Below v.heap.size v U->(U.cell? ⟨J.heap.size,0,none⟩=some (.string arg)/\U.cell? ⟨J.heap.size,1,none⟩=some (.slice qx no kx))/\(U.cell? ⟨w.heap.size+1,0,none⟩=some (.string arg)/\U.cell? ⟨w.heap.size+1,1,none⟩=some (.slice oa no oc))):=fun U hU=>by
   obtain⟨-,h1,-,-,h2,-⟩:=HV.out U (Au.of_below hU)
   exact⟨J4 h2,J4 h1⟩
  go_wp2_with fail
  refine wp_region_held_drew (S:=(fun U=>U.cell? ⟨C.heap.size,0,none⟩=some (.slice px n n)/\U.cell? ⟨w.heap.size,0,none⟩=some (.slice a n cap))) (by kernel_rfl) (b6.out _ ee.out.drew) (fun hHeld => ?_)
  refine Tk 0 (.agg #[.slice px n n]) rfl ?_
  try simp[Act.put]
  refine Tk 1 (.agg #[.slice a n cap]) rfl ?_
  try simp[Act.put]
  refine wpAnyH_ready (rs:=[2]) (by kernel_rfl) (by simp) ?_
  refine AllReadyH.cons rfl (fun KK Q => ?_) AllReadyH.nil
  go_simp
  refine(cj.out _ (fp.out _ ee.out.drew)).mono ?_
  rintro e w8 ⟨p8,rfl,fz,fx⟩
  have da:Hid (Below v.heap.size v w8):=ee.out.drew.trans (fx.mono gq)
  have f8:Hid (Ak w8.heap.size w8 (.slice p8 n n) c):=fz.code
  clear fz fx
  go_wp2
  refine Q.out _ _ (b6.out _ da.out) (fun hHeld => ?_)
  clear Q
  try simp[Act.put]
  refine wpAnyH_ready (rs:=[3]) (by kernel_rfl) (by simp) ?_
  refine AllReadyH.cons rfl (fun KK Q => ?_) AllReadyH.nil
  go_simp
  refine(fc.out w8 px p8 (fa.out w8 da.out) f8.out).mono ?_
  rintro e w9 ⟨rfl,fy⟩
  have cf:Hid (Below v.heap.size v w9):=da.out.trans (fy.mono da.out.size)
  clear fy
  go_wp2
  refine Q.out _ _ (b6.out _ cf.out) (fun hHeld => ?_)
  clear Q
  try simp[Act.put]
  refine Tk 4 (.bool false) rfl ?_
  try simp[Act.put]
  refine wpAnyH_done (by kernel_rfl) ?_ _
  clear hHeld
  go_wp2_with fail
  refine wp_region_held_drew (S:=(fun U=>(U.cell? ⟨J.heap.size,0,none⟩=some (.string arg)/\U.cell? ⟨J.heap.size,1,none⟩=some (.slice qx no kx))/\(U.cell? ⟨w.heap.size+1,0,none⟩=some (.string arg)/\U.cell? ⟨w.heap.size+1,1,none⟩=some (.slice oa no oc)))) (by kernel_rfl) (ci.out _ cf.out.drew) (fun hHeld => ?_)
  refine Tk 0 (.agg #[.string arg,.slice qx no kx]) rfl ?_
  try simp[Act.put]
  refine Tk 1 (.agg #[.string arg,.slice oa no oc]) rfl ?_
  try simp[Act.put]
  refine wpAnyH_ready (rs:=[2]) (by kernel_rfl) (by simp) ?_
  refine AllReadyH.cons rfl (fun KK Q => ?_) AllReadyH.nil
  go_simp
  refine(ck.out _ (fp.out _ cf.out.drew)).mono ?_
  rintro e ds ⟨f5,f4,rfl,c6,d1⟩
  have b3:Hid (Below v.heap.size v ds):=cf.out.drew.trans (d1.mono cf.out.size)
  have e9:Hid (Cx ds (.slice f5 no f4) outs):=by
   rw[Hid]
   rw[<- bh.out]at c6 |-
   exact Ih c6
  clear c6 d1
  go_wp2
  refine Q.out _ _ (ci.out _ b3.out) (fun hHeld => ?_)
  clear Q
  try simp[Act.put]
  refine wpAnyH_ready (rs:=[3]) (by kernel_rfl) (by simp) ?_
  refine AllReadyH.cons rfl (fun KK Q => ?_) AllReadyH.nil
  go_simp
  refine(fd.out ds qx kx f5 f4 (fg.out ds b3.out) e9.out).mono ?_
  rintro e dt ⟨rfl,d2⟩
  have b4:Hid (Below v.heap.size v dt):=b3.out.trans (d2.mono b3.out.size)
  clear d2
  go_wp2
  refine Q.out _ _ (ci.out _ b4.out) (fun hHeld => ?_)
  clear Q
  try simp[Act.put]
  refine Tk 4 (.bool false) rfl ?_
  try simp[Act.put]
  refine wpAnyH_done (by kernel_rfl) ?_ _
  clear hHeld
  have gt:=(b6.out dt b4.out).1
  go_wp2_with fail
  refine(fk.out dt px _ _ (fm.out dt b4.out)).mono ?_
  rintro e du ⟨k1,rfl,f2,aq⟩
  have d9:Hid (Au (fun j=>I.heap.size<=j/\j < C.heap.size) v du):=(Au.of_below b4.out).trans ⟨aq.os,aq.tape,aq.output,aq.size,fun j hj hn=>aq.keep j hj (fun h=>hn ⟨by have:=h.1;omega,h.2⟩)⟩
  obtain⟨-,-,-,-,vj,-⟩:=HV.out du (d9.out.mono (fun j h => .inl h))
  obtain⟨gr,gs⟩:=J4 vj
  clear gt aq vj
  go_wp2_with fail
  refine(fl.out du _ qx kx k1 f2.1 f2.2 (ff.out du d9.out)).mono ?_
  rintro e c8 ⟨k2,rfl,h7,d5⟩
  have ea:Hid (Au (fun j=>(I.heap.size<=j/\j < C.heap.size)\/(T.heap.size<=j/\j < J.heap.size)) v c8):=(d9.out.mono (fun j h => .inl h)).trans (d5.mono (fun j h => .inr (f9.out j h)))
  have hl:¬ k2 < 0:=by omega
  obtain⟨-,-,u,-,-,l,-,M⟩:=HV.out c8 (ea.out.mono (fun j h=>by rcases h with h|h;exact .inl h;exact .inr (.inl h)))
  have dw:Hid (Fg c arg outs b w2.heap.size c8 (.agg #[.slice bq bm bw,.slice br bn bx,.slice bs bo bz,.slice bt bp b0,.int .i64 sw,.int .i64 0,.int .i64 0,.string ⟨#[]⟩,.string ⟨#[]⟩,.bool false,.int .i64 0,.string ⟨#[]⟩,.slice bu 0 b1,.slice bv 0 b2])):=M
  clear M gr gs d5
  have cm:=(Aa u 0 _ rfl).1
  have cn:=(Aa u 1 _ rfl).1
  have co:=(Aa u 2 _ rfl).1
  have cp:=(Aa u 3 _ rfl).1
  have cq:=(Aa u 4 _ rfl).1
  have cr:=(Aa u 5 _ rfl).1
  have cs:=(Aa u 6 _ rfl).1
  have ct:=(Aa u 7 _ rfl).1
  have cu:=(Aa u 8 _ rfl).1
  have cv:=(Aa u 9 _ rfl).1
  have a9:=(Aa u 10 _ rfl).1
  have ba:=(Aa u 11 _ rfl).1
  have bb:=(Aa u 12 _ rfl).1
  have bc:=(Aa u 13 _ rfl).1
  have ar:=(Aa l 0 _ rfl).1
  have au:=(Aa l 1 _ rfl).1
  have av:=(Aa l 2 _ rfl).1
  have ax:=(Aa l 3 _ rfl).1
  have ay:=(Aa l 4 _ rfl).1
  have az:=(Aa l 5 _ rfl).1
  have a0:=(Aa l 6 _ rfl).1
  have a1:=(Aa l 7 _ rfl).1
  have a2:=(Aa l 8 _ rfl).1
  have a3:=(Aa l 9 _ rfl).1
  have D:=(Aa l 10 _ rfl).1
  have E:=(Aa l 11 _ rfl).1
  have F:=(Aa l 12 _ rfl).1
  have G:=(Aa l 13 _ rfl).1
  clear u l
  go_wp2_with fail
  refine(ef.out c8 _ _ _ _ (HG.out c8 ea.out) dw.out).mono ?_
  rintro e e1 ⟨rfl,d3⟩
  clear cm cn co cp cq cr cs ct cu cv a9 ba bb bc ar au av ax ay az a0 a1 a2 a3 D E F G dw
  have eb:Hid (Au (fun j=>(I.heap.size<=j/\j < C.heap.size)\/(T.heap.size<=j/\j < J.heap.size)) v e1):=ea.out.trans (Au.of_below d3)
  obtain⟨-,-,-,-,-,l,-,-⟩:=HV.out e1 (eb.out.mono (fun j h=>by rcases h with h|h;exact .inl h;exact .inr (.inl h)))
  have ar:=(Aa l 0 _ rfl).1
  have au:=(Aa l 1 _ rfl).1
  have av:=(Aa l 2 _ rfl).1
  have ax:=(Aa l 3 _ rfl).1
  have ay:=(Aa l 4 _ rfl).1
  have az:=(Aa l 5 _ rfl).1
  have a0:=(Aa l 6 _ rfl).1
  have a1:=(Aa l 7 _ rfl).1
  have a2:=(Aa l 8 _ rfl).1
  have a3:=(Aa l 9 _ rfl).1
  have D:=(Aa l 10 _ rfl).1
  have E:=(Aa l 11 _ rfl).1
  have F:=(Aa l 12 _ rfl).1
  have G:=(Aa l 13 _ rfl).1
  clear l d3
  go_wp2_with fail
  refine(ga.out e1 eb.out).mono ?_
  rintro e e2 ⟨K,rfl,Q,d0,d6⟩
  clear ar au av ax ay az a0 a1 a2 a3 D E F G
  have e4:Hid (Au (fun j=>(I.heap.size<=j/\j < C.heap.size)\/(T.heap.size<=j/\j < J.heap.size)\/(O.heap.size<=j/\j < w6.heap.size)) v e2):=(eb.out.mono (fun j h=>by rcases h with h|h;exact .inl h;exact .inr (.inl h))).trans (d6.mono (fun j h => .inr (.inr h)))
  have dy:Hid (Ky b O.heap.size e2 (.agg #[.slice ac X aj,.slice ad Z ak,.slice ae aa al,.slice af ab am,.int .i64 sg,.int .i64 0,.int .i64 0,.string ⟨#[]⟩,.string ⟨#[]⟩,.bool false,.int .i64 0,.string ⟨#[]⟩,.slice ag 0 an,.slice ai 0 ao]) K):=d0
  obtain⟨-,-,-,-,-,l,-,-⟩:=HV.out e2 e4.out
  have ar:=(Aa l 0 _ rfl).1
  have au:=(Aa l 1 _ rfl).1
  have av:=(Aa l 2 _ rfl).1
  have ax:=(Aa l 3 _ rfl).1
  have ay:=(Aa l 4 _ rfl).1
  have az:=(Aa l 5 _ rfl).1
  have a0:=(Aa l 6 _ rfl).1
  have a1:=(Aa l 7 _ rfl).1
  have a2:=(Aa l 8 _ rfl).1
  have a3:=(Aa l 9 _ rfl).1
  have D:=(Aa l 10 _ rfl).1
  have E:=(Aa l 11 _ rfl).1
  have F:=(Aa l 12 _ rfl).1
  have G:=(Aa l 13 _ rfl).1
  have hy:¬ K < 0:=by omega
  have hw:(K != K)=false:=by simp
  clear l d6 d0
  go_wp2_with fail
  refine(Ub dy.out).mono ?_
  rintro e a7 ⟨rfl,cy⟩
  clear ar au av ax ay az a0 a1 a2 a3 D E F G
  have e5:Hid (Au (fun j=>(I.heap.size<=j/\j < C.heap.size)\/(T.heap.size<=j/\j < J.heap.size)\/(O.heap.size<=j/\j < w6.heap.size)) v a7):=e4.out.trans (Au.of_below cy)
  have fh:Hid (Ky b O.heap.size a7 (.agg #[.slice ac X aj,.slice ad Z ak,.slice ae aa al,.slice af ab am,.int .i64 sg,.int .i64 0,.int .i64 0,.string ⟨#[]⟩,.string ⟨#[]⟩,.bool false,.int .i64 0,.string ⟨#[]⟩,.slice ag 0 an,.slice ai 0 ao]) K):=dy.out.below cy
  obtain⟨vc,vj,-,-,-,-,cw,-⟩:=HV.out a7 e5.out
  have e7:Hid (Below w.heap.size w a7):=cw
  have ho:=cw.size
  have ka:a7.cell? ⟨w.heap.size,0,none⟩=some (.slice a n cap):=(De vc).1
  obtain⟨kb,kc⟩:=J4 vj
  have P:Hid (∀ U,Below a7.heap.size a7 U->U.cell? ⟨w.heap.size,0,none⟩=some (.slice a n cap)/\U.cell? ⟨w.heap.size+1,0,none⟩=some (.string arg)/\U.cell? ⟨w.heap.size+1,1,none⟩=some (.slice oa no oc)):=fun U hU=>⟨(hU.cell (p:=⟨w.heap.size,0,none⟩) (Bv ka)).trans ka,(hU.cell (p:=⟨w.heap.size+1,0,none⟩) (Bv kb)).trans kb,(hU.cell (p:=⟨w.heap.size+1,1,none⟩) (Bv kc)).trans kc⟩
  clear vc vj cw cy
  go_wp2_with fail
  refine wp_region_held_drew (S:=(fun U=>U.cell? ⟨w.heap.size,0,none⟩=some (.slice a n cap)/\U.cell? ⟨w.heap.size+1,0,none⟩=some (.string arg)/\U.cell? ⟨w.heap.size+1,1,none⟩=some (.slice oa no oc))) (by kernel_rfl) (⟨ka,kb,kc⟩) (fun hHeld => ?_)
  refine Tk 0 (.agg #[.slice a n cap]) rfl ?_
  try simp[Act.put]
  refine Tk 2 (.agg #[.string arg,.slice oa no oc]) rfl ?_
  try simp[Act.put]
  refine Nb (Qd0 Qb0 c n no arg outs b a7 (fun U=>U.cell? ⟨w.heap.size,0,none⟩=some (.slice a n cap)/\U.cell? ⟨w.heap.size+1,0,none⟩=some (.string arg)/\U.cell? ⟨w.heap.size+1,1,none⟩=some (.slice oa no oc))) (by kernel_rfl) (fun L a U h=>by obtain⟨_,_,_,_,_,hs,_⟩:=h;exact hs) ?stepp31 ?donep31 (by rfl) (by decide) ⟨undef,undef,undef,undef,by rfl,hHeld, ?startp31⟩
  case startp31=>exact⟨⟨rfl,rfl⟩,(fun q=>nomatch q),(Below.refl _ _).drew,(fun q=>nomatch q),(fun q=>nomatch q),(fun q=>nomatch q),(fun q=>nomatch q),(fun q=>nomatch q)⟩
  case stepp31 =>
   clear hHeld ka kb kc
   intro L i o N x H a' U hI K' Q
   obtain⟨a4,a5,a6,v6,rfl,hS,t⟩:=hI
   have ca:Below w.heap.size w U:=e7.out.trans (t.bel.mono (by omega))
   have hi:i < 7:=(Array.getElem?_eq_some_iff.1 N).1
   simp only[Qb0,Act.put,List.setIfInBounds_toArray,List.set_cons_zero,List.set_cons_succ]
   obtain rfl|rfl|rfl|rfl|rfl|rfl|rfl:i=0\/i=1\/i=2\/i=3\/i=4\/i=5\/i=6:=by omega
   ·exact Ey x t.lo.1
   ·obtain rfl:=Option.some.inj N
    go_simp
    refine(cj.out U ca).mono ?_
    rintro e U' ⟨p,rfl,hO,y⟩
    try go_wp2
    exact Q.out _ _ ⟨.agg #[.slice p n n],a5,a6,v6,by rfl,P.out _ (t.bel.trans (y.mono t.bel.size)),(t.keep y).do1 hO.code⟩
   ·exact Ey x t.lo.2
   ·obtain rfl:=Option.some.inj N
    go_simp
    refine(ck.out U ca).mono ?_
    rintro e U' ⟨q,k,rfl,hO,y⟩
    try go_wp2
    exact Q.out _ _ ⟨a4,.agg #[.string arg,.slice q no k],a6,v6,by rfl,P.out _ (t.bel.trans (y.mono t.bel.size)),(t.keep y).do3 (by rw[<- bh.out]at hO |-;exact Ih hO)⟩
   ·obtain rfl:=Option.some.inj N
    obtain⟨p,rfl,hp⟩:=t.f1 (H ⟨1,.data⟩ (by simp) rfl)
    obtain⟨q,k,rfl,hq⟩:=t.f3 (H ⟨3,.data⟩ (by simp) rfl)
    go_simp
    refine(dc.out U p q k ca (hp x) (hq x)).mono ?_
    rintro e U' ⟨m,rfl,hO,y⟩
    try go_wp2
    exact Q.out _ _ ⟨.agg #[.slice p n n],.agg #[.string arg,.slice q no k],m,v6,by rfl,P.out _ (t.bel.trans (y.mono t.bel.size)),(t.keep y).do4 x (hO.mono t.bel.size)⟩
   ·obtain rfl:=Option.some.inj N
    go_simp
    exact Q.out _ _ ⟨a4,a5,a6,.pointer (some ⟨U.heap.size,0,none⟩),by rfl,P.out _ (t.bel.alloc t.bel.size _),t.do5 x⟩
   ·obtain rfl:=Option.some.inj N
    have h4:=H ⟨4,.data⟩ (by simp) rfl
    have h5:=H ⟨5,.data⟩ (by simp) rfl
    obtain⟨g6,rfl,eu,r⟩:=t.f5 h5 x
    obtain⟨x1,n1,y1,x2,n2,y2,x3,n3,y3,x4,n4,y4,s,x5,y5,x6,y6,em⟩:=(t.f4 h4).form
    have gn:=t
    subst em
    unfold Na at r
    have m0:=Aa r 0 _ rfl
    have m1:=Aa r 1 _ rfl
    have m2:=Aa r 2 _ rfl
    have m3:=Aa r 3 _ rfl
    have m4:=Aa r 4 _ rfl
    have m5:=Aa r 5 _ rfl
    have m6:=Aa r 6 _ rfl
    have m7:=Aa r 7 _ rfl
    have m8:=Aa r 8 _ rfl
    have m9:=Aa r 9 _ rfl
    have gu:=Aa r 10 _ rfl
    have gv:=Aa r 11 _ rfl
    have gx:=Aa r 12 _ rfl
    have gy:=Aa r 13 _ rfl
    unfold Rv
    go_simp
    obtain⟨Y,hY,c5,ey,en⟩:=El r t.bel eu (.slice x1 n1 y1) (.slice x2 n2 y2) (.slice x3 n3 y3) (.slice x4 n4 y4) (.int .i64 s) (.int .i64 0) (.int .i64 0) (.string ⟨#[]⟩) (.string ⟨#[]⟩) (.bool false) (.int .i64 0) (.string ⟨#[]⟩) (.slice x5 0 y5) (.slice x6 0 y6)
    try rw[hY]
    exact Q.out _ _ ⟨a4,a5,.agg #[.slice x1 n1 y1,.slice x2 n2 y2,.slice x3 n3 y3,.slice x4 n4 y4,.int .i64 s,.int .i64 0,.int .i64 0,.string ⟨#[]⟩,.string ⟨#[]⟩,.bool false,.int .i64 0,.string ⟨#[]⟩,.slice x5 0 y5,.slice x6 0 y6],.pointer (some ⟨g6,0,none⟩),by rfl,P.out _ c5,t.do6 h4 h5 x rfl rfl c5 ey en⟩
  case donep31 =>
   clear hHeld ka kb kc
   intro L hL a' bj hI
   obtain⟨a4,a5,a6,v6,rfl,-,t⟩:=hI
   obtain⟨gh,ah,rfl,hz,em,z⟩:=t.f6 (hL 6 (by decide))
   have di:=t.f4 (hL 4 (by decide))
   have dn:=t.bel
   clear t hL
   obtain⟨g3,gz,ha,g4,g0,hb,g5,g1,hc,g7,g2,he,sh,g8,hg,g9,hh,eh⟩:=di.form
   subst eh
   injection em with em
   subst em
   unfold Rv at z di
   have ec:Au (fun j=>(I.heap.size<=j/\j < C.heap.size)\/(T.heap.size<=j/\j < J.heap.size)\/(O.heap.size<=j/\j < w6.heap.size)) v bj:=e5.out.trans (Au.of_below dn)
   have fi:Hid (Ky b O.heap.size bj (.agg #[.slice ac X aj,.slice ad Z ak,.slice ae aa al,.slice af ab am,.int .i64 sg,.int .i64 0,.int .i64 0,.string ⟨#[]⟩,.string ⟨#[]⟩,.bool false,.int .i64 0,.string ⟨#[]⟩,.slice ag 0 an,.slice ai 0 ao]) K):=fh.out.below dn
   have dx:Hid (Fg c arg outs b a7.heap.size bj (.agg #[.slice g3 gz ha,.slice g4 g0 hb,.slice g5 g1 hc,.slice g7 g2 he,.int .i64 sh,.int .i64 0,.int .i64 0,.string ⟨#[]⟩,.string ⟨#[]⟩,.bool false,.int .i64 0,.string ⟨#[]⟩,.slice g8 0 hg,.slice g9 0 hh])):=di
   have hr:=dn.size
   obtain⟨-,-,u,-,-,-,-,M⟩:=HV.out bj ec
   have dz:Hid (Fg c arg outs b w2.heap.size bj (.agg #[.slice bq bm bw,.slice br bn bx,.slice bs bo bz,.slice bt bp b0,.int .i64 sw,.int .i64 0,.int .i64 0,.string ⟨#[]⟩,.string ⟨#[]⟩,.bool false,.int .i64 0,.string ⟨#[]⟩,.slice bu 0 b1,.slice bv 0 b2])):=M
   have f7:Hid (Au (fun j=>(I.heap.size<=j/\j < C.heap.size)\/(T.heap.size<=j/\j < J.heap.size)\/(O.heap.size<=j/\j < w6.heap.size)) v bj):=ec
   have cm:=(Aa u 0 _ rfl).1
   have cn:=(Aa u 1 _ rfl).1
   have co:=(Aa u 2 _ rfl).1
   have cp:=(Aa u 3 _ rfl).1
   have cq:=(Aa u 4 _ rfl).1
   have cr:=(Aa u 5 _ rfl).1
   have cs:=(Aa u 6 _ rfl).1
   have ct:=(Aa u 7 _ rfl).1
   have cu:=(Aa u 8 _ rfl).1
   have cv:=(Aa u 9 _ rfl).1
   have a9:=(Aa u 10 _ rfl).1
   have ba:=(Aa u 11 _ rfl).1
   have bb:=(Aa u 12 _ rfl).1
   have bc:=(Aa u 13 _ rfl).1
   have gc:=(Aa z 0 _ rfl).1
   have gd:=(Aa z 1 _ rfl).1
   have ge:=(Aa z 2 _ rfl).1
   have gf:=(Aa z 3 _ rfl).1
   have gg:=(Aa z 4 _ rfl).1
   have gi:=(Aa z 5 _ rfl).1
   have gj:=(Aa z 6 _ rfl).1
   have gk:=(Aa z 7 _ rfl).1
   have gl:=(Aa z 8 _ rfl).1
   have gm:=(Aa z 9 _ rfl).1
   have fr:=(Aa z 10 _ rfl).1
   have fs:=(Aa z 11 _ rfl).1
   have ft:=(Aa z 12 _ rfl).1
   have fu:=(Aa z 13 _ rfl).1
   clear u z di dn ec M
   simp only[Qb0,Rv,Act.put,List.setIfInBounds_toArray,List.set_cons_zero,List.set_cons_succ]
   go_wp2_with fail
   refine(ef.out bj _ _ _ _ dx.out dz.out).mono ?_
   rintro e e3 ⟨rfl,cz⟩
   clear cm cn co cp cq cr cs ct cu cv a9 ba bb bc gc gd ge gf gg gi gj gk gl gm fr fs ft fu dx dz
   have e6:Hid (Au (fun j=>(I.heap.size<=j/\j < C.heap.size)\/(T.heap.size<=j/\j < J.heap.size)\/(O.heap.size<=j/\j < w6.heap.size)) v e3):=f7.out.trans (Au.of_below cz)
   have fj:Hid (Ky b O.heap.size e3 (.agg #[.slice ac X aj,.slice ad Z ak,.slice ae aa al,.slice af ab am,.int .i64 sg,.int .i64 0,.int .i64 0,.string ⟨#[]⟩,.string ⟨#[]⟩,.bool false,.int .i64 0,.string ⟨#[]⟩,.slice ag 0 an,.slice ai 0 ao]) K):=fi.out.below cz
   obtain⟨-,-,-,-,-,l,-,-⟩:=HV.out e3 e6.out
   have ar:=(Aa l 0 _ rfl).1
   have au:=(Aa l 1 _ rfl).1
   have av:=(Aa l 2 _ rfl).1
   have ax:=(Aa l 3 _ rfl).1
   have ay:=(Aa l 4 _ rfl).1
   have az:=(Aa l 5 _ rfl).1
   have a0:=(Aa l 6 _ rfl).1
   have a1:=(Aa l 7 _ rfl).1
   have a2:=(Aa l 8 _ rfl).1
   have a3:=(Aa l 9 _ rfl).1
   have D:=(Aa l 10 _ rfl).1
   have E:=(Aa l 11 _ rfl).1
   have F:=(Aa l 12 _ rfl).1
   have G:=(Aa l 13 _ rfl).1
   clear l cz
   go_wp2_with fail
   refine(Ub fj.out).mono ?_
   rintro e f6 ⟨rfl,d4⟩
   clear ar au av ax ay az a0 a1 a2 a3 D E F G
   have e8:Hid (Below w.heap.size w f6):=(HV.out f6 (e6.out.trans (Au.of_below d4))).2.2.2.2.2.2.1
   clear d4
   go_wp2_with fail
   go_ret
   exact⟨rfl,e8.out⟩
end Go.Proofs.YtfjkahdghhbpnaaGreatDoor
