import Derived.Test.YtfjkahdghhbpnaaGreatDoorKStV
set_option maxRecDepth 100000
set_option maxHeartbeats 4000000
namespace Go.Proofs.YtfjkahdghhbpnaaGreatDoor
open Go.RowKit
theorem Hb {w w':World} {S:Nat->Prop} {A e s n:Nat} {v:Value} {xs:List Value} (h:w.ownsRow A e s v n xs) (fr:Au S w w') (hd:∀ j,v.ownBlock=some j->¬ S j):w'.ownsRow A e s v n xs:=Ah h (fun j hj _ hlt=>fr.keep j hlt (hd j hj))
theorem Fp {A:Nat} {w:World} {v:Value} {E:List B0} (h:A2 A w v E) {j:Nat} (hj:E3 v E j) {B e s n:Nat} {u:Value} {xs:List Value} (hu:w.ownsRow B e s u n xs) (he:e≠97/\e≠3/\e≠140):u.ownBlock≠some j:=fun hk=>by
 rcases hj with a|⟨x,b,a|a⟩
 ·exact Fy hu h.row he.1 j hk a
 ·exact Fy hu (h.par x b) he.2.1 j hk a
 ·exact Fy hu (h.ins x b) he.2.2 j hk a
theorem Qi {A:Nat} {w w':World} {v:Value} {E:List B0} {S:Nat->Prop} (h:A2 A w v E) (fr:Au S w w') (hd:∀ j,E3 v E j->¬ S j):A2 A w' v E:=⟨Hb h.row fr (fun j hj=>hd j (.inl hj)),fun e he=>Hb (h.par e he) fr (fun j hj=>hd j (.inr ⟨e,he,.inl hj⟩)),fun e he=>Hb (h.ins e he) fr (fun j hj=>hd j (.inr ⟨e,he,.inr hj⟩)),h.apart⟩
structure Pe (A:Nat) (w:World) (x1 x2 x3 x4 sa ta va:Option Addr) (y1 y2 y3 y4 sc tc vc no ns:Nat) (E:List B0) (k1 k2 k3:Int):Prop where
 cod:w.ownsRow A 38 1 (.slice x1 1 y1) 1 [.slice va E.length vc]
 own:A2 A w (.slice va E.length vc) (C5 1 E)
 args:w.ownsRow A 9 1 (.slice x2 1 y2) 1 (Be (C2 k1 1))
 outs:w.ownsRow A 9 1 (.slice x3 no y3) no (Be (C2 k2 no))
 frm:w.ownsRow A 56 5 (.slice x4 1 y4) 1 [.int .i64 k3,.int .i64 (k3+1),.int .i64 (k3+1+1),.slice sa ns sc,.slice ta 0 tc]
 slo:w.ownsRow A 99 3 (.slice sa ns sc) ns (Bj (Dh (k3+1+1+1) ns))
theorem Ok (A:Nat) (x1 x2 x3 x4 x5 x6 sa ta va:Option Addr) (y1 y2 y3 y4 y5 y6 sc tc vc no ns fn:Nat) (E:List B0) (arg:ByteArray) (outs:List ByteArray) (w:World) (hS:G4 E) (hno:outs.length=no) (hnol:no<=1000) (hns:ns<=1000)
  (W0:World) (hz:W0.heap.size<=w.heap.size) (hkk:∀ k,A<=k->k < W0.heap.size->w.heap[k]? = W0.heap[k]?) (hM0:Fx A W0 (.slice x1 1 y1) (.slice va E.length vc) (.slice x2 1 y2) (.slice x3 no y3) (.slice x4 1 y4) (.slice sa ns sc) (.slice ta 0 tc) (.slice x5 0 y5) (.slice x6 0 y6) E arg outs fn ns) :
  Calls Tryz.prog 15 #[.agg #[.slice x1 1 y1,.slice x2 1 y2,.slice x3 no y3,.slice x4 1 y4,.int .i64 1,.int .i64 0,.int .i64 0,.string ⟨#[]⟩,.string ⟨#[]⟩,.bool false,.int .i64 0,.string ⟨#[]⟩,.slice x5 0 y5,.slice x6 0 y6],.int .i64 1] w fun e w'=>e = .returned (.int .i64 (Ca 1 E+1+(no:Int)+1+1+1+3 * (ns:Int)))/\Pe A w' x1 x2 x3 x4 sa ta va y1 y2 y3 y4 sc tc vc no ns E (Ca 1 E) (Ca 1 E+1) (Ca 1 E+1+(no:Int))/\Au (fun j=>A<=j/\j < W0.heap.size) w w':=by
 have hM:=hM0.keep hkk
 have hT:=Jm E 1 hS.2
 have av:=hS.1
 obtain⟨V,hV⟩:∃ V,w.alloc (.cells #[.slice x1 1 y1,.slice x2 1 y2,.slice x3 no y3,.slice x4 1 y4,.int .i64 1,.int .i64 0,.int .i64 0,.string ⟨#[]⟩,.string ⟨#[]⟩,.bool false,.int .i64 0,.string ⟨#[]⟩,.slice x5 0 y5,.slice x6 0 y6] 34)=V:=⟨_,rfl⟩
 have az:V.heap.size=w.heap.size+1:=by rw[<- hV];simp
 have ah:Below w.heap.size w V:=by rw[<- hV];exact Di w _
 have ar:Hid (V.heap[w.heap.size]? = some (.cells #[.slice x1 1 y1,.slice x2 1 y2,.slice x3 no y3,.slice x4 1 y4,.int .i64 1,.int .i64 0,.int .i64 0,.string ⟨#[]⟩,.string ⟨#[]⟩,.bool false,.int .i64 0,.string ⟨#[]⟩,.slice x5 0 y5,.slice x6 0 y6] 34)):=by rw[Hid,<- hV];exact(MapKept.heap_alloc w _).1
 have c:=hM.keep (fun k _ hk=>ah.block k hk)
 obtain⟨g1,e1,b1⟩:=Ck c.cod (by omega)
 subst e1
 obtain⟨W,e4,b4⟩:=Ck c.frm (by omega)
 subst e4
 have HQ:Hid (∀ (U:World) (S:Nat->Prop),Au S V U->(∀ j,S j->j < w.heap.size)->∀ k v,(#[.slice (some ⟨g1,0,none⟩) 1 y1,.slice x2 1 y2,.slice x3 no y3,.slice (some ⟨W,0,none⟩) 1 y4,.int .i64 1,.int .i64 0,.int .i64 0,.string ⟨#[]⟩,.string ⟨#[]⟩,.bool false,.int .i64 0,.string ⟨#[]⟩,.slice x5 0 y5,.slice x6 0 y6]:Array Value)[k]? = some v->U.cell? ⟨w.heap.size,k,none⟩=some v):=fun U S fr hs k v hk=>(Aa ((fr.keep w.heap.size (by omega) (fun h=>by have:=hs _ h;omega)).trans ar.out) k v hk).1
 have l2:∀ j,(Value.slice x2 1 y2).ownBlock=some j->A<=j/\j < W0.heap.size:=fun j a=>(A3 hM0.args a).1
 have l3:∀ j,(Value.slice x3 no y3).ownBlock=some j->A<=j/\j < W0.heap.size:=fun j a=>(A3 hM0.outs a).1
 have l4:∀ j,(j=W\/(Value.slice sa ns sc).ownBlock=some j)->A<=j/\j < W0.heap.size:=fun j a=>by
  rcases a with rfl|a
  ·exact(A3 hM0.frm b4).1
  ·exact(A3 hM0.slo a).1
 have R:Hid (∀ j,A<=j/\j < W0.heap.size->j < w.heap.size):=fun j h=>Nat.lt_of_lt_of_le h.2 hz
 have ae:Hid (Calls Tryz.prog 37 #[.slice (some ⟨g1,0,none⟩) 1 y1,.int .i64 1] V fun e w'=>e = .returned (.int .i64 (Ca 1 E))/\A2 A w' (.slice va E.length vc) (C5 1 E)/\Au (E3 (.slice va E.length vc) E) V w'):=Qh A E va vc g1 y1 hS V (Bp c.cod b1 0 _ rfl) c.own
 obtain⟨M,af⟩:∃ K,Hid (Ca 1 E=K):=⟨_,(rfl:_=_)⟩
 have au:1<=M/\M<=100000000:=by rw[<- af.out];omega
 rw[af.out]at ae |-
 have c0:=HQ.out V (fun _=>False) (Au.refl _ _) (fun j h=>h.elim) 0 _ rfl
 go_enter Tryz.func15,Tryz.ntmps15
 go_wp2_with fail
 refine ae.out.mono ?_
 rintro e O ⟨rfl,z,I⟩
 have F1:Au (fun j=>A<=j/\j < W0.heap.size) V O:=I.mono (fun j a=>hM0.own.rows a)
 have q:=Hb c.cod I (fun j a hr=>Fp c.own hr c.cod (by decide) a)
 have d:=Hb c.args I (fun j a hr=>Fp c.own hr c.args (by decide) a)
 have m:=Hb c.outs I (fun j a hr=>Fp c.own hr c.outs (by decide) a)
 have x:=Hb c.frm I (fun j a hr=>Fp c.own hr c.frm (by decide) a)
 have D:=Hb c.slo I (fun j a hr=>Fp c.own hr c.slo (by decide) a)
 have G:=Hb c.stk I (fun j a hr=>Fp c.own hr c.stk (by decide) a)
 have aj:Hid (Calls Tryz.prog 36 #[.slice x2 1 y2,.int .i64 M] O fun e w'=>e = .returned (.int .i64 (M+1))/\w'.ownsRow A 9 1 (.slice x2 1 y2) 1 (Be (C2 M 1))/\Au (fun j=>(Value.slice x2 1 y2).ownBlock=some j) O w'):=Hq A [arg] x2 y2 M au.1 (by omega) (by simp) O d
 clear c0
 have c1:=HQ.out O _ F1 R.out 1 _ rfl
 have ao:Hid (A2 A O (.slice va E.length vc) (C5 1 E)/\Au (fun j=>A<=j/\j < W0.heap.size) V O/\O.ownsRow A 38 1 (.slice (some ⟨g1,0,none⟩) 1 y1) 1 [.slice va E.length vc]/\O.ownsRow A 9 1 (.slice x2 1 y2) 1 (Be [arg])/\O.ownsRow A 9 1 (.slice x3 no y3) outs.length (Be outs)/\O.ownsRow A 56 5 (.slice (some ⟨W,0,none⟩) 1 y4) 1 [.int .i64 0,.int .i64 (fn:Int),.int .i64 0,.slice sa ns sc,.slice ta 0 tc]/\O.ownsRow A 99 3 (.slice sa ns sc) ns (Bj (B3 ns))/\O.ownsRow A 99 3 (.slice ta 0 tc) 0 []):=⟨z,F1,q,d,m,x,D,G⟩
 clear z I F1 q d m x D G
 go_wp2_with fail
 refine aj.out.mono ?_
 rintro e P ⟨rfl,i,J⟩
 obtain⟨z,F1,q,d,m,x,D,G⟩:=ao.out
 have F2:Au (fun j=>A<=j/\j < W0.heap.size) V P:=F1.trans (J.mono l2)
 have C:=Qi z J (fun j hr a=>Fp z hr d (by decide) a)
 have r:=Hb q J (fun j a h=>Fy q d (by decide) j a h)
 have b:=Hb m J (fun j a h=>hM.ne j h a)
 have y:=Hb x J (fun j a h=>Fy x d (by decide) j a h)
 have F:=Hb D J (fun j a h=>Fy D d (by decide) j a h)
 have H:=Hb G J (fun j a h=>Fy G d (by decide) j a h)
 have an:Hid (Calls Tryz.prog 36 #[.slice x3 no y3,.int .i64 (M+1)] P fun e w'=>e = .returned (.int .i64 (M+1+(no:Int)))/\w'.ownsRow A 9 1 (.slice x3 no y3) no (Be (C2 (M+1) no))/\Au (fun j=>(Value.slice x3 no y3).ownBlock=some j) P w'):=by
  have:=Hq A outs x3 y3 (M+1) (by omega) (by omega) (by omega) P (by rw[hno];rw[hno]at b;exact b)
  rw[hno]at this
  exact this
 clear c1
 have c2:=HQ.out P _ F2 R.out 2 _ rfl
 have ap:Hid (A2 A P (.slice va E.length vc) (C5 1 E)/\Au (fun j=>A<=j/\j < W0.heap.size) V P/\P.ownsRow A 38 1 (.slice (some ⟨g1,0,none⟩) 1 y1) 1 [.slice va E.length vc]/\P.ownsRow A 9 1 (.slice x2 1 y2) 1 (Be (C2 M 1))/\P.ownsRow A 9 1 (.slice x3 no y3) outs.length (Be outs)/\P.ownsRow A 56 5 (.slice (some ⟨W,0,none⟩) 1 y4) 1 [.int .i64 0,.int .i64 (fn:Int),.int .i64 0,.slice sa ns sc,.slice ta 0 tc]/\P.ownsRow A 99 3 (.slice sa ns sc) ns (Bj (B3 ns))/\P.ownsRow A 99 3 (.slice ta 0 tc) 0 []):=⟨C,F2,r,i,b,y,F,H⟩
 clear z F1 q d m x D G C F2 r i b y F H J
 go_wp2_with fail
 refine an.out.mono ?_
 rintro e Q ⟨rfl,g,L⟩
 obtain⟨C,F2,r,i,b,y,F,H⟩:=ap.out
 have F3:Au (fun j=>A<=j/\j < W0.heap.size) V Q:=F2.trans (L.mono l3)
 have o:=Qi C L (fun j hr a=>Fp C hr b (by decide) a)
 have t:=Hb r L (fun j a h=>Fy r b (by decide) j a h)
 have f:=Hb i L (fun j a h=>hM.ne j a h)
 have l:=Hb y L (fun j a h=>Fy y b (by decide) j a h)
 have p:=Hb F L (fun j a h=>Fy F b (by decide) j a h)
 have ab:=Hb H L (fun j a h=>Fy H b (by decide) j a h)
 have X:(B3 ns).length=ns:=by simp[B3]
 obtain⟨T,ac⟩:∃ K,Hid (M+1+(no:Int)=K):=⟨_,(rfl:_=_)⟩
 have ay:1<=T/\T<=1000000000:=by have:=ac.out;omega
 have ak:Hid (Calls Tryz.prog 38 #[.slice (some ⟨W,0,none⟩) 1 y4,.int .i64 T] Q fun e w'=>e = .returned (.int .i64 (T+1+1+1+3 * (ns:Int)))/\w'.ownsRow A 56 5 (.slice (some ⟨W,0,none⟩) 1 y4) 1 [.int .i64 T,.int .i64 (T+1),.int .i64 (T+1+1),.slice sa ns sc,.slice ta 0 tc]/\w'.ownsRow A 99 3 (.slice sa ns sc) ns (Bj (Dh (T+1+1+1) ns))/\w'.ownsRow A 99 3 (.slice ta 0 tc) 0 []/\Au (fun j=>j=W\/(Value.slice sa ns sc).ownBlock=some j) Q w'):=by
  have:=Pr A W y4 0 (fn:Int) 0 (B3 ns) sa ta sc tc T (by omega) (by omega) (by rw[X];omega) Q (by rw[X];exact l) (by rw[X];exact p) ab
  rw[X]at this
  exact this
 rw[ac.out]
 clear c2
 have c3:=HQ.out Q _ F3 R.out 3 _ rfl
 have aq:Hid (A2 A Q (.slice va E.length vc) (C5 1 E)/\Au (fun j=>A<=j/\j < W0.heap.size) V Q/\Q.ownsRow A 38 1 (.slice (some ⟨g1,0,none⟩) 1 y1) 1 [.slice va E.length vc]/\Q.ownsRow A 9 1 (.slice x2 1 y2) 1 (Be (C2 M 1))/\Q.ownsRow A 9 1 (.slice x3 no y3) no (Be (C2 (M+1) no))/\Q.ownsRow A 56 5 (.slice (some ⟨W,0,none⟩) 1 y4) 1 [.int .i64 0,.int .i64 (fn:Int),.int .i64 0,.slice sa ns sc,.slice ta 0 tc]/\Q.ownsRow A 99 3 (.slice sa ns sc) ns (Bj (B3 ns))):=⟨o,F3,t,f,g,l,p⟩
 clear C F2 r i b y F H o F3 t f g l p ab L
 go_wp2_with fail
 refine ak.out.mono ?_
 rintro e w4 ⟨rfl,Y,aa,ai,N⟩
 obtain⟨o,F3,t,f,g,l,p⟩:=aq.out
 have F4:Au (fun j=>A<=j/\j < W0.heap.size) V w4:=F3.trans (N.mono l4)
 have ad:∀ {B e s n:Nat} {u:Value} {xs:List Value},Q.ownsRow B e s u n xs->e≠56->e≠99->∀ j,u.ownBlock=some j->¬ (j=W\/(Value.slice sa ns sc).ownBlock=some j):=fun hu h1 h2 j a h=>by
  rcases h with rfl|h
  ·exact Fy hu l h1 _ a b4
  ·exact Fy hu p h2 _ a h
 have Z:=Qi o N (fun j hr a=>by
  rcases a with rfl|a
  ·exact Fp o hr l (by decide) b4
  ·exact Fp o hr p (by decide) a)
 have am:Hid (Pe A w4 (some ⟨g1,0,none⟩) x2 x3 (some ⟨W,0,none⟩) sa ta va y1 y2 y3 y4 sc tc vc no ns E M (M+1) T):=⟨Hb t N (ad t (by decide) (by decide)),Z,Hb f N (ad f (by decide) (by decide)),Hb g N (ad g (by decide) (by decide)),Y,aa⟩
 have al:Hid (Au (fun j=>A<=j/\j < W0.heap.size) w w4):=(Au.of_below ah).trans F4
 clear c3
 have aw:=HQ.out w4 _ F4 R.out 12 _ rfl
 have ax:=HQ.out w4 _ F4 R.out 13 _ rfl
 clear o F3 t f g l p Y aa ai N F4 Z
 obtain⟨K4,ag⟩:∃ K,Hid (T+1+1+1+3 * (ns:Int)=K):=⟨_,(rfl:_=_)⟩
 rw[ag.out]
 go_wp2_with (first
  | (go_at_call 39;refine(Kl x5 y5 K4 w4).mono ?_;rintro e w5 ⟨rfl,rfl⟩)
  | (go_at_call 36;refine(Jc x6 y6 K4 _).mono ?_;rintro e w6 ⟨rfl,rfl⟩))
 go_ret
 rw[ac.out,ag.out]
 exact⟨rfl,am.out,al.out⟩
theorem Of (A:Nat) (x1 x2 x3 x4 x5 x6 sa ta va:Option Addr) (y1 y2 y3 y4 y5 y6 sc tc vc no ns:Nat) (E:List B0) (w:World) (hS:G4 E) (hnol:no<=1000) (hns:ns<=1000)
  (hM:Pe A w x1 x2 x3 x4 sa ta va y1 y2 y3 y4 sc tc vc no ns E (Ca 1 E) (Ca 1 E+1) (Ca 1 E+1+(no:Int))) :
  Calls Tryz.prog 16 #[.agg #[.slice x1 1 y1,.slice x2 1 y2,.slice x3 no y3,.slice x4 1 y4,.int .i64 1,.int .i64 0,.int .i64 0,.string ⟨#[]⟩,.string ⟨#[]⟩,.bool false,.int .i64 0,.string ⟨#[]⟩,.slice x5 0 y5,.slice x6 0 y6],.int .i64 1] w fun e w'=>e = .returned (.int .i64 (Ca 1 E+1+(no:Int)+1+1+1+3 * (ns:Int)))/\Below w.heap.size w w':=by
 have Z:=Jm E 1 hS.2
 have z:=hS.1
 obtain⟨r,R,J⟩:=Ck hM.cod (by omega)
 subst R
 obtain⟨s,S,Y⟩:=Ck hM.frm (by omega)
 subst S
 obtain⟨a,c⟩:∃ K,Hid (Ca 1 E=K):=⟨_,(rfl:_=_)⟩
 have u:1<=a/\a<=100000000:=by rw[<- c.out];omega
 obtain⟨n,d⟩:∃ K,Hid (a+1+(no:Int)=K):=⟨_,(rfl:_=_)⟩
 have T:1<=n/\n<=1000000000:=by have:=d.out;omega
 obtain⟨q,m⟩:∃ K,Hid (n+1+1+1+3 * (ns:Int)=K):=⟨_,(rfl:_=_)⟩
 have W:1<=q:=by have:=m.out;omega
 rw[c.out,d.out]at hM
 have G:Hid (∀ U,Below w.heap.size w U->Calls Tryz.prog 40 #[.slice (some ⟨r,0,none⟩) 1 y1,.int .i64 1] U fun e w'=>e = .returned (.int .i64 a)/\Below U.heap.size U w'):=fun U hU=>by
  have:=Qe A E va vc r y1 hS U (Bp (Ah hM.cod (fun k _ _ hk=>hU.block k hk)) J 0 _ rfl) (hM.own.below hU)
  rw[c.out]at this
  exact this
 have F:Hid (∀ U,Below w.heap.size w U->Calls Tryz.prog 41 #[.slice x2 1 y2,.int .i64 a] U fun e w'=>e = .returned (.int .i64 (a+1))/\Below U.heap.size U w'):=fun U hU=>J3 A 1 x2 y2 a u.1 (by omega) (by omega) U (Ah hM.args (fun k _ _ hk=>hU.block k hk))
 have I:Hid (∀ U,Below w.heap.size w U->Calls Tryz.prog 41 #[.slice x3 no y3,.int .i64 (a+1)] U fun e w'=>e = .returned (.int .i64 n)/\Below U.heap.size U w'):=fun U hU=>by
  have:=J3 A no x3 y3 (a+1) (by omega) (by omega) (by omega) U (Ah hM.outs (fun k _ _ hk=>hU.block k hk))
  rw[d.out]at this
  exact this
 have H:Hid (∀ U,Below w.heap.size w U->Calls Tryz.prog 42 #[.slice (some ⟨s,0,none⟩) 1 y4,.int .i64 n] U fun e w'=>e = .returned (.int .i64 q)/\Below U.heap.size U w'):=fun U hU=>by
  have:=Pk A s y4 ns sa ta sc tc n (by omega) (by omega) hns U (Ah hM.frm (fun k _ _ hk=>hU.block k hk)) (Ah hM.slo (fun k _ _ hk=>hU.block k hk))
  rw[m.out]at this
  exact this
 have n1:¬ a < 0:=by omega
 have n2:¬ a+1 < 0:=by omega
 have n3:¬ n < 0:=by omega
 have n4:¬ q < 0:=by omega
 rw[c.out,d.out,m.out]
 clear hM
 obtain⟨V,x⟩:∃ V,w.alloc (.cells #[.slice (some ⟨r,0,none⟩) 1 y1,.slice x2 1 y2,.slice x3 no y3,.slice (some ⟨s,0,none⟩) 1 y4,.int .i64 1,.int .i64 0,.int .i64 0,.string ⟨#[]⟩,.string ⟨#[]⟩,.bool false,.int .i64 0,.string ⟨#[]⟩,.slice x5 0 y5,.slice x6 0 y6] 34)=V:=⟨_,rfl⟩
 have X:V.heap.size=w.heap.size+1:=by rw[<- x];simp
 have b:Below w.heap.size w V:=by rw[<- x];exact Di w _
 have t:Hid (V.heap[w.heap.size]? = some (.cells #[.slice (some ⟨r,0,none⟩) 1 y1,.slice x2 1 y2,.slice x3 no y3,.slice (some ⟨s,0,none⟩) 1 y4,.int .i64 1,.int .i64 0,.int .i64 0,.string ⟨#[]⟩,.string ⟨#[]⟩,.bool false,.int .i64 0,.string ⟨#[]⟩,.slice x5 0 y5,.slice x6 0 y6] 34)):=by rw[Hid,<- x];exact(MapKept.heap_alloc w _).1
 have p:Hid (∀ U,Below V.heap.size V U->∀ k v,(#[.slice (some ⟨r,0,none⟩) 1 y1,.slice x2 1 y2,.slice x3 no y3,.slice (some ⟨s,0,none⟩) 1 y4,.int .i64 1,.int .i64 0,.int .i64 0,.string ⟨#[]⟩,.string ⟨#[]⟩,.bool false,.int .i64 0,.string ⟨#[]⟩,.slice x5 0 y5,.slice x6 0 y6]:Array Value)[k]? = some v->U.cell? ⟨w.heap.size,k,none⟩=some v):=fun U hU k v hk=>(Aa ((hU.block _ (by omega)).trans t.out) k v hk).1
 have L:=p.out V (Below.refl _ _) 0 _ rfl
 go_enter Tryz.func16,Tryz.ntmps16
 go_wp2_with fail
 refine(G.out V b).mono ?_
 rintro e B ⟨rfl,f⟩
 clear L
 have M:=p.out B f 1 _ rfl
 go_wp2_with fail
 refine(F.out B (b.trans (f.mono (by omega)))).mono ?_
 rintro e C ⟨rfl,i⟩
 have g:=f.trans (i.mono f.size)
 clear M i
 have P:=p.out C g 2 _ rfl
 go_wp2_with fail
 refine(I.out C (b.trans (g.mono (by omega)))).mono ?_
 rintro e D ⟨rfl,j⟩
 have h:=g.trans (j.mono g.size)
 clear P j
 have Q:=p.out D h 3 _ rfl
 go_wp2_with fail
 refine(H.out D (b.trans (h.mono (by omega)))).mono ?_
 rintro e y ⟨rfl,l⟩
 have o:=h.trans (l.mono h.size)
 clear Q l
 have N:=p.out y o 12 _ rfl
 have O:=p.out y o 13 _ rfl
 go_wp2_with (first
  | (go_at_call 43;refine(Kj x5 y5 q y).mono ?_;rintro e w5 ⟨rfl,rfl⟩)
  | (go_at_call 41;refine(Ja x6 y6 q _).mono ?_;rintro e w6 ⟨rfl,rfl⟩))
 go_ret
 exact⟨rfl,b.trans (o.mono (by omega))⟩
theorem Nl (w:World):Calls Tryz.prog 15 #[I0,.int .i64 1] w fun e w'=>e = .returned (.int .i64 1)/\Below w.heap.size w w':=by
 unfold I0
 go_enter Tryz.func15,Tryz.ntmps15
 go_wp2_with (first
  | (go_at_call 37;refine(Pq none 0 1 _).mono ?_;rintro e a ⟨rfl,rfl⟩)
  | (go_at_call 36;refine(Jc none 0 1 _).mono ?_;rintro e a ⟨rfl,rfl⟩)
  | (go_at_call 38;refine(Oj none 0 1 _).mono ?_;rintro e a ⟨rfl,rfl⟩)
  | (go_at_call 39;refine(Kl none 0 1 _).mono ?_;rintro e a ⟨rfl,rfl⟩))
 go_ret
 exact⟨rfl,Di w _⟩
theorem Nk (w:World):Calls Tryz.prog 16 #[I0,.int .i64 1] w fun e w'=>e = .returned (.int .i64 1)/\Below w.heap.size w w':=by
 unfold I0
 go_enter Tryz.func16,Tryz.ntmps16
 go_wp2_with (first
  | (go_at_call 40;refine(Pj none 0 1 _).mono ?_;rintro e a ⟨rfl,rfl⟩)
  | (go_at_call 41;refine(Ja none 0 1 _).mono ?_;rintro e a ⟨rfl,rfl⟩)
  | (go_at_call 42;refine(Oe none 0 1 _).mono ?_;rintro e a ⟨rfl,rfl⟩)
  | (go_at_call 43;refine(Kj none 0 1 _).mono ?_;rintro e a ⟨rfl,rfl⟩))
 go_ret
 exact⟨rfl,Di w _⟩
theorem Ph {A B:Nat} {w:World} {cv v av ov fv slv stv iv sv cv' v' av' ov' fv' slv' stv' iv' sv':Value} {E E':List B0} {arg:ByteArray} {outs:List ByteArray} {fn ns:Nat} (c:List Ae) (h:Fx A w cv v av ov fv slv stv iv sv E arg outs fn ns) (h':Fx B w cv' v' av' ov' fv' slv' stv' iv' sv' E' arg outs fn ns) (hE:D0 E=c) (hE':D0 E'=c) (hl:c.length<=1048576) (hx:∀ k (hk:k < c.length),c[k].params.length<=1048576/\c[k].ins.length<=1048576) (hol:outs.length<=1048576) (hns:ns<=1000) :
  Calls Tryz.prog 10 #[Kk cv av ov fv iv sv,Kk cv' av' ov' fv' iv' sv'] w fun e w'=>e = .returned (.bool true)/\Below w.heap.size w w':=by
 have b:(B3 ns).length=ns:=by simp[B3]
 have y:E.length=c.length:=by rw[<- hE,Gq]
 have d:E'.length=c.length:=by rw[<- hE',Gq]
 obtain⟨x1,y1,D⟩:=Aq h.cod
 obtain⟨x2,y2,F⟩:=Aq h.args
 obtain⟨x3,y3,G⟩:=Aq h.outs
 obtain⟨x4,y4,H⟩:=Aq h.frm
 obtain⟨x5,y5,I⟩:=Aq h.fil
 obtain⟨x6,y6,J⟩:=Aq h.sai
 obtain⟨s,t,M⟩:=h.own.len
 obtain⟨xs,ys,K⟩:=Aq h.slo
 obtain⟨xt,yt,L⟩:=Aq h.stk
 obtain⟨z1,u1,N⟩:=Aq h'.cod
 obtain⟨z2,u2,O⟩:=Aq h'.args
 obtain⟨z3,u3,P⟩:=Aq h'.outs
 obtain⟨z4,u4,Q⟩:=Aq h'.frm
 obtain⟨z5,u5,R⟩:=Aq h'.fil
 obtain⟨z6,u6,S⟩:=Aq h'.sai
 obtain⟨u,r,l⟩:=h'.own.len
 obtain⟨zs,us,i⟩:=Aq h'.slo
 obtain⟨zt,ut,T⟩:=Aq h'.stk
 subst D F G H I J M K L N O P Q R S l i T
 obtain⟨V,Z,z⟩:=Ck h.cod (by omega)
 obtain⟨m,p,f⟩:=Ck h'.cod (by omega)
 obtain⟨X,q4,C⟩:=Ck h.frm (by omega)
 obtain⟨n,q,g⟩:=Ck h'.frm (by omega)
 subst Z p q4 q
 have Y:Ak w.heap.size w (.slice s c.length t) c:=by have:=h.own.code;rw[hE,y]at this;exact this
 have o:Ak w.heap.size w (.slice u c.length r) c:=by have:=h'.own.code;rw[hE',d]at this;exact this
 refine Mc 1 1 1 outs.length 1 0 0 _ _ _ _ _ _ _ _ _ _ _ _ _ _ _ _ _ _ _ _ _ _ _ _ w ?_ ?_ ?_ ?_ ?_ ?_
 ·intro U a
  refine Si c s u t r V m y1 u1 U (fun W h1 h2 => ?_) ?_ ?_
  ·have x:=a.trans (h2.mono a.size)
   exact Mm c w.heap.size s u t r W (Nat.le_trans a.size h1) (Y.below x) (o.below x) hl hx
  ·rw[<- y];exact Bp (Ah h.cod (fun k _ _ hk=>a.block k hk)) z 0 _ rfl
  ·rw[<- d];exact Bp (Ah h'.cod (fun k _ _ hk=>a.block k hk)) f 0 _ rfl
 ·exact fun U a=>Ff [arg] _ _ U (Il (Ah h.args (fun k _ _ hk=>a.block k hk)) rfl) (Il (Ah h'.args (fun k _ _ hk=>a.block k hk)) rfl) (by simp)
 ·exact fun U a=>Ff outs _ _ U (Il (Ah h.outs (fun k _ _ hk=>a.block k hk)) rfl) (Il (Ah h'.outs (fun k _ _ hk=>a.block k hk)) rfl) hol
 ·intro U a
  have:=Qd (fn:Int) (B3 ns) [] xs xt zs zt ys yt us ut X n y4 u4 U (by rw[b];omega) (by simp) (by rw[b];exact Ni (Ah h.slo (fun k _ _ hk=>a.block k hk)) b.symm) (Ni (Ah h.stk (fun k _ _ hk=>a.block k hk)) rfl) (by rw[b];exact Ni (Ah h'.slo (fun k _ _ hk=>a.block k hk)) b.symm) (Ni (Ah h'.stk (fun k _ _ hk=>a.block k hk)) rfl)
   (fun j hj=>by
    have e:j=0\/j=1\/j=2\/j=3\/j=4:=by omega
    rw[b]
    rcases e with rfl|rfl|rfl|rfl|rfl <;> exact Bp (Ah h.frm (fun k _ _ hk=>a.block k hk)) C _ _ rfl)
   (fun j hj=>by
    have e:j=0\/j=1\/j=2\/j=3\/j=4:=by omega
    rw[b]
    rcases e with rfl|rfl|rfl|rfl|rfl <;> exact Bp (Ah h'.frm (fun k _ _ hk=>a.block k hk)) g _ _ rfl)
  exact this
 ·exact fun U _=>Mb _ _ _ _ U
 ·exact fun U a=>Ff [] _ _ U (Il (Ah h.sai (fun k _ _ hk=>a.block k hk)) rfl) (Il (Ah h'.sai (fun k _ _ hk=>a.block k hk)) rfl) (by simp)
theorem Sg (a b:Option Addr) (ca cb:Nat) (w:World) :
  Calls Tryz.prog 30 #[.slice a 0 ca,.slice b 0 cb] w fun e w'=>e = .returned (.bool true)/\Below w.heap.size w w':=by
 go_enter Tryz.func30,Tryz.ntmps30
 go_wp2_with fail
 go_loopw [5] (fun t wr=>t = .int .i64 0/\wr=w) (fun _ _=>0)
 case atStart=>exact⟨rfl,rfl⟩
 case round =>
  obtain⟨rfl,rfl⟩:=hrel
  go_wp2_with fail
  go_ret
  exact⟨rfl,Below.refl _ _⟩
theorem Qc (a b:Option Addr) (ca cb:Nat) (w:World) :
  Calls Tryz.prog 32 #[.slice a 0 ca,.slice b 0 cb] w fun e w'=>e = .returned (.bool true)/\Below w.heap.size w w':=by
 go_enter Tryz.func32,Tryz.ntmps32
 go_wp2_with fail
 go_loopw [5] (fun t wr=>t = .int .i64 0/\wr=w) (fun _ _=>0)
 case atStart=>exact⟨rfl,rfl⟩
 case round =>
  obtain⟨rfl,rfl⟩:=hrel
  go_wp2_with fail
  go_ret
  exact⟨rfl,Below.refl _ _⟩
theorem Pi (w:World):Calls Tryz.prog 10 #[I0,I0] w fun e w'=>e = .returned (.bool true)/\Below w.heap.size w w':=by
 have hs:∀ U:World,Calls Tryz.prog 31 #[.slice none 0 0,.slice none 0 0] U fun e w'=>e = .returned (.bool true)/\Below U.heap.size U w':=fun U=>Ff [] _ _ U ⟨none,0,rfl,fun i hi=>by simp at hi⟩ ⟨none,0,rfl,fun i hi=>by simp at hi⟩ (by simp)
 exact Mc 0 0 0 0 0 0 0 none none none none none none none none none none none none 0 0 0 0 0 0 0 0 0 0 0 0 w (fun U _=>Sg _ _ _ _ U) (fun U _=>hs U) (fun U _=>hs U) (fun U _=>Qc _ _ _ _ U) (fun U _=>Mb _ _ _ _ U) (fun U _=>hs U)
end Go.Proofs.YtfjkahdghhbpnaaGreatDoor
