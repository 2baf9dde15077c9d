import Derived.Test.YtjlaedokfbcbpaaGreatDoorKPrjT
set_option maxRecDepth 100000
set_option maxHeartbeats 4000000
namespace Go.Proofs.YtjlaedokfbcbpaaGreatDoor
open Go.RowKit Proofs.Tryz
def Qb (x:Value):Prop:=(∃ jt jy oa on oc,x = .agg #[.iface jt jy,.slice oa on oc,.nilIface])\/(∃ jt jy oa on oc qt qy,x = .agg #[.iface jt jy,.slice oa on oc,.iface qt qy])
theorem Qn6 {A:Type}:∀ {l:List A},l.length=3->∃ a b c,l=[a,b,c]
 | [a,b,c],_=>⟨a,b,c,rfl⟩
theorem C1.later {g:Nat} {w0 w:World} {v:Value} {T:List UInt8} (h:C1 g w0 v T) (hw:Below g w0 w):C1 g w v T:=fun w2 l h2=>h w2 l (hw.trans h2)
theorem Qia : A9 10=192/\A9 11=193/\A9 12=205/\A9 13=207/\A9 14=195/\A9 15=196/\A9 16=198/\A9 17=200/\A9 18=202/\A9 19=203/\A9 20=209/\A9 21=51:=by decide +kernel
theorem Um (g:Nat) (w0:World) (x:Value) (k:Nat) (T:List UInt8) (hx:Qb x) (h:I3 g w0 x k T):Od g w0 (.iface 205 x) k T:=by
 rcases hx with⟨a,b,c,on,d,rfl⟩|⟨a,b,c,on,d,f,i,rfl⟩
 ·exact Qh7 g w0 a b c on d k T h
 ·exact Qh8 g w0 a b c on d f i k T h
theorem Qkf (g:Nat) (w0:World) (kt:TypeId) (ky:Value) (sa:Option Addr) (sn sc:Nat) (k:Nat) (T U:List UInt8) (HV:C1 g w0 (.iface kt ky) T) (HB:Kh g w0 (.slice sa sn sc) k U) (y:Value) (hy:Qb y) (Z:List UInt8) (HO:I3 g w0 y k Z) :
  I3 g w0 (.agg #[.iface kt ky,.slice sa sn sc,.iface 205 y]) k (([105,102,32]:List UInt8)++T++([32]:List UInt8)++U++([32,101,108,115,101,32]:List UInt8)++Z):=by
 rcases hy with⟨a,b,c,on,d,rfl⟩|⟨a,b,c,on,d,f,h,rfl⟩
 ·exact Qh4 g w0 kt ky sa sn sc k T U HV HB a b c on d Z HO
 ·exact Qh5 g w0 kt ky sa sn sc k T U HV HB a b c on d f h Z HO
def Mw (b:Aa) (k:Nat):List UInt8:=[123,10]++(O2 b (Di (k+1))).data.toList++(Di k).data.toList++[125]
theorem Qfb (g:Nat) (w0:World) (P:Nat->Prop) (d:Ae) (ks:List Aa) (us:List Value) (x:Value) (k:Nat) (hu:Au d=true) (hfit:Ac d.kind d.op (ks.map (fun t=>t.nd.kind))=true) (hS:Cv d.kind=true)
  (hI:Az P w0 d us x) (hK:Aq us (ks.map (fun t=>t.nd.kind))) (hlen:us.length=ks.length)
  (hV:∀ j (h:j < us.length) (h':j < ks.length),Ah ks[j].nd.kind=true->C1 g w0 us[j] (Fa ks[j]).data.toList)
  (hB:∀ j (h:j < us.length) (h':j < ks.length) (S:Value),ks[j].nd.kind=21->us[j]=Dv S->Kh g w0 S k (Mw ks[j] k))
  (hF:∀ j (h:j < us.length) (h':j < ks.length),ks[j].nd.kind=12->∃ T y,(On ks[j] (Di k)).data.toList=T++[10]/\us[j] = .iface 205 y/\Qb y/\I3 g w0 y k T) :
  ∃ A,(On (.node d ks) (Di k)).data.toList=A++[10]/\Od g w0 (.iface (A9 d.kind) x) k A/\(d.kind=12->Qb x/\I3 g w0 x k A):=by
 obtain⟨ab,ac,ad,ae,af,ag,ah,ai,aj,ak,al,Q⟩:=Qia;rw[On];obtain⟨c,o,t,n,s,kk⟩:=d;simp only at *;have hc:c=10\/c=11\/c=12\/c=13\/c=14\/c=15\/c=16\/c=17\/c=18\/c=19\/c=20:=by
  simp only[Cv,Bool.and_eq_true,decide_eq_true_eq]at hS;omega
 rcases hc with rfl|rfl|rfl|rfl|rfl|rfl|rfl|rfl|rfl|rfl|rfl
 ·obtain⟨u,rfl,rfl⟩:∃ u,us=[u]/\x = .agg #[.string s,u]:=by simpa[Az]using hI
  have hs:=Ki (s:=s) (by simpa[Au]using hu);obtain⟨b,rfl⟩:∃ b,ks=[b]:=List.length_eq_one_iff.1 (by rw[<- hlen];rfl);have f:Ah b.nd.kind=true:=by simpa[Ac,D4]using hfit
  obtain⟨H,q,_,_,_,rfl,_⟩:=B7 hK 0 u rfl;have a:=hV 0 OF OF f;rw[ab];refine⟨(([108,101,116,32]:List UInt8)++s.data.toList++([32,61,32]:List UInt8)++(Fa b).data.toList)++[59],by simp[Dq,D6],Fy g w0 _ _ OD OD k _ (fun w l hw hl hA=>Yk g l hl w s OC _ q _ (a.later hw) hA),fun h=>by cases h⟩
 ·obtain⟨u,rfl,rfl⟩:∃ u,us=[u]/\x = .agg #[.string s,u]:=by simpa[Az]using hI
  have hs:=Ki (s:=s) (by simpa[Au]using hu);obtain⟨b,rfl⟩:∃ b,ks=[b]:=List.length_eq_one_iff.1 (by rw[<- hlen];rfl);have f:Ah b.nd.kind=true:=by simpa[Ac,D4]using hfit
  obtain⟨H,q,_,_,_,rfl,_⟩:=B7 hK 0 u rfl;have a:=hV 0 OF OF f;rw[ac];refine⟨(s.data.toList++([32,61,32]:List UInt8)++(Fa b).data.toList)++[59],by simp[Dq,D6],Fy g w0 _ _ OD OD k _ (fun w l hw hl hA=>Ym g l hl w s OC _ q _ (a.later hw) hA),fun h=>by cases h⟩
 ·rw[ad];have E:(∃ u S,us=[u,Dv S]/\x = .agg #[u,S,.nilIface])\/(∃ u S t y,us=[u,Dv S,.iface t y]/\x = .agg #[u,S,.iface t y]):=by simpa[Az]using hI
  rcases E with⟨u,S,rfl,rfl⟩|⟨u,S,t1,y,rfl,rfl⟩
  ·obtain⟨i,m,rfl⟩:∃ i m,ks=[i,m]:=Qbu (by rw[<- hlen];rfl);have z:Ah i.nd.kind=true/\m.nd.kind=21:=(by simpa[Ac,Cd]using hfit);obtain⟨H,q,_,_,_,rfl,_⟩:=B7 hK 0 u rfl;obtain⟨I,K,J,rfl⟩:=Hu hK 1 S rfl;have a:=hV 0 OF OF z.1;have r:=hB 1 OF OF _ z.2 rfl;have p:=Qkh g w0 _ q I K J k _ _ a r;refine⟨_, ?_,Um g w0 _ k _ (.inl ⟨_,_,_,_,_,rfl⟩) p,fun _=>⟨.inl ⟨_,_,_,_,_,rfl⟩,p⟩⟩;simp[Dq,D6,Kg,Mw,Nv]
  ·obtain⟨i,m,L,rfl⟩:∃ i m L,ks=[i,m,L]:=Qn6 (by rw[<- hlen];rfl);have z:(Ah i.nd.kind=true/\m.nd.kind=21)/\(L.nd.kind=21\/L.nd.kind=12):=(by simpa[Ac,Cd]using hfit);obtain⟨H,q,_,_,_,rfl,_⟩:=B7 hK 0 u rfl;obtain⟨I,K,J,rfl⟩:=Hu hK 1 S rfl;have a:=hV 0 OF OF z.1.1;have r:=hB 1 OF OF _ z.1.2 rfl;rcases z.2 with D|M
   ·obtain⟨R,z2,_,_,G,F,B⟩:=B7 hK 2 (.iface t1 y) rfl;have C:R=21:=(by simpa[D]using G.symm);subst C;injection F with e1 e2;subst e1 e2;obtain⟨N,on,O,rfl⟩:=B.1 rfl;have U:=hB 2 OF OF _ D (show Value.iface (A9 21) _=_ by rw[Q];rfl);rw[Q];have p:=Qkg g w0 _ q I K J k _ _ a r N on O _ U;refine⟨_, ?_,Um g w0 _ k _ (.inr ⟨_,_,_,_,_,_,_,rfl⟩) p,fun _=>⟨.inr ⟨_,_,_,_,_,_,_,rfl⟩,p⟩⟩;simp[Dq,D6,Kg,Mw,Nv,D]
   ·obtain⟨T2,y2,V,Z,B,Y⟩:=hF 2 OF OF M;injection Z with e1 e2;subst e1 e2;have p:=Qkf g w0 _ q I K J k _ _ a r _ B _ Y;refine⟨_, ?_,Um g w0 _ k _ (.inr ⟨_,_,_,_,_,_,_,rfl⟩) p,fun _=>⟨.inr ⟨_,_,_,_,_,_,_,rfl⟩,p⟩⟩;have W:(On L (Di k)).data.toList=T2++[10]:=V;simp[Dq,D6,Kg,Jh,Mw,Nv,M,W]
 ·obtain⟨u,S,rfl,rfl⟩:∃ u S,us=[u,Dv S]/\x = .agg #[u,S]:=by simpa[Az]using hI
  obtain⟨i,m,rfl⟩:∃ i m,ks=[i,m]:=Qbu (by rw[<- hlen];rfl);have z:Ah i.nd.kind=true/\m.nd.kind=21:=by simpa[Ac,Ci]using hfit
  obtain⟨H,q,_,_,_,rfl,_⟩:=B7 hK 0 u rfl;obtain⟨I,K,J,rfl⟩:=Hu hK 1 S rfl;have a:=hV 0 OF OF z.1;have r:=hB 1 OF OF _ z.2 rfl;rw[ae];refine⟨_, ?_,Qdl g w0 _ q I K J k _ _ a r,fun h=>by cases h⟩;simp[Dq,D6,Kg,Mw,Nv]
 ·obtain⟨rfl,rfl⟩:us=[]/\x = .agg #[]:=by simpa[Az]using hI
  rw[af];refine⟨([98,114,101,97,107]:List UInt8)++[59],by simp[Dq],Fy g w0 _ _ OD OD k _ (fun w l hw hl hA=>U5 g l hl w hA),fun h=>by cases h⟩
 ·obtain⟨rfl,rfl⟩:us=[]/\x = .agg #[]:=by simpa[Az]using hI
  rw[ag];refine⟨([99,111,110,116,105,110,117,101]:List UInt8)++[59],by simp[Dq],Fy g w0 _ _ OD OD k _ (fun w l hw hl hA=>Sy g l hl w hA),fun h=>by cases h⟩
 ·have E:(us=[]/\x = .agg #[.nilIface])\/(∃ t y,us=[.iface t y]/\x = .agg #[.iface t y]):=by simpa[Az]using hI
  rw[ah];rcases E with⟨rfl,rfl⟩|⟨t1,y,rfl,rfl⟩
  ·obtain rfl:ks=[]:=List.eq_nil_of_length_eq_zero (by rw[<- hlen];rfl);refine⟨([114,101,116,117,114,110]:List UInt8)++[59],by simp[Dq],Fy g w0 _ _ OD OD k _ (fun w l hw hl hA=>Te g l hl w hA),fun h=>by cases h⟩
  ·obtain⟨b,rfl⟩:∃ b,ks=[b]:=List.length_eq_one_iff.1 (by rw[<- hlen];rfl);have f:Ah b.nd.kind=true:=(by simpa[Ac]using hfit);have a:=hV 0 OF OF f;refine⟨(([114,101,116,117,114,110]:List UInt8)++([32]:List UInt8)++(Fa b).data.toList)++[59],by simp[Dq,D6],Fy g w0 _ _ OD OD k _ (fun w l hw hl hA=>Tf g l hl w _ y _ (a.later hw) hA),fun h=>by cases h⟩
 ·obtain⟨u,rfl,rfl⟩:∃ u,us=[u]/\x = .agg #[u]:=by simpa[Az]using hI
  obtain⟨b,rfl⟩:∃ b,ks=[b]:=List.length_eq_one_iff.1 (by rw[<- hlen];rfl);have f:Ah b.nd.kind=true:=by simpa[Ac,D4]using hfit
  obtain⟨H,q,_,_,_,rfl,_⟩:=B7 hK 0 u rfl;have a:=hV 0 OF OF f;rw[ai];refine⟨(([102,97,105,108,32]:List UInt8)++(Fa b).data.toList)++[59],by simp[Dq,D6],Fy g w0 _ _ OD OD k _ (fun w l hw hl hA=>Wm g l hl w _ q _ (a.later hw) hA),fun h=>by cases h⟩
 ·obtain⟨u,v,rfl,rfl⟩:∃ u v,us=[u,v]/\x = .agg #[u,v]:=by simpa[Az]using hI
  obtain⟨i,m,rfl⟩:∃ i m,ks=[i,m]:=Qbu (by rw[<- hlen];rfl);have z:Ah i.nd.kind=true/\Ah m.nd.kind=true:=by simpa[Ac]using hfit
  obtain⟨H,q,_,_,_,rfl,_⟩:=B7 hK 0 u rfl;obtain⟨R,z2,_,_,_,rfl,_⟩:=B7 hK 1 v rfl;have a:=hV 0 OF OF z.1;have X:=hV 1 OF OF z.2;rw[aj];refine⟨(([119,114,105,116,101,32]:List UInt8)++B6 [Fa i,Fa m])++[59],by simp[Dq,D6,Gq],Fy g w0 _ _ OD OD k _ (fun w l hw hl hA=>U6 g l hl w _ _ q z2 (Fa i) (Fa m) (a.later hw) (X.later hw) hA),fun h=>by cases h⟩
 ·obtain⟨u,rfl,rfl⟩:∃ u,us=[u]/\x = .agg #[u]:=by simpa[Az]using hI
  obtain⟨b,rfl⟩:∃ b,ks=[b]:=List.length_eq_one_iff.1 (by rw[<- hlen];rfl);have f:Ah b.nd.kind=true:=by simpa[Ac,D4]using hfit
  obtain⟨H,q,_,_,_,rfl,_⟩:=B7 hK 0 u rfl;have a:=hV 0 OF OF f;rw[ak];refine⟨(([115,97,121,32]:List UInt8)++(Fa b).data.toList)++[59],by simp[Dq,D6],Fy g w0 _ _ OD OD k _ (fun w l hw hl hA=>Yl g l hl w _ q _ (a.later hw) hA),fun h=>by cases h⟩
 ·obtain⟨nm,S,rfl,rfl⟩:∃ nm S,us=[.iface 183 (.agg #[.string nm,S])]/\x = .agg #[.string nm,S]:=by simpa[Az]using hI
  obtain⟨b,rfl⟩:∃ b,ks=[b]:=List.length_eq_one_iff.1 (by rw[<- hlen];rfl);have h7:b.nd.kind=7:=by simpa[Ac,Fu]using hfit
  have f:Ah b.nd.kind=true:=by rw[h7];rfl
  obtain⟨R,z2,_,_,G,F,B⟩:=B7 hK 0 _ rfl;have C:R=7:=by simpa[h7]using G.symm
  subst C;injection F with e1 e2;obtain⟨aa,N,on,O,e3⟩:=B.2.1 rfl;rw[e3]at e2;injection e2 with e4;have e6:[Value.string nm,S]=[.string aa,.slice N on O]:=congrArg Array.toList e4;have e5:S = .slice N on O:=by injection e6 with _ e7;injection e7
  subst e5;have a:=hV 0 OF OF f;rw[al];refine⟨(Fa b).data.toList++[59],by simp[Dq,D6],Fy g w0 _ _ OD OD k _ (fun w l hw hl hA=>Zw g l hl w nm N on O _ (a.later hw) hA),fun h=>by cases h⟩
theorem Qf0 {T A:List UInt8} (h:T=A++[10]):T.dropLast=A:=by rw[h,List.dropLast_concat]
def Zv (t:Aa) (k:Nat):List UInt8:=(On t (Di k)).data.toList.dropLast
theorem Vv (k:Nat):∀ (ts:List Aa),(∀ t ∈ ts,(On t (Di k)).data.toList=Zv t k++[10])->G6 (Di k).data.toList (ts.map (fun t=>Zv t k))=I1 (Di k) (Jh ts (Di k))
 | [],_=>by simp[G6,I1,Jh]
 | t::r,h=>by
  have a:=Vv k r (fun t ht=>h t (by simp[ht]))
  have b:=h t OF
  rw[Jh]
  simp only[G6,I1,List.map_cons,List.flatMap_cons]at a |-
  rw[a,b]
  simp
def Qdg (g:Nat) (w0:World) (t:Aa) (v:Value) (k:Nat):Prop := ∃ A,(On t (Di k)).data.toList=A++[10]/\Od g w0 v k A/\(t.nd.kind=12->∃ x,v = .iface 205 x/\Qb x/\I3 g w0 x k A)
theorem Qme (g:Nat) (w0:World) (P:Nat->Prop) (hP:∀ k,P k->k < g) (hT:E0 g w0) (hpow:∀ w1,Below g w0 w1->Lib.TabIs prog w1 "internal/strconv.uint64pow10" .u64 Lib.pow10Tab) (n:Nat) :
  (∀ (t:Aa) (v:Value) (k:Nat),t.high < n->Jk t->Cv t.nd.kind=true->Ba P w0 t v->k+t.high<=800->Qdg g w0 t v k) /\
  (∀ (t:Aa) (S:Value) (k:Nat),t.high < n->Jk t->t.nd.kind=21->Ba P w0 t (Dv S)->k+t.high<=800->Kh g w0 S k (Mw t k)):=by
 induction n with
 | zero=>exact⟨fun t v k h=>OC,fun t S k h=>OC⟩
 | succ n ih =>
  obtain⟨E,W⟩:=ih
  constructor
  ·intro t v k M l hS c O
   obtain⟨d,ks⟩:=t
   rw[Jk]at l
   rw[Ba]at c
   obtain⟨us,⟨h1,h2,x,rfl,H⟩,Z,F,C,c⟩:=c
   have hl:=An.len ks us c
   rw[Aa.high]at M O
   have a:∀ j (h:j < us.length) (h':j < ks.length),Ba P w0 ks[j] us[j]/\ks[j].high < n/\ks[j].high+1<=Aa.highs ks/\Jk ks[j]:=fun j h h'=>by
    obtain⟨u,s,m⟩:=An.at ks us c j h'
    rw[List.getElem?_eq_getElem h]at s
    cases s
    have B:=I8 ks j h'
    exact⟨m,by omega,B,J8 ks l.2.2.2 _ (List.getElem_mem h')⟩
   obtain⟨A,b,p,G⟩:=Qfb g w0 P d ks us x k l.1 l.2.1 hS H Z hl
    (fun j h h' hE=>Qdm g w0 P hP hT hpow ks[j] us[j] (a j h h').2.2.2 hE (a j h h').1)
    (fun j h h' S o s=>by
     obtain⟨m,Q,hm,q⟩:=a j h h'
     rw[s]at m
     exact W ks[j] S k Q q o m OC)
    (fun j h h' h12=>by
     obtain⟨m,Q,hm,q⟩:=a j h h'
     obtain⟨T,K,_,L⟩:=E ks[j] us[j] k Q q (by rw[h12];rfl) m OC
     obtain⟨y,R,U,V⟩:=L h12
     exact⟨T,y,K,R,U,V⟩)
   refine⟨A,b,p,fun h12 => ?_⟩
   have f:d.kind=12:=h12
   obtain⟨hf,hi⟩:=G f
   exact⟨x,by rw[f];rfl,hf,hi⟩
  ·intro t S k M l o c O
   obtain⟨d,ks⟩:=t
   rw[Jk]at l
   rw[Ba]at c
   obtain⟨us,⟨h1,h2,x,hx,H⟩,Z,F,C,c⟩:=c
   have hl:=An.len ks us c
   have i:d.kind=21:=o
   rw[Aa.high]at M O
   obtain⟨X,I,rfl⟩:∃ S,Bk P w0 S us.length us/\x = .agg #[S]:=by
    have:=H;simp only[Az,i]at this;simpa using this
   have J:S=X:=by
    unfold Dv at hx
    injection hx with _ e2
    injection e2 with e3
    have e4:[S]=[X]:=congrArg Array.toList e3
    injection e4
   subst J
   have z:∀ t ∈ ks,Cv t.nd.kind=true:=by
    have:=l.2.1
    rw[i]at this
    have Y:(ks.map (fun t=>t.nd.kind)).all Cv=true:=by simpa[Ac]using this
    rw[List.all_map,List.all_eq_true]at Y
    exact Y
   have D:∀ j (h:j < us.length) (h':j < ks.length),Qdg g w0 ks[j] us[j] (k+1):=fun j h h'=>by
    obtain⟨u,s,m⟩:=An.at ks us c j h'
    rw[List.getElem?_eq_getElem h]at s
    cases s
    have B:=I8 ks j h'
    exact E ks[j] us[j] (k+1) OC (J8 ks l.2.2.2 _ (List.getElem_mem h')) (z _ (List.getElem_mem h')) m OC
   have r:∀ t ∈ ks,(On t (Di (k+1))).data.toList=Zv t (k+1)++[10]:=fun t ht=>by
    obtain⟨j,N,rfl⟩:=List.getElem_of_mem ht
    obtain⟨A,b,_⟩:=D j OC N
    unfold Zv
    rw[Qf0 b];exact b
   have hb:=Qe8 g w0 S us (ks.map (fun t=>Zv t (k+1))) (by rw[List.length_map];omega) OC k OC P hP I (fun j h h'=>by
    have N:j < ks.length:=OC
    obtain⟨A,b,p,_⟩:=D j h N
    have e:(ks.map (fun t=>Zv t (k+1)))[j]=A:=by rw[List.getElem_map];exact Qf0 b
    rw[e];exact p)
   rw[Vv (k+1) ks r]at hb
   have e:Mw (.node d ks) k=[123,10]++I1 (Di (k+1)) (Jh ks (Di (k+1)))++(Di k).data.toList++[125]:=by
    rw[Mw,O2,Qq]
   rw[e];exact hb
def Kj (p:ByteArray × Int):ByteArray:=p.1++⟨#[32]⟩++Ag p.2
def Su (name:ByteArray) (r:Int) (ps:List (ByteArray × Int)) (U:List UInt8):List UInt8 :=
 [102,110,32]++name.data.toList++[40]++B6 (ps.map Kj)++[41]++(if r=0 then [] else [32,45,62,32]++(Ag r).data.toList)++[32]++U++[10]
theorem Sv (w:World) (o:Obj) (g:Nat) (h:g < w.heap.size):(w.alloc o).heap[g]? = w.heap[g]?:=((Below.refl w.heap.size w).alloc ON o).block g h
theorem Vw (g:Nat) (l:List UInt8) (hl:l.length<=20000000) (x y z:ByteArray) (hx:x.size<=15000000) (hy:y.size<=15000000) (hz:z.size<=15000000) (w:World) (b:Nat) (hb:w.heap.size=b) (hA:Ao g l w) :
  Calls prog 36 #[.pointer (some (OK g 0)),.slice (some (OK b 0)) 3 3] ((w.alloc (.cells #[.string x,.string y,.string z] 9)).drew) fun e w' => ∃ a,e = .returned (.tuple #[])/\Ao g a w'/\Ax l (x.data.toList++y.data.toList++z.data.toList) a/\Am g w w':=by
 subst hb;have c:=hA.lt;have h:=O6 g l hl [x,y,z] OF (by
  intro u f
  simp only[List.mem_cons,List.not_mem_nil,or_false]at f
  rcases f with rfl|rfl|rfl
  ·exact hx
  ·exact hy
  ·exact hz) (.slice (some (OK w.heap.size 0)) 3 3) ((w.alloc (.cells #[.string x,.string y,.string z] 9)).drew) (O7 g w [x,y,z] #[.string x,.string y,.string z] c (fun j h=>by
   have d:j=0\/j=1\/j=2:=by simp at h;omega
   rcases d with rfl|rfl|rfl <;> rfl)) ((hA.alloc _).below (OO _).drew) OH
 refine h.mono ?_;rintro e w' ⟨a,rfl,i,k,m⟩;have n:Am g w (w.alloc (.cells #[.string x,.string y,.string z] 9)).drew:=⟨(Am.alloc1 (Am.refl g w) c _).1.drew,(Am.alloc1 (Am.refl g w) c _).2.drew⟩;exact⟨a,rfl,i,k.eq OF,n.trans m⟩
theorem Qau : ∀ (ps:List (ByteArray × Int)) (j:Nat) (h:j < ps.length),(ps.flatMap (fun p=>[Value.string p.1,.int .i64 p.2]))[j * 2]? = some (.string ps[j].1)/\(ps.flatMap (fun p=>[Value.string p.1,.int .i64 p.2]))[j * 2+1]? = some (.int .i64 ps[j].2)
 | p::r,0,_=>by simp
 | p::r,j+1,h=>by
  have b:=Qau r j (by simpa using h)
  have a:(j+1) * 2=j * 2+1+1:=OC
  have c:(j+1) * 2+1=j * 2+1+1+1:=OC
  rw[a]
  simp only[List.flatMap_cons,List.cons_append,List.nil_append,List.getElem?_cons_succ,List.getElem_cons_succ]
  exact b
theorem Qkl {P:Nat->Prop} {g:Nat} {w0 w1:World} {SP:Value} {ps:List (ByteArray × Int)} (hP:∀ k,P k->k < g) (h:Bk P w0 SP ps.length (ps.flatMap (fun p=>[.string p.1,.int .i64 p.2]))) (hw:Below g w0 w1) (j:Nat) (hj:j < ps.length) :
  ∃ gu uc,SP = .slice (some (OK gu 0)) ps.length uc/\w1.cell? (OK gu (j * 2))=some (.string ps[j].1)/\w1.cell? (OK gu (j * 2+1))=some (.int .i64 ps[j].2):=by
 obtain⟨a,c,rfl,l⟩:=h;obtain⟨n,o⟩:=Qau ps j hj;obtain⟨k,i,m,d⟩:=l _ _ n;obtain⟨r,f,q,b⟩:=l _ _ o;rw[i]at f;injection f with e;injection e with e;subst e;exact⟨k,c,by rw[i],by rw[hw.cell (p:=(OK k (j * 2))) (hP k m)];exact d,by rw[hw.cell (p:=(OK k (j * 2+1))) (hP k m)];exact b⟩
theorem Qmc (g:Nat) (w0:World) (P:Nat->Prop) (hP:∀ k,P k->k < g) (hT:Hid (E0 g w0)) (name:ByteArray) (hname:name.size<=15000000) (r:Nat) (hr:r<=10) (ps:List (ByteArray × Int)) (hps:ps.length<=1000) (hp:Hid (∀ p ∈ ps,p.1.size<=15000000/\1<=p.2/\p.2<=10))
    (SP:Value) (HS:Hid (Bk P w0 SP ps.length (ps.flatMap (fun p=>[.string p.1,.int .i64 p.2])))) (ba:Option Addr) (bn bc:Nat) (U:List UInt8) (HB:Hid (Kh g w0 (.slice ba bn bc) 0 U)) (l:List UInt8) (hl:l.length<=20000000) (w:World) (HW:Hid (Below g w0 w)) (HA:Hid (Ao g l w)) :
    Calls prog 14 #[.pointer (some (OK g 0)),.agg #[.string name,.int .i64 (r:Int),SP,.slice ba bn bc]] w fun e w' => ∃ l',e = .returned (.tuple #[])/\Ao g l' w'/\Ax l (Su name (r:Int) ps U) l'/\Am g w w':=by
  have ax:=HA.out.lt;have A:∀ w1,Am g w w1->∀ j (h:j < ps.length),∃ H uc,SP = .slice (some (OK H 0)) ps.length uc/\w1.cell? (OK H (j * 2))=some (.string ps[j].1)/\w1.cell? (OK H (j * 2+1))=some (.int .i64 ps[j].2):=by
    exact fun w1 h1 j hj=>Qkl hP HS.out (HW.out.trans h1.1) j hj
  have Y:∃ ua uc,SP = .slice ua ps.length uc:=by obtain⟨ua,uc,h,_⟩:=HS.out;exact⟨ua,uc,h⟩
  obtain⟨ua,uc,rfl⟩:=Y;have HC:Hid (∀ w1,Am g w w1->∀ j (h:j < ps.length),∃ H,ua=some (OK H 0)/\w1.cell? (OK H (j * 2))=some (.string ps[j].1)/\w1.cell? (OK H (j * 2+1))=some (.int .i64 ps[j].2)):=fun w1 h1 j hj=>by
    obtain⟨H,bm,he,h2,h3⟩:=A w1 h1 j hj;injection he with e1;exact⟨H,e1,h2,h3⟩
  clear A HS;obtain⟨n,HN⟩:∃ n,Hid (ps.length=n):=⟨ps.length,(rfl:ps.length=_)⟩;rw[HN.out]at hps;simp only[HN.out];go_enter func14,ntmps14;go_wp2_with (first
    | (go_at_call 36;refine(Qav g l hl ⟨#[102,110,32]⟩ name ⟨#[40]⟩ OD hname OD (w.alloc _) (w.heap.size+1) OF (HA.out.alloc _)).mono ?_;rintro e w2 ⟨l2,rfl,aq,au,ag⟩
       have ak:=ag.keep (Cf w _) OC OD
       have c1:w2.cell? (OK w.heap.size 2)=some (.slice ua n uc):=(by rw[Lib.cell_of_heap ak];rfl)
       have ai:=(Am.alloc1 (Am.refl g w) ax _).trans ag))
  have a9:=ai.1.size;obtain⟨B,ac⟩:∃ B,Hid ([102,110,32]++name.data.toList++[40]=B):=⟨_,(rfl:[102,110,32]++name.data.toList++[40]=_)⟩;have aa:Ax l B l2:=au.eq ac.out;have z:Hid (E0 g w):=hT.out.below HW.out;obtain⟨u,v⟩:∃ u,Hid (ps.map Kj=u):=⟨_,(rfl:ps.map Kj=_)⟩;have bk:u.length=n:=by rw[<- v.out,List.length_map,HN.out]
  go_loopw [14] (fun i wr => ∃ (j:Nat) (R:List UInt8),i = .int .i64 (j:Int)/\j<=n/\Ao g R wr/\Ax l (B++B6 (u.take j)) R/\Am g w wr/\wr.heap[w.heap.size]? = some (.cells #[.string name,.int .i64 (r:Int),.slice ua n uc,.slice ba bn bc] 53 (0,0))) (fun i _=>n - (intOf i).toNat);case atStart=>exact⟨0,l2,rfl,by omega,aq,aa.eq (by simp[B6]),ai,ak⟩
  case round =>
    obtain⟨j,R,rfl,hj,hA,hD,hF,Z⟩:=hrel;have an:=hD.2.2.2;clear au aa aq ak c1 ai ag;have bl:=hF.1.size;by_cases hjn:j < n
    · have ay:j < ps.length:=(by rw[HN.out];exact hjn);have a6:j < u.length:=OC;obtain⟨H,rfl,q0,q1⟩:=HC.out wr hF j ay;have Y:=Nu (u.take j) u[j];have e2:u.take j++[u[j]]=u.take (j+1):=(by rw[List.take_add_one,List.getElem?_eq_getElem a6];rfl);rw[e2]at Y;have a1:=hp.out ps[j] (List.getElem_mem ay);have a2:u[j]=Kj ps[j]:=(by simp[<- v.out]);rw[a2]at Y;clear e2 a2;generalize ps[j]=p at *;obtain⟨b,a3⟩:=p;simp only at a1 q0 q1;obtain⟨a,rfl⟩:∃ a:Nat,a3=(a:Int):=⟨a3.toNat,by omega⟩;obtain⟨a0,bb,bd⟩:=a1;have E:1<=a/\a<=10:=OC;have a8:(a:Int) < 11:=OC;have ao:(Kj (b,(a:Int))).data.toList=b.data.toList++[32]++(Ag (a:Int)).data.toList:=(by simp[Kj]);rw[ao]at Y;obtain⟨c,V⟩:∃ c,Hid (wr.heap.size=c):=⟨_,(rfl:wr.heap.size=_)⟩;have D:(wr.alloc (.cells #[.string b,.int .i64 (a:Int)] 94)).heap[c]? = some (.cells #[.string b,.int .i64 (a:Int)] 94 (0,0)):=(by rw[<- V.out];exact Cf wr _);have Q:(wr.alloc (.cells #[.string b,.int .i64 (a:Int)] 94)).heap[w.heap.size]? = some (.cells #[.string name,.int .i64 (r:Int),.slice (some (OK H 0)) n uc,.slice ba bn bc] 53 (0,0)):=(Sv wr _ _ (Array.getElem?_eq_some_iff.1 Z).1).trans Z;have W:=hA.alloc (.cells #[.string b,.int .i64 (a:Int)] 94);have C:=hF.alloc1 ax (.cells #[.string b,.int .i64 (a:Int)] 94);have bf:g < c:=(by have:=V.out;omega);by_cases hj0:j=0
      · subst hj0;have HD:Hid (Ax l B R):=hD.eq (by simp[B6]);have HS:Hid (B++(b.data.toList++[32]++(Ag (a:Int)).data.toList)=B++B6 (u.take (0+1))):=(by rw[Hid,Y];simp);clear hD Y HC v;simp only[Nat.zero_mul,Nat.zero_add]at q0 q1;go_wp2_with fail;rw[V.out];generalize wr.alloc (.cells #[.string b,.int .i64 (a:Int)] 94)=X at D Q W C |-
        have aj:c < X.heap.size:=(Array.getElem?_eq_some_iff.1 D).1;have a5:=W.lt;have N:(X).drew.heap[c]? = some (.cells #[.string b,.int .i64 (a:Int)] 94 (0,0)):=D;have d0:(X).drew.cell? (OK c 0)=some (.string b):=(by rw[Lib.cell_of_heap N];rfl);have d1:(X).drew.cell? (OK c 1)=some (.int .i64 (a:Int)):=(by rw[Lib.cell_of_heap N];rfl);have d2:=(z.out.below (w':=(X).drew) C.1.drew).type a E.2;have O:((X).alloc (.cells #[.string b,.string ⟨#[32]⟩,.string (Ag (a:Int))] 9)).drew.heap[c]? = some (.cells #[.string b,.int .i64 (a:Int)] 94 (0,0)):=(Sv X _ c aj).trans D;have f0:((X).alloc (.cells #[.string b,.string ⟨#[32]⟩,.string (Ag (a:Int))] 9)).drew.cell? (OK c 0)=some (.string b):=(by rw[Lib.cell_of_heap O];rfl);have f1:((X).alloc (.cells #[.string b,.string ⟨#[32]⟩,.string (Ag (a:Int))] 9)).drew.cell? (OK c 1)=some (.int .i64 (a:Int)):=(by rw[Lib.cell_of_heap O];rfl);have f2:=(z.out.below (w':=((X).alloc (.cells #[.string b,.string ⟨#[32]⟩,.string (Ag (a:Int))] 9)).drew) (C.alloc OC _).1.drew).type a E.2;go_region_held3 (fun w'=>w'.cell? (OK c 0)=some (.string b)/\w'.cell? (OK c 1)=some (.int .i64 (a:Int))/\w'.cell? (OK 0 a)=some (.string (Ag (a:Int)))) (with_reducible first|exact⟨d0,d1,d2⟩|exact⟨f0,f1,f2⟩|exact⟨e0,e1,e2⟩) (first
          | (go_at_call 36;refine(Vw g R OG b ⟨#[32]⟩ (Ag (a:Int)) a0 OD (by have:=Du (a:Int);omega) X _ rfl W).mono ?_;rintro e S ⟨l5,rfl,m,o,d⟩
             have M:=d.keep D OC OD
             have e0:S.cell? (OK c 0)=some (.string b):=(by rw[Lib.cell_of_heap M];rfl)
             have e1:S.cell? (OK c 1)=some (.int .i64 (a:Int)):=(by rw[Lib.cell_of_heap M];rfl)
             have e2:=(z.out.below (C.trans d).1).type a E.2))
        have am:=d.keep Q OC OD;go_wp2;go_roundw;case rel=>exact⟨0+1,l5,by go_num,by omega,m,(HD.out.trans o).eq HS.out,C.trans d,am⟩
        case measure=>simp[intOf];omega
      · have HS:Hid (B++B6 (u.take j)++[44,32]++(b.data.toList++[32]++(Ag (a:Int)).data.toList)=B++B6 (u.take (j+1))):=by
          rw[Hid,Y,if_neg (by
            intro h
            have:=congrArg List.length h
            rw[List.length_take]at this
            simp only[List.length_nil]at this
            omega)]
          simp
        have HD:Hid (Ax l (B++B6 (u.take j)) R):=hD;have bg:0 < j:=OC;clear hD Y HC v;go_wp2_with (go_at_call 36;refine(C5 g R an ⟨#[44,32]⟩ OD (wr.alloc _) (wr.heap.size+1) OF W).mono ?_;rintro e t ⟨l3,rfl,x,y,q⟩);have f:=q.keep D OC OD;have az:=q.keep Q OC OD;have s:=C.trans q;have bh:=y.2.2.2;rw[V.out];have aj:c < t.heap.size:=(Array.getElem?_eq_some_iff.1 f).1;have a5:=x.lt;have N:(t).drew.heap[c]? = some (.cells #[.string b,.int .i64 (a:Int)] 94 (0,0)):=f;have d0:(t).drew.cell? (OK c 0)=some (.string b):=(by rw[Lib.cell_of_heap N];rfl);have d1:(t).drew.cell? (OK c 1)=some (.int .i64 (a:Int)):=(by rw[Lib.cell_of_heap N];rfl);have d2:=(z.out.below (w':=(t).drew) s.1.drew).type a E.2;have O:((t).alloc (.cells #[.string b,.string ⟨#[32]⟩,.string (Ag (a:Int))] 9)).drew.heap[c]? = some (.cells #[.string b,.int .i64 (a:Int)] 94 (0,0)):=(Sv t _ c aj).trans f;have f0:((t).alloc (.cells #[.string b,.string ⟨#[32]⟩,.string (Ag (a:Int))] 9)).drew.cell? (OK c 0)=some (.string b):=(by rw[Lib.cell_of_heap O];rfl);have f1:((t).alloc (.cells #[.string b,.string ⟨#[32]⟩,.string (Ag (a:Int))] 9)).drew.cell? (OK c 1)=some (.int .i64 (a:Int)):=(by rw[Lib.cell_of_heap O];rfl);have f2:=(z.out.below (w':=((t).alloc (.cells #[.string b,.string ⟨#[32]⟩,.string (Ag (a:Int))] 9)).drew) (s.alloc OC _).1.drew).type a E.2;go_region_held3 (fun w'=>w'.cell? (OK c 0)=some (.string b)/\w'.cell? (OK c 1)=some (.int .i64 (a:Int))/\w'.cell? (OK 0 a)=some (.string (Ag (a:Int)))) (with_reducible first|exact⟨d0,d1,d2⟩|exact⟨f0,f1,f2⟩|exact⟨e0,e1,e2⟩) (first
          | (go_at_call 36;refine(Vw g l3 OG b ⟨#[32]⟩ (Ag (a:Int)) a0 OD (by have:=Du (a:Int);omega) t _ rfl x).mono ?_;rintro e S ⟨l5,rfl,m,o,d⟩
             have M:=d.keep f OC OD
             have e0:S.cell? (OK c 0)=some (.string b):=(by rw[Lib.cell_of_heap M];rfl)
             have e1:S.cell? (OK c 1)=some (.int .i64 (a:Int)):=(by rw[Lib.cell_of_heap M];rfl)
             have e2:=(z.out.below (s.trans d).1).type a E.2))
        have am:=d.keep az OC OD;go_wp2;go_roundw;case rel=>exact⟨j+1,l5,by go_num,by omega,m,((HD.out.trans y).trans o).eq HS.out,s.trans d,am⟩
        case measure=>simp[intOf];omega
    · have HD:Hid (Ax l (B++B6 u) R):=hD.eq (by rw[List.take_of_length_le OC]);clear hD HC;have T:Hid (Ao g R wr):=hA;clear hA;by_cases hr0:r=0
      · have ad:Hid (B++B6 u++[41]++[32]++U++[10]=Su name (r:Int) ps U):=by
          rw[Hid,Su,v.out,<- ac.out,hr0];simp
        subst hr0;clear v;go_wp2_with (first
          | (go_at_call 36;refine(Cu g R an ⟨#[41]⟩ OD wr T.out).mono ?_;rintro e t ⟨l3,rfl,x,y,q⟩
             have f:=q.keep Z OC OD
             have c3:t.cell? (OK w.heap.size 1)=some (.int .i64 ((0:Nat):Int)):=(by rw[Lib.cell_of_heap f];rfl)
             have s:=hF.trans q
             have F:Hid (Ao g l3 t):=x
             clear x T)
          | (go_at_call 36;refine(Cu g l3 y.2.2.2 ⟨#[32]⟩ OD t F.out).mono ?_;rintro e w4 ⟨l4,rfl,I,J,K⟩
             have al:=K.keep f OC OD
             have c4:w4.cell? (OK w.heap.size 3)=some (.slice ba bn bc):=(by rw[Lib.cell_of_heap al];rfl)
             have L:=s.trans K
             have G:Hid (Ao g l4 w4):=I
             clear I F)
          | (go_at_call 37;refine(HB.out _ l4 (HW.out.trans L.1) J.2.2.2 G.out).mono ?_;rintro e S ⟨l5,rfl,m,o,d⟩
             have ab:Hid (Ao g l5 S):=m
             clear m G)
          | (go_at_call 36;refine(Cu g l5 o.2.2.2 ⟨#[10]⟩ OD S ab.out).mono ?_;rintro e w6 ⟨l6,rfl,ae,af,ah⟩))
        go_end0;exact⟨l6,rfl,ae,((((HD.out.trans y).trans J).trans o).trans af).eq ad.out,(L.trans d).trans ah⟩
      · have ad:Hid (B++B6 u++[41]++([32,45,62,32]++(Ag (r:Int)).data.toList)++[32]++U++[10]=Su name (r:Int) ps U):=by
          rw[Hid,Su,v.out,<- ac.out,if_neg OC]
        have bi:((r:Int) == 0)=false:=(by simpa using hr0);have bj:((r:Int) != 0)=true:=(by simpa using hr0);have be:(r:Int) < 11:=OC;clear v;go_wp2_with (first
          | (go_at_call 36;refine(Cu g R an ⟨#[41]⟩ OD wr T.out).mono ?_;rintro e t ⟨l3,rfl,x,y,q⟩
             have f:=q.keep Z OC OD
             have c3:t.cell? (OK w.heap.size 1)=some (.int .i64 (r:Int)):=(by rw[Lib.cell_of_heap f];rfl)
             have s:=hF.trans q
             have F:Hid (Ao g l3 t):=x
             have tw:=(z.out.below s.1).type r hr
             clear x T)
          | (go_at_call 36;refine(Sx g l3 y.2.2.2 ⟨#[32,45,62,32]⟩ (Ag (r:Int)) OD (by have:=Du (r:Int);omega) t F.out).mono ?_;rintro e w7 ⟨l7,rfl,ar,av,aw⟩
             have a7:=aw.keep f OC OD
             have a4:=s.trans aw
             have ap:Hid (Ao g l7 w7):=ar
             clear ar F)
          | (go_at_call 36;refine(Cu g l7 av.2.2.2 ⟨#[32]⟩ OD w7 ap.out).mono ?_;rintro e w4 ⟨l4,rfl,I,J,K⟩
             have al:=K.keep a7 OC OD
             have c4:w4.cell? (OK w.heap.size 3)=some (.slice ba bn bc):=(by rw[Lib.cell_of_heap al];rfl)
             have L:=a4.trans K
             have G:Hid (Ao g l4 w4):=I
             clear I ap)
          | (go_at_call 37;refine(HB.out _ l4 (HW.out.trans L.1) J.2.2.2 G.out).mono ?_;rintro e S ⟨l5,rfl,m,o,d⟩
             have ab:Hid (Ao g l5 S):=m
             clear m G)
          | (go_at_call 36;refine(Cu g l5 o.2.2.2 ⟨#[10]⟩ OD S ab.out).mono ?_;rintro e w6 ⟨l6,rfl,ae,af,ah⟩))
        go_end0;exact⟨l6,rfl,ae,(((((HD.out.trans y).trans av).trans J).trans o).trans af).eq ad.out,(L.trans d).trans ah⟩
theorem Yg (out:ByteArray) (l:List Ae):∀ j,j<=l.length->(Hf out l j).data.toList=out.data.toList++B6 ((l.take j).map (fun d=>Kj (d.text,d.type)))
 | 0,_=>by simp[Hf,B6]
 | j+1,h=>by
  have c:=Yg out l j OC
  have b:j < l.length:=OC
  have f:l.getD j O5=l[j]:=by rw[List.getD_eq_getElem?_getD,List.getElem?_eq_getElem b];rfl
  have g:l.take (j+1)=l.take j++[l[j]]:=by rw[List.take_add_one,List.getElem?_eq_getElem b];rfl
  rw[Hf,U2,f,g,List.map_append,List.map_cons,List.map_nil,Nu]
  by_cases hj0:j=0
  ·subst hj0
   simp[Kj,c,B6]
  ·have a:¬ ((l.take j).map (fun d=>Kj (d.text,d.type))=[]):=by
    intro i;have:=congrArg List.length i;rw[List.length_map,List.length_take,List.length_nil]at this;omega
   rw[if_neg hj0,if_neg a];simp[Kj,c]
def Ya (g:Nat) (w0:World) (f:C4) (T:List UInt8):Prop :=
 ∀ (w:World) (l:List UInt8),Below g w0 w->l.length<=20000000->Ao g l w->Calls prog 14 #[.pointer (some (OK g 0)),.agg #[.string f.name,.int .i64 f.result,f.sp,f.sb]] w fun e w' => ∃ l',e = .returned (.tuple #[])/\Ao g l' w'/\Ax l T l'/\Am g w w'
theorem Qke (g:Nat) (w0:World) (P:Nat->Prop) (hP:∀ k,P k->k < g) (hT:E0 g w0) (hpow:∀ w1,Below g w0 w1->Lib.TabIs prog w1 "internal/strconv.uint64pow10" .u64 Lib.pow10Tab)
  (t:Aa) (f:C4) (hg:Jk t) (h23:t.nd.kind=23) (H:Ba P w0 t (F8 f)) (hh:t.high<=700):Ya g w0 f (Mz t).data.toList:=by
 obtain⟨d,ks⟩:=t
 have n:d.kind=23:=h23
 rw[Jk]at hg
 rw[Ba]at H
 obtain⟨us,⟨h1,h2,x,hx,hI⟩,hK,af,ae,H⟩:=H
 have hl:=An.len ks us H
 rw[Aa.high]at hh
 obtain⟨i,F,z,rfl,hS,rfl⟩:∃ (i:List (ByteArray × Int)) (F z:Value),us=i.map Gm++[Dv z]/\Bk P w0 F i.length (i.flatMap (fun p=>[.string p.1,.int .i64 p.2]))/\x = .agg #[.string d.text,.int .i64 d.type,F,z]:=by
  have:=hI;simp only[Az,n]at this;simpa using this
 have hf:f.name=d.text/\f.result=d.type/\f.sp=F/\f.sb=z:=by
  unfold F8 at hx
  injection hx with _ e2
  injection e2 with e3
  have S:[Value.string f.name,.int .i64 f.result,f.sp,f.sb]=[.string d.text,.int .i64 d.type,F,z]:=congrArg Array.toList e3
  injection S with a1 e5
  injection e5 with a2 e6
  injection e6 with a3 e7
  injection e7 with a4
  injection a1 with a1
  injection a2 with _ a2
  exact⟨a1,a2,a3,a4⟩
 obtain⟨U,V,W,X⟩:=hf
 simp only[List.length_append,List.length_map,List.length_cons,List.length_nil]at hl
 obtain⟨a,b,rfl,aa⟩:∃ a b,ks=a++[b]/\a.length=i.length:=by
  refine⟨ks.dropLast,ks.getLast (by intro G;rw[G]at hl;simp at hl),(List.dropLast_concat_getLast _).symm,by rw[List.length_dropLast];omega⟩
 have K:=hg.2.1
 rw[n]at K
 have o:Ea ((a++[b]).map (fun t=>t.nd.kind))=true:=by simpa[Ac]using K
 rw[List.map_append]at o
 simp only[Ea,List.map_cons,List.map_nil,List.getLast?_append,List.getLast?_singleton,Option.some_or,List.dropLast_concat,Bool.and_eq_true,beq_iff_eq,decide_eq_true_eq,List.length_append,List.length_map,List.length_cons,List.length_nil]at o
 obtain⟨⟨I,ag⟩,A⟩:=o
 have L:=(O4 a [b]).1 hg.2.2.2
 have Y:Jk b:=J8 [b] L.2 b OF
 have s:∀ t ∈ a,t.nd.kind=22:=by
  rw[List.all_map,List.all_eq_true]at A
  intro t R
  simpa using A t R
 have N:∀ j (h:j < i.length) (Q:j < a.length),i[j]=(a[j].nd.text,a[j].nd.type):=by
  intro j h Q
  obtain⟨u,v,B⟩:=An.at (a++[b]) _ H j OH
  rw[List.getElem?_append_left (by simpa using h),List.getElem?_map,List.getElem?_eq_getElem h]at v
  have e:(a++[b])[j]'OH=a[j]:=List.getElem_append_left Q
  rw[e]at B
  have c:Gm i[j]=u:=by simpa using v
  have E:=s a[j] (List.getElem_mem Q)
  generalize a[j]=q at *
  obtain⟨m,qs⟩:=q
  have y:m.kind=22:=E
  rw[Ba]at B
  obtain⟨ad,⟨_,_,x2,D,T⟩,_⟩:=B
  obtain⟨_,rfl⟩:ad=[]/\x2 = .agg #[.string m.text,.int .i64 m.type]:=by
   have:=T;simp only[Az,y]at this;simpa using this
  rw[<- c]at D
  unfold Gm at D
  injection D with _ e2
  injection e2 with e3
  have S:[Value.string i[j].1,.int .i64 i[j].2]=[.string m.text,.int .i64 m.type]:=congrArg Array.toList e3
  injection S with a1 e5
  injection e5 with a2
  injection a1 with a1
  injection a2 with _ a2
  exact Prod.ext a1 a2
 have O:i=a.map (fun t=>(t.nd.text,t.nd.type)):=by
  apply List.ext_getElem (by rw[List.length_map];omega)
  intro j h Q
  rw[List.getElem_map];exact N j h OC
 have hB:Kh g w0 z 0 (Mw b 0):=by
  obtain⟨u,v,B⟩:=An.at (a++[b]) _ H a.length OF
  rw[List.getElem?_append_right (by rw[List.length_map];omega)]at v
  have c:Dv z=u:=by simpa[aa]using v
  have e:(a++[b])[a.length]'OF=b:=by simp
  rw[e,<- c]at B
  have Z:=I8 (a++[b]) a.length OF
  rw[e]at Z
  exact(Qme g w0 P hP hT hpow (b.high+1)).2 b z 0 OC Y I B OC
 have v:=hg.1
 simp only[Au,n]at v
 have ac:A0 d.text=true/\((1<=d.type/\d.type<=10)\/d.type=0):=by simpa using v
 have ah:=Ki ac.1
 obtain⟨r,B⟩:∃ r:Nat,d.type=(r:Int):=⟨d.type.toNat,by omega⟩
 have hE:(Mz (.node d (a++[b]))).data.toList=Su d.text d.type i (Mw b 0):=by
  have el:((a++[b]).getLast?.getD Uw)=b:=by simp
  have ed:(a++[b]).dropLast=a:=by simp
  have C:=Yg (⟨#[102,110,32]⟩++d.text++⟨#[40]⟩) (a.map Aa.nd) a.length OF
  have ep:((a.map Aa.nd).take a.length).map (fun d=>Kj (d.text,d.type))=i.map Kj:=by
   rw[List.take_of_length_le OF,O,List.map_map,List.map_map];rfl
  rw[ep]at C
  rw[Mz,el,ed,Mu,Oc,Su,Mw]
  have e1:Di (0+1)=⟨#[32,32]⟩:=rfl
  have e0:(Di 0).data.toList=[]:=rfl
  rw[e1,e0,List.length_map]
  by_cases G:d.type=0
  ·rw[if_pos G,if_pos G]
   simp[C]
  ·rw[if_neg G,if_neg G]
   simp[C]
 intro w l hw ab hA
 rw[hE,U,V,W,B]
 have J:f.sb = .slice f.ba f.bn f.bc:=rfl
 rw[J]
 rw[<- X,J]at hB
 exact Qmc g w0 P hP hT d.text OC r OC i OC (fun p hp=>by
  rw[O]at hp
  obtain⟨t,R,rfl⟩:=List.mem_map.1 hp
  have M:=J8 a L.1 t R
  have E:=s t R
  obtain⟨m,qs⟩:=t
  rw[Jk]at M
  have y:m.kind=22:=E
  have v:=M.1
  simp only[Au,y]at v
  have c:A0 m.text=true/\1<=m.type/\m.type<=10:=by simpa using v
  have:=Ki c.1
  exact⟨by show m.text.size<=15000000;omega,c.2.1,c.2.2⟩) F hS f.ba f.bn f.bc _ hB l ab w hw hA
end Go.Proofs.YtjlaedokfbcbpaaGreatDoor
