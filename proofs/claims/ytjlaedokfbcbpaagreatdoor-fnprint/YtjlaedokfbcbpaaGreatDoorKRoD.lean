import Derived.Test.YtjlaedokfbcbpaaGreatDoorKTreeZI
set_option maxHeartbeats 2000000
namespace Go.Proofs.YtjlaedokfbcbpaaGreatDoor
open Go.RowKit Proofs.Tryz
def Fp (d:Ae) (kd:List Int) (es ss bs:List (List Ab)):List Ab :=
 if d.kind=10 then E6 [108,101,116]::Kz d.text.data.toList::Bf [61]::(es.getD 0 []++[Bf [59]])
 else if d.kind=11 then Kz d.text.data.toList::Bf [61]::(es.getD 0 []++[Bf [59]])
 else if d.kind=12 then E6 [105,102]::(es.getD 0 []++(Bf [123]::(bs.getD 1 []++[Bf [125]])) ++
  (if kd.length < 3 then [] else if kd.getD 2 0=12 then E6 [101,108,115,101]::ss.getD 2 [] else E6 [101,108,115,101]::Bf [123]::(bs.getD 2 []++[Bf [125]])))
 else if d.kind=13 then E6 [119,104,105,108,101]::(es.getD 0 []++(Bf [123]::(bs.getD 1 []++[Bf [125]])))
 else if d.kind=14 then [E6 [98,114,101,97,107],Bf [59]]
 else if d.kind=15 then [E6 [99,111,110,116,105,110,117,101],Bf [59]]
 else if d.kind=16 then (if kd.length=0 then [E6 [114,101,116,117,114,110],Bf [59]] else E6 [114,101,116,117,114,110]::(es.getD 0 []++[Bf [59]]))
 else if d.kind=17 then E6 [102,97,105,108]::(es.getD 0 []++[Bf [59]])
 else if d.kind=18 then E6 [119,114,105,116,101]::(Cm es++[Bf [59]])
 else if d.kind=19 then E6 [115,97,121]::(es.getD 0 []++[Bf [59]])
 else es.getD 0 []++[Bf [59]]
mutual
def E5 : Aa->List Ab
 | .node d ks=>Fp d (ks.map (fun t=>t.nd.kind)) (Z1 ks) (Z2 ks) (Qdy ks)
def Gu : Aa->List Ab
 | .node _ ks=>(Z2 ks).flatten
def Z2 : List Aa->List (List Ab)
 | []=>[]
 | t::r=>E5 t::Z2 r
def Qdy : List Aa->List (List Ab)
 | []=>[]
 | t::r=>Gu t::Qdy r
end
theorem Fe.cast {α:Type} {f:Nat->Jz α} {a:α} {j k:Nat} (h:Fe f a j) (e:j=k):Fe f a k:=e ▸ h
theorem Qf : ∀ l:List Aa,Z2 l=l.map E5
 | []=>by rw[Z2];rfl
 | t::r=>by rw[Z2,Qf r];rfl
theorem Wv : ∀ l:List Aa,Qdy l=l.map Gu
 | []=>by rw[Qdy];rfl
 | t::r=>by rw[Qdy,Wv r];rfl
def Qpv (t:Aa):Prop := ∀ (ts:List (Ab × Nat)) (i:Nat),E4 ts i (E5 t)->Bq ts 2 [101,108,115,101] (i+(E5 t).length)=false->Fe (fun n=>Kc ts n i) t (i+(E5 t).length)
def Qpu (t:Aa):Prop := ∃ p r,E5 t=p::r/\(p.kind == 5 && p.text == [125])=false/\(p.kind == 2 && p.text == [101,108,115,101])=false
def Qqs (t:Aa):Prop := ∀ (ts:List (Ab × Nat)) (i:Nat),E4 ts i (Bf [123]::(Gu t++[Bf [125]]))->Fe (fun n=>Er ts n i) t.kids (i+(Gu t).length+2)
def Qpt (t:Aa):Prop := ∀ (ts:List (Ab × Nat)) (i:Nat),E4 ts i (E5 t)->Bq ts 2 [101,108,115,101] (i+(E5 t).length)=false->Fe (fun n=>L3 ts n (i+1)) t.kids (i+(E5 t).length)
theorem Yp {ts:List (Ab × Nat)}:∀ (us acc:List Aa) (i:Nat),(∀ u ∈ us,Qpv u/\Qpu u)->E4 ts i ((us.map E5).flatten++[Bf [125]])->Fe (fun n=>Fm ts n acc i) (acc++us) (i+(us.map E5).flatten.length+1)
 | [],acc,i,_,ha=>by
  refine Fe.now (fun n => ?_)
  rw[Fm,if_pos (Nw ha)]
  simp
 | u::us,acc,i,hu,ha=>by
  have e:((u::us).map E5).flatten++[Bf [125]]=E5 u++((us.map E5).flatten++[Bf [125]]):=by simp
  rw[e]at ha
  have b:=ha.right
  have j:=Yp us (acc++[u]) _ (fun t ht=>hu t (List.mem_cons_of_mem _ ht)) b
  obtain⟨g,p,r,d,f,a⟩:=hu u OF
  have c:Bq ts 2 [101,108,115,101] (i+(E5 u).length)=false:=by
   cases us with
   | nil=>rw[E4.st b];rfl
   | cons v us =>
    obtain⟨_,p,r,d,_,a⟩:=hu v OF;simp only[List.map_cons,List.flatten_cons,d,List.cons_append]at b;rw[b.st];exact a
  refine(g ts i ha.left c).two j (fun n hn hn2 => ?_);have h:Bq ts 5 [125] i=false:=by rw[d]at ha;rw[E4.st ha.left];exact f
  rw[Fm,h,if_neg OD,hn,A4,hn2];simp;omega
theorem Qf5 {k:Int} (h:Cv k=true):k=10\/k=11\/k=12\/k=13\/k=14\/k=15\/k=16\/k=17\/k=18\/k=19\/k=20:=by
 simp[Cv]at h;omega
theorem Jv {ts:List (Ab × Nat)} {t:Aa} (h:Q4 t) {i:Nat} {x:List UInt8} {X:List Ab} (ha:E4 ts i (Be t++Bf x::X)) (h1:x≠[40]) (h2:Lv G4 x=0):Fe (fun n=>Ds ts n 1 i) t (i+(Be t).length) :=
 (h ts i ha.left (Qu ha.right h1)).2 (by rw[Of ha.right];exact h2)
theorem C7 {ts:List (Ab × Nat)} {i:Nat} {x:List UInt8} {X:List Ab} (h:E4 ts i (E6 x::X)) (y:List UInt8) (hy:x≠y):¬ (Bq ts 2 y i=true):=by rw[h.st];simpa[E6]using hy
theorem Ii {ts:List (Ab × Nat)} {i:Nat} {x:List UInt8} {X:List Ab} (h:E4 ts i (Kz x::X)) (y:List UInt8):¬ (Bq ts 2 y i=true):=by rw[h.st];simp[Kz]
theorem DdRoDx74 {P:Prop} (h:P:=by
 obtain⟨c,f,g,i,j,k⟩:=Mx hg.2.2.1
 exact Jd hg.2.2.1 a (c (by rw[a];rfl)) (f (by rw[a];rfl)) (g OC OC) (i (by rw[a];rfl))
 ):P:=h
theorem Jc {b:Aa} (hg:E7 b) (a:b.nd.kind=21):Co 21 0 0 [] b.kids=b:=by
 obtain⟨d,us⟩:=b;rw[E7]at hg;have a:d.kind=21:=a;exact DdRoDx74
theorem Qdr {b:Aa} (hg:E7 b) (a:b.nd.kind=12):Co 12 0 0 [] b.kids=b:=by
 obtain⟨d,us⟩:=b;rw[E7]at hg;have a:d.kind=12:=a;exact DdRoDx74
theorem H2 {ts:List (Ab × Nat)} {i j:Nat} {t:Aa} (h:Fe (fun n=>Ei ts n i) t j) (h1:¬ (Bq ts 2 [105,102] i=true)) (h2:¬ (Bq ts 2 [119,104,105,108,101] i=true)) (h3:E4 ts j [Bf [59]]):Fe (fun n=>Kc ts n i) t (j+1):=by
 refine h.step (fun n hn => ?_);rw[Kc,if_neg h1,if_neg h2,hn,A4,I5 h3,A4]
theorem Qkv : ∀ (m:Nat) (t:Aa),SizeOf.sizeOf t < m->E7 t->(Cv t.nd.kind=true->Qpv t/\Qpu t)/\(t.nd.kind=21->Qqs t)/\(t.nd.kind=12->Qpt t)
 | 0,t,h,_=>OC
 | m+1,.node d us,hm,hg0=>by
  have hg:=hg0
  rw[E7]at hg
  obtain⟨hR,z,Y,K⟩:=hg
  rw[Fg]at K
  have P:=fun u (C:u ∈ us)=>Qkv m u (by have:=J4 (d:=d) C;omega) (K u C)
  have F:=fun u (C:u ∈ us) j=>(Yr m u (by have:=J4 (d:=d) C;omega) (K u C) j).1
  obtain⟨z1,z2,z3,O,z5,z6⟩:=Mx Y
  have o:E5 (.node d us)=Fp d (us.map (fun t=>t.nd.kind)) (us.map Be) (us.map E5) (us.map Gu):=by rw[E5,Nj,Qf,Wv]
  have ai:(Aa.node d us).nd.kind=d.kind:=rfl
  have ab:(Aa.node d us).kids=us:=rfl
  rw[ai]
  have hI:d.kind=12->Qpt (.node d us):=fun j=>by
   have l:Cd (us.map (fun t=>t.nd.kind))=true:=by rw[j]at z;simpa[Ac]using z
   intro ts i f A
   rw[ab]
   rcases us with _|⟨a,_|⟨b,_|⟨c,_|⟨x,y⟩⟩⟩⟩
   ·simp[Cd]at l
   ·simp[Cd]at l
   ·have h:Ah a.nd.kind=true/\b.nd.kind=21:=by simpa[Cd]using l
    have e:E5 (.node d [a,b])=E6 [105,102]::(Be a++(Bf [123]::(Gu b++[Bf [125]]))):=by rw[o,Fp,if_neg OC,if_neg OC,if_pos j];simp
    rw[e]at f A |-
    have v:=Jv (F a OF h.1) f.tail OD OD
    have H:=(P b OF).2.1 h.2 ts _ f.tail.right
    have Q:i+(E6 [105,102]::(Be a++(Bf [123]::(Gu b++[Bf [125]])))).length=i+1+(Be a).length+(Gu b).length+2:=by simp;omega
    rw[Q]at A |-
    refine v.two H (fun n B E => ?_)
    rw[L3,B,A4,E,A4,A,if_neg OD,Jc (K b OF) h.2]
   ·have h:(Ah a.nd.kind=true/\b.nd.kind=21)/\(c.nd.kind=21\/c.nd.kind=12):=by simpa[Cd]using l
    by_cases D:c.nd.kind=12
    ·have e:E5 (.node d [a,b,c])=E6 [105,102]::(Be a++(Bf [123]::(Gu b++Bf [125]::E6 [101,108,115,101]::E5 c))):=by rw[o,Fp,if_neg OC,if_neg OC,if_pos j];simp[D]
     obtain⟨ao,p,r,X,ak,ap⟩:=(P c OF).1 (by rw[D];rfl)
     have ah:=(P c OF).2.2 D
     have al:∃ r,E5 c=E6 [105,102]::r:=by
      obtain⟨G,I⟩:=c;have D:G.kind=12:=D;exact⟨_,by rw[E5,Fp,if_neg OC,if_neg OC,if_pos D]⟩
     obtain⟨rc,am⟩:=al;rw[e]at f A |-
     have v:=Jv (F a OF h.1.1) f.tail OD OD;have E:=f.tail.right;have e2:Bf [123]::(Gu b++Bf [125]::E6 [101,108,115,101]::E5 c)=(Bf [123]::(Gu b++[Bf [125]]))++(E6 [101,108,115,101]::E5 c):=OF;rw[e2]at E;have H:=(P b OF).2.1 h.1.2 ts _ E.left;have J:=E.right;have R:i+1+(Be a).length+(Bf [123]::(Gu b++[Bf [125]])).length=i+1+(Be a).length+(Gu b).length+2:=OH;rw[R]at J;have Q:i+(E6 [105,102]::(Be a++(Bf [123]::(Gu b++Bf [125]::E6 [101,108,115,101]::E5 c)))).length=i+1+(Be a).length+(Gu b).length+2+1+(E5 c).length:=OH;rw[Q]at A |-
     have V:=ah ts _ J.tail A;obtain⟨N1,v⟩:=v;obtain⟨N2,H⟩:=H;obtain⟨N3,V⟩:=V;refine⟨N1+N2+N3+1,fun n hn => ?_⟩;obtain⟨q,rfl⟩:∃ q,n=q+1:=⟨n - 1,by omega⟩;have T:Ds ts q 1 _=_:=v q OC;have U:Er ts q _=_:=H q OC;have W:L3 ts q _=_:=V q OC;show L3 ts (q+1) (i+1)=_
     have h4:=J.tail;rw[am]at h4;rw[L3,T,A4,U,A4,if_pos (I7 J),if_pos (I7 h4),W,A4,Jc (K b OF) h.1.2,Qdr (K c OF) D]
    ·have Z:c.nd.kind=21:=by rcases h.2 with h|h;exact h;exact absurd h D
     have e:E5 (.node d [a,b,c])=E6 [105,102]::(Be a++(Bf [123]::(Gu b++Bf [125]::E6 [101,108,115,101]::Bf [123]::(Gu c++[Bf [125]])))):=(by rw[o,Fp,if_neg OC,if_neg OC,if_pos j];simp[D]);rw[e]at f A |-
     have v:=Jv (F a OF h.1.1) f.tail OD OD;have E:=f.tail.right;have e2:Bf [123]::(Gu b++Bf [125]::E6 [101,108,115,101]::Bf [123]::(Gu c++[Bf [125]]))=(Bf [123]::(Gu b++[Bf [125]]))++(E6 [101,108,115,101]::Bf [123]::(Gu c++[Bf [125]])):=OF;rw[e2]at E;have H:=(P b OF).2.1 h.1.2 ts _ E.left;have J:=E.right;have R:i+1+(Be a).length+(Bf [123]::(Gu b++[Bf [125]])).length=i+1+(Be a).length+(Gu b).length+2:=OH;rw[R]at J;have Q:i+(E6 [105,102]::(Be a++(Bf [123]::(Gu b++Bf [125]::E6 [101,108,115,101]::Bf [123]::(Gu c++[Bf [125]]))))).length=i+1+(Be a).length+(Gu b).length+2+1+(Gu c).length+2:=OH;rw[Q];have V:=(P c OF).2.1 Z ts _ J.tail;obtain⟨N1,v⟩:=v;obtain⟨N2,H⟩:=H;obtain⟨N3,V⟩:=V;refine⟨N1+N2+N3+1,fun n hn => ?_⟩;obtain⟨q,rfl⟩:∃ q,n=q+1:=⟨n - 1,by omega⟩;have T:Ds ts q 1 _=_:=v q OC;have U:Er ts q _=_:=H q OC;have W:Er ts q _=_:=V q OC;show L3 ts (q+1) (i+1)=_
     rw[L3,T,A4,U,A4,if_pos (I7 J),if_neg (by rw[J.tail.st];decide),W,A4,Jc (K b OF) h.1.2,Jc (K c OF) Z]
   ·simp[Cd]at l
  refine⟨fun hS => ?_,fun j => ?_,hI⟩
  ·have M:D4 (us.map (fun t=>t.nd.kind))=true->∃ u,us=[u]/\Q4 u:=fun h=>by
    obtain⟨u,rfl,C⟩:=Ni h;exact⟨u,rfl,F u OF C⟩
   have s:∀ {x},d.text=Aj x->Hm d.kind=false->F4 d.kind=false->d.kind≠1->d.kind≠3->Co d.kind 0 0 x us = .node d us:=fun A B E J h4=>Jd Y rfl (z1 B) (z2 E) (z3 J h4) A
   rcases Qf5 hS with j|j|j|j|j|j|j|j|j|j|j
   ·obtain⟨u,rfl,B⟩:=M (by rw[j]at z;simpa[Ac]using z);have e:E5 (.node d [u])=E6 [108,101,116]::Kz d.text.data.toList::Bf [61]::(Be u++[Bf [59]]):=(by rw[o,Fp,if_pos j];rfl);refine⟨fun ts i f A => ?_,_,_,e,rfl,rfl⟩;rw[e]at f |-
    have v:=Jv B f.tail.tail.tail OD OD;have:=H2 (t:=.node d [u]) (v.step (g:=fun n=>Ei ts n i) (b:=.node d [u]) (k:=i+1+1+1+(Be u).length) (fun n hn=>by
     rw[Ei,if_pos (I7 f),Ib,if_pos (show Dm ts (i+1)=1 from f.tail.kd),A4,I5 f.tail.tail,A4,hn,A4,show B8 ts (i+1)=d.text.data.toList from f.tail.tx,<- j,s (Gt _).symm (by rw[j];rfl) (by rw[j];rfl) OC OC])) (C7 f _ OD) (C7 f _ OD) f.tail.tail.tail.right
    exact this.cast OH
   ·obtain⟨u,rfl,B⟩:=M (by rw[j]at z;simpa[Ac]using z);have e:E5 (.node d [u])=Kz d.text.data.toList::Bf [61]::(Be u++[Bf [59]]):=(by rw[o,Fp,if_neg OC,if_pos j];rfl);refine⟨fun ts i f A => ?_,_,_,e,rfl,rfl⟩;rw[e]at f |-
    have v:=Jv B f.tail.tail OD OD;have:=H2 (t:=.node d [u]) (v.step (g:=fun n=>Ei ts n i) (b:=.node d [u]) (k:=i+1+1+(Be u).length) (fun n hn=>by
     rw[Ei,if_neg (Ii f _),if_neg (Ii f _),if_neg (Ii f _),if_neg (Ii f _),if_neg (Ii f _),if_neg (Ii f _),if_neg (Ii f _),Ib,if_pos (show Dm ts i=1 from f.kd),A4,if_pos (Nw f.tail),hn,A4,show B8 ts i=d.text.data.toList from f.tx,<- j,s (Gt _).symm (by rw[j];rfl) (by rw[j];rfl) OC OC])) (Ii f _) (Ii f _) f.tail.tail.right
    exact this.cast OH
   ·have hi:=hI j;have e:∃ r,E5 (.node d us)=E6 [105,102]::r:=⟨_,by rw[o,Fp,if_neg OC,if_neg OC,if_pos j]⟩;obtain⟨r,e⟩:=e;refine⟨fun ts i f A => ?_,_,_,e,rfl,rfl⟩;refine(hi ts i f A).step (fun n hn => ?_);rw[e]at f;rw[Kc,if_pos (I7 f),hn,A4,Qdr hg0 j]
   ·have l:Ci (us.map (fun t=>t.nd.kind))=true:=(by rw[j]at z;simpa[Ac]using z);obtain⟨a,b,rfl,h⟩:∃ a b,us=[a,b]/\Ah a.nd.kind=true/\b.nd.kind=21:=by
     match us,l with
     | [a,b],h=>exact⟨a,b,rfl,by simpa[Ci]using h⟩
     | [],h=>simp[Ci]at h
     | [_],h=>simp[Ci]at h
     | _::_::_::_,h=>simp[Ci]at h
    have e:E5 (.node d [a,b])=E6 [119,104,105,108,101]::(Be a++(Bf [123]::(Gu b++[Bf [125]]))):=(by rw[o,Fp,if_neg OC,if_neg OC,if_neg OC,if_pos j];rfl);refine⟨fun ts i f A => ?_,_,_,e,rfl,rfl⟩;rw[e]at f |-
    have v:=Jv (F a OF h.1) f.tail OD OD;have H:=(P b OF).2.1 h.2 ts _ f.tail.right;have Q:i+(E6 [119,104,105,108,101]::(Be a++(Bf [123]::(Gu b++[Bf [125]])))).length=i+1+(Be a).length+(Gu b).length+2:=OH;rw[Q];refine v.two H (fun n B E => ?_);rw[Kc,if_neg (C7 f _ OD),if_pos (I7 f),B,A4,E,A4,Jc (K b OF) h.2,<- j,s (x:=[]) (O (by rw[j];rfl)) (by rw[j];rfl) (by rw[j];rfl) OC OC]
   ·have h0:us=[]:=(by rw[j]at z;simpa[Ac]using z);subst h0;have e:E5 (.node d [])=[E6 [98,114,101,97,107],Bf [59]]:=(by rw[o,Fp,if_neg OC,if_neg OC,if_neg OC,if_neg OC,if_pos j]);refine⟨fun ts i f A => ?_,_,_,e,rfl,rfl⟩;rw[e]at f |-
    exact H2 (Fe.now (fun n=>by rw[Ei,if_neg (C7 f _ OD),if_pos (I7 f),J9 Y j (z1 (by rw[j];rfl)) (z2 (by rw[j];rfl)) (z3 OC OC) (O (by rw[j];rfl))])) (C7 f _ OD) (C7 f _ OD) f.tail
   ·have h0:us=[]:=(by rw[j]at z;simpa[Ac]using z);subst h0;have e:E5 (.node d [])=[E6 [99,111,110,116,105,110,117,101],Bf [59]]:=(by rw[o,Fp,if_neg OC,if_neg OC,if_neg OC,if_neg OC,if_neg OC,if_pos j]);refine⟨fun ts i f A => ?_,_,_,e,rfl,rfl⟩;rw[e]at f |-
    exact H2 (Fe.now (fun n=>by rw[Ei,if_neg (C7 f _ OD),if_neg (C7 f _ OD),if_pos (I7 f),J9 Y j (z1 (by rw[j];rfl)) (z2 (by rw[j];rfl)) (z3 OC OC) (O (by rw[j];rfl))])) (C7 f _ OD) (C7 f _ OD) f.tail
   ·have l:us.length<=1/\us.all (fun t=>Ah t.nd.kind)=true:=(by rw[j]at z;simpa[Ac,Function.comp_def]using z);rcases us with _|⟨u,_|⟨x,y⟩⟩
    ·have e:E5 (.node d [])=[E6 [114,101,116,117,114,110],Bf [59]]:=(by rw[o,Fp,if_neg OC,if_neg OC,if_neg OC,if_neg OC,if_neg OC,if_neg OC,if_pos j];rfl);refine⟨fun ts i f A => ?_,_,_,e,rfl,rfl⟩;rw[e]at f |-
     exact H2 (Fe.now (fun n=>by rw[Ei,if_neg (C7 f _ OD),if_neg (C7 f _ OD),if_neg (C7 f _ OD),if_pos (I7 f),if_pos (Nw f.tail),J9 Y j (z1 (by rw[j];rfl)) (z2 (by rw[j];rfl)) (z3 OC OC) (O (by rw[j];rfl))])) (C7 f _ OD) (C7 f _ OD) f.tail
    ·have C:Ah u.nd.kind=true:=(by simpa using l.2);have B:=Yr m u (by have:=J4 (d:=d) (us:=[u]) (u:=u) OF;omega) (K u OF) C;obtain⟨B,p,r,X,ak⟩:=B;have e:E5 (.node d [u])=E6 [114,101,116,117,114,110]::(Be u++[Bf [59]]):=(by rw[o,Fp,if_neg OC,if_neg OC,if_neg OC,if_neg OC,if_neg OC,if_neg OC,if_pos j];rfl);refine⟨fun ts i f A => ?_,_,_,e,rfl,rfl⟩;rw[e]at f |-
     have v:=Jv B f.tail OD OD;have S:¬ (Bq ts 5 [59] (i+1)=true):=by
      intro D;obtain⟨N,v⟩:=v;have k1:Ds ts (N+3) 1 (i+1)=_:=v (N+3) OC;have L:Dm ts (i+1)=5/\B8 ts (i+1)=[59]:=(by simpa[Bq]using D);have an:Ol ts (i+1)=0:=(by rw[Ol,if_pos L.1,L.2];decide);have aj:Kd ts 5 [40] (i+1)=some (.error (i+1)):=(by rw[Kd,Bq,L.1,L.2];rfl);rw[Ds,Fx,an,if_neg OD,L.1,if_neg OD,if_neg OD,if_neg OD,if_neg OD,Nc,aj]at k1;simp[Dj]at k1
     have:=H2 (t:=.node d [u]) (v.step (g:=fun n=>Ei ts n i) (b:=.node d [u]) (k:=i+1+(Be u).length) (fun n hn=>by
      rw[Ei,if_neg (C7 f _ OD),if_neg (C7 f _ OD),if_neg (C7 f _ OD),if_pos (I7 f),if_neg S,hn,A4,<- j,s (x:=[]) (O (by rw[j];rfl)) (by rw[j];rfl) (by rw[j];rfl) OC OC])) (C7 f _ OD) (C7 f _ OD) f.tail.right
     exact this.cast OH
    ·simp at l
   ·obtain⟨u,rfl,B⟩:=M (by rw[j]at z;simpa[Ac]using z);have e:E5 (.node d [u])=E6 [102,97,105,108]::(Be u++[Bf [59]]):=(by rw[o,Fp,if_neg OC,if_neg OC,if_neg OC,if_neg OC,if_neg OC,if_neg OC,if_neg OC,if_pos j];rfl);refine⟨fun ts i f A => ?_,_,_,e,rfl,rfl⟩;rw[e]at f |-
    have v:=Jv B f.tail OD OD;have:=H2 (t:=.node d [u]) (v.step (g:=fun n=>Ei ts n i) (b:=.node d [u]) (k:=i+1+(Be u).length) (fun n hn=>by
     rw[Ei,if_neg (C7 f _ OD),if_neg (C7 f _ OD),if_neg (C7 f _ OD),if_neg (C7 f _ OD),if_pos (I7 f),hn,A4,<- j,s (x:=[]) (O (by rw[j];rfl)) (by rw[j];rfl) (by rw[j];rfl) OC OC])) (C7 f _ OD) (C7 f _ OD) f.tail.right
    exact this.cast OH
   ·have l:us.length=2/\us.all (fun t=>Ah t.nd.kind)=true:=(by rw[j]at z;simpa[Ac,Function.comp_def]using z);obtain⟨a,b,rfl⟩:∃ a b,us=[a,b]:=by
     match us,l.1 with
     | [a,b],_=>exact⟨a,b,rfl⟩
    have ae:=F a OF (by have:=l.2;simp at this;exact this.1);have af:=F b OF (by have:=l.2;simp at this;exact this.2);have e:E5 (.node d [a,b])=E6 [119,114,105,116,101]::(Be a++Bf [44]::(Be b++[Bf [59]])):=(by rw[o,Fp,if_neg OC,if_neg OC,if_neg OC,if_neg OC,if_neg OC,if_neg OC,if_neg OC,if_neg OC,if_pos j];simp[Cm]);refine⟨fun ts i f A => ?_,_,_,e,rfl,rfl⟩;rw[e]at f |-
    have v:=Jv ae f.tail OD OD;have H:=Jv af f.tail.right.tail OD OD;have:=H2 (t:=.node d [a,b]) (v.two H (g:=fun n=>Ei ts n i) (b:=.node d [a,b]) (k:=i+1+(Be a).length+1+(Be b).length) (fun n hn hn2=>by
     rw[Ei,if_neg (C7 f _ OD),if_neg (C7 f _ OD),if_neg (C7 f _ OD),if_neg (C7 f _ OD),if_neg (C7 f _ OD),if_pos (I7 f),hn,A4,I5 f.tail.right,A4,hn2,A4,<- j,s (x:=[]) (O (by rw[j];rfl)) (by rw[j];rfl) (by rw[j];rfl) OC OC])) (C7 f _ OD) (C7 f _ OD) f.tail.right.tail.right
    exact this.cast OH
   ·obtain⟨u,rfl,B⟩:=M (by rw[j]at z;simpa[Ac]using z);have e:E5 (.node d [u])=E6 [115,97,121]::(Be u++[Bf [59]]):=(by rw[o,Fp,if_neg OC,if_neg OC,if_neg OC,if_neg OC,if_neg OC,if_neg OC,if_neg OC,if_neg OC,if_neg OC,if_pos j];rfl);refine⟨fun ts i f A => ?_,_,_,e,rfl,rfl⟩;rw[e]at f |-
    have v:=Jv B f.tail OD OD;have:=H2 (t:=.node d [u]) (v.step (g:=fun n=>Ei ts n i) (b:=.node d [u]) (k:=i+1+(Be u).length) (fun n hn=>by
     rw[Ei,if_neg (C7 f _ OD),if_neg (C7 f _ OD),if_neg (C7 f _ OD),if_neg (C7 f _ OD),if_neg (C7 f _ OD),if_neg (C7 f _ OD),if_pos (I7 f),hn,A4,<- j,s (x:=[]) (O (by rw[j];rfl)) (by rw[j];rfl) (by rw[j];rfl) OC OC])) (C7 f _ OD) (C7 f _ OD) f.tail.right
    exact this.cast OH
   ·have l:Fu (us.map (fun t=>t.nd.kind))=true:=(by rw[j]at z;simpa[Ac]using z);obtain⟨c,rfl,D⟩:∃ c,us=[c]/\c.nd.kind=7:=by
     rcases us with _|⟨c,_|⟨x,y⟩⟩
     ·simp[Fu]at l
     ·exact⟨c,rfl,by simpa[Fu]using l⟩
     ·simp[Fu]at l
    obtain⟨G,I⟩:=c;have D:G.kind=7:=D;have aa:=K (.node G I) OF;rw[E7,Fg]at aa;obtain⟨cR,cF,cD,cG⟩:=aa;obtain⟨y1,y2,y3,y4,y5,y6⟩:=Mx cD;have ac:I.all (fun t=>Ah t.nd.kind)=true:=(by rw[D]at cF;have:=cF;simp[Ac,Function.comp_def]at this;simpa using this.2);have C:=fun u (C:u ∈ I)=>Yr m u (by have:=J4 (d:=G) C;have:=J4 (d:=d) (us:=[.node G I]) (u:=.node G I) OF;omega) (cG u C) (List.all_eq_true.1 ac u C)
    have ec:Be (.node G I)=Hj (Kz G.text.data.toList) (I.map Be):=(by rw[Be,Nj,Ig,if_neg OC,if_neg OC,if_neg OC,if_neg OC,if_neg OC,if_neg OC,if_pos D]);have e:E5 (.node d [.node G I])=Kz G.text.data.toList::((Bf [40]::(Cm (I.map Be)++[Bf [41]]))++[Bf [59]]):=(by rw[o,Fp,if_neg OC,if_neg OC,if_neg OC,if_neg OC,if_neg OC,if_neg OC,if_neg OC,if_neg OC,if_neg OC,if_neg OC];simp[ec,Hj]);refine⟨fun ts i f A => ?_,_,_,e,rfl,rfl⟩;rw[e]at f |-
    have ag:=Qdp (fun t ht=>(C t ht).1) f.tail.left (fun t ht p r X=>by obtain⟨p',r',B,E⟩:=(C t ht).2;rw[B]at X;injection X with X _;subst X;exact E) (fun t ht h=>by obtain⟨p',r',B,_⟩:=(C t ht).2;rw[B]at h;cases h);have:=H2 (t:=.node d [.node G I]) (ag.step (g:=fun n=>Ei ts n i) (b:=.node d [.node G I]) (k:=i+1+(Bf [40]::(Cm (I.map Be)++[Bf [41]])).length) (fun n hn=>by
     rw[Ei,if_neg (Ii f _),if_neg (Ii f _),if_neg (Ii f _),if_neg (Ii f _),if_neg (Ii f _),if_neg (Ii f _),if_neg (Ii f _),Ib,if_pos (show Dm ts i=1 from f.kd),A4,if_neg (by rw[E4.st f.tail.left];decide),hn,A4,show B8 ts i=G.text.data.toList from f.tx,Jd cD D (y1 (by rw[D];rfl)) (y2 (by rw[D];rfl)) (y3 OC OC) (Gt _).symm,<- j,s (x:=[]) (O (by rw[j];rfl)) (by rw[j];rfl) (by rw[j];rfl) OC OC])) (Ii f _) (Ii f _) f.tail.right
    exact this.cast OH
  ·intro ts i f;have l:us.all (fun t=>Cv t.nd.kind)=true:=(by rw[j]at z;simpa[Ac,Function.comp_def]using z);have ad:Gu (.node d us)=(us.map E5).flatten:=(by rw[Gu,Qf]);rw[ad]at f |-
   refine(Yp us [] (i+1) (fun u C=>(P u C).1 (List.all_eq_true.1 l u C)) f.tail).step (fun n hn => ?_);rw[Er,I5 f,A4,hn,ab];simp;omega
def Jy (t:Aa):List Ab:=[Kz t.nd.text.data.toList,E6 (Ag t.nd.type).data.toList]
def Qe : Aa->List Ab
 | .node d ks=>E6 [102,110]::Kz d.text.data.toList::Bf [40]::(Cm (ks.dropLast.map Jy)++Bf [41]::((if d.type=0 then [] else [Bf [45,62],E6 (Ag d.type).data.toList])++Bf [123]::(Gu (ks.getLast?.getD Uw)++[Bf [125]])))
theorem Uo {ts:List (Ab × Nat)} {i:Nat} {t:Int} {X:List Ab} (h:E4 ts i (E6 (Ag t).data.toList::X)) (h1:1<=t) (h2:t<=10):∃ k:Nat,(k:Int)=t/\Oa ts i=some (.ok (k,i+1)):=by
 obtain⟨o,b⟩:=Jw (n:=10) h1 OC;have a:=(Qd0 o).1;rw[<- b]at a;have c:Da ts i=o.val+1:=by rw[Da,if_pos (show Dm ts i=2 from h.kd),h.tx];exact a
 exact⟨o.val+1,b.symm,by rw[Oa,c,if_neg OC]⟩
theorem Uq {t:Aa} (hg:E7 t) (hk:t.nd.kind=22):(1<=t.nd.type/\t.nd.type<=10)/\Lk 22 0 t.nd.type 0 t.nd.text.data.toList=t:=by
 obtain⟨d,us⟩:=t;replace hk:d.kind=22:=hk;rw[E7]at hg;obtain⟨c,b,a,-⟩:=hg;have f:us=[]:=by rw[hk]at b;simpa[Ac]using b
 subst f;obtain⟨g,i,h,j,k,l⟩:=Mx a;refine⟨?_,J9 a hk (g (by rw[hk];rfl)) rfl (h OC OC) (Gt _).symm⟩;rw[Au,hk]at c;have:=c;simp at this;exact this.2
theorem Qaz {ts:List (Ab × Nat)}:∀ (us:List Aa) (u:Aa) (acc:List Aa) (i:Nat),(∀ t ∈ u::us,E7 t/\t.nd.kind=22)->E4 ts i (Cm ((u::us).map Jy)++[Bf [41]])->Fe (fun n=>G2 ts n acc i) (acc++u::us) (i+(Cm ((u::us).map Jy)).length+1)
 | [],u,acc,i,hu,ha=>by
  obtain⟨d,f⟩:=hu u OF
  obtain⟨c,g⟩:=Uq d f
  have e:Cm ([u].map Jy)++[Bf [41]]=Kz u.nd.text.data.toList::E6 (Ag u.nd.type).data.toList::[Bf [41]]:=by simp[Cm,Jy]
  rw[e]at ha
  obtain⟨k,a,b⟩:=Uo ha.tail c.1 c.2
  refine Fe.now (fun n => ?_)
  rw[G2,Ib,if_pos (show Dm ts i=1 from ha.kd),A4,b,A4,if_pos (Nw ha.tail.tail),a,show B8 ts i=u.nd.text.data.toList from ha.tx,g]
  simp[Cm,Jy]
 | v::us,u,acc,i,hu,ha=>by
  obtain⟨d,f⟩:=hu u OF
  obtain⟨c,g⟩:=Uq d f
  have e:Cm ((u::v::us).map Jy)++[Bf [41]]=Kz u.nd.text.data.toList::E6 (Ag u.nd.type).data.toList::Bf [44]::(Cm ((v::us).map Jy)++[Bf [41]]):=by simp[Cm,Jy]
  rw[e]at ha
  obtain⟨k,a,b⟩:=Uo ha.tail c.1 c.2
  refine(Qaz us v (acc++[u]) _ (fun t h=>hu t (List.mem_cons_of_mem _ h)) ha.tail.tail.tail).step (fun n h => ?_)
  rw[G2,Ib,if_pos (show Dm ts i=1 from ha.kd),A4,b,A4,if_neg (by rw[ha.tail.tail.st];decide),I5 ha.tail.tail,A4,a,show B8 ts i=u.nd.text.data.toList from ha.tx,g,h]
  simp[Cm,Jy];omega
theorem Qpw {t:Aa} (hg:E7 t) (hk:t.nd.kind=23) {ts:List (Ab × Nat)} {i:Nat} (ha:E4 ts i (Qe t)):Fe (fun n=>Nf ts n i) t (i+(Qe t).length):=by
 obtain⟨d,ks⟩:=t;replace hk:d.kind=23:=hk;rw[E7,Fg]at hg;obtain⟨I,G,x,H⟩:=hg;obtain⟨J,N,K,O,P,Q⟩:=Mx x;have f:Ea (ks.map (fun t=>t.nd.kind))=true:=by rw[hk]at G;simpa[Ac]using G
 obtain⟨c,b,rfl⟩:∃ c b,ks=c++[b]:=by
  rcases List.eq_nil_or_concat ks with rfl|⟨c,b,h⟩
  ·simp[Ea]at f
  ·exact⟨c,b,by simpa using h⟩
 have u:b.nd.kind=21/\∀ p ∈ c,p.nd.kind=22:=by
  simp[Ea]at f;exact⟨f.1.1,f.2⟩
 have e:Qe (.node d (c++[b]))=E6 [102,110]::Kz d.text.data.toList::Bf [40]::(Cm (c.map Jy)++Bf [41]::((if d.type=0 then [] else [Bf [45,62],E6 (Ag d.type).data.toList])++Bf [123]::(Gu b++[Bf [125]]))):=by rw[Qe];simp
 rw[e]at ha |-
 have j:=H b OF;have F:=(Qkv (SizeOf.sizeOf b+1) b OC j).2.1 u.1;have B:d.type=0\/(1<=d.type/\d.type<=10):=by
  rw[Au,hk]at I;have:=I;simp at this;omega
 have m:=ha.tail.tail.tail
 have s:Fe (fun n=>if Bq ts 5 [41] (i+1+1+1) then some (.ok ([],i+1+1+1+1)) else G2 ts n [] (i+1+1+1)) c (i+1+1+1+(Cm (c.map Jy)).length+1):=by
  cases c with
  | nil=>exact⟨0,fun n _=>by simp only[List.map_nil,Cm,List.nil_append]at m;simp only[Nw m,if_true];rfl⟩
  | cons p r =>
   have M:Bq ts 5 [41] (i+1+1+1)=false:=by
    have:=m;simp only[List.map_cons,Cm,Jy,List.cons_append]at this;rw[this.st];rfl
   simp only[M,Bool.false_eq_true,if_false];have L:∀ Z:List Ab,Cm ((p::r).map Jy)++Bf [41]::Z=(Cm ((p::r).map Jy)++[Bf [41]])++Z:=OF;rw[L]at m;have:=Qaz r p [] _ (fun t o=>⟨H t (by simp at o |-;rcases o with h|h;exact .inl h;exact .inr (.inl h)),u.2 t o⟩) m.left;rw[List.nil_append]at this;exact this
 have g:=m.right.tail;obtain⟨D,s⟩:=s;rcases B with E|o
 ·rw[if_pos E,List.nil_append]at g |-
  obtain⟨v,C⟩:=F ts _ g;refine⟨D+v+1,fun n hn => ?_⟩;obtain⟨q,rfl⟩:∃ q,n=q+1:=⟨n - 1,by omega⟩;have a:=s q OC;simp only at a;have l:Er ts q _=_:=C q OC;have A:¬ (Bq ts 5 [45,62] (i+1+1+1+(Cm (c.map Jy)).length+1)=true):=by rw[g.st];decide
  show Nf ts (q+1) i=_
  rw[Nf,Kd,if_pos (I7 ha),A4,Ib,if_pos (show Dm ts (i+1)=1 from ha.tail.kd),A4,I5 ha.tail.tail,A4,a,A4,if_neg A,A4,l,A4,Jc j u.1,show B8 ts (i+1)=d.text.data.toList from ha.tail.tx];rw[show ((0:Nat):Int)=0 from rfl,Jd x hk (J (by rw[hk];rfl)) E (K OC OC) (Gt _).symm];simp;omega
 ·rw[if_neg OC]at g |-
  obtain⟨k,y,z⟩:=Uo g.tail o.1 o.2;obtain⟨v,C⟩:=F ts _ g.tail.tail;refine⟨D+v+1,fun n hn => ?_⟩;obtain⟨q,rfl⟩:∃ q,n=q+1:=⟨n - 1,by omega⟩;have a:=s q OC;simp only at a;have l:Er ts q _=_:=C q OC;show Nf ts (q+1) i=_
  rw[Nf,Kd,if_pos (I7 ha),A4,Ib,if_pos (show Dm ts (i+1)=1 from ha.tail.kd),A4,I5 ha.tail.tail,A4,a,A4,if_pos (Nw g),z,A4,l,A4,Jc j u.1,show B8 ts (i+1)=d.text.data.toList from ha.tail.tx];rw[Jd x hk (J (by rw[hk];rfl)) y.symm (K OC OC) (Gt _).symm];simp;omega
theorem Qdt {ts:List (Ab × Nat)}:∀ (us acc:List Aa) (i:Nat),(∀ u ∈ us,E7 u/\u.nd.kind=23)->(ts.map Prod.fst).drop i=(us.map Qe).flatten->i<=ts.length->Fe (fun n=>Ic ts n acc i) (acc++us) ts.length
 | [],acc,i,_,ha,hi=>by
  have b:ts.length<=i:=by simpa using ha
  refine Fe.now (fun n => ?_)
  rw[Ic,if_neg OC]
  simp;omega
 | u::us,acc,i,hu,ha,hi=>by
  have c:E4 ts i (Qe u):=⟨_,by rw[ha];rfl⟩
  have f:(ts.map Prod.fst).drop (i+(Qe u).length)=(us.map Qe).flatten:=by rw[<- List.drop_drop,ha];simp
  have b:i+(Qe u).length<=ts.length:=by
   have:=congrArg List.length ha;simp at this;have h:i < ts.length\/ts.length=i:=OC;omega
  have g:=Qdt us (acc++[u]) _ (fun t ht=>hu t (List.mem_cons_of_mem _ ht)) f b;refine(Qpw (hu u OF).1 (hu u OF).2 c).two g (fun n hn hn2 => ?_);have a:i < ts.length:=by
   have:1<=(Qe u).length:=(by obtain⟨d,ks⟩:=u;rw[Qe];simp);omega
  rw[Ic,if_pos a,hn,A4,hn2];simp
inductive Vy : List UInt8->List Ab->Prop
 | nil:Vy [] []
 | gap (b:UInt8) (r:List UInt8) (X:List Ab) (h:b=32\/b=10) (hs:Vy r X):Vy (b::r) X
 | tok (b:UInt8) (r:List UInt8) (p:Ab) (X:List Ab) (h1:¬ (b=32\/b=10)) (h2:b≠35) (hp:Bb (b::r)=p) (h0:p.code=0) (hz:0 < p.size) (hs:Vy ((b::r).drop p.size) X):Vy (b::r) (p::X)
theorem Vy.is {l:List UInt8} {X:List Ab} (h:Vy l X):∀ (f i:Nat) (acc:List (Ab × Nat)),l.length < f->∃ ts,ts.map Prod.fst=X/\Ew f l i acc=(acc++ts,0,0):=by
 induction h with
 | nil =>
  intro f i acc a;match f,a with
  | f+1,_=>exact⟨[],rfl,by rw[Ew,List.append_nil]⟩
 | gap b r X h hs ih =>
  intro f i acc a;match f,a with
  | f+1,a=>rw[Ew,if_pos h];exact ih f _ acc (by simpa using a)
 | tok b r p X h1 h2 hp h0 hz hs ih =>
  intro f i acc a;match f,a with
  | f+1,a =>
   rw[Ew,if_neg h1,if_neg h2,hp,if_neg (by simp[h0])];obtain⟨ts,c,d⟩:=ih f (i+p.size) (acc++[(p,i)]) (by rw[List.length_drop];simp only[List.length_cons]at a |-;omega);exact⟨(p,i)::ts,by rw[List.map_cons,c],by rw[d];simp⟩
def A7 (x:List UInt8) (X:List Ab) (ok:List UInt8->Prop):Prop := ∀ r R,ok r->Vy r R->Vy (x++r) (X++R)
def Kx (_:List UInt8):Prop:=True
def Je (r:List UInt8):Prop := ∀ c q,r=c::q->B5 c=false
theorem A7.app {x y:List UInt8} {X Y:List Ab} {p q:List UInt8->Prop} (h1:A7 x X p) (h2:A7 y Y q) (h:∀ r,q r->p (y++r)):A7 (x++y) (X++Y) q:=fun r R hr hR=>by
 rw[List.append_assoc,List.append_assoc]
 exact h1 _ _ (h r hr) (h2 r R hr hR)
theorem A7.mono {x:List UInt8} {X:List Ab} {p q:List UInt8->Prop} (h1:A7 x X p) (h:∀ r,q r->p r):A7 x X q:=fun r R hr hR=>h1 r R (h r hr) hR
theorem A7.gaps : ∀ (g:List UInt8),(∀ b ∈ g,b=32\/b=10)->A7 g [] Kx
 | [],_=>fun r R _ h=>h
 | b::g,hb=>fun r R _ h => .gap b _ _ (hb b OF) (A7.gaps g (fun c hc=>hb c (by simp[hc])) r R trivial h)
theorem A7.one {b:UInt8} {t:List UInt8} {p:Ab} {ok:List UInt8->Prop} (h1:¬ (b=32\/b=10)) (h2:b≠35) (hp:∀ r,ok r->Bb (b::(t++r))=p) (h0:p.code=0) (hz:p.size=t.length+1):A7 (b::t) [p] ok:=fun r R hr hR=>by
 refine .tok b _ p R h1 h2 (hp r hr) h0 OC ?_
 rw[hz]
 show Vy (((b::t)++r).drop (b::t).length) R
 rw[List.drop_left]
 exact hR
theorem Z3 {w r:List UInt8} (hw:∀ c ∈ w,B5 c=true) (hr:Je r):A5 (w++r)=w:=by
 unfold A5;rw[List.takeWhile_append_of_pos hw];have:r.takeWhile B5=[]:=by
  cases r with
  | nil=>rfl
  | cons c q=>simp[hr c q rfl]
 rw[this,List.append_nil]
theorem O8 {b:UInt8} (h:Bp (b.toNat:Int)=true):¬ (b=32\/b=10)/\b≠35/\b≠61/\b≠62/\B5 b=true:=by
 refine⟨?_, ?_, ?_, ?_,by simp[B5,Dc,h]⟩
 ·rintro(rfl|rfl) <;> revert h <;> decide
 all_goals rintro rfl;revert h;decide
theorem Qkr {b:UInt8} (h:B4 (b.toNat:Int)=true):¬ (b=32\/b=10)/\b≠35/\b≠61/\b≠62/\B5 b=true/\Bp (b.toNat:Int)=false:=by
 refine⟨?_, ?_, ?_, ?_,by simp[B5,Dc,h], ?_⟩
 ·rintro(rfl|rfl) <;> revert h <;> decide
 iterate 3 (· rintro rfl;revert h;decide)
 ·simp[B4]at h;simp[Bp];omega
theorem A7.word {b:UInt8} {t:List UInt8} (hb:Bp (b.toNat:Int)=true) (ht:∀ c ∈ b::t,B5 c=true) (hk:Dk (Aj (b::t))=true):A7 (b::t) [E6 (b::t)] Je:=by
 obtain⟨a,d,_⟩:=O8 hb;refine A7.one a d (fun r hr => ?_) rfl (by simp[E6]);simp only[Bb,if_pos hb];rw[show b::(t++r)=(b::t)++r from rfl,Z3 ht hr,F1,if_pos hk];rfl
theorem A7.name {b:UInt8} {t:List UInt8} (hb:Bp (b.toNat:Int)=true) (ht:∀ c ∈ b::t,B5 c=true) (hk:Dk (Aj (b::t))=false) (hl:(b::t).length<=30):A7 (b::t) [Kz (b::t)] Je:=by
 obtain⟨a,d,_⟩:=O8 hb;refine A7.one a d (fun r hr => ?_) rfl (by simp[Kz]);simp only[Bb,if_pos hb];rw[show b::(t++r)=(b::t)++r from rfl,Z3 ht hr,F1,if_neg (by rw[hk];decide),if_neg OC];rfl
theorem A7.nm {s:ByteArray} (h:A0 s=true):A7 s.data.toList [Kz s.data.toList] Je/\∃ c q,s.data.toList=c::q/\c≠61/\c≠62:=by
 simp only[A0,Bool.and_eq_true,decide_eq_true_eq,Bool.not_eq_true',List.all_eq_true]at h;obtain⟨⟨⟨⟨k,l⟩,a⟩,f⟩,d⟩:=h;have g:s.data.toList.length=s.size:=by simp
 cases hl:s.data.toList with
 | nil=>rw[hl]at a;cases a
 | cons b t =>
  rw[hl]at a d g;obtain⟨_,_,i,j,_⟩:=O8 a;refine⟨A7.name a d (by rw[<- hl,Gt];exact f) OC,b,t,rfl,i,j⟩
theorem Up {b:UInt8} {r:List UInt8} {m:List UInt8} (h1:Bp (b.toNat:Int)=false) (h2:B4 (b.toNat:Int)=false) (h3:b≠34) (h:Dt.find? (Cy (b::r))=some m):Bb (b::r)=Bf m:=by
 simp only[Bb,h1,h2,Bool.false_eq_true,if_false,if_neg h3,Fl,h];rfl
theorem A7.br {b:UInt8} (hb:b ∈ ([40,41,123,125,44,59]:List UInt8)):A7 [b] [Bf [b]] Kx:=by
 have:Bp (b.toNat:Int)=false/\B4 (b.toNat:Int)=false/\b≠34/\¬ (b=32\/b=10)/\b≠35:=by
  simp at hb;rcases hb with rfl|rfl|rfl|rfl|rfl|rfl <;> decide
 obtain⟨a,c,d,f,g⟩:=this;refine A7.one f g (fun r _=>Up a c d ?_) rfl rfl;simp at hb;rcases hb with rfl|rfl|rfl|rfl|rfl|rfl <;> simp[Dt,Cy,List.find?]
def Qq0 (r:List UInt8):Prop := ∀ c q,r=c::q->c≠61/\c≠62
theorem A7.unm {b:UInt8} (hb:b ∈ ([45,33,126]:List UInt8)):A7 [b] [Bf [b]] Qq0:=by
 have:Bp (b.toNat:Int)=false/\B4 (b.toNat:Int)=false/\b≠34/\¬ (b=32\/b=10)/\b≠35:=by
  simp at hb;rcases hb with rfl|rfl|rfl <;> decide
 obtain⟨a,d,f,g,h⟩:=this;refine A7.one g h (fun r hr=>Up a d f ?_) rfl rfl;cases r with
 | nil=>simp at hb;rcases hb with rfl|rfl|rfl <;> simp[Dt,Cy,List.find?]
 | cons c q =>
  obtain⟨i,j⟩:=hr c q rfl;simp at hb;have k:(c == 61)=false:=by simpa using i
  have l:(c == 62)=false:=by simpa using j
  rcases hb with rfl|rfl|rfl <;> simp[Dt,Cy,List.find?,k,l]
def Qqz (r:List UInt8):Prop := ∃ q,r=32::q
theorem Qkt : ∀ m ∈ Dt,∃ b t,m=b::t/\Bp (b.toNat:Int)=false/\B4 (b.toNat:Int)=false/\b≠34/\¬ (b=32\/b=10)/\b≠35:=by
 intro m g;have h:∀ m ∈ Dt,(match m with|[]=>false|b::_ => !(Bp (b.toNat:Int)) && !(B4 (b.toNat:Int)) && b != 34 && b != 32 && b != 10 && b != 35)=true:=by decide
 have:=h m g;cases m with
 | nil=>cases this
 | cons b t=>refine⟨b,t,rfl, ?_⟩;simp at this;obtain⟨⟨⟨⟨⟨a,b⟩,c⟩,d⟩,e⟩,f⟩:=this;exact⟨a,b,c,by rintro(h|h);exact d h;exact e h,f⟩
theorem Qku : ∀ m ∈ Dt,Dt.find? (Cy (m++[32]))=some m:=by decide
theorem Qib : ∀ m ∈ Dt,1<=m.length/\m.length<=2:=by decide
theorem A7.mark {m:List UInt8} (hm:m ∈ Dt):A7 m [Bf m] Qqz:=by
 obtain⟨b,t,rfl,d,f,g,h,i⟩:=Qkt m hm;refine A7.one h i (fun r hr=>Up d f g ?_) rfl (by simp[Bf]);obtain⟨q,rfl⟩:=hr;rw[<- Qku _ hm];have e:b::(t++32::q)=(b::t++[32])++q:=by simp
 rw[e];have n:∀ L:List (List UInt8),(∀ x ∈ L,x.length<=2)->L.find? (Cy ((b::t++[32])++q))=L.find? (Cy (b::t++[32])):=by
  intro L;induction L with
  | nil=>intro _;rfl
  | cons x L ih =>
   intro a;have c:x.length<=(b::t++[32]).length:=(by have:=a x OF;simp;omega);have j:Cy ((b::t++[32])++q) x=Cy (b::t++[32]) x:=by
    unfold Cy;rw[List.take_append_of_le_length c];have k:decide (x.length<=((b::t++[32])++q).length)=true:=by simp at c |-;omega
    have l:decide (x.length<=(b::t++[32]).length)=true:=decide_eq_true c;rw[k,l]
   rw[List.find?_cons,List.find?_cons,j,ih (fun y hy=>a y (by simp[hy]))]
 exact n _ (fun x a=>(Qib x a).2)
end Go.Proofs.YtjlaedokfbcbpaaGreatDoor
