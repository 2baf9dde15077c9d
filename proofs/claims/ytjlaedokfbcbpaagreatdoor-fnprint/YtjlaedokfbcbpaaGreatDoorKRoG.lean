import Derived.Test.YtjlaedokfbcbpaaGreatDoorKRoD
import Derived.Laws.Bits64
namespace Go.Proofs.YtjlaedokfbcbpaaGreatDoor
open Go.RowKit Proofs.Tryz
theorem S0 (u:Nat):∀ c ∈ Lib.decDigits u,Cr c=true:=by
 induction u using Nat.strongRecOn with
 | ind u ih =>
  rw[Lib.decDigits];have b:∀ k,k < 10->Cr (UInt8.ofNat (48+k))=true:=fun k hk=>by
   have h:∀ k:Fin 10,Cr (UInt8.ofNat (48+k.val))=true:=OD;exact h ⟨k,hk⟩
  split
  ·rename_i h;intro c a;rw[List.mem_singleton.1 a];exact b u h
  ·rename_i h
   intro c a;rcases List.mem_append.1 a with a|a
   ·exact ih (u / 10) OC c a
   ·rw[List.mem_singleton.1 a];exact b _ OC
theorem Qay (u:Nat):∃ b t,Lib.decDigits u=b::t/\(t≠[]->b≠48):=by
 induction u using Nat.strongRecOn with
 | ind u ih =>
  rw[Lib.decDigits];split
  ·exact⟨_,[],rfl,fun h=>absurd rfl h⟩
  ·rename_i h
   obtain⟨b,t,e,f⟩:=ih (u / 10) OC;refine⟨b,t++[UInt8.ofNat (48+u % 10)],by rw[e];rfl,fun _ => ?_⟩;by_cases ht:t=[]
   ·subst ht;have c:u / 10 < 10:=by
     by_cases h2:u / 10 < 10
     ·exact h2
     ·exfalso;rw[Lib.decDigits,dif_neg h2]at e;have:=congrArg List.length e;have d:=Lib.decDigits_length (u / 10 / 10);have g:=Lib.nDigits_pos (u / 10 / 10);simp at this;rw[this]at d;simp at d;omega
    rw[Lib.decDigits,dif_pos c]at e;injection e with e _;rw[<- e];intro a;have h:∀ k:Fin 10,k.val≠0->UInt8.ofNat (48+k.val)≠48:=OD;exact h ⟨u / 10,c⟩ (by show u / 10≠0;omega) a
   ·exact f ht
theorem Qmi (M:Int):∀ (u:Nat) (r:List UInt8),(u:Int)<=M->Gl M (Lib.decDigits u++r) 0=Gl M r u:=by
 intro u;induction u using Nat.strongRecOn with
 | ind u ih =>
  intro r b;have a:∀ k,k < 10->((UInt8.ofNat (48+k)).toNat:Int) - 48=k:=fun k hk=>by
   have h:∀ k:Fin 10,((UInt8.ofNat (48+k.val)).toNat:Int) - 48=k.val:=OD;exact h ⟨k,hk⟩
  rw[Lib.decDigits];split
  ·rename_i h
   rw[List.singleton_append,Gl,a u h,if_neg OC];simp
  ·rename_i h
   rw[List.append_assoc,ih (u / 10) OC _ OC,List.singleton_append,Gl,a _ OC,if_neg OC];congr 1;omega
theorem Qmh (d n:Nat) (h:n < 10 ^ (d+1)):(Lib.decDigits n).length<=d+1:=by
 induction d generalizing n with
 | zero=>rw[Lib.decDigits,dif_pos (by simpa using h)];simp
 | succ d ih =>
  rw[Lib.decDigits];split
  ·simp
  ·have:=ih (n / 10) (by rw[Nat.pow_succ]at h;omega);simp;omega
theorem Qdz : ∀ k:Fin 8,k.val+3≠10->Dp (Ag ((k.val+3:Nat):Int))=((k.val+3:Nat):Int)/\(∃ b t,(Ag ((k.val+3:Nat):Int)).data.toList=b::t/\Cr b=false)/\∀ c ∈ (Ag ((k.val+3:Nat):Int)).data.toList,B5 c=true:=by
 intro k d;have f:∀ k:Fin 8,k.val+3≠10->Dp (Aj (Ag ((k.val+3:Nat):Int)).data.toList)=((k.val+3:Nat):Int):=by simp only[Mo];decide
 have g:∀ k:Fin 8,k.val+3≠10->((Ag ((k.val+3:Nat):Int)).data.toList.all B5)=true/\(match (Ag ((k.val+3:Nat):Int)).data.toList with|[]=>true|b::_=>Cr b)=false:=by decide
 have a:=f k d;rw[Gt]at a;obtain⟨b,c⟩:=g k d;refine⟨a, ?_,List.all_eq_true.1 b⟩;cases h:(Ag ((k.val+3:Nat):Int)).data.toList with
 | nil=>rw[h]at c;cases c
 | cons x y=>rw[h]at c;exact⟨x,y,rfl,c⟩
theorem Qod {l r:List UInt8} (hl:∀ c ∈ l,Cr c=true) (hr:∀ b t,r=b::t->Cr b=false):Ar (l++r)=l.length:=by
 unfold Ar;rw[List.takeWhile_append_of_pos hl];have:r.takeWhile Cr=[]:=by
  cases r with
  | nil=>rfl
  | cons c q=>simp[hr c q rfl]
 rw[this,List.append_nil]
def Hh (t:Int):List UInt8:=if t=10 then [] else (Ag t).data.toList
theorem Qks (u:Nat) (t:Int) (h1:3<=t) (h2:t<=10) (hu:(u:Int)<=Ce t) (hu2:u < 18446744073709551616):Mj (Aj (Lib.decDigits u++Hh t))=some (t,(u:Int)):=by
 have g:(∀ b q,Hh t=b::q->Cr b=false)/\(Hh t=[]->t=10)/\(Hh t≠[]->Dp (Aj (Hh t))=t):=by
  unfold Hh;by_cases h:t=10
  ·rw[if_pos h];exact⟨fun b q h=>(by cases h),fun _=>h,fun h=>absurd rfl h⟩
  ·rw[if_neg h];obtain⟨k,rfl⟩:∃ k:Fin 8,t=((k.val+3:Nat):Int):=⟨⟨(t - 3).toNat,by omega⟩,by simp;omega⟩;obtain⟨a,⟨b,q,f,i⟩,c⟩:=Qdz k OC;refine⟨fun b' q' h' => ?_,fun h'=>(by rw[h']at f;cases f),fun _=>(by rw[Gt];exact a)⟩;rw[f]at h';injection h' with h' _;rw[<- h'];exact i
 have m:Ar (Aj (Lib.decDigits u++Hh t)).data.toList=(Lib.decDigits u).length:=by
  simp only[Aj];rw[Qod (S0 u) g.1]
 have l:(Aj (Lib.decDigits u++Hh t)).size=(Lib.decDigits u).length+(Hh t).length:=by simp[Aj,ByteArray.size]
 have j:G8 (Aj (Lib.decDigits u++Hh t)) (Lib.decDigits u).length=t:=by
  rw[G8,l];by_cases he:Hh t=[]
  ·rw[if_neg (by rw[he];simp)];exact(g.2.1 he).symm
  ·rw[if_pos (by have:=List.length_pos_iff.2 he;omega)];have:(Aj (Lib.decDigits u++Hh t)).extract (Lib.decDigits u).length ((Lib.decDigits u).length+(Hh t).length)=Aj (Hh t):=by
    apply ByteArray.ext;rw[ByteArray.data_extract];simp[Aj]
   rw[this];exact g.2.2 he
 have d:(Lib.decDigits u).length<=20:=Qmh 19 u OC;rw[Mj,m,j];have f:Iq (Aj (Lib.decDigits u++Hh t)) (Lib.decDigits u).length t=false:=by
  obtain⟨b,q,e,f⟩:=Qay u;simp only[Iq,Aj,e];by_cases hq:q=[]
  ·subst hq;simp;omega
  ·have:=f hq;rw[e]at d;simp at d |-
   exact⟨⟨⟨h1,h2⟩,by omega⟩,fun _=>this⟩
 rw[f,if_neg OD];have n:(Aj (Lib.decDigits u++Hh t)).data.toList.take (Lib.decDigits u).length=Lib.decDigits u++[]:=by simp[Aj]
 rw[n,Qmi _ u [] hu];rfl
theorem Qkq {c:UInt8} (h:Cr c=true):B5 c=true:=by
 simp only[Cr]at h;simp[B5,Dc,h]
theorem A7.int (n t:Int) (h1:3<=t) (h2:t<=10) (hn : -9223372036854775808<=n/\n<=9223372036854775807) (hu:IntKind.u64.wrap n<=Ce t):A7 (Lib.decDigits (n % 18446744073709551616).toNat++Hh t) [⟨3,[],t,n,(Lib.decDigits (n % 18446744073709551616).toNat++Hh t).length,0⟩] Je/\∃ c q,Lib.decDigits (n % 18446744073709551616).toNat++Hh t=c::q/\c≠61/\c≠62:=by
 obtain⟨u,j⟩:∃ u:Nat,(n % 18446744073709551616)=u:=⟨(n % 18446744073709551616).toNat,by omega⟩;have i:(u:Int)<=Ce t:=by rw[IntKind.wrap_u64]at hu;omega
 have g:=Qks u t h1 h2 i OC;have l:wrap64 (u:Int)=n:=by unfold wrap64;omega
 rw[j,Int.toNat_natCast];obtain⟨b,q,e,-⟩:=Qay u;have f:Cr b=true:=S0 u b (by rw[e];simp);have a:∀ c ∈ Lib.decDigits u++Hh t,B5 c=true:=by
  intro c d;rcases List.mem_append.1 d with d|d
  ·exact Qkq (S0 u c d)
  ·unfold Hh at d;by_cases h:t=10
   ·rw[if_pos h]at d;cases d
   ·rw[if_neg h]at d;obtain⟨k,rfl⟩:∃ k:Fin 8,t=((k.val+3:Nat):Int):=⟨⟨(t - 3).toNat,by omega⟩,by simp;omega⟩;exact(Qdz k OC).2.2 c d
 obtain⟨m,o,p,s,x,v⟩:=Qkr (b:=b) f;rw[e]at a g |-
 rw[List.cons_append]at a g |-
 refine⟨A7.one m o (fun r hr2 => ?_) rfl OF,b,_,rfl,p,s⟩;simp only[Bb,v,Bool.false_eq_true,if_false];rw[if_pos (show B4 (b.toNat:Int)=true from f),show b::((q++Hh t)++r)=(b::(q++Hh t))++r from rfl,Z3 a hr2,E1,g];simp only[l]
theorem Qob (b:UInt8):0<=Br (Fs (b.toNat / 16))/\0<=Br (Fs (b.toNat % 16))/\UInt8.ofNat (16 * Br (Fs (b.toNat / 16))+Br (Fs (b.toNat % 16))).toNat=b:=by
 have h:∀ k:Fin 16,Br (Fs k.val)=(k.val:Int):=by decide
 have d:b.toNat < 256:=b.toNat_lt;have a:=h ⟨b.toNat / 16,by omega⟩;have c:=h ⟨b.toNat % 16,by omega⟩;simp only at a c;rw[a,c];refine⟨by omega,by omega, ?_⟩;have:(16 * ((b.toNat / 16:Nat):Int)+((b.toNat % 16:Nat):Int)).toNat=b.toNat:=OC
 rw[this];simp
theorem Z4 : ∀ (s acc r:List UInt8),Ef (Lb s++34::r) acc=some (acc++s,r)
 | [],acc,r=>by rw[show Lb []=[] from rfl,List.nil_append,T7,List.append_nil]
 | b::s,acc,r=>by
  have e:Lb (b::s)++34::r=Vr b++(Lb s++34::r):=by simp[Lb]
  rw[e,Vr]
  by_cases hb:H3 (b.toNat:Int)=true
  ·have a:b≠34:=by rintro rfl;revert hb;decide
   rw[if_pos hb,List.singleton_append,Vk _ _ _ a hb,Z4 s]
   simp
  ·rw[if_neg hb]
   obtain⟨x,y,z⟩:=Qob b
   rw[List.cons_append,List.cons_append,List.cons_append,List.nil_append,Sb,if_pos ⟨x,y⟩,z,Z4 s]
   simp
theorem A7.text (s:ByteArray) (hs:s.size<=3000):A7 (Hg s).data.toList [⟨4,s.data.toList,0,0,(Hg s).data.toList.length,0⟩] Kx:=by
 have e:(Hg s).data.toList=34::(Lb s.data.toList++[34]):=by simp[Hg]
 have b:s.data.toList.length=s.size:=by simp
 rw[e];refine A7.one OD OD (fun r _ => ?_) rfl OF;have a:Bp ((34:UInt8).toNat:Int)=false/\B4 ((34:UInt8).toNat:Int)=false:=by decide
 simp only[Bb,a.1,a.2,Bool.false_eq_true,if_false,if_true,D1,List.tail_cons];rw[List.append_assoc,List.singleton_append,Z4];simp only[List.nil_append];rw[if_neg (by rw[b];omega)];congr 1;simp;omega
theorem Qmx (a b:ByteArray):(a++b).data.toList=a.data.toList++b.data.toList:=by simp
mutual
def Qd : Aa->Prop
 | .node d ks=>(-9223372036854775808<=d.n/\d.n<=9223372036854775807)/\Qs ks
def Qs : List Aa->Prop
 | []=>True
 | t::r=>Qd t/\Qs r
end
theorem I6 : ∀ l:List Aa,Qs l ↔ ∀ t ∈ l,Qd t
 | []=>by rw[Qs];simp
 | t::r=>by rw[Qs,I6 r];simp
def Qmg (l:List UInt8):Prop := ∃ c q,l=c::q/\c≠61/\c≠62
def Yo (t:Aa):Prop:=A7 (Fa t).data.toList (Be t) Je/\Qmg (Fa t).data.toList
theorem Zz : ∀ l:List Aa,D6 l=l.map Fa
 | []=>by rw[D6];rfl
 | t::r=>by rw[D6,Zz r];rfl
theorem Og {c:UInt8} (h:B5 c=false) (q:List UInt8):Je (c::q):=fun c' q' e=>by injection e with e _;rw[<- e];exact h
theorem Qdx : ∀ (us:List Aa),(∀ u ∈ us,Yo u)->A7 ((us.map Fa).flatMap (fun y=>[44,32]++y.data.toList)) ((us.map Be).flatMap (fun y=>Bf [44]::y)) Je/\∀ r,Je r->Je ((us.map Fa).flatMap (fun y=>[44,32]++y.data.toList)++r)
 | [],_=>⟨fun r R _ h=>h,fun r h=>h⟩
 | u::us,hu=>by
  obtain⟨a,c⟩:=Qdx us (fun t ht=>hu t (by simp[ht]))
  refine⟨?_,fun r _ => ?_⟩
  ·simp only[List.map_cons,List.flatMap_cons]
   have d:A7 [44,32] [Bf [44]] Kx:=(A7.br (b:=44) OF).app (A7.gaps [32] OF) (fun _ _=>trivial)
   exact((d.app (hu u OF).1 (fun _ _=>trivial)).app a c)
  ·simp only[List.map_cons,List.flatMap_cons,List.append_assoc]
   exact Og OD _
theorem Qds {us:List Aa} (hu:∀ u ∈ us,Yo u):A7 (B6 (us.map Fa)) (Cm (us.map Be)) Je:=by
 cases us with
 | nil=>exact fun r R _ h=>h
 | cons u us =>
  obtain⟨a,b⟩:=Qdx us (fun t ht=>hu t (by simp[ht]));exact(hu u OF).1.app a b
theorem Sz {x:ByteArray} {p:Ab} (hx:A7 x.data.toList [p] Je) {us:List Aa} (hu:∀ u ∈ us,Yo u):A7 (Ec x (us.map Fa)).data.toList (Hj p (us.map Be)) Kx:=by
 have e:(Ec x (us.map Fa)).data.toList=x.data.toList++([40]++(B6 (us.map Fa)++[41])):=by
  simp[Ec,Gq]
 rw[e];have a:=(Qds hu).app (A7.br (b:=41) OF) (fun r _=>Og OD _);exact hx.app ((A7.br (b:=40) OF).app a (fun _ _=>trivial)) (fun r _=>Og OD _)
theorem Wt {t:Aa} (h:Yo t) (k:Int):A7 (En k (Fa t)).data.toList (Fh k (Be t)) Je/\Qmg (En k (Fa t)).data.toList:=by
 unfold En Fh;by_cases hk:k=6
 ·rw[if_pos hk,if_pos hk];have e:(⟨#[40]⟩++Fa t++⟨#[41]⟩:ByteArray).data.toList=[40]++((Fa t).data.toList++[41]):=by simp
  rw[e];have a:=h.1.app (A7.br (b:=41) OF) (fun r _=>Og OD _);exact⟨((A7.br (b:=40) OF).app a (fun _ _=>trivial)).mono (fun _ _=>trivial),40,_,rfl,by decide,by decide⟩
 ·rw[if_neg hk,if_neg hk];exact h
theorem Ih {x:ByteArray} (h:x.data.toList ∈ Fd.map Prod.fst):A7 x.data.toList [E6 x.data.toList] Je/\Qmg x.data.toList:=by
 have c:∀ l ∈ Fd.map Prod.fst,(match l with|[]=>false|b::t=>Bp (b.toNat:Int) && (b::t).all B5)=true:=by decide
 have a:=c _ h;cases hl:x.data.toList with
 | nil=>rw[hl]at a;cases a
 | cons b t =>
  rw[hl]at a h;simp only[Bool.and_eq_true,List.all_eq_true]at a;obtain⟨_,_,d,f,_⟩:=O8 a.1;exact⟨A7.word a.1 a.2 ((Pv _).2 h),b,t,rfl,d,f⟩
theorem Qoe : ∀ k:Fin 3,∃ b ∈ ([45,33,126]:List UInt8),(E3 ((k.val+1:Nat):Int)).data.toList=[b]/\b≠61/\b≠62:=by decide
theorem Qn8 : ∀ k:Fin 18,(C0 ((k.val+1:Nat):Int)).data.toList ∈ Dt:=by decide
theorem Qko : ∀ k:Fin 12,(Av ((k.val+1:Nat):Int)).data.toList ∈ Fd.map Prod.fst:=by decide
theorem Ww : ∀ k:Fin 10,(Ag ((k.val+1:Nat):Int)).data.toList ∈ Fd.map Prod.fst:=by decide
theorem Qf4 : ∀ (m:Nat) (t:Aa),SizeOf.sizeOf t < m->E7 t->Qd t->Ah t.nd.kind=true->Yo t
 | 0,t,h,_,_,_=>OC
 | m+1,.node d us,hm,hg,hr,hE=>by
  rw[E7,Fg]at hg
  rw[Qd,I6]at hr
  obtain⟨l,y,V,R⟩:=hg
  have M:∀ u ∈ us,Ah u.nd.kind=true->Yo u:=fun u j f=>Qf4 m u (by have:=J4 (d:=d) j;omega) (R u j) (hr.2 u j) f
  have p:us.all (fun t=>Ah t.nd.kind)=true->∀ u ∈ us,Yo u:=fun h u j=>M u j (List.all_eq_true.1 h u j)
  have L:Be (.node d us)=Ig d (us.map (fun t=>t.nd.kind)) (us.map Be):=by rw[Be,Nj]
  have S:Fa (.node d us)=C2 d (us.map (fun t=>t.nd.kind)) (us.map Fa):=by rw[Fa,Zz]
  have J:(Aa.node d us).nd.kind=d.kind:=rfl
  rw[J]at hE
  unfold Yo
  rw[L,S]
  rcases Qf3 hE with f|f|f|f|f|f|f|f|f
  ·have k:∀ K X,Ig d K X=[⟨3,[],d.type,d.n,(C2 d [] []).size,0⟩]:=fun K X=>by rw[Ig,if_pos f]
   have g:∀ K X,C2 d K X=(if d.type=10 then Hr d.n else Hr d.n++Ag d.type):=fun K X=>by rw[C2,if_pos f]
   rw[k,g]
   have j:(3<=d.type/\d.type<=10)/\IntKind.u64.wrap d.n<=Ce d.type:=by rw[Au,f]at l;simpa using l
   have T:=A7.int d.n d.type j.1.1 j.1.2 hr.1 j.2
   have e:(if d.type=10 then Hr d.n else Hr d.n++Ag d.type).data.toList=Lib.decDigits (d.n % 18446744073709551616).toNat++Hh d.type:=by
    unfold Hh;split <;> simp[Hr]
   have G:(C2 d [] []).size=(Lib.decDigits (d.n % 18446744073709551616).toNat++Hh d.type).length:=by
    rw[C2,if_pos f,<- e];simp
   rw[e,G];exact T
  ·have k:∀ K X,Ig d K X=[⟨4,d.text.data.toList,0,0,(C2 d [] []).size,0⟩]:=fun K X=>by rw[Ig,if_neg OC,if_pos f]
   have g:∀ K X,C2 d K X=Hg d.text:=fun K X=>by rw[C2,if_neg OC,if_pos f]
   rw[k,g];have j:d.text.size<=3000:=(by rw[Au,f]at l;simpa using l);have G:(C2 d [] []).size=(Hg d.text).data.toList.length:=(by rw[g];simp);rw[G];exact⟨(A7.text d.text j).mono (fun _ _=>trivial),34,_,by simp[Hg];rfl,by decide,by decide⟩
  ·have k:∀ K X,Ig d K X=[E6 (if d.n=1 then [116,114,117,101] else [102,97,108,115,101])]:=fun K X=>by rw[Ig,if_neg OC,if_neg OC,if_pos f]
   have g:∀ K X,C2 d K X=(if d.n=1 then ⟨#[116,114,117,101]⟩ else ⟨#[102,97,108,115,101]⟩):=fun K X=>by rw[C2,if_neg OC,if_neg OC,if_pos f]
   rw[k,g];split
   ·exact Ih (x:=⟨#[116,114,117,101]⟩) OD
   ·exact Ih (x:=⟨#[102,97,108,115,101]⟩) OD
  ·have k:∀ K X,Ig d K X=[Kz d.text.data.toList]:=fun K X=>by rw[Ig,if_neg OC,if_neg OC,if_neg OC,if_pos f]
   have g:∀ K X,C2 d K X=d.text:=fun K X=>by rw[C2,if_neg OC,if_neg OC,if_neg OC,if_pos f]
   rw[k,g];have j:A0 d.text=true:=(by rw[Au,f]at l;simpa using l);exact A7.nm j
  ·have k:∀ K X,Ig d K X=Bf (E3 d.op).data.toList::Fh (K.getD 0 0) (X.getD 0 []):=fun K X=>by rw[Ig,if_neg OC,if_neg OC,if_neg OC,if_neg OC,if_pos f]
   have g:∀ K X,C2 d K X=E3 d.op++En (K.getD 0 0) (X.getD 0 ⟨#[]⟩):=fun K X=>by rw[C2,if_neg OC,if_neg OC,if_neg OC,if_neg OC,if_pos f]
   have i:D4 (us.map (fun t=>t.nd.kind))=true:=(by rw[f]at y;simpa[Ac]using y);obtain⟨u,rfl,j⟩:=Ni i;have s:1<=d.op/\d.op<=3:=(by rw[Au,f]at l;simpa using l);obtain⟨o,E⟩:=Jw (n:=3) s.1 OC;obtain⟨b,z,F,H,I⟩:=Qoe o;rw[<- E]at F;obtain⟨A,c,q,B,C,D⟩:=Wt (M u OF j) u.nd.kind;rw[k,g];rw[Qmx];simp only[List.map_cons,List.map_nil,List.getD_cons_zero];rw[F];refine⟨(A7.unm z).app A (fun r _ c' q' e => ?_),b,_,rfl,H,I⟩;have g:(En u.nd.kind (Fa u)).data.toList++r=c'::q':=e;rw[B]at g;injection g with g _;rw[<- g];exact⟨C,D⟩
  ·have k:∀ K X,Ig d K X=Fh (K.getD 0 0) (X.getD 0 [])++Bf (C0 d.op).data.toList::Fh (K.getD 1 0) (X.getD 1 []):=fun K X=>by rw[Ig,if_neg OC,if_neg OC,if_neg OC,if_neg OC,if_neg OC,if_pos f]
   have g:∀ K X,C2 d K X=En (K.getD 0 0) (X.getD 0 ⟨#[]⟩)++⟨#[32]⟩++C0 d.op++⟨#[32]⟩++En (K.getD 1 0) (X.getD 1 ⟨#[]⟩):=fun K X=>by rw[C2,if_neg OC,if_neg OC,if_neg OC,if_neg OC,if_neg OC,if_pos f]
   have i:us.length=2/\us.all (fun t=>Ah t.nd.kind)=true:=(by rw[f]at y;simpa[Ac,Function.comp_def]using y);obtain⟨a,b,rfl⟩:∃ a b,us=[a,b]:=by
    match us,i.1 with
    | [a,b],_=>exact⟨a,b,rfl⟩
   have s:1<=d.op/\d.op<=18:=(by rw[Au,f]at l;simpa using l);obtain⟨o,E⟩:=Jw (n:=18) s.1 OC;have z:=Qn8 o;rw[<- E]at z;obtain⟨A,c,q,B,C,D⟩:=Wt (p i.2 a OF) a.nd.kind;obtain⟨U,-⟩:=Wt (p i.2 b OF) b.nd.kind;rw[k,g];have e:(En ([a,b].map (fun t=>t.nd.kind) |>.getD 0 0) ([a,b].map Fa |>.getD 0 ⟨#[]⟩)++⟨#[32]⟩++C0 d.op++⟨#[32]⟩++En ([a,b].map (fun t=>t.nd.kind) |>.getD 1 0) ([a,b].map Fa |>.getD 1 ⟨#[]⟩):ByteArray).data.toList=(En a.nd.kind (Fa a)).data.toList++([32]++((C0 d.op).data.toList++([32]++(En b.nd.kind (Fa b)).data.toList))):=OF;rw[e];have N:=(A7.gaps [32] OF).app U (fun _ _=>trivial);have O:=(A7.mark z).app N (fun r _=>⟨_,rfl⟩);have P:=(A7.gaps [32] OF).app O (fun _ _=>trivial);have Q:=A.app P (fun r _=>Og OD _);refine⟨Q,c,_,by rw[B];rfl,C,D⟩
  ·have k:∀ K X,Ig d K X=Hj (Kz d.text.data.toList) X:=fun K X=>by rw[Ig,if_neg OC,if_neg OC,if_neg OC,if_neg OC,if_neg OC,if_neg OC,if_pos f]
   have g:∀ K X,C2 d K X=Ec d.text X:=fun K X=>by rw[C2,if_neg OC,if_neg OC,if_neg OC,if_neg OC,if_neg OC,if_neg OC,if_pos f]
   have i:us.all (fun t=>Ah t.nd.kind)=true:=(by rw[f]at y;have:=y;simp[Ac,Function.comp_def]at this;simpa using this.2);have j:A0 d.text=true:=(by rw[Au,f]at l;simpa using l);rw[k,g];obtain⟨A,c,q,B,C,D⟩:=A7.nm j;exact⟨(Sz A (p i)).mono (fun _ _=>trivial),c,_,by simp[Ec,B];rfl,C,D⟩
  ·have k:∀ K X,Ig d K X=Hj (E6 (Av d.op).data.toList) X:=fun K X=>by rw[Ig,if_neg OC,if_neg OC,if_neg OC,if_neg OC,if_neg OC,if_neg OC,if_neg OC,if_pos f]
   have g:∀ K X,C2 d K X=Ec (Av d.op) X:=fun K X=>by rw[C2,if_neg OC,if_neg OC,if_neg OC,if_neg OC,if_neg OC,if_neg OC,if_neg OC,if_pos f]
   have i:us.all (fun t=>Ah t.nd.kind)=true:=(by rw[f]at y;have:=y;simp[Ac,Function.comp_def]at this;simpa using this.2);have s:1<=d.op/\d.op<=12:=(by rw[Au,f]at l;simpa using l);obtain⟨o,E⟩:=Jw (n:=12) s.1 OC;have z:=Qko o;rw[<- E]at z;rw[k,g];obtain⟨A,c,q,B,C,D⟩:=Ih z;exact⟨(Sz A (p i)).mono (fun _ _=>trivial),c,_,by simp[Ec,B];rfl,C,D⟩
  ·have k:∀ K X,Ig d K X=Hj (E6 (Ag d.type).data.toList) X:=fun K X=>by rw[Ig,if_neg OC,if_neg OC,if_neg OC,if_neg OC,if_neg OC,if_neg OC,if_neg OC,if_neg OC]
   have g:∀ K X,C2 d K X=Ec (Ag d.type) X:=fun K X=>by rw[C2,if_neg OC,if_neg OC,if_neg OC,if_neg OC,if_neg OC,if_neg OC,if_neg OC,if_neg OC]
   have i:D4 (us.map (fun t=>t.nd.kind))=true:=(by rw[f]at y;simpa[Ac]using y);obtain⟨u,rfl,j⟩:=Ni i;have s:3<=d.type/\d.type<=10:=(by rw[Au,f]at l;simpa using l);obtain⟨o,E⟩:=Jw (n:=10) (o:=d.type) OC OC;have z:=Ww o;rw[<- E]at z;rw[k,g];obtain⟨A,c,q,B,C,D⟩:=Ih z;exact⟨(Sz A (us:=[u]) (fun v hv=>by rw[List.mem_singleton.1 hv];exact M u OF j)).mono (fun _ _=>trivial),c,_,by simp[Ec,B];rfl,C,D⟩
theorem Z0 : ∀ (l:List Aa) (g:ByteArray),Jh l g=l.map (fun t=>On t g)
 | [],g=>by rw[Jh];rfl
 | t::r,g=>by rw[Jh,Z0 r];rfl
theorem Qf1 : ∀ (l:List Aa) (g:ByteArray),Kg l g=l.map (fun t=>O2 t g)
 | [],g=>by rw[Kg];rfl
 | t::r,g=>by rw[Kg,Qf1 r];rfl
def Qps (g:ByteArray):Prop := ∀ b ∈ g.data.toList,b=32\/b=10
theorem A7.w (x:List UInt8) (h:x ∈ Fd.map Prod.fst:=by decide):A7 (x++[32]) [E6 x] Kx:=by
 have:=(Ih (x:=⟨x.toArray⟩) (by simpa using h)).1;exact(by simpa using this:A7 x [E6 x] Je).app (A7.gaps [32] OF) (fun r _=>Og OD _)
theorem A7.nl (b:UInt8) (h:b ∈ ([40,41,123,125,44,59]:List UInt8):=by decide):A7 [b,10] [Bf [b]] Kx:=(A7.br h).app (A7.gaps [10] OF) (fun _ _=>trivial)
theorem A7.then {x y:List UInt8} {X Y:List Ab} {p:List UInt8->Prop} (h1:A7 x X Kx) (h2:A7 y Y p):A7 (x++y) (X++Y) p:=h1.app h2 (fun _ _=>trivial)
theorem A7.ethen {x y:List UInt8} {X Y:List Ab} {p:List UInt8->Prop} (h1:A7 x X Je) (h2:A7 y Y p) {c:UInt8} {q:List UInt8} (e:y=c::q) (hc:B5 c=false):A7 (x++y) (X++Y) p:=h1.app h2 (fun r _=>by rw[e];exact Og hc _)
theorem A7.block {b g:List UInt8} {B:List Ab} (hb:A7 b B Kx) (hg:∀ c ∈ g,c=32\/c=10):A7 ([32,123,10]++(b++(g++[125]))) (Bf [123]::(B++[Bf [125]])) Kx :=
 (((A7.gaps [32] OF).then (A7.nl 123)).then (hb.then ((A7.gaps g hg).then (A7.br (b:=125) OD))))
theorem A7.eq {x x':List UInt8} {X X':List Ab} {p:List UInt8->Prop} (h:A7 x X p) (e:x'=x) (e2:X'=X):A7 x' X' p:=by rw[e,e2];exact h
theorem Qf2 {g:ByteArray} (hg:Qps g):∀ (us:List Aa),(∀ u ∈ us,A7 (On u g).data.toList (E5 u) Kx)->A7 (I1 g (us.map (fun t=>On t g))) (us.map E5).flatten Kx
 | [],_=>fun r R _ h=>h
 | u::us,hu=>by
  have:=((A7.gaps g.data.toList hg).then (hu u OF)).then (Qf2 hg us (fun t ht=>hu t (by simp[ht])))
  exact this.eq (by simp[I1]) OF
theorem Qf6 : ∀ (m:Nat) (t:Aa),SizeOf.sizeOf t < m->E7 t->Qd t->∀ g,Qps g->(Cv t.nd.kind=true->A7 (On t g).data.toList (E5 t) Kx)/\(t.nd.kind=21->A7 (O2 t g).data.toList (Gu t) Kx)
 | 0,t,h,_,_,_,_=>OC
 | m+1,.node d us,hm,hg,hr,g,hgp=>by
  rw[E7,Fg]at hg
  rw[Qd,I6]at hr
  obtain⟨C,k,Q,M⟩:=hg
  have N:∀ u ∈ us,SizeOf.sizeOf u < m:=fun u l=>by have:=J4 (d:=d) l;omega
  have n:=fun u (l:u ∈ us) f=>Qf4 m u (N u l) (M u l) (hr.2 u l) f
  have z:=fun u (l:u ∈ us) g hg=>Qf6 m u (N u l) (M u l) (hr.2 u l) g hg
  have o:Qps (g++⟨#[32,32]⟩):=fun b D=>by
   rw[Qmx]at D
   rcases List.mem_append.1 D with h|h
   ·exact hgp b h
   ·simp at h;exact .inl h
  have K:E5 (.node d us)=Fp d (us.map (fun t=>t.nd.kind)) (us.map Be) (us.map E5) (us.map Gu):=by rw[E5,Nj,Qf,Wv]
  have P:On (.node d us) g=Dq d g (us.map (fun t=>t.nd.kind)) (us.map Fa) (us.map (fun t=>On t g)) (us.map (fun t=>O2 t (g++⟨#[32,32]⟩))):=by rw[On,Zz,Z0,Qf1]
  have J:Gu (.node d us)=(us.map E5).flatten:=by rw[Gu,Qf]
  have D:O2 (.node d us) g=Qq g (us.map (fun t=>On t g)):=by rw[O2,Z0]
  have H:(Aa.node d us).nd.kind=d.kind:=rfl
  rw[H]
  refine⟨fun hS => ?_,fun f => ?_⟩
  ·rw[K,P]
   have q:D4 (us.map (fun t=>t.nd.kind))=true->∃ u,us=[u]/\Yo u:=fun h=>by
    obtain⟨u,rfl,l⟩:=Ni h
    exact⟨u,rfl,n u OF l⟩
   have j:=A7.nl 59
   have B:A7 [32,61,32] [Bf [61]] Kx:=(A7.gaps [32] OF).then ((A7.mark (m:=[61]) OD).app (A7.gaps [32] OF) (fun r _=>⟨_,rfl⟩))
   rcases Qf5 hS with f|f|f|f|f|f|f|f|f|f|f
   ·obtain⟨u,rfl,v⟩:=q (by rw[f]at k;simpa[Ac]using k)
    have I:A0 d.text=true:=by rw[Au,f]at C;simpa using C
    exact((A7.w [108,101,116]).then (((A7.nm I).1.ethen B rfl OD).then (v.1.ethen j rfl OD))).eq (by simp[Dq,f]) (by simp[Fp,f])
   ·obtain⟨u,rfl,v⟩:=q (by rw[f]at k;simpa[Ac]using k)
    have I:A0 d.text=true:=by rw[Au,f]at C;simpa using C
    exact((((A7.nm I).1.ethen B rfl OD).then (v.1.ethen j rfl OD))).eq (by simp[Dq,f]) (by simp[Fp,f])
   ·have i:Cd (us.map (fun t=>t.nd.kind))=true:=by rw[f]at k;simpa[Ac]using k
    rcases us with _|⟨a,_|⟨b,_|⟨c,_|⟨x,y⟩⟩⟩⟩
    ·simp[Cd]at i
    ·simp[Cd]at i
    ·have h:Ah a.nd.kind=true/\b.nd.kind=21:=by simpa[Cd]using i
     have p:=(n a OF h.1).1
     have A:=(z b OF _ o).2 h.2
     exact((A7.w [105,102]).then ((p.ethen (A.block hgp) rfl OD).then (A7.gaps [10] OF))).eq (by simp[Dq,f]) (by simp[Fp,f])
    ·have h:(Ah a.nd.kind=true/\b.nd.kind=21)/\(c.nd.kind=21\/c.nd.kind=12):=by simpa[Cd]using i
     have p:=(n a OF h.1.1).1
     have A:=(z b OF _ o).2 h.1.2
     have F:=(A7.gaps [32] OF).then (A7.w [101,108,115,101])
     by_cases s:c.nd.kind=12
     ·have L:=(z c OF _ hgp).1 (by rw[s];rfl)
      exact((A7.w [105,102]).then ((p.ethen (A.block hgp) rfl OD).then (F.then L))).eq (by simp[Dq,f,s]) (by simp[Fp,f,s])
     ·have G:c.nd.kind=21:=by rcases h.2 with h|h;exact h;exact absurd h s
      have L:=(z c OF _ o).2 G
      have E:=(A7.gaps [32] OF).then (Ih (x:=⟨#[101,108,115,101]⟩) OD).1
      exact((A7.w [105,102]).then ((p.ethen (A.block hgp) rfl OD).then ((E.ethen (L.block hgp) rfl OD).then (A7.gaps [10] OF)))).eq (by simp[Dq,f,s]) (by simp[Fp,f,s])
    ·simp[Cd]at i
   ·have i:Ci (us.map (fun t=>t.nd.kind))=true:=by rw[f]at k;simpa[Ac]using k
    obtain⟨a,b,rfl,h⟩:∃ a b,us=[a,b]/\Ah a.nd.kind=true/\b.nd.kind=21:=by
     rcases us with _|⟨a,_|⟨b,_|⟨x,y⟩⟩⟩
     ·simp[Ci]at i
     ·simp[Ci]at i
     ·exact⟨a,b,rfl,by simpa[Ci]using i⟩
     ·simp[Ci]at i
    have p:=(n a OF h.1).1;have A:=(z b OF _ o).2 h.2;exact((A7.w [119,104,105,108,101]).then ((p.ethen (A.block hgp) rfl OD).then (A7.gaps [10] OF))).eq (by simp[Dq,f]) (by simp[Fp,f])
   ·exact((Ih (x:=⟨#[98,114,101,97,107]⟩) OD).1.ethen j rfl OD).eq (by simp[Dq,f]) (by simp[Fp,f])
   ·exact((Ih (x:=⟨#[99,111,110,116,105,110,117,101]⟩) OD).1.ethen j rfl OD).eq (by simp[Dq,f]) (by simp[Fp,f])
   ·have i:us.length<=1/\us.all (fun t=>Ah t.nd.kind)=true:=(by rw[f]at k;simpa[Ac,Function.comp_def]using k);rcases us with _|⟨u,_|⟨x,y⟩⟩
    ·exact((Ih (x:=⟨#[114,101,116,117,114,110]⟩) OD).1.ethen j rfl OD).eq (by simp[Dq,f]) (by simp[Fp,f])
    ·have p:=(n u OF (by simpa using i.2)).1;exact((A7.w [114,101,116,117,114,110]).then (p.ethen j rfl OD)).eq (by simp[Dq,f]) (by simp[Fp,f])
    ·simp at i
   ·obtain⟨u,rfl,v⟩:=q (by rw[f]at k;simpa[Ac]using k);exact((A7.w [102,97,105,108]).then (v.1.ethen j rfl OD)).eq (by simp[Dq,f]) (by simp[Fp,f])
   ·have i:us.length=2/\us.all (fun t=>Ah t.nd.kind)=true:=(by rw[f]at k;simpa[Ac,Function.comp_def]using k);have O:=Qds (us:=us) (fun u l=>n u l (List.all_eq_true.1 i.2 u l));exact((A7.w [119,114,105,116,101]).then (O.ethen j rfl OD)).eq (by simp[Dq,Gq,f]) (by simp[Fp,f])
   ·obtain⟨u,rfl,v⟩:=q (by rw[f]at k;simpa[Ac]using k);exact((A7.w [115,97,121]).then (v.1.ethen j rfl OD)).eq (by simp[Dq,f]) (by simp[Fp,f])
   ·have i:Fu (us.map (fun t=>t.nd.kind))=true:=(by rw[f]at k;simpa[Ac]using k);obtain⟨c,rfl,s⟩:∃ c,us=[c]/\c.nd.kind=7:=by
     rcases us with _|⟨c,_|⟨x,y⟩⟩
     ·simp[Fu]at i
     ·exact⟨c,rfl,by simpa[Fu]using i⟩
     ·simp[Fu]at i
    have p:=(n c OF (by rw[s];rfl)).1;exact(p.ethen j rfl OD).eq (by simp[Dq,f]) (by simp[Fp,f])
  ·have i:us.all (fun t=>Cv t.nd.kind)=true:=(by rw[f]at k;simpa[Ac,Function.comp_def]using k);rw[J,D];exact(Qf2 hgp us (fun u l=>(z u l g hgp).1 (List.all_eq_true.1 i u l))).eq (by simp[Qq]) rfl
theorem Qoc {t:Aa} (hg:E7 t) (hk:t.nd.kind=22):A7 (t.nd.text.data.toList++([32]++(Ag t.nd.type).data.toList)) (Jy t) Je:=by
 obtain⟨f,-⟩:=Uq hg hk;obtain⟨o,c⟩:=Jw (n:=10) f.1 OC;have a:=Ww o;rw[<- c]at a;have b:A0 t.nd.text=true:=by
  obtain⟨d,us⟩:=t;replace hk:d.kind=22:=hk;rw[E7]at hg;have:=hg.1;rw[Au,hk]at this;simp at this;exact this.1
 exact((A7.nm b).1.ethen ((A7.gaps [32] OF).then (Ih a).1) rfl OD)
def Qdv (t:Aa):List UInt8:=t.nd.text.data.toList++([32]++(Ag t.nd.type).data.toList)
def Rn : List Aa->List UInt8
 | []=>[]
 | p::r=>Qdv p++r.flatMap (fun t=>[44,32]++Qdv t)
theorem Qfd (out:ByteArray) (ps:List Aa):∀ j,j<=ps.length->(Hf out (ps.map Aa.nd) j).data.toList=out.data.toList++Rn (ps.take j):=by
 intro j;induction j with
 | zero=>intro _;simp[Hf,Rn]
 | succ j a =>
  intro d;have a:=a OC;have c:j < ps.length:=OC
  have b:(ps.map Aa.nd).getD j O5=ps[j].nd:=by simp[List.getD,c]
  rw[Hf,b,U2,List.take_succ_eq_append_getElem c];by_cases h0:j=0
  ·subst h0;simp[Rn]at a;simp[a,Rn,Qdv]
  ·rw[if_neg h0];cases hp:ps.take j with
   | nil=>exfalso;have:=congrArg List.length hp;rw[List.length_take]at this;simp only[List.length_nil]at this;omega
   | cons p r =>
    rw[hp]at a;simp[a,Rn,Qdv]
theorem Qpx {t:Aa} (hg:E7 t) (v:Qd t) (hk:t.nd.kind=23):A7 (Mz t).data.toList (Qe t) Kx:=by
 obtain⟨d,ks⟩:=t;replace hk:d.kind=23:=hk;rw[E7,Fg]at hg;rw[Qd,I6]at v;obtain⟨F,C,N,D⟩:=hg;have f:Ea (ks.map (fun t=>t.nd.kind))=true:=by rw[hk]at C;simpa[Ac]using C
 obtain⟨a,b,rfl⟩:∃ a b,ks=a++[b]:=by
  rcases List.eq_nil_or_concat ks with rfl|⟨a,b,h⟩
  ·simp[Ea]at f
  ·exact⟨a,b,by simpa using h⟩
 have G:b.nd.kind=21/\∀ p ∈ a,p.nd.kind=22:=by
  simp[Ea]at f;exact⟨f.1.1,f.2⟩
 have H:A0 d.text=true/\(d.type=0\/(1<=d.type/\d.type<=10)):=by
  rw[Au,hk]at F;have:=F;simp at this;exact⟨this.1,by omega⟩
 have e:Qe (.node d (a++[b]))=E6 [102,110]::Kz d.text.data.toList::Bf [40]::(Cm (a.map Jy)++Bf [41]::((if d.type=0 then [] else [Bf [45,62],E6 (Ag d.type).data.toList])++Bf [123]::(Gu b++[Bf [125]]))):=by rw[Qe];simp
 have J:Mz (.node d (a++[b]))=Mu d (a.map Aa.nd) (O2 b ⟨#[32,32]⟩):=by rw[Mz];simp
 have K:=(Qf6 (SizeOf.sizeOf b+1) b OC (D b OF) (v.2 b OF) ⟨#[32,32]⟩ (fun c x=>by simp at x;exact .inl x)).2 G.1;have E:A7 (Rn a) (Cm (a.map Jy)) Je:=by
  have k:=fun p (hp:p ∈ a)=>Qoc (D p (by simp[hp])) (G.2 p hp)
  have rest:∀ r:List Aa,(∀ p ∈ r,p ∈ a)->A7 (r.flatMap (fun t=>[44,32]++Qdv t)) ((r.map Jy).flatMap (fun y=>Bf [44]::y)) Je/\∀ z,Je z->Je (r.flatMap (fun t=>[44,32]++Qdv t)++z):=by
   intro r;induction r with
   | nil=>exact fun _=>⟨fun r R _ h=>h,fun z h=>h⟩
   | cons p r ih =>
    intro v;obtain⟨A,B⟩:=ih (fun q k=>v q (by simp[k]));refine⟨?_,fun z _ => ?_⟩
    ·have x:A7 [44,32] [Bf [44]] Kx:=(A7.br (b:=44) OF).app (A7.gaps [32] OF) (fun _ _=>trivial);exact((x.then (k p (v p OF))).app A B).eq (by simp[Qdv]) OF
    ·simp only[List.flatMap_cons,List.append_assoc];exact Og OD _
  cases a with
  | nil=>exact fun r R _ h=>h
  | cons p r =>
   obtain⟨A,B⟩:=rest r (fun q k=>by simp[k]);exact((k p OF).app A B).eq rfl (by simp[Cm])
 have j:=Qfd (⟨#[102,110,32]⟩++d.text++⟨#[40]⟩) a a.length ON;rw[List.take_length]at j;have g:=((A7.nl 123).then (K.then (A7.nl 125)));have u:=(A7.w [102,110]).then ((A7.nm H.1).1.ethen (A7.br (b:=40) OD) rfl OD);have s:=(A7.br (b:=41) OD).then (A7.gaps [32] OF);rw[e,J];rcases H.2 with l|M
 ·have:=u.then ((E.ethen s rfl OD).then g);refine this.eq ?_ (by simp[l]);simp only[Mu,Oc,if_pos l,Qmx,List.length_map,j];simp
 ·obtain⟨o,L⟩:=Jw (n:=10) M.1 OC;have I:=Ww o;rw[<- L]at I;have i:=(A7.mark (m:=[45,62]) OD).app (A7.gaps [32] OF) (fun r _=>⟨_,rfl⟩);have:=u.then ((E.ethen s rfl OD).then ((i.then ((Ih I).1.ethen (A7.gaps [32] OF) rfl OD)).then g));have l:¬ d.type=0:=OC
  refine this.eq ?_ (by simp[l]);simp only[Mu,Oc,if_neg l,Qmx,List.length_map,j];simp
theorem Qdu : ∀ (us:List Aa),(∀ u ∈ us,E7 u/\Qd u/\u.nd.kind=23)->A7 (us.flatMap (fun f=>(Mz f).data.toList)) (us.map Qe).flatten Kx
 | [],_=>fun r R _ h=>h
 | u::us,hu=>by
  obtain⟨a,b,c⟩:=hu u OF
  exact((Qpx a b c).then (Qdu us (fun t ht=>hu t (by simp[ht])))).eq OF OF
theorem S1 : ∀ a b:List Aa,Cx (a++b)=Cx a++Cx b
 | [],b=>by rw[List.nil_append,Cx];rfl
 | t::r,b=>by rw[List.cons_append,Cx,Cx,S1 r b,List.append_assoc]
theorem Qmk {a b:Ae} (h:H4 a b=true):a=b:=by
 simp only[H4,Bool.and_eq_true,beq_iff_eq]at h;obtain⟨⟨⟨⟨⟨g,i⟩,j⟩,k⟩,c⟩,l⟩:=h;obtain⟨m,n,o,p,d,q⟩:=a;obtain⟨r,s,t,u,f,v⟩:=b;simp only at g i j k c l;rw[ByteArray.toList_eq,ByteArray.toList_eq]at c;have:d=f:=by rw[<- Gt d,<- Gt f,c]
 subst g i j k l this;rfl
theorem Qdq : ∀ (ns:List Ae) (st st':List Aa),Bu ns st=some st'->(∀ d ∈ ns,-9223372036854775808<=d.n/\d.n<=9223372036854775807)->Oe st->Qs st->Oe st'/\Qs st'/\Cx st'=Cx st++ns
 | [],st,st',h,_,hg,hr=>by
  rw[Bu]at h
  cases h
  exact⟨hg,hr,by simp⟩
 | d::r,st,st',h,ht,hg,hr=>by
  rw[Bu]at h
  split at h
  ·rename_i hs
   have g:=hg
   have i:=hr
   rw[Fg]at g
   rw[I6]at i
   simp only[Do,Bool.and_eq_true,decide_eq_true_eq]at hs
   obtain⟨⟨⟨⟨o,p⟩,l⟩,m⟩,n⟩:=hs
   have k:(st.drop (st.length - d.kids.toNat)).length=d.kids.toNat:=by rw[List.length_drop];omega
   have j:d=Ay d (st.drop (st.length - d.kids.toNat)).length:=by rw[k];exact Qmk n
   obtain⟨a,b,c⟩:=Qdq r _ st' h (fun e he=>ht e (by simp[he])) (by
    rw[Fg]
    intro t f
    rcases List.mem_append.1 f with f|f
    ·exact g t (List.mem_of_mem_take f)
    ·rw[List.mem_singleton.1 f,E7,Fg]
     exact⟨l,m,j,fun u hu=>g u (List.mem_of_mem_drop hu)⟩) (by
    rw[I6]
    intro t f
    rcases List.mem_append.1 f with f|f
    ·exact i t (List.mem_of_mem_take f)
    ·rw[List.mem_singleton.1 f,Qd,I6]
     exact⟨ht d OF,fun u hu=>i u (List.mem_of_mem_drop hu)⟩)
   refine⟨a,b, ?_⟩
   rw[c,S1,Cx,Fq,Cx,<- j,List.append_nil,<- List.append_assoc,<- S1,List.take_append_drop]
   simp
  ·cases h
theorem Qpy {ns:List Ae} (hv:Bj ns=true) (hn:∀ d ∈ ns,-9223372036854775808<=d.n/\d.n<=9223372036854775807) {t:Aa} (ht:Bu ns []=some [t]) (hl:(Ej t).length<=12000) :
  ∃ ts n,Hi ⟨(Ej t).toArray⟩=(ts,0,0)/\Ic ts n [] 0=some (.ok (t.kids,ts.length))/\Qbr (Cx t.kids) t.kids.length=ns:=by
 obtain⟨j,l,s⟩:=Qdq ns [] [t] ht hn (by rw[Oe];trivial) (by rw[Qs];trivial);rw[Fg]at j;rw[I6]at l;have j:=j t OF;have l:=l t OF;have k:t.nd.kind=24:=by
  unfold Bj at hv;rw[ht]at hv;simp at hv;exact hv.2.1
 obtain⟨d,us⟩:=t;replace k:d.kind=24:=k;have h:(Aa.node d us).kids=us:=rfl;rw[E7,Fg]at j;rw[Qd,I6]at l;obtain⟨E,q,p,r⟩:=j;have o:us.all (fun t=>t.nd.kind == 23)=true:=by rw[k]at q;have:=q;simp[Ac,Function.comp_def]at this;simpa using this.1.1
 have i:∀ u ∈ us,u.nd.kind=23:=fun u hu=>by simpa using List.all_eq_true.1 o u hu
 have m:=Qdu us (fun u hu=>⟨r u hu,l.2 u hu,i u hu⟩) [] [] trivial .nil;rw[List.append_nil,List.append_nil]at m;obtain⟨ts,B,C⟩:=m.is ((Ej (.node d us)).length+1) 0 [] (by show (us.flatMap _).length < _;simp[Ej,h]);obtain⟨N,D⟩:=Qdt us [] 0 (fun u hu=>⟨r u hu,i u hu⟩) (by rw[List.drop_zero,B]) (Nat.zero_le _);refine⟨ts,N, ?_,by rw[h];exact D N ON, ?_⟩
 ·rw[Hi,if_neg (by show ¬ 12000 < (Ej (.node d us)).toArray.size;simpa using hl)];show Ew ((Ej (.node d us)).toArray.size+1) (Ej (.node d us)).toArray.toList 0 []=_
  rw[List.size_toArray];exact C
 ·rw[h,Qbr];obtain⟨v,x,y,z,A,F⟩:=Mx p;simp only[Cx,Fq,<- p,List.append_nil,List.nil_append]at s;rw[<- s];congr 2;obtain⟨a,b,c,e,f,g⟩:=d;simp only at k v x y z A;subst k;rw[v OD,x OD,y OD OD,z OD,A]
theorem Qpi (l:List Ae) (h2:∀ d ∈ l,Fi d):(Bj l=false/\Dd l=⟨#[]⟩)\/(Bj l=true/\Dd l=⟨#[]⟩/\X9 l<=1300000)\/(Bj l=true/\0 < (Dd l).size/\(Dd l).size<=12000/\l.length<=12001/\∃ ts x N0,Hi (Dd l)=(ts,0,0)/\Ic ts N0 [] 0=some (.ok x)/\Fq (Co 24 0 0 [] x.1)=l/\Gc ts/\ts.length<=12000):=by
 cases hv:Bj l with
 | false=>exact .inl ⟨rfl,by rw[Dd,Im,hv];rfl⟩
 | true =>
  have a:Dl l=true:=by rw[Im,hv]
  obtain⟨K,o,t,ts,r,s,b,u,v,m,y,z,A,j,k⟩:=Ui l a;have i:=Qiz l h2;by_cases hl:(Ej t).length<=12000
  ·have c:Dd l=⟨(Ej t).toArray⟩:=(by rw[Dd,if_pos a,b];simp only;rw[if_pos hl]);obtain⟨ts,n,f,p,q⟩:=Qpy hv (fun d hd=>(h2 d hd).2) b hl;obtain⟨g,h⟩:=Qhl f;by_cases h0:(Dd l).size=0
   ·refine .inr (.inl ⟨rfl, ?_,by omega⟩);apply ByteArray.ext;exact Array.size_eq_zero_iff.1 h0
   ·refine .inr (.inr ⟨rfl,by omega,by rw[c];show (Ej t).toArray.size<=12000;simpa using hl,m,ts,_,n,by rw[c];exact f,p,by rw[Qhf];exact q,g,h⟩)
  ·exact .inr (.inl ⟨rfl,by rw[Dd,if_pos a,b];simp only;rw[if_neg hl],by omega⟩)
theorem Qph (l:List Ae) (h2:∀ d ∈ l,Fi d):(Hid (Bj l=false)/\Hid (Dd l=⟨#[]⟩)/\Tk.Mk)\/(Hid (Bj l=true)/\Hid (Dd l=⟨#[]⟩)/\Hid (X9 l<=1300000)/\Tk.Mk)\/∃ p ts x f,Hid (Bj l=true)/\Hid (Dd l=p)/\p.toList.isEmpty=false/\p.size<=12000/\l.length<=12001/\Hid (Hi p=(ts,0,0)/\Ic ts f [] 0=some (.ok x)/\Fq (Co 24 0 0 [] x.1)=l/\Gc ts/\ts.length<=12000)/\Tk.Mk:=by
 rcases Qpi l h2 with⟨a,b⟩|⟨a,b,c⟩|⟨a,b,c,d,ts,x,f,e⟩
 ·exact .inl ⟨a,b,trivial⟩
 ·exact .inr (.inl ⟨a,b,c,trivial⟩)
 ·exact .inr (.inr ⟨_,ts,x,f,a,rfl,by rw[Lib.toList_data];cases h:(Dd l).data.toList with
  | nil=>exact absurd (show (Dd l).size=0 by rw[ByteArray.size,<- Array.length_toList,h];rfl) OC
  | cons=>rfl,c,d,e,trivial⟩)
end Go.Proofs.YtjlaedokfbcbpaaGreatDoor
