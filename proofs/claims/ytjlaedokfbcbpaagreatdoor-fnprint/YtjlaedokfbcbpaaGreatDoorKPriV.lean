import Derived.Test.YtjlaedokfbcbpaaGreatDoorKPriS
set_option maxRecDepth 100000
set_option maxHeartbeats 4000000
namespace Go.Proofs.YtjlaedokfbcbpaaGreatDoor
open Go.RowKit Proofs.Tryz
mutual
def On : Aa->ByteArray->ByteArray
 | .node d ks,gap=>Dq d gap (ks.map (fun t=>t.nd.kind)) (D6 ks) (Jh ks gap) (Kg ks (gap++⟨#[32,32]⟩))
def O2 : Aa->ByteArray->ByteArray
 | .node _ ks,gap=>Qq gap (Jh ks gap)
def Jh : List Aa->ByteArray->List ByteArray
 | [],_=>[]
 | t::r,gap=>On t gap::Jh r gap
def Kg : List Aa->ByteArray->List ByteArray
 | [],_=>[]
 | t::r,gap=>O2 t gap::Kg r gap
end
theorem Zt (gap:ByteArray):∀ l:List Aa,Jh l gap=l.map (fun t=>On t gap)
 | []=>by rw[Jh];rfl
 | t::r=>by rw[Jh,Zt gap r];rfl
theorem Pb (gap:ByteArray):∀ l:List Aa,Kg l gap=l.map (fun t=>O2 t gap)
 | []=>by rw[Kg];rfl
 | t::r=>by rw[Kg,Pb gap r];rfl
theorem U1 (gap:ByteArray):(gap++⟨#[32,32]⟩).size=gap.size+2:=by rw[ByteArray.size_append];rfl
theorem Qj6 (d:Ae) (gap:ByteArray) (kd:List Int) (es ss bs:List ByteArray) (M:Nat) (h1:(es.getD 0 ⟨#[]⟩).size+(bs.getD 1 ⟨#[]⟩).size+(bs.getD 2 ⟨#[]⟩).size<=M) (h2:(es.getD 0 ⟨#[]⟩).size+(bs.getD 1 ⟨#[]⟩).size+(ss.getD 2 ⟨#[]⟩).size<=M) (h3:Ek es<=M) :
  (Dq d gap kd es ss bs).size<=3 * d.text.size+2 * gap.size+60+M:=by
 have k:=Ku es;have l:(⟨#[10]⟩:ByteArray).size=1:=rfl;have m:(⟨#[102,97,105,108,32]⟩:ByteArray).size=5:=rfl;have n:(⟨#[105,102,32]⟩:ByteArray).size=3:=rfl;have o:(⟨#[108,101,116,32]⟩:ByteArray).size=4:=rfl;have p:(⟨#[114,101,116,117,114,110,32]⟩:ByteArray).size=7:=rfl;have q:(⟨#[114,101,116,117,114,110,59,10]⟩:ByteArray).size=8:=rfl;have r:(⟨#[115,97,121,32]⟩:ByteArray).size=4:=rfl;have s:(⟨#[119,104,105,108,101,32]⟩:ByteArray).size=6:=rfl;have t:(⟨#[119,114,105,116,101,32]⟩:ByteArray).size=6:=rfl;have u:(⟨#[125]⟩:ByteArray).size=1:=rfl;have a:(⟨#[125,10]⟩:ByteArray).size=2:=rfl;have b:(⟨#[32,101,108,115,101,32]⟩:ByteArray).size=6:=rfl;have c:(⟨#[32,101,108,115,101,32,123,10]⟩:ByteArray).size=8:=rfl;have f:(⟨#[32,123,10]⟩:ByteArray).size=3:=rfl;have g:(⟨#[32,61,32]⟩:ByteArray).size=3:=rfl;have h:(⟨#[59,10]⟩:ByteArray).size=2:=rfl;have i:(⟨#[98,114,101,97,107,59,10]⟩:ByteArray).size=7:=rfl;have j:(⟨#[99,111,110,116,105,110,117,101,59,10]⟩:ByteArray).size=10:=rfl;unfold Dq;repeat' apply Md
 all_goals
  (try simp only[ByteArray.size_append]);omega
theorem Kt (t:Aa) (r:List Aa):Aa.highs (t::r)=max (t.high+1) (Aa.highs r):=by rw[Aa.highs]
mutual
set_option maxHeartbeats 4000000
theorem Zr : ∀ (t:Aa) (gap:ByteArray),gap.size+2 * t.high<=400->(On t gap).size+gap.size+2<=Ss t
 | .node d ks,gap,h=>by
  rw[Aa.high]at h
  have b:=Ob ks
  have a:=Qe7 ks gap OC
  have c:=Qj6 d gap (ks.map (fun t=>t.nd.kind)) (D6 ks) (Jh ks gap) (Kg ks (gap++⟨#[32,32]⟩)) (I2 ks) a.1 a.2 b
  rw[On,Ss]
  omega
theorem Rh : ∀ (t:Aa) (gap:ByteArray),gap.size+2 * t.high<=402->(O2 t gap).size+2<=Ss t
 | .node d ks,gap,h=>by
  rw[Aa.high]at h
  have a:=Wk ks gap h
  have b:=Ue gap (Jh ks gap)
  rw[O2,Ss]
  have e:(Qq gap (Jh ks gap)).size=(I1 gap (Jh ks gap)).length:=by simp[Qq,ByteArray.size]
  omega
theorem Wk : ∀ (l:List Aa) (gap:ByteArray),gap.size+2 * Aa.highs l<=402->Gz gap.size (Jh l gap)<=I2 l
 | [],gap,_=>by rw[Jh,I2];simp[Gz]
 | t::r,gap,h=>by
  rw[Kt]at h
  have b:=Zr t gap OC
  have a:=Wk r gap OC
  rw[Jh,I2]
  simp only[Gz,List.map_cons,List.sum_cons]at a |-
  omega
theorem Qe7 : ∀ (l:List Aa) (gap:ByteArray),gap.size+2 * Aa.highs l<=400 ->
  ((D6 l).getD 0 ⟨#[]⟩).size+((Kg l (gap++⟨#[32,32]⟩)).getD 1 ⟨#[]⟩).size+((Kg l (gap++⟨#[32,32]⟩)).getD 2 ⟨#[]⟩).size<=I2 l/\((D6 l).getD 0 ⟨#[]⟩).size+((Kg l (gap++⟨#[32,32]⟩)).getD 1 ⟨#[]⟩).size+((Jh l gap).getD 2 ⟨#[]⟩).size<=I2 l
 | [],gap,_=>by
  have e:(⟨#[]⟩:ByteArray).size=0:=rfl
  rw[D6,Kg,Jh,I2];simp[e]
 | [a],gap,h=>by
  have e:(⟨#[]⟩:ByteArray).size=0:=rfl
  have d:=Pc a
  simp only[D6,Kg,Jh,I2,List.getD_cons_zero,List.getD_cons_succ,List.getD_nil,e]
  omega
 | [a,b],gap,h=>by
  have e:(⟨#[]⟩:ByteArray).size=0:=rfl
  rw[Kt,Kt]at h
  have d:=Pc a
  have f:=Rh b (gap++⟨#[32,32]⟩) (by rw[U1];omega)
  simp only[D6,Kg,Jh,I2,List.getD_cons_zero,List.getD_cons_succ,List.getD_nil,e]
  omega
 | a::b::c::r,gap,h=>by
  rw[Kt,Kt,Kt]at h
  have d:=Pc a
  have f:=Rh b (gap++⟨#[32,32]⟩) (by rw[U1];omega)
  have g:=Rh c (gap++⟨#[32,32]⟩) (by rw[U1];omega)
  have i:=Zr c gap OC
  simp only[D6,Kg,Jh,I2,List.getD_cons_zero,List.getD_cons_succ]
  omega
end
theorem Qmu {l:List Nat} (h:l.length=3):∃ a b c,l=[a,b,c]:=by
 match l,h with
 | [a,b,c],_=>exact⟨a,b,c,rfl⟩
theorem So {ks:List Int} (h:D4 ks=true):ks.all Ah=true/\ks.length=1:=by
 match ks,h with
 | [a],hl=>exact⟨by simpa[D4]using hl,rfl⟩
theorem Qns {ks:List Int} (h:Fu ks=true):ks.all Ah=true/\ks.length=1:=by
 match ks,h with
 | [a],hl =>
  have:a=7:=by simpa[Fu]using hl
  subst this;exact⟨by decide,rfl⟩
theorem Qh1 {ks:List Int} (h:Ci ks=true):∃ a,ks=[a,21]/\Ah a=true:=by
 match ks,h with
 | [a,b],hl =>
  have:Ah a=true/\b=21:=by simpa[Ci]using hl
  obtain⟨c,rfl⟩:=this;exact⟨a,rfl,c⟩
theorem Qnv {ks:List Int} (h:Cd ks=true):∃ a,Ah a=true/\(ks=[a,21]\/ks=[a,21,21]\/ks=[a,21,12]):=by
 match ks,h with
 | [a,b],hl =>
  have:Ah a=true/\b=21:=by simpa[Cd]using hl
  obtain⟨d,rfl⟩:=this;exact⟨a,d,.inl rfl⟩
 | [a,b,c],hl =>
  have:(Ah a=true/\b=21)/\(c=21\/c=12):=by simpa[Cd]using hl
  obtain⟨⟨d,rfl⟩,f⟩:=this;rcases f with rfl|rfl
  ·exact⟨a,d,.inr (.inl rfl)⟩
  ·exact⟨a,d,.inr (.inr rfl)⟩
theorem Qkd (g:Nat) (ns:List Ae) (K:List (List Nat)) (ts:List Aa) (hL:K4 ns K ts) (hlen:ns.length<=12001) (htext:∀ d ∈ ns,d.text.size<=1048576) (hrowL:∀ k,(K.getD k []).length<=12001) :
  ∀ k (B:k < ns.length),Ss (Ad ts k)<=50000000 ->
   (Cv ns[k].kind=true->∀ a:ByteArray,a.size+2 * (Ad ts k).high<=400->Zq g ns K k a (On (Ad ts k) a)) /\
   (ns[k].kind=21->∀ a:ByteArray,a.size+2 * (Ad ts k).high<=402->a.size<=400->Wj g ns K k a (O2 (Ad ts k) a)):=by
 intro k;induction k using Nat.strongRecOn with
 | _ k ih =>
  intro B hw;obtain⟨S,q2,A,q4⟩:=hL.2.2 k B;have n:∀ c ∈ K.getD k [],c < ns.length:=fun c i=>Nat.lt_trans (S c i) B
  have q:=htext _ (List.getElem_mem B);rw[q2,Ss]at hw;have F:∀ c (i:c ∈ K.getD k []),Ss (Ad ts c)<=50000000:=fun c i=>by
   have:=Rj (List.mem_map.2 ⟨c,i,rfl⟩:Ad ts c ∈ (K.getD k []).map (Ad ts));omega
  have J:∀ c (i:c ∈ K.getD k []),(Ad ts c).high+1<=Aa.highs ((K.getD k []).map (Ad ts)):=fun c i=>Mi _ _ (List.mem_map.2 ⟨c,i,rfl⟩)
  have H:∀ c (i:c ∈ K.getD k []),Ah (Ad ts c).nd.kind=true->Ct g ns K c (Fa (Ad ts c)):=fun c i z =>
   Qj1 g ns K ts hL hlen htext c (n c i) (by rw[<- Ie hL c (n c i)];exact z) (F c i)
  have y:∀ c (i:c ∈ K.getD k []),(Fa (Ad ts c)).size<=100000000:=fun c i=>by
   have:=Pc (Ad ts c);have:=F c i;omega
  rw[q2,Aa.high];constructor
  ·intro hS a L;have Q:∀ c (i:c ∈ K.getD k []),(Ad ts c).nd.kind=21->Hid (∀ w1:World,A6 w1 g ns K->Calls prog 49 #[.pointer (some (OK g 0)),.int .i64 (c:Int),.string (a++⟨#[32,32]⟩)] w1 fun e w'=>e = .returned (.string (O2 (Ad ts c) (a++⟨#[32,32]⟩)))/\Below w1.heap.size w1 w'):=fun c i N=>by
    have T:=J c i;exact(ih c (S c i) (n c i) (F c i)).2 (by rw[<- Ie hL c (n c i)];exact N) _ (by rw[U1];omega) (by rw[U1];omega)
   have G:∀ c (i:c ∈ K.getD k []),(O2 (Ad ts c) (a++⟨#[32,32]⟩)).size<=100000000:=fun c i=>by
    have T:=J c i;have:=Rh (Ad ts c) (a++⟨#[32,32]⟩) (by rw[U1];omega);have:=F c i;omega
   have o:a.size<=400:=OC;intro w D;rw[On];have v:D6 ((K.getD k []).map (Ad ts))=(K.getD k []).map (fun c=>Fa (Ad ts c)):=(by rw[Ri,List.map_map];rfl);have X:((K.getD k []).map (Ad ts)).map (fun t=>t.nd.kind)=(K.getD k []).map (fun x=>(Ad ts x).nd.kind):=(by rw[List.map_map];rfl);rw[X];have U:ns[k].kind=10\/ns[k].kind=11\/ns[k].kind=12\/ns[k].kind=13\/ns[k].kind=14\/ns[k].kind=15\/ns[k].kind=16\/ns[k].kind=17\/ns[k].kind=18\/ns[k].kind=19\/ns[k].kind=20:=(by simp[Cv]at hS;omega);rcases U with h|h|h|h|h|h|h|h|h|h|h
   ·have p:=So (ks:=(K.getD k []).map (fun x=>(Ad ts x).nd.kind)) (by rw[h]at A;simpa[Ac]using A);rw[List.length_map]at p;obtain⟨c,i⟩:=Sn p.2;have l:c ∈ K.getD k []:=(by rw[i];simp);have u:Ah (Ad ts c).nd.kind=true:=List.all_eq_true.1 p.1 _ (List.mem_map.2 ⟨c,l,rfl⟩);have z:(D6 ((K.getD k []).map (Ad ts))).getD 0 ⟨#[]⟩=Fa (Ad ts c):=(by rw[v,i];rfl);rw[Dq,if_pos h,z];exact Qnz g ns K k B hlen hL.2.1 _ rfl h q a o c _ (y c l) (H c l u) i w D
   ·have p:=So (ks:=(K.getD k []).map (fun x=>(Ad ts x).nd.kind)) (by rw[h]at A;simpa[Ac]using A);rw[List.length_map]at p;obtain⟨c,i⟩:=Sn p.2;have l:c ∈ K.getD k []:=(by rw[i];simp);have u:Ah (Ad ts c).nd.kind=true:=List.all_eq_true.1 p.1 _ (List.mem_map.2 ⟨c,l,rfl⟩);have z:(D6 ((K.getD k []).map (Ad ts))).getD 0 ⟨#[]⟩=Fa (Ad ts c):=(by rw[v,i];rfl);rw[Dq,if_neg OC,if_pos h,z];exact Qn1 g ns K k B hlen hL.2.1 _ rfl h q a o c _ (y c l) (H c l u) i w D
   ·have p:=Qnv (ks:=(K.getD k []).map (fun x=>(Ad ts x).nd.kind)) (by rw[h]at A;simpa[Ac]using A);obtain⟨ka,I,m⟩:=p;have C:(K.getD k []).length=((K.getD k []).map (fun x=>(Ad ts x).nd.kind)).length:=OF;rcases m with m|m|m
    ·rw[m]at C;obtain⟨c,b,i⟩:=Qhz C;have l:c ∈ K.getD k []:=(by rw[i];simp);have s:b ∈ K.getD k []:=(by rw[i];simp);rw[i]at m;simp only[List.map_cons,List.map_nil,List.cons.injEq,and_true]at m;have z:(D6 ((K.getD k []).map (Ad ts))).getD 0 ⟨#[]⟩=Fa (Ad ts c):=(by rw[v,i];rfl);have E:(Kg ((K.getD k []).map (Ad ts)) (a++⟨#[32,32]⟩)).getD 1 ⟨#[]⟩=O2 (Ad ts b) (a++⟨#[32,32]⟩):=(by rw[Pb,i];rfl);rw[Dq,if_neg OC,if_neg OC,if_pos h,if_pos (by rw[i];simp),z,E];exact Qny g ns K k B hlen hL.2.1 _ rfl h q a o c _ (y c l) (H c l (by rw[m.1];exact I)) b _ (G b s) (Q b s m.2) i w D
    ·rw[m]at C;obtain⟨c,b,f,i⟩:=Qmu C;have l:c ∈ K.getD k []:=(by rw[i];simp);have s:b ∈ K.getD k []:=(by rw[i];simp);have r:f ∈ K.getD k []:=(by rw[i];simp);rw[i]at m;simp only[List.map_cons,List.map_nil,List.cons.injEq,and_true]at m;have z:(D6 ((K.getD k []).map (Ad ts))).getD 0 ⟨#[]⟩=Fa (Ad ts c):=(by rw[v,i];rfl);have E:(Kg ((K.getD k []).map (Ad ts)) (a++⟨#[32,32]⟩)).getD 1 ⟨#[]⟩=O2 (Ad ts b) (a++⟨#[32,32]⟩):=(by rw[Pb,i];rfl);have V:(Kg ((K.getD k []).map (Ad ts)) (a++⟨#[32,32]⟩)).getD 2 ⟨#[]⟩=O2 (Ad ts f) (a++⟨#[32,32]⟩):=(by rw[Pb,i];rfl);have O:((K.getD k []).map (fun x=>(Ad ts x).nd.kind)).getD 2 0=21:=(by rw[i];exact m.2.2);rw[Dq,if_neg OC,if_neg OC,if_pos h,if_neg (by rw[i];simp),if_neg (by rw[O];decide),z,E,V];exact Qh0 g ns K k B hlen hL.2.1 _ rfl h q a o c _ (y c l) (H c l (by rw[m.1];exact I)) b _ (G b s) (Q b s m.2.1) f (n f r) _ (G f r) (Q f r m.2.2) i (by rw[<- Ie hL f (n f r),m.2.2];decide) w D
    ·rw[m]at C;obtain⟨c,b,f,i⟩:=Qmu C;have l:c ∈ K.getD k []:=(by rw[i];simp);have s:b ∈ K.getD k []:=(by rw[i];simp);have r:f ∈ K.getD k []:=(by rw[i];simp);rw[i]at m;simp only[List.map_cons,List.map_nil,List.cons.injEq,and_true]at m;have z:(D6 ((K.getD k []).map (Ad ts))).getD 0 ⟨#[]⟩=Fa (Ad ts c):=(by rw[v,i];rfl);have E:(Kg ((K.getD k []).map (Ad ts)) (a++⟨#[32,32]⟩)).getD 1 ⟨#[]⟩=O2 (Ad ts b) (a++⟨#[32,32]⟩):=(by rw[Pb,i];rfl);have Y:(Jh ((K.getD k []).map (Ad ts)) a).getD 2 ⟨#[]⟩=On (Ad ts f) a:=(by rw[Zt,i];rfl);have O:((K.getD k []).map (fun x=>(Ad ts x).nd.kind)).getD 2 0=12:=(by rw[i];exact m.2.2);have M:(ns[f]'(n f r)).kind=12:=(by rw[<- Ie hL f (n f r)];exact m.2.2);have T:=J f r;have hz:(On (Ad ts f) a).size<=100000000:=by
      have:=Zr (Ad ts f) a OC;have:=F f r;omega
     rw[Dq,if_neg OC,if_neg OC,if_pos h,if_neg (by rw[i];simp),if_pos O,z,E,Y];exact Ql8 g ns K k B hlen hL.2.1 _ rfl h q a o c _ (y c l) (H c l (by rw[m.1];exact I)) b _ (G b s) (Q b s m.2.1) f _ (n f r) hz ((ih f (S f r) (n f r) (F f r)).1 (by rw[M];decide) a OC) i M w D
   ·have p:=Qh1 (ks:=(K.getD k []).map (fun x=>(Ad ts x).nd.kind)) (by rw[h]at A;simpa[Ac]using A);obtain⟨ka,m,I⟩:=p;have C:(K.getD k []).length=((K.getD k []).map (fun x=>(Ad ts x).nd.kind)).length:=OF;rw[m]at C;obtain⟨c,b,i⟩:=Qhz C;have l:c ∈ K.getD k []:=(by rw[i];simp);have s:b ∈ K.getD k []:=(by rw[i];simp);rw[i]at m;simp only[List.map_cons,List.map_nil,List.cons.injEq,and_true]at m;have z:(D6 ((K.getD k []).map (Ad ts))).getD 0 ⟨#[]⟩=Fa (Ad ts c):=(by rw[v,i];rfl);have E:(Kg ((K.getD k []).map (Ad ts)) (a++⟨#[32,32]⟩)).getD 1 ⟨#[]⟩=O2 (Ad ts b) (a++⟨#[32,32]⟩):=(by rw[Pb,i];rfl);rw[Dq,if_neg OC,if_neg OC,if_neg OC,if_pos h,z,E];exact Qkb g ns K k B hlen hL.2.1 _ rfl h q a o c _ (y c l) (H c l (by rw[m.1];exact I)) b _ (G b s) (Q b s m.2) i w D
   ·rw[Dq,if_neg OC,if_neg OC,if_neg OC,if_neg OC,if_pos h];exact Qka g ns K k B hlen hL.2.1 _ rfl h q a o w D
   ·rw[Dq,if_neg OC,if_neg OC,if_neg OC,if_neg OC,if_neg OC,if_pos h];exact Qde g ns K k B hlen hL.2.1 _ rfl h q a o w D
   ·have p:((K.getD k []).map (fun x=>(Ad ts x).nd.kind)).length<=1/\((K.getD k []).map (fun x=>(Ad ts x).nd.kind)).all Ah=true:=by
     rw[h]at A;have:decide (((K.getD k []).map (fun x=>(Ad ts x).nd.kind)).length<=1) && ((K.getD k []).map (fun x=>(Ad ts x).nd.kind)).all Ah:=(by simpa[Ac]using A);simpa only[Bool.and_eq_true,decide_eq_true_eq]using this
    by_cases h0:(K.getD k []).length=0
    ·have i:K.getD k []=[]:=List.eq_nil_of_length_eq_zero h0;rw[Dq,if_neg OC,if_neg OC,if_neg OC,if_neg OC,if_neg OC,if_neg OC,if_pos h,if_pos (by rw[i];rfl)];exact Ql9 g ns K k B hlen hL.2.1 _ rfl h q a o i w D
    ·have W:=p.1;rw[List.length_map]at W;obtain⟨c,i⟩:=Sn (show (K.getD k []).length=1 by omega);have l:c ∈ K.getD k []:=(by rw[i];simp);have u:Ah (Ad ts c).nd.kind=true:=List.all_eq_true.1 p.2 _ (List.mem_map.2 ⟨c,l,rfl⟩);have z:(D6 ((K.getD k []).map (Ad ts))).getD 0 ⟨#[]⟩=Fa (Ad ts c):=(by rw[v,i];rfl);rw[Dq,if_neg OC,if_neg OC,if_neg OC,if_neg OC,if_neg OC,if_neg OC,if_pos h,if_neg (by rw[List.length_map];exact h0),z];exact Qma g ns K k B hlen hL.2.1 _ rfl h q a o c _ (y c l) (H c l u) i w D
   ·have p:=So (ks:=(K.getD k []).map (fun x=>(Ad ts x).nd.kind)) (by rw[h]at A;simpa[Ac]using A);rw[List.length_map]at p;obtain⟨c,i⟩:=Sn p.2;have l:c ∈ K.getD k []:=(by rw[i];simp);have u:Ah (Ad ts c).nd.kind=true:=List.all_eq_true.1 p.1 _ (List.mem_map.2 ⟨c,l,rfl⟩);have z:(D6 ((K.getD k []).map (Ad ts))).getD 0 ⟨#[]⟩=Fa (Ad ts c):=(by rw[v,i];rfl);rw[Dq,if_neg OC,if_neg OC,if_neg OC,if_neg OC,if_neg OC,if_neg OC,if_neg OC,if_pos h,z];exact Ql7 g ns K k B hlen hL.2.1 _ rfl h q a o c _ (y c l) (H c l u) i w D
   ·have p:((K.getD k []).map (fun x=>(Ad ts x).nd.kind)).length=2/\((K.getD k []).map (fun x=>(Ad ts x).nd.kind)).all Ah=true:=by
     rw[h]at A;have:decide (((K.getD k []).map (fun x=>(Ad ts x).nd.kind)).length=2) && ((K.getD k []).map (fun x=>(Ad ts x).nd.kind)).all Ah:=(by simpa[Ac]using A);simpa only[Bool.and_eq_true,decide_eq_true_eq]using this
    have R:=Ob ((K.getD k []).map (Ad ts));rw[Dq,if_neg OC,if_neg OC,if_neg OC,if_neg OC,if_neg OC,if_neg OC,if_neg OC,if_neg OC,if_pos h];rw[v]at R |-
    exact Qkc g ns K k B hlen hL.2.1 _ rfl h q a o _ OF (hrowL k) OC (fun j hj hj'=>by simp only[List.getElem_map];exact H _ (List.getElem_mem hj) (List.all_eq_true.1 p.2 _ (List.mem_map.2 ⟨_,List.getElem_mem hj,rfl⟩))) w D
   ·have p:=So (ks:=(K.getD k []).map (fun x=>(Ad ts x).nd.kind)) (by rw[h]at A;simpa[Ac]using A);rw[List.length_map]at p;obtain⟨c,i⟩:=Sn p.2;have l:c ∈ K.getD k []:=(by rw[i];simp);have u:Ah (Ad ts c).nd.kind=true:=List.all_eq_true.1 p.1 _ (List.mem_map.2 ⟨c,l,rfl⟩);have z:(D6 ((K.getD k []).map (Ad ts))).getD 0 ⟨#[]⟩=Fa (Ad ts c):=(by rw[v,i];rfl);rw[Dq,if_neg OC,if_neg OC,if_neg OC,if_neg OC,if_neg OC,if_neg OC,if_neg OC,if_neg OC,if_neg OC,if_pos h,z];exact Qn0 g ns K k B hlen hL.2.1 _ rfl h q a o c _ (y c l) (H c l u) i w D
   ·have p:=Qns (ks:=(K.getD k []).map (fun x=>(Ad ts x).nd.kind)) (by rw[h]at A;simpa[Ac]using A);rw[List.length_map]at p;obtain⟨c,i⟩:=Sn p.2;have l:c ∈ K.getD k []:=(by rw[i];simp);have u:Ah (Ad ts c).nd.kind=true:=List.all_eq_true.1 p.1 _ (List.mem_map.2 ⟨c,l,rfl⟩);have z:(D6 ((K.getD k []).map (Ad ts))).getD 0 ⟨#[]⟩=Fa (Ad ts c):=(by rw[v,i];rfl);rw[Dq,if_neg OC,if_neg OC,if_neg OC,if_neg OC,if_neg OC,if_neg OC,if_neg OC,if_neg OC,if_neg OC,if_neg OC,z];exact Qpl g ns K k B hlen hL.2.1 _ rfl h q a o c _ (y c l) (H c l u) i w D
  ·intro N a L o;have p:((K.getD k []).map (fun x=>(Ad ts x).nd.kind)).all Cv=true:=(by rw[N]at A;simpa[Ac]using A);have Z:Jh ((K.getD k []).map (Ad ts)) a=(K.getD k []).map (fun c=>On (Ad ts c) a):=(by rw[Zt,List.map_map];rfl);have aa:=Wk ((K.getD k []).map (Ad ts)) a L;intro w D;rw[O2];rw[Z]at aa |-
   exact Qht g ns K k B hL.2.1 hlen a o _ OF (hrowL k) OC (fun j hj hj'=>by
    simp only[List.getElem_map]
    have P:=List.getElem_mem hj
    have T:=J _ P
    exact(ih _ (S _ P) (n _ P) (F _ P)).1 (by rw[<- Ie hL _ (n _ P)];exact List.all_eq_true.1 p _ (List.mem_map.2 ⟨_,P,rfl⟩)) a OC) w D
def O5 : Ae:=⟨0,0,0,0,⟨#[]⟩,0⟩
def U2 (j:Nat) (out:ByteArray) (d:Ae):ByteArray:=(if j=0 then out else out++⟨#[44,32]⟩)++d.text++⟨#[32]⟩++Ag d.type
def Hf (out:ByteArray) (l:List Ae):Nat->ByteArray
 | 0=>out
 | j+1=>U2 j (Hf out l j) (l.getD j O5)
def Oc (d:Ae) (l:List Ae):ByteArray :=
 if d.type=0 then Hf (⟨#[102,110,32]⟩++d.text++⟨#[40]⟩) l l.length++⟨#[41,32]⟩
 else Hf (⟨#[102,110,32]⟩++d.text++⟨#[40]⟩) l l.length++⟨#[41,32]⟩++⟨#[45,62,32]⟩++Ag d.type++⟨#[32]⟩
def Mu (d:Ae) (l:List Ae) (b:ByteArray):ByteArray:=Oc d l++⟨#[123,10]⟩++b++⟨#[125,10]⟩
theorem Q3 (out:ByteArray) (l:List Ae) (ht:∀ d ∈ l,d.text.size<=1048576):∀ j,(Hf out l j).size<=out.size+j * 1048590
 | 0=>by simp[Hf]
 | j+1=>by
  have h:=Q3 out l ht j
  have f:(l.getD j O5).text.size<=1048576:=by
   by_cases hj:j < l.length
   ·rw[List.getD_eq_getElem?_getD,List.getElem?_eq_getElem hj];exact ht _ (List.getElem_mem hj)
   ·rw[List.getD_eq_getElem?_getD,List.getElem?_eq_none OC];decide
  have c:=Du (l.getD j O5).type;have a:(⟨#[44,32]⟩:ByteArray).size=2:=rfl;have b:(⟨#[32]⟩:ByteArray).size=1:=rfl;rw[Hf,U2];split <;> simp only[ByteArray.size_append] <;> omega
theorem Qj9 {P:Program} {f:FuncId} {args:Array Value} {w:World} {n:Nat} {v:Value}
  (h:Calls P f args (w.drewN n) fun e w'=>e = .returned v/\w.drewN n=w'):Calls P f args (w.drewN n) fun e w''=>e = .returned v/\∃ m,w''=w.drewN m :=
 h.mono fun _ _ ⟨he,hm⟩=>⟨he,n,hm.symm⟩
theorem Qnu (g:Nat) (ns:List Ae) (K:List (List Nat)) (k:Nat) (hlt:k < ns.length) (_hlen:ns.length<=12001) (hrows:K.length=ns.length) (d:Ae) (hnd:ns[k]=d) (htext:d.text.size<=1048576) (ps:List Nat) (b:Nat) (y:ByteArray) (hys:y.size<=100000000)
  (hrow:K.getD k []=ps++[b]) (hps:ps.length<=8) (l:List Ae) (hl:l.length=ps.length) (hlt0:∀ x ∈ l,x.text.size<=1048576) (HL:Hid (∀ j (h:j < ps.length),∃ h2:ps[j] < ns.length,ns[ps[j]]=l.getD j O5))
  (Hy:Hid (Wj g ns K b ⟨#[32,32]⟩ y)) (w:World) (HP:Hid (A6 w g ns K)) :
  Calls prog 20 #[.pointer (some (OK g 0)),.int .i64 (k:Int)] w fun e w'=>e = .returned (.string (Mu d l y))/\Below w.heap.size w w':=by
 obtain⟨X,cn,W,ck,v,⟨Z,u,M⟩,p0,p1,⟨n0,n1,n2,n3,n4,n5⟩,O,n⟩:=B9 HP.out k hlt hrows;have ap:∀ ob:Obj,(w.alloc ob).cell? (OK g 1)=_:=fun ob=>((OP w ob).cell (p:=(OK g 1)) Z).trans p1
 have C:∀ ob:Obj,(w.alloc ob).cell? (OK W k)=_:=fun ob=>((OP w ob).cell (p:=(OK W k)) M).trans O
 rw[hnd]at n0 n1 n2 n3 n4 n5;clear hnd;rw[hrow]at n;obtain⟨ua,uc,rfl,F⟩:=n;have L:ps.length < (ps++[b]).length:=by simp
 obtain⟨J,rfl,z,P⟩:=F ps.length L;simp only[List.getElem_append_right (Nat.le_refl ps.length),Nat.sub_self,List.getElem_cons_zero]at P;have HJ:Hid (∀ j (h:j < ps.length),w.cell? (OK J j)=some (.int .i64 (ps[j]:Int))):=fun j h=>by
  obtain⟨ad,he,_,Y⟩:=F j OH;cases he
  rw[List.getElem_append_left h]at Y;exact Y
 clear F;have f:(ps++[b]).length=ps.length+1:=by simp
 rw[f]at O;simp only[f]at C;obtain⟨m,H⟩:∃ m,Hid (ps.length=m):=⟨_,(rfl:ps.length=_)⟩;rw[H.out]at O P hps hl;simp only[H.out]at C;have ak:IntKind.i64.wrap ((m:Int)+1)=(m:Int)+1:=wrap_small _ OC OC;have al:IntKind.i64.wrap ((m:Int)+1 - 1)=(m:Int):=by rw[wrap_small _ OC OC];omega
 have ag:¬ (9223372036854775807 < 3+d.text.size):=OC
 have ah:¬ (9223372036854775807 < 3+d.text.size+1):=OC
 have ai:¬ (9223372036854775806 < 3+d.text.size):=OC
 go_enter func20,ntmps20;go_wp2;obtain⟨o,E⟩:∃ o:ByteArray,Hid ((⟨#[102,110,32]⟩++d.text++⟨#[40]⟩:ByteArray)=o):=⟨_,rfl⟩;have ae:o.size<=1048580:=by
  rw[<- E.out,ByteArray.size_append,ByteArray.size_append];have e1:(⟨#[102,110,32]⟩:ByteArray).size=3:=rfl;have e2:(⟨#[40]⟩:ByteArray).size=1:=rfl;omega
 rw[E.out];have c:=Below.refl (w.heap.size+1) (w.alloc (.cells #[.int .i64 d.kind,.int .i64 d.op,.int .i64 d.type,.int .i64 d.n,.string d.text,.int .i64 d.kids] 62));go_loopw [8,9] (fun ov i wr => ∃ (j:Nat) (x:ByteArray),i = .int .i64 (j:Int)/\j<=m/\ov = .string x/\x=Hf o l j/\Below (w.heap.size+1) (w.alloc (.cells #[.int .i64 d.kind,.int .i64 d.op,.int .i64 d.type,.int .i64 d.n,.string d.text,.int .i64 d.kids] 62)) wr) (fun _ i _=>m - (intOf i).toNat);case atStart=>exact⟨0,o,rfl,by omega,rfl,rfl,by first|exact c|exact c.drew|exact La _ c⟩
 case round =>
  obtain⟨j,x,rfl,F,rfl,D,a⟩:=hrel;obtain⟨c0,c1,c2,c3,c4,c5⟩:=Fo a;have am:x.size<=10000000:=by
   have:=Q3 o l hlt0 j;rw[D];have:j * 1048590<=8 * 1048590:=Nat.mul_le_mul_right _ OC;omega
  have pc:=((Bc a).cell (p:=(OK g 0)) Z).trans p0;by_cases hjm:j < m
  ·have B:j < ps.length:=(by rw[H.out];exact hjm);obtain⟨hq,N⟩:=HL.out j B;have rj:=((Bc a).cell (p:=(OK J j)) z).trans (HJ.out j B);obtain⟨ac,ab,_,_,_,_,q0,_,⟨m0,m1,m2,m3,m4,m5⟩,_⟩:=B9 HP.out ps[j] hq hrows;rw[p0]at q0;cases q0
   rw[N]at m2 m4;have hT:(l.getD j O5).text.size<=1048576:=by
    rw[List.getD_eq_getElem?_getD,List.getElem?_eq_getElem OC];exact hlt0 _ (List.getElem_mem OC)
   have Q:Hid (U2 j x (l.getD j O5)=Hf o l (j+1)):=(by rw[Hid,D,Hf]);generalize l.getD j O5=e at *;generalize ps[j]=q at *;have an:=((Bc a).cell (p:=(OK X (q * 6+2))) u).trans m2;have ao:=((Bc a).cell (p:=(OK X (q * 6+4))) u).trans m4;have zt:=Du e.type;have aa:(j:Int) < (m:Int)+1:=OC;clear D;by_cases hj0:j=0
   ·subst hj0;have R:¬ (9223372036854775807 < x.size+e.text.size):=OC;have S:¬ (9223372036854775806 < x.size+e.text.size):=OC;have T:¬ (9223372036854775807 < x.size+e.text.size+1):=OC;have U:¬ (9223372036854775807 < x.size+e.text.size+1+(Ag e.type).size):=OC;go_wp2_with fail;go_quiet (first|(go_at_call 48;refine Qj9 (l1TypeWord_any _ _)));go_wp2;go_roundw;case rel=>exact⟨0+1,_,by go_num,by omega,rfl,Q.out,La _ a⟩
    case measure=>simp[intOf];omega
   ·have I:Hid (x++⟨#[44,32]⟩++e.text++⟨#[32]⟩++Ag e.type=Hf o l (j+1)):=by
     have:=Q.out;rw[U2,if_neg hj0]at this;exact this
    have af:0 < j:=OC;have b1:¬ (9223372036854775805 < x.size):=OC;have b2:¬ (9223372036854775807 < x.size+2):=OC;have R:¬ (9223372036854775807 < x.size+2+e.text.size):=OC;have S:¬ (9223372036854775806 < x.size+2+e.text.size):=OC;have T:¬ (9223372036854775807 < x.size+2+e.text.size+1):=OC;have U:¬ (9223372036854775807 < x.size+2+e.text.size+1+(Ag e.type).size):=OC;go_wp2_with fail;go_quiet (first|(go_at_call 48;refine Qj9 (l1TypeWord_any _ _)));go_wp2;go_roundw;case rel=>exact⟨j+1,_,by go_num,by omega,rfl,I.out,La _ a⟩
    case measure=>simp[intOf];omega
  ·have A:j=m:=OC;subst A;have t:Hid (x=Hf o l l.length):=(by rw[Hid,D,hl]);clear D;have aq:=((Bc a).cell (p:=(OK J j)) z).trans P;have zt:=Du d.type;have b1:¬ (9223372036854775805 < x.size):=OC;have b2:¬ (9223372036854775807 < x.size+2):=OC;by_cases ht0:d.type=0
   ·have G:Hid (x++⟨#[41,32]⟩++⟨#[123,10]⟩++y++⟨#[125,10]⟩=Mu d l y):=by
     rw[Hid,Mu,Oc,if_pos ht0,E.out,<- t.out]
    rw[ht0]at c2;have R:¬ (9223372036854775805 < x.size+2):=OC;have S:¬ (9223372036854775807 < x.size+2+2):=OC;have T:¬ (9223372036854775807 < x.size+2+2+y.size):=OC;have U:¬ (9223372036854775805 < x.size+2+2+y.size):=OC;have a5:¬ (9223372036854775807 < x.size+2+2+y.size+2):=OC;go_wp2_with (first
     | (go_at_call 49;refine(Hy.out _ (HP.out.below (Bc a))).mono ?_;rintro V w1 ⟨rfl,r⟩;have s:=Ga a r))
    go_ret;exact⟨by rw[<- G.out];rfl,Bc s⟩
   ·have aj:(d.type != 0)=true:=(by simpa using ht0);have G:Hid (x++⟨#[41,32]⟩++⟨#[45,62,32]⟩++Ag d.type++⟨#[32]⟩++⟨#[123,10]⟩++y++⟨#[125,10]⟩=Mu d l y):=by
     rw[Hid,Mu,Oc,if_neg ht0,E.out,<- t.out]
    go_wp2_with (first
     | (go_at_call 48;refine(l1TypeWord_any _ _).mono ?_;rintro V w2 ⟨rfl,rfl⟩)
     | (go_at_call 49;refine(Hy.out _ (HP.out.below (Bc a))).mono ?_;rintro V w1 ⟨rfl,r⟩;have s:=Ga a r))
    go_ret;exact⟨by rw[<- G.out];rfl,Bc s⟩
def Mz : Aa->ByteArray
 | .node d ks=>Mu d (ks.dropLast.map Aa.nd) (O2 (ks.getLast?.getD Uw) ⟨#[32,32]⟩)
def Ej (t:Aa):List UInt8:=t.kids.flatMap (fun f=>(Mz f).data.toList)
def Qhs (g:Nat) (ns:List Ae) (K:List (List Nat)) (k:Nat) (x:ByteArray):Prop :=
 ∀ w:World,A6 w g ns K->Calls prog 20 #[.pointer (some (OK g 0)),.int .i64 (k:Int)] w fun e w'=>e = .returned (.string x)/\Below w.heap.size w w'
theorem Qnt {ks:List Int} (h:Ea ks=true):∃ r:List Int,ks=r++[21]/\r.length<=8:=by
 unfold Ea at h;split at h
 ·cases h
 ·rename_i a hl
  simp only[Bool.and_eq_true,beq_iff_eq,decide_eq_true_eq]at h;obtain⟨⟨rfl,f⟩,_⟩:=h;have b:ks≠[]:=by intro d;rw[d]at hl;cases hl
  have e:=List.dropLast_concat_getLast b;have c:ks.getLast b=21:=by rw[List.getLast?_eq_some_getLast b]at hl;exact Option.some.inj hl
  refine⟨ks.dropLast,by rw[<- c];exact e.symm,by rw[List.length_dropLast];omega⟩
theorem Ql6 {l:List Nat} {n:Nat} (h:l.length=n+1):∃ r b,l=r++[b]/\r.length=n:=by
 have a:l≠[]:=by intro c;rw[c]at h;simp at h
 exact⟨l.dropLast,l.getLast a,(List.dropLast_concat_getLast a).symm,by rw[List.length_dropLast];omega⟩
theorem Qj5 (d:Ae) (l:List Ae) (y:ByteArray) (h1:d.text.size<=1048576) (h2:∀ x ∈ l,x.text.size<=1048576) (h3:l.length<=8) (h4:y.size<=50000000):(Mu d l y).size<=70000000:=by
 have a:=Q3 (⟨#[102,110,32]⟩++d.text++⟨#[40]⟩) l h2 l.length;have n:=Du d.type;have m:l.length * 1048590<=8 * 1048590:=Nat.mul_le_mul_right _ h3;have b:(⟨#[102,110,32]⟩:ByteArray).size=3:=rfl;have c:(⟨#[40]⟩:ByteArray).size=1:=rfl;have f:(⟨#[41,32]⟩:ByteArray).size=2:=rfl;have g:(⟨#[45,62,32]⟩:ByteArray).size=3:=rfl;have h:(⟨#[32]⟩:ByteArray).size=1:=rfl;have i:(⟨#[123,10]⟩:ByteArray).size=2:=rfl;have j:(⟨#[125,10]⟩:ByteArray).size=2:=rfl;have k:(Oc d l).size<=15000000:=by
  simp only[ByteArray.size_append]at a;unfold Oc;apply Md
  ·simp only[ByteArray.size_append];omega
  ·simp only[ByteArray.size_append];omega
 unfold Mu;simp only[ByteArray.size_append];omega
theorem Qpk (g:Nat) (ns:List Ae) (K:List (List Nat)) (ts:List Aa) (hL:K4 ns K ts) (hlen:ns.length<=12001) (htext:∀ d ∈ ns,d.text.size<=1048576) (hrowL:∀ k,(K.getD k []).length<=12001)
  (k:Nat) (hk:k < ns.length) (hw:Ss (Ad ts k)<=50000000) (h23:ns[k].kind=23) (hh:(Ad ts k).high<=60):Qhs g ns K k (Mz (Ad ts k))/\(Mz (Ad ts k)).size<=70000000:=by
 obtain⟨J,v,y,M⟩:=hL.2.2 k hk;have a:∀ c ∈ K.getD k [],c < ns.length:=fun c m=>Nat.lt_trans (J c m) hk
 have D:Ea ((K.getD k []).map (fun x=>(Ad ts x).nd.kind))=true:=by rw[h23]at y;simpa[Ac]using y
 obtain⟨r,u,G⟩:=Qnt D;have p:=congrArg List.length u;rw[List.length_map,List.length_append,List.length_singleton]at p;obtain⟨t,b,f,F⟩:=Ql6 p;have i:b ∈ K.getD k []:=by rw[f];simp
 rw[f,List.map_append,List.map_cons,List.map_nil]at u;have n:(Ad ts b).nd.kind=21:=by
  have:=List.append_inj_right' u OF;simpa using this
 rw[v,Ss]at hw;have H:=Rj (List.mem_map.2 ⟨b,i,rfl⟩:Ad ts b ∈ (K.getD k []).map (Ad ts));have E:=Mi _ _ (List.mem_map.2 ⟨b,i,rfl⟩:Ad ts b ∈ (K.getD k []).map (Ad ts));rw[v,Aa.high]at hh;have L:(⟨#[32,32]⟩:ByteArray).size=2:=rfl;have A:Wj g ns K b ⟨#[32,32]⟩ (O2 (Ad ts b) ⟨#[32,32]⟩):=(Qkd g ns K ts hL hlen htext hrowL b (a b i) OC).2 (by rw[<- Ie hL b (a b i)];exact n) _ OC OC;have C:=Rh (Ad ts b) ⟨#[32,32]⟩ OC;have l:∀ j (h:j < t.length),t[j] ∈ K.getD k []:=fun j h=>by rw[f];exact List.mem_append_left _ (List.getElem_mem h)
 have z:Mz (Ad ts k)=Mu ns[k] (t.map (fun x=>(Ad ts x).nd)) (O2 (Ad ts b) ⟨#[32,32]⟩):=by
  rw[v,Mz,f,List.map_append,List.map_cons,List.map_nil,List.dropLast_concat,List.map_map];simp;rfl
 have q:∀ c (m:c < ns.length),(Ad ts c).nd=ns[c]:=fun c m=>by rw[(hL.2.2 c m).2.1];rfl
 have s:∀ x ∈ t.map (fun x=>(Ad ts x).nd),x.text.size<=1048576:=by
  intro x I;obtain⟨c,m,rfl⟩:=List.mem_map.1 I;obtain⟨j,o,rfl⟩:=List.getElem_of_mem m;rw[q _ (a _ (l j o))];exact htext _ (List.getElem_mem _)
 rw[z];refine⟨?_,Qj5 _ _ _ (htext _ (List.getElem_mem hk)) s OH OC⟩
 ·intro w B;refine Qnu g ns K k hk hlen hL.2.1 _ rfl (htext _ (List.getElem_mem hk)) t b _ OC f OC _ OF s ?_ A w B;intro j o;refine⟨a _ (l j o), ?_⟩;rw[List.getD_eq_getElem?_getD,List.getElem?_map,List.getElem?_eq_getElem o];exact(q _ (a _ (l j o))).symm
theorem Zu : ∀ a b:List Aa,I2 (a++b)=I2 a+I2 b
 | [],b=>by rw[I2];simp
 | t::r,b=>by rw[List.cons_append,I2,I2,Zu r b];omega
def Qdd (ns:List Ae):Nat:=(ns.map (fun d=>3 * d.text.size+2000)).sum
theorem Qfy : ∀ (ns:List Ae) (st st':List Aa),Bu ns st=some st'->I2 st'=I2 st+Qdd ns
 | [],st,st',h=>by
  rw[Bu]at h
  cases h
  simp[Qdd]
 | d::r,st,st',h=>by
  rw[Bu]at h
  split at h
  ·have:=Qfy r _ st' h
   rw[this,Zu,I2,I2,Ss]
   have e:=Zu (st.take (st.length - d.kids.toNat)) (st.drop (st.length - d.kids.toNat))
   rw[List.take_append_drop]at e
   simp only[Qdd,List.map_cons,List.sum_cons]
   omega
  ·cases h
def X9 (ns:List Ae):Nat:=(ns.map (fun d=>d.text.size)).sum
theorem Qj7 : ∀ ns:List Ae,Qdd ns=3 * X9 ns+2000 * ns.length
 | []=>by simp[Qdd,X9]
 | d::r=>by
  have:=Qj7 r
  simp only[Qdd,X9,List.map_cons,List.sum_cons,List.length_cons]at this |-
  omega
theorem S6 (N:Nat):∀ (cs:List Int) (i:Nat) (opn:List Nat) (out K:List (List Nat)) (o:List Nat),opn.length<=i->(∀ r ∈ out,r.length<=N)->i+cs.length<=N->Cq cs i opn out=some (K,o)->∀ r ∈ K,r.length<=N
 | [],i,opn,out,K,o,_,h2,_,h=>by
  simp only[Cq,Option.some.injEq,Prod.mk.injEq]at h
  rw[<- h.1];exact h2
 | c::cs,i,opn,out,K,o,h1,h2,h3,h=>by
  rw[Cq]at h
  split at h
  ·rename_i hc
   simp only[List.length_cons]at h3
   refine S6 N cs (i+1) _ _ K o ?_ ?_ OC h
   ·simp;omega
   ·intro r a
    rcases List.mem_append.1 a with a|a
    ·exact h2 r a
    ·rw[List.mem_singleton]at a
     subst a
     simp;omega
  ·cases h
theorem Ui (ns:List Ae) (h:Dl ns=true):∃ K o t ts,Eb ns=some (K,o)/\o.length=1/\Bu ns []=some [t]/\K4 ns K ts/\1<=ns.length/\ns.length<=12001/\Ad ts (ns.length - 1)=t/\t.nd.kind=24/\t.high<=60/\Ss t=Qdd ns/\(∀ k,(K.getD k []).length<=12001):=by
 have s:=h;rw[Im]at s;simp only[Bj,Bool.and_eq_true,decide_eq_true_eq]at s;obtain⟨v,a⟩:=s;split at a
 ·rename_i t b
  simp only[Bool.and_eq_true,beq_iff_eq,decide_eq_true_eq]at a;have i:1<=ns.length:=by
   cases ns with
   | nil=>rw[Bu]at b;cases b
   | cons d r=>simp
  have m:Eb ns=Cq (ns.map (·.kids)) 0 [] []:=by rw[Eb,if_pos ⟨i,v⟩]
  rcases Pk ns ns 0 [] [] [] OF rfl OF OF (by intro t b;cases b) with⟨K,o,ts,f,g,A,_,_,_,_,x⟩|⟨f,_⟩
  ·simp only[List.nil_append,List.map_nil]at f g;rw[b]at f;obtain⟨u,y,l⟩:=Qce ns K o t g b;obtain⟨q,n⟩:=x (by intro z;rw[z]at i;simp at i);have j:o.length=1:=by
    have:=congrArg List.length l;simpa using this
   have p:q=[]:=by
    rw[n]at j;simp at j;exact j
   rw[p]at n;have c:o=[ns.length - 1]:=(by simpa using n);refine⟨K,o,t,u,by rw[m];exact g,j,b,y,i,v, ?_,a.1,a.2, ?_, ?_⟩
   ·rw[c]at l;simpa using l
   ·have:=Qfy ns [] [t] b;simpa[I2]using this
   ·intro k;by_cases hk:k < K.length
    ·rw[List.getD_eq_getElem?_getD,List.getElem?_eq_getElem hk];exact S6 12001 (ns.map (·.kids)) 0 [] [] K o OF OF OH g _ (List.getElem_mem hk)
    ·rw[List.getD_eq_getElem?_getD,List.getElem?_eq_none OC];simp
  ·simp only[List.map_nil]at f;rw[b]at f;cases f
 ·cases a
end Go.Proofs.YtjlaedokfbcbpaaGreatDoor
