import Derived.Test.YtjlaedokfbcbpaaGreatDoorKScanK
set_option maxRecDepth 100000
set_option maxHeartbeats 1000000
namespace Go.Proofs.YtjlaedokfbcbpaaGreatDoor
open Go.RowKit Proofs.Tryz
theorem Az.alloc {P:Nat->Prop} {w:World} {d:Ae} {us:List Value} {x:Value} (h:Az P w d us x) (hP:∀ g,P g->g < w.heap.size) (o:Obj):Az P (w.alloc o) d us x :=
 h.below (fun _ h=>h) (fun g hg=>Below.heap_alloc w o g (hP g hg))
theorem Qeg {P:Nat->Prop} {w:World} (hP:∀ g,P g->g < w.heap.size) (o:Obj):∀ g,P g->g < (w.alloc o).heap.size:=fun g h=>by have:=hP g h;rw[World.size_alloc];omega
theorem usesAll_any (d:Ae) (P:Nat->Prop) (us:List Value) (ks:List Int) (v:Value) (w:World) (hP:∀ g,P g->g < w.heap.size) (hk:Aq us ks) (hl:23<=d.kind->us.length<=100000) (h:H7 P w d us v) :
  Calls prog 34 #[Af d,v] w fun e w'=>e = .returned (.bool (H4 d (Ay d us.length)))/\Below w.heap.size w w':=by
 obtain⟨m,n,X,rfl,p⟩:=h;obtain⟨f,q,i,b⟩:=Zg d P us ks X (w.alloc (.cells #[.int .i64 d.kind,.int .i64 d.op,.int .i64 d.type,.int .i64 d.n,.string d.text,.int .i64 d.kids] 62)) (Qeg hP _) hk hl m n (p.alloc hP _);clear p hk hP hl;generalize A9 d.kind=T at q |-
 obtain⟨c,o,t,y,x,k⟩:=d;obtain⟨D,l⟩:∃ D,Hid (Ay ⟨c,o,t,y,x,k⟩ us.length=D):=⟨_,(rfl:Ay _ _=_)⟩;rw[l.out];obtain⟨u,H,K,M,L,G⟩:=D;simp only[Af];go_enter func34,ntmps34;go_wp2_with (refine b.mono ?_;rintro e s ⟨S,rfl,a,h⟩;obtain⟨I,J,rfl,_⟩:=h;rw[l.out];simp only[Af];rw[World.size_alloc]at a;obtain⟨z,A,B,C,E,F⟩:=Hv a;have j:=a.size;rw[World.size_alloc]at j;have r:w.heap.size < s.heap.size:=OC);all_goals go_ret
 all_goals refine⟨Al ?_,(No a).alloc OC _⟩
 all_goals go_light
 all_goals clear a b q i m n
 all_goals simp_all [H4]
end Go.Proofs.YtjlaedokfbcbpaaGreatDoor
namespace Go.Proofs.YtjlaedokfbcbpaaGreatDoor
open Proofs.Tryz
open Go.RowKit Go.Maps Go.WideMaps
def Do (d:Ae) (st:List Aa):Bool:=decide (0<=d.kids) && decide (d.kids<=st.length) && Au d && Ac d.kind d.op ((st.drop (st.length - d.kids.toNat)).map (fun t=>t.nd.kind)) && H4 d (Ay d d.kids.toNat)
def Bu : List Ae->List Aa->Option (List Aa)
 | [],st=>some st
 | d::r,st=>if Do d st=true then Bu r (st.take (st.length - d.kids.toNat)++[.node d (st.drop (st.length - d.kids.toNat))]) else none
def Bj (ns:List Ae):Bool:=decide (ns.length<=12001) && (match Bu ns [] with|some [t]=>(t.nd.kind == 24) && decide (t.high<=60)|_=>false)
theorem usesAll_is (b:Bool) (d:Ae) (P:Nat->Prop) (us:List Value) (ks:List Int) (m:Nat) (hm:us.length=m) (hb:Hid (H4 d (Ay d m)=b)) (v:Value) (w:World) (hP:∀ g,P g->g < w.heap.size) (hk:Aq us ks) (hl:23<=d.kind->us.length<=100000) (hS:H7 P w d us v) :
  Calls prog 34 #[Af d,v] w fun e w'=>e = .returned (.bool b)/\Below w.heap.size w w':=by
 rw[<- hb.out,<- hm];exact usesAll_any d P us ks v w hP hk hl hS
theorem R3 {P:Nat->Prop} {w:World} {d:Ae} {us:List Value} {ks:List Int} {v:Value} (hk:Aq us ks) (h:H7 P w d us v):1<=d.kind/\d.kind<=24/\∃ x,v = .iface (A9 d.kind) x/\M6 d.kind x:=by
 obtain⟨j,k,X,n,b⟩:=h;refine⟨j,k,X,n,fun h => ?_,fun h => ?_,fun h => ?_,fun h => ?_⟩
 ·unfold Az at b;simp (decide:=true) only[h,if_false,if_true]at b;obtain⟨S,⟨a,c,f,_⟩,g⟩:=b;exact⟨a,_,c,by rw[g,f]⟩
 ·unfold Az at b;simp (decide:=true) only[h,if_false,if_true]at b;obtain⟨S,⟨a,c,f,_⟩,g⟩:=b;exact⟨_,a,_,c,by rw[g,f]⟩
 ·unfold Az at b;simp (decide:=true) only[h,if_false,if_true]at b;exact⟨_,_,b.2⟩
 ·unfold Az at b;simp (decide:=true) only[h,if_false,if_true]at b;obtain⟨o,s,i,m,⟨a,c,f,_⟩,g⟩:=b;obtain⟨p,r,q,l⟩:=Hu hk o.length i (by rw[m];simp);exact⟨_,_,a,_,c,p,r,q,by rw[g,f,l]⟩
theorem Aq.drop {us:List Value} {ks:List Int} (h:Aq us ks) (m:Nat):Aq (us.drop m) (ks.drop m):=by
 refine⟨by rw[List.length_drop,List.length_drop,h.1],fun i hi => ?_⟩;have a:m+i < ks.length:=by rw[List.length_drop]at hi;omega
 obtain⟨b,c,x,d,f⟩:=h.2 (m+i) a;rw[List.getElem_drop];exact⟨b,c,x,by rw[List.getElem?_drop];exact d,f⟩
theorem Aq.take {us:List Value} {ks:List Int} (h:Aq us ks) (m:Nat):Aq (us.take m) (ks.take m):=by
 refine⟨by rw[List.length_take,List.length_take,h.1],fun i hi => ?_⟩;have a:i < ks.length:=by rw[List.length_take]at hi;omega
 have b:i < m:=by rw[List.length_take]at hi;omega
 obtain⟨c,d,x,f,g⟩:=h.2 i a;rw[List.getElem_take];exact⟨c,d,x,by rw[List.getElem?_take,if_pos b];exact f,g⟩
theorem Aq.snoc {us:List Value} {ks:List Int} (h:Aq us ks) {k:Int} {x:Value} (h1:1<=k) (h2:k<=24) (hf:M6 k x):Aq (us++[.iface (A9 k) x]) (ks++[k]):=by
 refine⟨by simp[h.1],fun i hi => ?_⟩;by_cases hi2:i < ks.length
 ·obtain⟨b,c,g,d,f⟩:=h.2 i hi2;rw[List.getElem_append_left hi2];exact⟨b,c,g,by rw[List.getElem?_append_left (by rw[h.1];exact hi2)];exact d,f⟩
 ·have a:i=ks.length:=by simp at hi;omega
  subst a;rw[List.getElem_append_right ON];simp only[Nat.sub_self,List.getElem_cons_zero];exact⟨h1,h2,x,by rw[List.getElem?_append_right (by rw[h.1];exact ON),h.1];simp,hf⟩
theorem Aq.one {us:List Value} {ks:List Int} (h:Aq us ks):∀ u ∈ us,u.oneCell'=true:=by
 intro u b;obtain⟨i,a⟩:=List.mem_iff_getElem?.1 b;obtain⟨k,y,_,_,_,rfl,_⟩:=B7 h i u a;rfl
theorem An.app {P:Nat->Prop} {w:World}:∀ (a b:List Aa) (us vs:List Value),An P w a us->An P w b vs->An P w (a++b) (us++vs)
 | [],b,us,vs,h,h2=>by rw[An]at h;subst h;exact h2
 | t::r,b,us,vs,h,h2=>by
  rw[An]at h
  obtain⟨u,c,rfl,d,f⟩:=h
  rw[List.cons_append,List.cons_append,An]
  exact⟨u,c++vs,rfl,d,An.app r b c vs f h2⟩
theorem An.cut {P:Nat->Prop} {w:World}:∀ (m:Nat) (a:List Aa) (us:List Value),An P w a us->An P w (a.take m) (us.take m)/\An P w (a.drop m) (us.drop m)
 | 0,a,us,h=>by
  refine⟨?_,by simpa using h⟩
  simp only[List.take_zero];rw[An]
 | m+1,[],us,h=>by
  rw[An]at h;subst h
  simp only[List.take_nil,List.drop_nil]
  constructor <;> rw[An]
 | m+1,t::r,us,h=>by
  rw[An]at h
  obtain⟨u,b,rfl,c,d⟩:=h
  obtain⟨f,g⟩:=An.cut m r b d
  simp only[List.take_succ_cons,List.drop_succ_cons]
  exact⟨by rw[An];exact⟨u,b.take m,rfl,c,f⟩,g⟩
open Go.RowKit
theorem Qi3 (kd ko:Int) (ks:List Int) (h:Ac kd ko ks=true):1<=kd/\kd<=24:=by
 by_cases h1:1<=kd/\kd<=24
 ·exact h1
 ·have a:∀ m:Int,1<=m->m<=24->kd≠m:=fun m h3 h4=>OC
  have:Ac kd ko ks=false:=by simp[Ac,a]
  rw[this]at h;cases h
def Uw : Aa:=.node ⟨0,0,0,0,⟨#[]⟩,0⟩ []
def Ad (ts:List Aa) (k:Nat):Aa:=ts.getD k Uw
theorem Nr (ts us:List Aa) (k:Nat) (h:k < ts.length):Ad (ts++us) k=Ad ts k:=by
 simp[Ad,List.getElem?_append_left h]
theorem Q2 (ts us:List Aa) (ks:List Nat) (h:∀ x ∈ ks,x < ts.length):ks.map (Ad (ts++us))=ks.map (Ad ts) :=
 List.map_congr_left (fun x hx=>Nr ts us x (h x hx))
theorem Mi (a:List Aa) (t:Aa) (h:t ∈ a):t.high+1<=Aa.highs a:=by
 induction a with
 | nil=>cases h
 | cons u r ih =>
  simp only[Aa.highs];rcases List.mem_cons.1 h with rfl|h
  ·omega
  ·have:=ih h;omega
theorem Y9 (hs ks:List Nat) (k:Nat):Cg hs (k::ks)=max (hs.getD k 0+1) (Cg hs ks):=by
 have:∀ (ks:List Nat) (a:Nat),ks.foldl (fun h k=>max h (hs.getD k 0+1)) a=max a (ks.foldl (fun h k=>max h (hs.getD k 0+1)) 0):=by
  intro ks;induction ks with
  | nil=>intro a;simp
  | cons x r ih=>intro a;simp only[List.foldl_cons];rw[ih (max a _),ih (max 0 _)];omega
 unfold Cg;simp only[List.foldl_cons];rw[this];omega
theorem Qa3 (ts:List Aa) (ks:List Nat) (h:∀ x ∈ ks,x < ts.length):Cg (ts.map Aa.high) ks=Aa.highs (ks.map (Ad ts)):=by
 induction ks with
 | nil=>rfl
 | cons k r ih =>
  have a:=h k OF;rw[Y9,ih (fun x hx=>h x (by simp[hx]))];simp only[List.map_cons,Aa.highs];congr 2;simp[Ad,a]
theorem S7 : ∀ (cs:List Int) (i:Nat) (opn:List Nat) (out K:List (List Nat)) (o:List Nat),Cq cs i opn out=some (K,o)->∃ q,K=out++q
 | [],i,opn,out,K,o,h=>by
  simp only[Cq,Option.some.injEq,Prod.mk.injEq]at h
  exact⟨[],by simp[h.1]⟩
 | c::r,i,opn,out,K,o,h=>by
  rw[Cq]at h
  split at h
  ·obtain⟨q,a⟩:=S7 r _ _ _ K o h
   exact⟨_::q,by rw[a,List.append_assoc];rfl⟩
  ·cases h
theorem Qco (d:Ae) (opn:List Nat) (ns:List Ae) (ts:List Aa) (i h:Nat) (hd:ns[i]? = some d) (h0:0<=d.kids/\d.kids<=opn.length) (hk:∀ x ∈ opn,Es ns x=(Ad ts x).nd.kind) :
  It ns i h (opn.drop (opn.length - d.kids.toNat))=(decide (h<=60) && Do d (opn.map (Ad ts))):=by
 have a:Df ns (opn.drop (opn.length - d.kids.toNat))=((opn.map (Ad ts)).drop ((opn.map (Ad ts)).length - d.kids.toNat)).map (fun t=>t.nd.kind):=by
  rw[List.length_map,<- List.map_drop,List.map_map];exact List.map_congr_left (fun x hx=>hk x (List.mem_of_mem_drop hx))
 unfold It Do;rw[hd];simp only;rw[a,List.length_map];simp only[h0.1,h0.2,decide_true,Bool.true_and];cases hf:Ac d.kind d.op ((List.drop (opn.length - d.kids.toNat) (List.map (Ad ts) opn)).map (fun t=>t.nd.kind)) with
 | false=>simp
 | true =>
  obtain⟨b,c⟩:=Qi3 _ _ _ hf;rw[Qcb d d.kids.toNat b c OC];simp only[Bool.and_true]
def Rx (ts:List Aa) (opn:List Nat):Prop := ∀ t ∈ ts,∃ s ∈ opn.map (Ad ts),t.high<=s.high
theorem Qbf (ts:List Aa) (opn:List Nat) (d:Ae) (p:Nat) (hx:∀ x ∈ opn,x < ts.length) (h:Rx ts opn) :
  Rx (ts++[.node d ((opn.drop p).map (Ad ts))]) (opn.take p++[ts.length]):=by
 intro t c;rw[List.map_append,Q2 _ _ _ (fun x hx'=>hx x (List.mem_of_mem_take hx'))];have a:[ts.length].map (Ad (ts++[.node d ((opn.drop p).map (Ad ts))]))=[.node d ((opn.drop p).map (Ad ts))]:=by simp[Ad]
 rw[a];rcases List.mem_append.1 c with c|c
 ·obtain⟨s,b,f⟩:=h t c;rw[<- List.take_append_drop p opn,List.map_append]at b;rcases List.mem_append.1 b with b|b
  ·exact⟨s,List.mem_append.2 (.inl b),f⟩
  ·refine⟨_,List.mem_append.2 (.inr (List.mem_singleton.2 rfl)), ?_⟩;have:=Mi _ _ b;rw[Aa.high];omega
 ·rw[List.mem_singleton]at c;exact⟨t,List.mem_append.2 (.inr (by rw[c];exact List.mem_singleton.2 rfl)),Nat.le_refl _⟩
theorem Pk (ns:List Ae):∀ (r:List Ae) (i:Nat) (opn:List Nat) (out:List (List Nat)) (ts:List Aa),ns.drop i=r->ts.length=i->(∀ x ∈ opn,x < i)->(∀ x,x < i->Es ns x=(Ad ts x).nd.kind)->Rx ts opn ->
  (∃ b a f,Bu r (opn.map (Ad ts))=some (a.map (Ad (ts++f)))/\Cq (r.map (·.kids)) i opn out=some (out++b,a)/\f.length=r.length/\Dy ns b i (ts.map Aa.high)=f.all (fun t=>decide (t.high<=60))/\Rx (ts++f) a/\(∀ x,x < i+r.length->Es ns x=(Ad (ts++f) x).nd.kind)/\(r=[]->a=opn)/\(r≠[]->∃ q,a=q++[i+r.length - 1]))
  \/ (Bu r (opn.map (Ad ts))=none/\∀ K o,Cq (r.map (·.kids)) i opn out=some (K,o)->∃ b,K=out++b/\Dy ns b i (ts.map Aa.high)=false)
 | [],i,opn,out,ts,_,h1,h2,h3,h4=>by
  refine .inl ⟨[],opn,[],by simp[Bu],by simp[Cq],rfl,rfl,by simpa using h4,by simpa using h3,fun _=>rfl,fun h=>absurd rfl h⟩
 | d::r,i,opn,out,ts,h0,h1,h2,h3,h4=>by
  have v:ns[i]? = some d:=by
   have:=congrArg (fun l=>l[0]?) h0;simpa using this
  have H:ns.drop (i+1)=r:=by
   rw[<- List.drop_drop,h0];rfl
  rw[List.map_cons,Cq,Bu];by_cases hk:0<=d.kids/\d.kids<=opn.length
  ·rw[if_pos hk];have j:=fun h=>Qco d opn ns ts i h v hk (fun x c=>h3 x (h2 x c))
   have u:(opn.map (Ad ts)).take ((opn.map (Ad ts)).length - d.kids.toNat)++[.node d ((opn.map (Ad ts)).drop ((opn.map (Ad ts)).length - d.kids.toNat))]=(opn.take (opn.length - d.kids.toNat)++[i]).map (Ad (ts++[.node d ((opn.drop (opn.length - d.kids.toNat)).map (Ad ts))])):=by
    rw[List.map_append,Q2 _ _ _ (fun x c=>by rw[h1];exact h2 x (List.mem_of_mem_take c)),List.length_map,List.map_take,List.map_drop];congr 1;simp[Ad,<- h1]
   rw[u];generalize hp:opn.length - d.kids.toNat=p at *;have E:Cg (ts.map Aa.high) (opn.drop p)=Aa.high (.node d ((opn.drop p).map (Ad ts))):=by
    rw[Qa3 ts _ (fun x c=>by rw[h1];exact h2 x (List.mem_of_mem_drop c)),Aa.high]
   have F:(Aa.node d ((opn.drop p).map (Ad ts))).nd=d:=rfl;have G:=Qbf ts opn d p (fun x c=>by rw[h1];exact h2 x c) h4;generalize hTT:Aa.node d ((opn.drop p).map (Ad ts))=T at *;have g:∀ q,Dy ns (opn.drop p::q) i (ts.map Aa.high)=((decide (T.high<=60) && Do d (opn.map (Ad ts))) && Dy ns q (i+1) ((ts++[T]).map Aa.high)):=by
    intro q;rw[Dy,j,E,List.map_append];rfl
   have n:∀ x,x < i+1->Es ns x=(Ad (ts++[T]) x).nd.kind:=by
    intro x c;by_cases hxi:x < i
    ·rw[Nr _ _ _ OC];exact h3 x hxi
    ·have:x=i:=OC;subst this;have:Ad (ts++[T]) x=T:=(by simp[Ad,<- h1]);rw[this,F,Es,v];rfl
   cases hs:Do d (opn.map (Ad ts)) with
   | false =>
    refine .inr ⟨by simp,fun K o hK => ?_⟩;obtain⟨q,rfl⟩:=S7 _ _ _ _ _ _ hK;refine⟨opn.drop p::q,by simp, ?_⟩;rw[g,hs];simp
   | true =>
    rw[if_pos rfl];have J:=Pk ns r (i+1) (opn.take p++[i]) (out++[opn.drop p]) (ts++[T]) H (by simp[h1]) (by
     intro x c
     rcases List.mem_append.1 c with c|c
     ·have:=h2 x (List.mem_of_mem_take c);omega
     ·rw[List.mem_singleton]at c;omega) n (by rw[<- h1];exact G)
    rcases J with⟨b,a,f,k,m,y,z,A,B,C,D⟩|⟨k,m⟩
    ·refine .inl ⟨opn.drop p::b,a,T::f,by rw[k];simp,by rw[m];simp,by simp[y], ?_,by simpa using A, ?_,fun h=>by simp at h,fun _ => ?_⟩
     ·rw[g,hs,z];simp
     ·intro x c;have:=B x (by simp only[List.length_cons]at c;omega);simpa using this
     ·by_cases hr0:r=[]
      ·subst hr0;rw[C rfl];exact⟨opn.take p,by simp⟩
      ·obtain⟨q,s⟩:=D hr0;exact⟨q,by rw[s];simp only[List.length_cons];congr 2;omega⟩
    ·refine .inr ⟨k,fun K o hK => ?_⟩;obtain⟨q,s,I⟩:=m K o hK;refine⟨opn.drop p::q,by rw[s];simp, ?_⟩;rw[g,I];simp
  ·rw[if_neg hk];refine .inr ⟨?_,fun K o hK=>by cases hK⟩;have:Do d (opn.map (Ad ts))=false:=by
    unfold Do;rw[List.length_map];by_cases ha:0<=d.kids
    ·have:¬ d.kids<=opn.length:=fun hb=>hk ⟨ha,hb⟩
     simp[this]
    ·simp[ha]
   rw[this];simp
theorem Im (ns:List Ae):Dl ns=Bj ns:=by
 unfold Dl Bj Eb;by_cases hl:1<=ns.length/\ns.length<=12001
 ·rw[if_pos hl];have h:=Pk ns ns 0 [] [] [] rfl rfl OF OF (by intro t n;cases n);simp only[List.map_nil,List.nil_append,Nat.zero_add]at h;rcases h with⟨u,d,f,k,l,D,v,x,y,_,z⟩|⟨k,l⟩
  ·rw[k,l];simp only[hl.2,decide_true,Bool.true_and];obtain⟨q,m⟩:=z (by intro h;rw[h]at hl;simp at hl);rw[v];by_cases hq0:q=[]
   ·subst hq0;simp only[List.nil_append]at m;subst m;have g:=y (ns.length - 1) OC;simp only[List.length_singleton,decide_true,Bool.true_and,List.map_cons,List.map_nil];rw[g,Bool.and_comm];congr 1;have j:Ad f (ns.length - 1) ∈ f:=by
     have:ns.length - 1 < f.length:=OC;simp[Ad,this]
    rw[Bool.eq_iff_iff];simp only[List.all_eq_true,decide_eq_true_eq];constructor
    ·intro h;exact h _ j
    ·intro h t n;obtain⟨s,p,B⟩:=x t n;simp only[List.map_cons,List.map_nil,List.mem_singleton]at p;subst p;omega
   ·have i:d.length≠1:=by
     rw[m];cases q with
     | nil=>exact absurd rfl hq0
     | cons a b=>simp
    have A:decide (d.length=1)=false:=(by simp[i]);simp only[A,Bool.false_and];cases hm:d.map (Ad f) with
    | nil=>rfl
    | cons a b =>
     cases b with
     | nil =>
      have:=congrArg List.length hm;simp at this;omega
     | cons c e=>rfl
  ·rw[k];cases hK:Cq (ns.map (·.kids)) 0 [] [] with
   | none=>simp
   | some r =>
    obtain⟨K,o⟩:=r;obtain⟨q,rfl,C⟩:=l K o hK;simp[C]
 ·rw[if_neg hl];by_cases h0:ns.length=0
  ·have:ns=[]:=List.length_eq_zero_iff.1 h0;subst this;simp[Bu]
  ·have:¬ ns.length<=12001:=fun h=>hl ⟨by omega,h⟩
   simp[this]
end Go.Proofs.YtjlaedokfbcbpaaGreatDoor
namespace Go.Proofs.YtjlaedokfbcbpaaGreatDoor
open Proofs.Tryz
def K4 (ns:List Ae) (K:List (List Nat)) (ts:List Aa):Prop :=
 ts.length=ns.length/\K.length=ns.length/\∀ i (h:i < ns.length),(∀ x ∈ K.getD i [],x < i)/\Ad ts i = .node ns[i] ((K.getD i []).map (Ad ts))/\Ac ns[i].kind ns[i].op ((K.getD i []).map (fun x=>(Ad ts x).nd.kind))=true/\Au ns[i]=true
theorem T3 (ns:List Ae):∀ (r:List Ae) (i:Nat) (opn:List Nat) (out:List (List Nat)) (ts:List Aa) (K:List (List Nat)) (o:List Nat) (st:List Aa),
  ns.drop i=r->ts.length=i->out.length=i->i+r.length=ns.length->(∀ x ∈ opn,x < i) ->
  (∀ j (_hj:j < i) (h:j < ns.length),(∀ x ∈ out.getD j [],x < j)/\Ad ts j = .node ns[j] ((out.getD j []).map (Ad ts))/\Ac ns[j].kind ns[j].op ((out.getD j []).map (fun x=>(Ad ts x).nd.kind))=true/\Au ns[j]=true) ->
  Cq (r.map (·.kids)) i opn out=some (K,o)->Bu r (opn.map (Ad ts))=some st ->
  ∃ ts',K4 ns K ts'/\st=o.map (Ad ts')
 | [],i,opn,out,ts,K,o,st,_,h1,h2,h3,h4,h5,hk,hg=>by
  simp only[List.map_nil,Cq,Option.some.injEq,Prod.mk.injEq]at hk
  obtain⟨rfl,rfl⟩:=hk
  rw[Bu]at hg
  simp only[List.length_nil,Nat.add_zero]at h3
  refine⟨ts,⟨by omega,by omega,fun j u=>h5 j OC u⟩, ?_⟩
  simpa using hg.symm
 | d::r,i,opn,out,ts,K,o,st,h0,h1,h2,h3,h4,h5,hk,hg=>by
  have t:ns[i]? = some d:=by
   have:=congrArg (fun l=>l[0]?) h0;simpa using this
  have v:ns.drop (i+1)=r:=by
   rw[<- List.drop_drop,h0];rfl
  simp only[List.length_cons]at h3;have n:i < ns.length:=OC
  have k:ns[i]=d:=by rw[List.getElem?_eq_getElem n]at t;exact Option.some.inj t
  rw[List.map_cons,Cq]at hk;rw[Bu]at hg;by_cases hkk:0<=d.kids/\d.kids<=opn.length
  ·rw[if_pos hkk]at hk;split at hg
   ·rename_i hok
    have b:(opn.map (Ad ts)).length=opn.length:=List.length_map ..;rw[b]at hg;simp only[Do,b,Bool.and_eq_true]at hok;generalize hp:opn.length - d.kids.toNat=p at *;let nt:Aa:=.node d ((opn.drop p).map (Ad ts))
    have g:∀ l:List Nat,(∀ x ∈ l,x < i)->l.map (Ad (ts++[nt]))=l.map (Ad ts):=fun l hl=>Q2 ts [nt] l (fun x a=>by have:=hl x a;omega)
    have m:∀ l:List Nat,(∀ x ∈ l,x < i)->l.map (fun x=>(Ad (ts++[nt]) x).nd.kind)=l.map (fun x=>(Ad ts x).nd.kind):=fun l hl=>List.map_congr_left (fun x a=>by rw[Nr ts [nt] x (by have:=hl x a;omega)])
    have c:Ad (ts++[nt]) i=nt:=(by simp[Ad,<- h1]);refine T3 ns r (i+1) (opn.take p++[i]) (out++[opn.drop p]) (ts++[nt]) K o st v (by simp[h1]) (by simp[h2]) OC ?_ ?_ hk ?_
    ·intro x a;rcases List.mem_append.1 a with a|a
     ·have:=h4 x (List.mem_of_mem_take a);omega
     ·rw[List.mem_singleton]at a;omega
    ·intro j u q;by_cases hji:j=i
     ·subst hji;have f:(out++[opn.drop p]).getD j []=opn.drop p:=(by simp[List.getD,<- h2]);rw[f,c];refine⟨fun x a=>h4 x (List.mem_of_mem_drop a), ?_, ?_, ?_⟩
      ·rw[g _ (fun x a=>h4 x (List.mem_of_mem_drop a)),k]
      ·rw[m _ (fun x a=>h4 x (List.mem_of_mem_drop a)),k];have:=hok.1.2;rw[<- List.map_drop,List.map_map]at this;exact this
      ·rw[k];exact hok.1.1.2
     ·have f:(out++[opn.drop p]).getD j []=out.getD j []:=(by simp[List.getD,List.getElem?_append_left (show j < out.length by omega)]);obtain⟨s,y,z,A⟩:=h5 j OC q;rw[f,Nr ts [nt] j OC,g _ (fun x a=>by have:=s x a;omega),m _ (fun x a=>by have:=s x a;omega)];exact⟨s,y,z,A⟩
    ·rw[List.map_append,g _ (fun x a=>h4 x (List.mem_of_mem_take a)),List.map_take];rw[<- List.map_drop]at hg;simp only[List.map_cons,List.map_nil,c];exact hg
   ·cases hg
  ·rw[if_neg hkk]at hk;cases hk
theorem Qce (ns:List Ae) (K:List (List Nat)) (o:List Nat) (t:Aa) (hk:Cq (ns.map (·.kids)) 0 [] []=some (K,o)) (hg:Bu ns []=some [t]) :
  ∃ ts,K4 ns K ts/\o.map (Ad ts)=[t]:=by
 obtain⟨ts,a,b⟩:=T3 ns ns 0 [] [] [] K o [t] OF rfl rfl OF OF (fun j hj=>OC) hk (by simpa using hg);exact⟨ts,a,b.symm⟩
open Go.RowKit
mutual
def Fa : Aa->ByteArray
 | .node d ks=>C2 d (ks.map (fun t=>t.nd.kind)) (D6 ks)
def D6 : List Aa->List ByteArray
 | []=>[]
 | t::r=>Fa t::D6 r
end
mutual
def Ss : Aa->Nat
 | .node d ks=>3 * d.text.size+2000+I2 ks
def I2 : List Aa->Nat
 | []=>0
 | t::r=>Ss t+I2 r
end
theorem Ri : ∀ l:List Aa,D6 l=l.map Fa
 | []=>by rw[D6];rfl
 | t::r=>by rw[D6,Ri r];rfl
theorem Qe5 (xs:List ByteArray):(xs.getD 0 ⟨#[]⟩).size+(xs.getD 1 ⟨#[]⟩).size<=Ek xs:=by
 have e:(⟨#[]⟩:ByteArray).size=0:=rfl;match xs with
 | []=>simp[e]
 | [a]=>simp[Ek,e]
 | a::b::r=>simp[Ek];omega
theorem Vs (s:ByteArray):(Hg s).size<=3 * s.size+2:=by
 have:=U3 s.data.toList;have e:s.data.toList.length=s.size:=by simp
 simp only[Hg,ByteArray.size,List.size_toArray,List.length_append,List.length_cons,List.length_nil]at this |-
 simp only[ByteArray.size]at e;omega
theorem P9 (x:ByteArray) (xs:List ByteArray):(Ec x xs).size<=x.size+2+Ek xs:=by
 have:=Ku xs;unfold Ec;rw[ByteArray.size_append,ByteArray.size_append,ByteArray.size_append];have a:(⟨#[40]⟩:ByteArray).size=1:=rfl;have b:(⟨#[41]⟩:ByteArray).size=1:=rfl;omega
theorem Qj4 (d:Ae) (kd:List Int) (xs:List ByteArray):(C2 d kd xs).size<=3 * d.text.size+30+Ek xs:=by
 have h:=O3 d.n;have i:=Du d.type;have j:=Ms d.op;have k:=Qa d.op;have l:=Om d.op;have m:=Qe5 xs;have n:=Mt (kd.getD 0 0) (xs.getD 0 ⟨#[]⟩);have o:=Mt (kd.getD 1 0) (xs.getD 1 ⟨#[]⟩);have p:=Vs d.text;have a:=P9 d.text xs;have b:=P9 (Av d.op) xs;have c3:=P9 (Ag d.type) xs;have c:(⟨#[32]⟩:ByteArray).size=1:=rfl;have f:(⟨#[116,114,117,101]⟩:ByteArray).size=4:=rfl;have g:(⟨#[102,97,108,115,101]⟩:ByteArray).size=5:=rfl;unfold C2;by_cases k1:d.kind=1
 ·rw[if_pos k1];split
  ·omega
  ·rw[ByteArray.size_append];omega
 ·rw[if_neg k1];by_cases k2:d.kind=2
  ·rw[if_pos k2];omega
  ·rw[if_neg k2];by_cases k3:d.kind=3
   ·rw[if_pos k3];split <;> omega
   ·rw[if_neg k3];by_cases k4:d.kind=4
    ·rw[if_pos k4];omega
    ·rw[if_neg k4];by_cases k5:d.kind=5
     ·rw[if_pos k5,ByteArray.size_append];omega
     ·rw[if_neg k5];by_cases k6:d.kind=6
      ·rw[if_pos k6,ByteArray.size_append,ByteArray.size_append,ByteArray.size_append,ByteArray.size_append];omega
      ·rw[if_neg k6];by_cases k7:d.kind=7
       ·rw[if_pos k7];omega
       ·rw[if_neg k7];by_cases k8:d.kind=8
        ·rw[if_pos k8];omega
        ·rw[if_neg k8];omega
mutual
theorem Pc : ∀ t:Aa,(Fa t).size+2<=Ss t
 | .node d ks=>by
  have a:=Qj4 d (ks.map (fun t=>t.nd.kind)) (D6 ks)
  have b:=Ob ks
  rw[Fa,Ss]
  omega
theorem Ob : ∀ l:List Aa,Ek (D6 l)<=I2 l
 | []=>by rw[D6,I2];simp[Ek]
 | t::r=>by
  have b:=Pc t
  have a:=Ob r
  rw[D6,I2]
  simp only[Ek,List.map_cons,List.sum_cons]at a |-
  omega
end
theorem Rj {t:Aa}:∀ {l:List Aa},t ∈ l->Ss t<=I2 l
 | [],h=>by cases h
 | u::r,h=>by
  rw[I2]
  rcases List.mem_cons.1 h with rfl|h
  ·omega
  ·have:=Rj h;omega
theorem Qdb {kind op:Int} {ks:List Int} (h:Ac kind op ks=true) (he:Ah kind=true):ks.all Ah=true/\ks.length<=8/\(kind=5\/kind=9->ks.length=1)/\(kind=6->ks.length=2):=by
 have i:kind=1\/kind=2\/kind=3\/kind=4\/kind=5\/kind=6\/kind=7\/kind=8\/kind=9:=by simp[Ah]at he;omega
 have c:∀ l:List Int,D4 l=true->l.all Ah=true/\l.length=1:=by
  intro l g;match l,g with
  | [a],g=>exact⟨by simpa[D4]using g,rfl⟩
 have j:Bv op<=3:=by
  unfold Bv;repeat (first|omega|(split;· omega))
 rcases i with rfl|rfl|rfl|rfl|rfl|rfl|rfl|rfl|rfl
 ·simp[Ac]at h;subst h;simp
 ·simp[Ac]at h;subst h;simp
 ·simp[Ac]at h;subst h;simp
 ·simp[Ac]at h;subst h;simp
 ·simp only[Ac]at h;obtain⟨d,f⟩:=c ks (by simpa using h);exact⟨d,by omega,fun _=>f,by omega⟩
 ·simp only[Ac]at h;have b:decide (ks.length=2) && ks.all Ah:=by simpa using h
  simp only[Bool.and_eq_true,decide_eq_true_eq]at b;exact⟨b.2,by omega,by omega,fun _=>b.1⟩
 ·simp only[Ac]at h;have b:decide (ks.length<=8) && ks.all Ah:=by simpa using h
  simp only[Bool.and_eq_true,decide_eq_true_eq]at b;exact⟨b.2,by omega,by omega,by omega⟩
 ·simp only[Ac]at h;have b:decide ((ks.length:Int)=Bv op) && ks.all Ah:=by simpa using h
  simp only[Bool.and_eq_true,decide_eq_true_eq]at b;exact⟨b.2,by omega,by omega,by omega⟩
 ·simp only[Ac]at h;obtain⟨d,f⟩:=c ks (by simpa using h);exact⟨d,by omega,fun _=>f,by omega⟩
theorem Ie {ns:List Ae} {K:List (List Nat)} {ts:List Aa} (hL:K4 ns K ts) (c:Nat) (hc:c < ns.length):(Ad ts c).nd.kind=ns[c].kind:=by
 rw[(hL.2.2 c hc).2.1];rfl
theorem Sn {l:List Nat} (h:l.length=1):∃ a,l=[a]:=by
 match l,h with
 | [a],_=>exact⟨a,rfl⟩
theorem Qhz {l:List Nat} (h:l.length=2):∃ a b,l=[a,b]:=by
 match l,h with
 | [a,b],_=>exact⟨a,b,rfl⟩
theorem Qj1 (g:Nat) (ns:List Ae) (K:List (List Nat)) (ts:List Aa) (hL:K4 ns K ts) (hlen:ns.length<=12001) (htext:∀ d ∈ ns,d.text.size<=1048576) :
    ∀ k (r:k < ns.length),Ah ns[k].kind=true->Ss (Ad ts k)<=50000000->Ct g ns K k (Fa (Ad ts k)):=by
  intro k;induction k using Nat.strongRecOn with
  | _ k ih =>
    intro r z H;obtain⟨A,B,J,C⟩:=hL.2.2 k r;have a:∀ c ∈ K.getD k [],c < ns.length:=fun c l=>Nat.lt_trans (A c l) r
    have q:=Qdb J z;simp only[List.length_map]at q;obtain⟨D,L,E,F⟩:=q;rw[B,Ss]at H;have i:∀ c (l:c ∈ K.getD k []),Ct g ns K c (Fa (Ad ts c))/\(Fa (Ad ts c)).size<=100000000:=fun c l=>by
      have I:Ss (Ad ts c)<=I2 ((K.getD k []).map (Ad ts)):=Rj (List.mem_map.2 ⟨c,l,rfl⟩);have M:=Pc (Ad ts c);refine⟨ih c (A c l) (a c l) ?_ OC,by omega⟩;rw[<- Ie hL c (a c l)];exact List.all_eq_true.1 D _ (List.mem_map.2 ⟨c,l,rfl⟩)
    have u:D6 ((K.getD k []).map (Ad ts))=(K.getD k []).map (fun c=>Fa (Ad ts c)):=(by rw[Ri,List.map_map];rfl);have m:Ke g ns K k ((K.getD k []).map (fun c=>Fa (Ad ts c))) :=
      { lt:=r,len:=hlen,rows:=hL.2.1,text:=htext _ (List.getElem_mem r),kidN:=by simp,kidL:=OC,kids:=a
        size:=by have:=Ob ((K.getD k []).map (Ad ts));rw[u]at this;omega
        each:=fun j h h'=>by simp only[List.getElem_map];exact(i _ (List.getElem_mem h)).1 }
    intro w n;rw[B,Fa,u];have G:ns[k].kind=1\/ns[k].kind=2\/ns[k].kind=3\/ns[k].kind=4\/ns[k].kind=5\/ns[k].kind=6\/ns[k].kind=7\/ns[k].kind=8\/ns[k].kind=9:=(by simp[Ah]at z;omega);rcases G with h|h|h|h|h|h|h|h|h
    · rw[C2,if_pos h];by_cases h10:ns[k].type=10
      · rw[if_pos h10];exact Qe4 g ns K k _ m _ rfl h h10 w n
      · rw[if_neg h10];exact Qj3 g ns K k _ m _ rfl h h10 w n
    · rw[C2,if_neg OC,if_pos h];exact Qhy g ns K k _ m _ rfl h w n
    · rw[C2,if_neg OC,if_neg OC,if_pos h];by_cases h1:ns[k].n=1
      · rw[if_pos h1];exact Qe2 g ns K k _ m _ rfl h h1 w n
      · rw[if_neg h1];exact Qe1 g ns K k _ m _ rfl h h1 w n
    · rw[C2,if_neg OC,if_neg OC,if_neg OC,if_pos h];exact Qhx g ns K k _ m _ rfl h w n
    · rw[C2,if_neg OC,if_neg OC,if_neg OC,if_neg OC,if_pos h];obtain⟨c,l⟩:=Sn (E (.inl h));have f:c ∈ K.getD k []:=(by rw[l];simp);have v:((K.getD k []).map (fun c=>Fa (Ad ts c))).getD 0 ⟨#[]⟩=Fa (Ad ts c):=(by rw[l];rfl);have p:(((K.getD k []).map (Ad ts)).map (fun t=>t.nd.kind)).getD 0 0=(ns[c]'(a c f)).kind:=(by rw[l];exact Ie hL c (a c f));rw[v,p];exact Ql4 g ns K k _ m _ rfl h c _ (a c f) (i c f).2 (i c f).1 l w n
    · rw[C2,if_neg OC,if_neg OC,if_neg OC,if_neg OC,if_neg OC,if_pos h];obtain⟨c,b,l⟩:=Qhz (F h);have f:c ∈ K.getD k []:=(by rw[l];simp);have o:b ∈ K.getD k []:=(by rw[l];simp);have v:((K.getD k []).map (fun c=>Fa (Ad ts c))).getD 0 ⟨#[]⟩=Fa (Ad ts c):=(by rw[l];rfl);have x:((K.getD k []).map (fun c=>Fa (Ad ts c))).getD 1 ⟨#[]⟩=Fa (Ad ts b):=(by rw[l];rfl);have p:(((K.getD k []).map (Ad ts)).map (fun t=>t.nd.kind)).getD 0 0=(ns[c]'(a c f)).kind:=(by rw[l];exact Ie hL c (a c f));have s:(((K.getD k []).map (Ad ts)).map (fun t=>t.nd.kind)).getD 1 0=(ns[b]'(a b o)).kind:=(by rw[l];exact Ie hL b (a b o));have y:1<=ns[k].op/\ns[k].op<=18:=by
        rw[Au,if_neg OC,if_neg OC,if_neg OC,if_neg OC,if_pos h]at C;simpa using C
      rw[v,p,x,s];exact Qj2 g ns K k _ m _ rfl h c _ (a c f) (i c f).2 (i c f).1 b _ (a b o) (i b o).2 (i b o).1 l y w n
    · rw[C2,if_neg OC,if_neg OC,if_neg OC,if_neg OC,if_neg OC,if_neg OC,if_pos h];exact Qhv g ns K k _ m _ rfl h w n
    · rw[C2,if_neg OC,if_neg OC,if_neg OC,if_neg OC,if_neg OC,if_neg OC,if_neg OC,if_pos h];exact Qe3 g ns K k _ m _ rfl h w n
    · rw[C2,if_neg OC,if_neg OC,if_neg OC,if_neg OC,if_neg OC,if_neg OC,if_neg OC,if_neg OC];exact Qhw g ns K k _ m _ rfl h w n
end Go.Proofs.YtjlaedokfbcbpaaGreatDoor
