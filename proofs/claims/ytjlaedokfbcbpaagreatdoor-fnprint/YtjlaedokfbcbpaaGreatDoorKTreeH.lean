import Derived.Test.YtjlaedokfbcbpaaGreatDoorKTreeC
import Derived.Deep.Onto
set_option maxRecDepth 100000
set_option maxHeartbeats 4000000
namespace Go.Proofs.YtjlaedokfbcbpaaGreatDoor
open Go.RowKit Proofs.Tryz
theorem DdTreeHx97 {P:Prop} (h:P:=by
 clear d A F x E G g3 H K I J
 obtain⟨gq,cq,hq,_⟩:=Oy z OC
 go_roundw
 case rel=>exact⟨i+1,b.take p++[i],l++[b.drop p],V++[.slice a1 0 c1],gq,cq,by omega,by go_num,by simp[Q];omega,by simp[av],by simpa[Q]using hq,by rw[Q0,show Bt [i]=[Value.int .i64 (i:Int)] from rfl];simpa[Q]using z,q.1,q.2.1,q.2.2,ad,HU.out⟩
 case measure=>simp[intOf];omega
 ):P:=h
theorem l2Kids_short (ns:List Ae) (v:Value) (w:World) (hN:Bz w v ns) (h1:1<=ns.length) (h2:ns.length<=12001) :
    Calls prog 17 #[.agg #[v]] w fun e w'=>U9 w (Eb ns) e w':=by
  obtain⟨i0,N,S,T,U⟩:=info_parts Tryz.infoInt;obtain⟨i1,ai,aj,ak,al⟩:=info_parts Tryz.infoInts;obtain⟨a,o,rfl,hc⟩:=hN;have HS:Hid (Eb ns=Cq (ns.map (·.kids)) 0 [] []):=by rw[Hid,Eb,if_pos ⟨h1,h2⟩]
  obtain⟨n,HN⟩:∃ n,Hid (ns.length=n):=⟨_,rfl⟩;rw[HN.out]at h1 h2;simp only[HN.out];have ag:∀ i (hi:i < n),∃ g,a=some (OK g 0)/\g < w.heap.size/\∀ j,j < 6->w.cell? (OK g (i * 6+j))=(By (ns[i]'(by rw[HN.out];exact hi)))[j]?:=fun i hi=>hc i (by rw[HN.out];exact hi)
  clear hc;have a6:(1:Int)<=(n:Int):=OC
  have a7:(n:Int)<=12001:=OC
  go_enter func17,ntmps17;go_wp2;go_loopw [5,6,7] (fun vo vp t wr => ∃ (i:Nat) (b:List Nat) (l:List (List Nat)) (V:List Value) (y C:Nat),i<=n/\t = .int .i64 (i:Int)/\b.length<=i/\l.length=i/\vp = .slice (some (OK y 0)) b.length C/\wr.ownsRow (w.heap.size+1) 3 1 vp b.length (Bt b)/\M7 wr (w.heap.size+1) vo l V/\Cn vo vp/\(∀ (j:Nat) u,V[j]? = some u->Cn u vp/\Cn u vo)/\Below (w.heap.size+1) (w.alloc (.cells #[.slice a n o] 25)) wr/\Cq ((ns.drop i).map (·.kids)) i b l=Eb ns) (fun _ _ t _=>n - (intOf t).toNat);case atStart =>
    have o1:=World.ownsRow_made (base:=w.heap.size+1) (e:=60) (size:=1) (w.alloc (.cells #[.slice a n o] 25)) #[] 0 OF OD rfl;have o2:=World.ownsRow_made (base:=w.heap.size+1) (e:=3) (size:=1) ((w.alloc (.cells #[.slice a n o] 25)).alloc (.cells #[] 60)) #[] 0 OF OD rfl;refine⟨0,[],[],[],w.heap.size+2,0,by omega,rfl,by simp,rfl,rfl,by simpa[Bt]using o2,⟨by simpa using o1.alloc _,fun i hi=>by simp at hi⟩, ?_, ?_,((OO _).alloc OF _).alloc OF _,by rw[HS.out];rfl⟩
    · intro g W h4;simp[Value.ownBlock]at W h4;omega
    · intro j u W;simp at W
  case round =>
    obtain⟨i,b,l,V,y,C,hi,rfl,a2,av,rfl,D,f,M,X,B,R⟩:=hrel;clear HS;by_cases hlt:i < n
    · obtain⟨g,rfl,hg,aa⟩:=ag i hlt;have az:i < ns.length:=(by rw[HN.out];exact hlt);rw[List.drop_eq_getElem_cons az,List.map_cons,Cq]at R;have ck:wr.cell? (OK g (i * 6+5))=some (.int .i64 ns[i].kids):=by
        rw[B.cell (p:=(OK g (i * 6+5))) OH,World.cell?_alloc_past _ _ _ hg,aa 5 OC];rfl
      have ct:wr.cell? (OK w.heap.size 0)=some (.slice (some (OK g 0)) n o):=by
        rw[B.cell (p:=(OK w.heap.size 0)) OF];simp[go_sem]
      clear ag aa;generalize ns[i].kids=k at *;by_cases hk:0<=k/\k<=b.length
      · rw[if_pos hk]at R;obtain⟨aq,ar⟩:=hk;obtain⟨m,rfl⟩:∃ m:Nat,k=(m:Int):=⟨k.toNat,by omega⟩;obtain⟨p,hp⟩:∃ p,b.length=p+m:=⟨b.length - m,by omega⟩;have au:b.length - (m:Int).toNat=p:=OC;rw[au]at R;have HU:Hid (Cq ((ns.drop (i+1)).map (·.kids)) (i+1) (b.take p++[i]) (l++[b.drop p])=Eb ns):=R;have ah:(Bt (b.drop p)).length=m * 1:=(by rw[Zf,List.length_drop];omega);have Q:(b.take p).length=p:=(by rw[List.length_take];omega);have r:wr.ownsRow (w.heap.size+1) 3 1 (.slice (some (OK y 0)) p C) p (Bt (b.take p)):=by
          have:=Vg D p OC;rwa [show (Bt b).take p=Bt (b.take p) by simp[Bt,List.map_take]]at this
        have ap:∀ j u,(Bt (b.drop p))[j]? = some u->(wr.alloc (.cells #[] 3)).cell? (((OK y p):Addr).add j)=some u:=by
          intro j u s;have am:((OK y p):Addr).add j=(OK y (p+j)):=by unfold Addr.add;split <;> simp_all
          have ba:j < m:=by
            have:=(List.getElem?_eq_some_iff.1 s).1;omega
          have ay:=(D.lt y rfl).2;rw[am,World.cell?_alloc_past _ _ _ ay,D.cellAt (p+j) OC];simp only[Bt,List.map_drop,List.getElem?_drop]at s |-
          exact s
        have HD:Hid ((b.drop p).length=m):=(by rw[Hid,List.length_drop];omega);have bc:p<=i:=OC;have bb:m<=i:=OC;have a9:i<=12001:=OC;have af:∀ c,wr.ownsRow (w.heap.size+1) 3 1 (.slice (some (OK y 0)) (p+m) c) (p+m) (Bt b)->p+m<=c:=by
          intro c hx;rcases hx.2 with⟨W,_⟩|⟨g',a3,a5,hv,_,_,a0,_⟩
          · cases W
          · cases hv;exact a0
        rw[hp]at D;have a8:=af C D;clear af R aq ar au a2;simp only[hp];have hz:w.heap.size+1<=wr.heap.size:=(by have:=B.size;simpa using this);have O:p+m - p=m:=OC;have o0:(wr.alloc (.cells #[] 3)).ownsRow (w.heap.size+1) 3 1 (.slice (some (OK wr.heap.size 0)) 0 0) 0 []:=(by simpa using World.ownsRow_made (base:=w.heap.size+1) (e:=3) (size:=1) wr #[] 0 hz OD rfl);by_cases hm:m=0
        · subst hm;by_cases an:p=C
          · subst an;go_wp2_with (first
              | (at_builtin;(refine wpList_append_own_at _ rfl _ _ 60 rfl (w.heap.size+1) 3 i0 (.int .i64 0) 1 8 underlying60 N S T U rfl OD _ 0 [] rfl o0 (OK y 0) 0 0 (Bt (b.drop p)) rfl ah (fun j u s=>by exfalso;have:=(List.getElem?_eq_some_iff.1 s).1;omega) (Q1 _) OI OC OH ?_;intro v1 L d A _ F;rw[Nat.zero_add,List.nil_append]at d;obtain⟨a1,c1,ac⟩:=G1 d;subst ac;have O:=A.size;rw[World.size_alloc]at O;have K:L.ownsRow (w.heap.size+1) 60 1 u5 l.length V:=E2 (f.1.alloc _) A (Ft f.1 rfl ON)))
              | (at_builtin;(refine wpList_append_own_at _ rfl _ _ 57 rfl (w.heap.size+1) 60 i1 (.slice none 0 0) 1 24 underlying57 ai aj ak al rfl OD _ l.length V rfl (K.alloc _) (OK L.heap.size 0) 1 1 [.slice a1 0 c1] rfl rfl (cell_one_new _ _ _) (R6 d) OI OC OH ?_;intro aw w2 x E _ G)
                 have ab:=E.size
                 rw[World.size_alloc]at ab
                 have I:L.ownsRow (w.heap.size+1) 3 1 (.slice (some (OK y 0)) p p) p (Bt (b.take p)):=E2 (r.alloc _) A (Ft r rfl ON)
                 have J:w2.ownsRow (w.heap.size+1) 3 1 (.slice (some (OK y 0)) p p) p (Bt (b.take p)):=E2 (I.alloc _) E (fun g W h4=>M g h4 W))
              | (at_builtin;(refine wpList_append_own_at _ rfl _ _ 60 rfl (w.heap.size+1) 3 i0 (.int .i64 0) 1 8 underlying60 N S T U rfl OD _ p (Bt (b.take p)) rfl (J.alloc _) (OK w2.heap.size 0) 1 1 [.int .i64 (i:Int)] rfl rfl (cell_one_new _ _ _) (Hp _) OI OC OH ?_;intro ax w3 z g3 _ H)))
            have Y:Below (w.heap.size+1) (w.alloc (.cells #[.slice (some (OK g 0)) n o] 25)) L:=Below.grown (B.alloc hz _) A OH (fun j s=>by cases s;exact hz);have Z:Below (w.heap.size+1) (w.alloc (.cells #[.slice (some (OK g 0)) n o] 25)) w2:=Below.grown (Y.alloc OC _) E OH (fun j s=>(f.1.lt _ s).1);have ad:Below (w.heap.size+1) (w.alloc (.cells #[.slice (some (OK g 0)) n o] 25)) w3:=Below.grown (Z.alloc OC _) g3 OH (fun j s=>(r.lt _ s).1);have q:=Po (vp:=.slice (some (OK y 0)) (p+0) p) (vt:=.slice (some (OK wr.heap.size 0)) 0 0) D r rfl f M X rfl d A F x E G g3 H HD.out;exact DdTreeHx97
          · have a4:¬ C=p:=OC;have ao:¬ C - p=0:=OC;go_wp2_with (first
              | (at_builtin;(refine wpList_append_own_at _ rfl _ _ 60 rfl (w.heap.size+1) 3 i0 (.int .i64 0) 1 8 underlying60 N S T U rfl OD _ 0 [] rfl o0 (OK y p) 0 (C - p) (Bt (b.drop p)) rfl ah ap (Q1 _) OI OC OH ?_;intro v1 L d A _ F;rw[Nat.zero_add,List.nil_append]at d;obtain⟨a1,c1,ac⟩:=G1 d;subst ac;have O:=A.size;rw[World.size_alloc]at O;have K:L.ownsRow (w.heap.size+1) 60 1 u5 l.length V:=E2 (f.1.alloc _) A (Ft f.1 rfl ON)))
              | (at_builtin;(refine wpList_append_own_at _ rfl _ _ 57 rfl (w.heap.size+1) 60 i1 (.slice none 0 0) 1 24 underlying57 ai aj ak al rfl OD _ l.length V rfl (K.alloc _) (OK L.heap.size 0) 1 1 [.slice a1 0 c1] rfl rfl (cell_one_new _ _ _) (R6 d) OI OC OH ?_;intro aw w2 x E _ G)
                 have ab:=E.size
                 rw[World.size_alloc]at ab
                 have I:L.ownsRow (w.heap.size+1) 3 1 (.slice (some (OK y 0)) p C) p (Bt (b.take p)):=E2 (r.alloc _) A (Ft r rfl ON)
                 have J:w2.ownsRow (w.heap.size+1) 3 1 (.slice (some (OK y 0)) p C) p (Bt (b.take p)):=E2 (I.alloc _) E (fun g W h4=>M g h4 W))
              | (at_builtin;(refine wpList_append_own_at _ rfl _ _ 60 rfl (w.heap.size+1) 3 i0 (.int .i64 0) 1 8 underlying60 N S T U rfl OD _ p (Bt (b.take p)) rfl (J.alloc _) (OK w2.heap.size 0) 1 1 [.int .i64 (i:Int)] rfl rfl (cell_one_new _ _ _) (Hp _) OI OC OH ?_;intro ax w3 z g3 _ H)))
            have Y:Below (w.heap.size+1) (w.alloc (.cells #[.slice (some (OK g 0)) n o] 25)) L:=Below.grown (B.alloc hz _) A OH (fun j s=>by cases s;exact hz);have Z:Below (w.heap.size+1) (w.alloc (.cells #[.slice (some (OK g 0)) n o] 25)) w2:=Below.grown (Y.alloc OC _) E OH (fun j s=>(f.1.lt _ s).1);have ad:Below (w.heap.size+1) (w.alloc (.cells #[.slice (some (OK g 0)) n o] 25)) w3:=Below.grown (Z.alloc OC _) g3 OH (fun j s=>(r.lt _ s).1);have q:=Po (vp:=.slice (some (OK y 0)) (p+0) C) (vt:=.slice (some (OK wr.heap.size 0)) 0 0) D r rfl f M X rfl d A F x E G g3 H HD.out;exact DdTreeHx97
        · have an:¬ C=p:=OC;have ao:¬ C - p=0:=OC;have bd:p < p+m:=OC;go_wp2_with (first
            | (at_builtin;(refine wpList_append_own_at _ rfl _ _ 60 rfl (w.heap.size+1) 3 i0 (.int .i64 0) 1 8 underlying60 N S T U rfl OD _ 0 [] rfl o0 (OK y p) m (C - p) (Bt (b.drop p)) rfl ah ap (Q1 _) OI OC OH ?_;intro v1 L d A _ F;rw[Nat.zero_add,List.nil_append]at d;obtain⟨a1,c1,ac⟩:=G1 d;subst ac;have O:=A.size;rw[World.size_alloc]at O;have K:L.ownsRow (w.heap.size+1) 60 1 u5 l.length V:=E2 (f.1.alloc _) A (Ft f.1 rfl ON)))
            | (at_builtin;(refine wpList_append_own_at _ rfl _ _ 57 rfl (w.heap.size+1) 60 i1 (.slice none 0 0) 1 24 underlying57 ai aj ak al rfl OD _ l.length V rfl (K.alloc _) (OK L.heap.size 0) 1 1 [.slice a1 m c1] rfl rfl (cell_one_new _ _ _) (R6 d) OI OC OH ?_;intro aw w2 x E _ G)
               have ab:=E.size
               rw[World.size_alloc]at ab
               have I:L.ownsRow (w.heap.size+1) 3 1 (.slice (some (OK y 0)) p C) p (Bt (b.take p)):=E2 (r.alloc _) A (Ft r rfl ON)
               have J:w2.ownsRow (w.heap.size+1) 3 1 (.slice (some (OK y 0)) p C) p (Bt (b.take p)):=E2 (I.alloc _) E (fun g W h4=>M g h4 W))
            | (at_builtin;(refine wpList_append_own_at _ rfl _ _ 60 rfl (w.heap.size+1) 3 i0 (.int .i64 0) 1 8 underlying60 N S T U rfl OD _ p (Bt (b.take p)) rfl (J.alloc _) (OK w2.heap.size 0) 1 1 [.int .i64 (i:Int)] rfl rfl (cell_one_new _ _ _) (Hp _) OI OC OH ?_;intro ax w3 z g3 _ H)))
          have Y:Below (w.heap.size+1) (w.alloc (.cells #[.slice (some (OK g 0)) n o] 25)) L:=Below.grown (B.alloc hz _) A OH (fun j s=>by cases s;exact hz);have Z:Below (w.heap.size+1) (w.alloc (.cells #[.slice (some (OK g 0)) n o] 25)) w2:=Below.grown (Y.alloc OC _) E OH (fun j s=>(f.1.lt _ s).1);have ad:Below (w.heap.size+1) (w.alloc (.cells #[.slice (some (OK g 0)) n o] 25)) w3:=Below.grown (Z.alloc OC _) g3 OH (fun j s=>(r.lt _ s).1);have q:=Po (vp:=.slice (some (OK y 0)) (p+m) C) (vt:=.slice (some (OK wr.heap.size 0)) 0 0) D r rfl f M X rfl d A F x E G g3 H HD.out;clear d A F x E G g3 H K I J;obtain⟨gq,cq,hq,_⟩:=Oy z OC;go_roundw;case rel=>exact⟨i+1,b.take p++[i],l++[b.drop p],V++[.slice a1 m c1],gq,cq,by omega,by go_num,by simp[Q];omega,by simp[av],by simpa[Q]using hq,by rw[Q0,show Bt [i]=[Value.int .i64 (i:Int)] from rfl];simpa[Q]using z,q.1,q.2.1,q.2.2,ad,HU.out⟩
          case measure=>simp[intOf];omega
      · have HR:Hid (Eb ns=none):=(by rw[if_neg hk]at R;exact R.symm);clear R;have hz:w.heap.size+1<=wr.heap.size:=(by have:=B.size;simpa using this);have ae:Below w.heap.size w wr:=(OP w _).trans (B.mono OC);by_cases aq:k < 0
        · clear hk;go_wp2;go_ret2;rw[HR.out];exact⟨_,_,rfl,ae.alloc OC _,rfl⟩
        · have ar:(b.length:Int) < k:=OC;clear hk;go_wp2;go_ret2;rw[HR.out];exact⟨_,_,rfl,ae.alloc OC _,rfl⟩
    · have HR:Hid (Eb ns=some (l,b)):=by
        rw[List.drop_of_length_le (by rw[HN.out];omega)]at R;exact R.symm
      have ae:Below w.heap.size w wr:=(OP w _).trans (B.mono OC);clear R ag;go_wp2;go_ret2;rw[HR.out];refine⟨_,_,rfl,ae, ?_,V, ?_⟩
      · go_light;rw[Bool.eq_iff_iff];simp;omega
      · exact⟨f.1.mono OC,fun i hi=>by obtain⟨u,R,ho⟩:=f.2 i hi;exact⟨u,R,ho.mono OC⟩⟩
theorem l2Kids_any (ns:List Ae) (v:Value) (w:World) (hN:Bz w v ns) :
  Calls prog 17 #[.agg #[v]] w fun e w'=>U9 w (Eb ns) e w':=by
 by_cases h:1<=ns.length/\ns.length<=12001
 ·exact l2Kids_short ns v w hN h.1 h.2
 ·have c:Hid (Eb ns=none):=by rw[Hid,Eb,if_neg h]
  obtain⟨a,d,rfl,g⟩:=hN;clear g;generalize ns.length=n at *;by_cases h1:n < 1
  ·have b:(n:Int) < 1:=OC;clear h;go_enter func17,ntmps17;go_wp2;go_ret2;rw[c.out];exact⟨_,_,rfl,(OP w _).alloc OF _,rfl⟩
  ·have f:(12001:Int) < (n:Int):=OC;have b:¬ (n:Int) < 1:=OC;clear h h1;go_enter func17,ntmps17;go_wp2;go_ret2;rw[c.out];exact⟨_,_,rfl,(OP w _).alloc OF _,rfl⟩
theorem Tz : ∀ (cs:List Int) (i:Nat) (opn:List Nat) (out K:List (List Nat)) (o:List Nat),Cq cs i opn out=some (K,o)->(∀ x ∈ opn,x < i)->opn.length<=i->out.length=i->(∀ j (h:j < out.length),(∀ x ∈ out[j],x < j)/\out[j].length<=j) ->
  K.length=i+cs.length/\(∀ j (h:j < K.length),(∀ x ∈ K[j],x < j)/\K[j].length<=j)/\∀ x ∈ o,x < i+cs.length
 | [],i,opn,out,K,o,h,h1,_,h2,h3=>by
  simp only[Cq,Option.some.injEq,Prod.mk.injEq]at h
  obtain⟨rfl,rfl⟩:=h
  exact⟨by simpa using h2,h3,by simpa using h1⟩
 | c::r,i,opn,out,K,o,h,h1,h0,h2,h3=>by
  rw[Cq]at h
  split at h
  ·have:=Tz r (i+1) _ _ K o h (by
    intro x a
    rcases List.mem_append.1 a with a|a
    ·have:=h1 x (List.mem_of_mem_take a);omega
    ·simp at a;omega) OH (by simp[h2]) (by
    intro j d
    by_cases hj2:j < out.length
    ·rw[List.getElem_append_left hj2];exact h3 j hj2
    ·have b:j=out.length:=by simp at d;omega
     subst b
     rw[List.getElem_append_right ON]
     simp only[Nat.sub_self,List.getElem_cons_zero]
     refine⟨fun x a => ?_,by rw[List.length_drop];omega⟩
     have:=h1 x (List.mem_of_mem_drop a)
     omega)
   simp only[List.length_cons]
   refine⟨by omega,this.2.1,fun x a=>by have:=this.2.2 x a;omega⟩
  ·cases h
theorem Qec {ns:List Ae} {K:List (List Nat)} {o:List Nat} (h:Eb ns=some (K,o)):1<=ns.length/\ns.length<=12001/\K.length=ns.length/\(∀ j (h:j < K.length),(∀ x ∈ K[j],x < j)/\K[j].length<=j)/\∀ x ∈ o,x < ns.length:=by
 unfold Eb at h;split at h
 ·rename_i hl
  have:=Tz _ 0 [] [] K o h OF OF rfl (by intro j a;simp at a);simp only[List.length_map,Nat.zero_add]at this;exact⟨hl.1,hl.2,this⟩
 ·cases h
def Es (ns:List Ae) (k:Nat):Int:=(ns[k]?.map (·.kind)).getD 0
def Df (ns:List Ae) (ks:List Nat):List Int:=ks.map (Es ns)
def Cg (hs ks:List Nat):Nat:=ks.foldl (fun h k=>max h (hs.getD k 0+1)) 0
def It (ns:List Ae) (i h:Nat) (ks:List Nat):Bool:=match ns[i]? with
 | none=>false
 | some d=>decide (h<=60) && Bo d && Ac d.kind d.op (Df ns ks)
def Dy (ns:List Ae):List (List Nat)->Nat->List Nat->Bool
 | [],_,_=>true
 | ks::r,i,hs=>It ns i (Cg hs ks) ks && Dy ns r (i+1) (hs++[Cg hs ks])
def Dl (ns:List Ae):Bool:=match Eb ns with
 | none=>false
 | some (K,o)=>decide (o.length=1) && Dy ns K 0 [] && (Es ns (ns.length - 1) == 24)
theorem Za (hs ks:List Nat) (k:Nat):Cg hs (ks++[k])=max (Cg hs ks) (hs.getD k 0+1):=by simp[Cg]
theorem Tx (hs:List Nat) (hb:∀ x ∈ hs,x<=60) (ks:List Nat):Cg hs ks<=61:=by
 unfold Cg;have:∀ (ks:List Nat) (a:Nat),a<=61->ks.foldl (fun h k=>max h (hs.getD k 0+1)) a<=61:=by
  intro ks;induction ks with
  | nil=>intro a b;simpa using b
  | cons k r ih =>
   intro a b;simp only[List.foldl_cons];refine ih _ ?_;have:hs.getD k 0<=60:=by
    rw[List.getD_eq_getElem?_getD];cases hk:hs[k]? with
    | none=>simp
    | some x=>simp;exact hb x (List.mem_of_getElem? hk)
   omega
 exact this ks 0 OC
theorem Fc {W W':World} {B e size n:Nat} {v:Value} {xs:List Value} (h:W.ownsRow B e size v n xs) (hb:Below W.heap.size W W'):W'.ownsRow B e size v n xs:=by
 refine⟨h.1, ?_⟩;rcases h.2 with f|⟨g,b,c,i,d,a,rest⟩
 ·exact .inl f
 ·exact .inr ⟨g,b,c,i,d,by rw[hb.block g (Array.getElem?_eq_some_iff.1 a).1];exact a,rest⟩
theorem Qak {w:World} {B n:Nat} {v:Value} {ks:List Nat} {e:TypeId} (h:w.ownsRow B e 1 v n (Bt ks)) (hn:ks.length=n) :
  ∃ a b,v = .slice a n b/\∀ i (hi:i < n),∃ g,a=some (OK g 0)/\B<=g/\g < w.heap.size/\w.cell? (OK g i)=some (.int .i64 ((ks[i]'(hn ▸ hi):Nat):Int)):=by
 rcases h.2 with⟨rfl,f⟩|⟨g,b,d,rfl,j,c,_⟩
 ·exact⟨none,0,by rw[f],fun i hi=>OC⟩
 ·refine⟨_,_,rfl,fun i hi=>⟨g,rfl,j,(Array.getElem?_eq_some_iff.1 c).1, ?_⟩⟩;rw[h.cellAt i OC];simp[Bt,hn,hi]
theorem T0 (ns:List Ae) (k:Nat) (h:k < ns.length):Es ns k=ns[k].kind:=by simp[Es,h]
theorem Qgp (hs:List Nat) (k:Nat) (h:k < hs.length):hs.getD k 0=hs[k]:=by simp[h]
theorem Qea (l m:List Int):C3 (l++m)=C3 l++C3 m:=by simp[C3]
theorem Qct (ns:List Ae) (K:List (List Nat)) (i:Nat) (hs:List Nat) (hi:i < K.length) (h:It ns i (Cg hs K[i]) K[i]=false):Dy ns (K.drop i) i hs=false:=by
 rw[List.drop_eq_getElem_cons hi,Dy,h];rfl
theorem Qbg (ns:List Ae) (K:List (List Nat)) (i:Nat) (hs:List Nat) (hi:i < K.length) (h:It ns i (Cg hs K[i]) K[i]=true):Dy ns (K.drop i) i hs=Dy ns (K.drop (i+1)) (i+1) (hs++[Cg hs K[i]]):=by
 rw[List.drop_eq_getElem_cons hi,Dy,h];rfl
theorem l2Fields_is (d:Ae) (b:Bool) (h:Hid (Bo d=b)) (w:World) :
  Calls prog 18 #[Af d] w fun e w'=>e = .returned (.bool b)/\Below w.heap.size w w':=by
 rw[<- h.out];exact l2Fields_any d w
theorem l2Fits_is (d:Ae) (ks:List Int) (b:Bool) (hb:Hid (Ac d.kind d.op ks=b)) (v:Value) (B n:Nat) (HN:Hid (ks.length=n)) (w:World) (h:w.ownsRow B 3 1 v n (C3 ks)) (hl:n<=1000000) :
  Calls prog 19 #[Af d,v] w fun e w'=>e = .returned (.bool b)/\Below w.heap.size w w':=by
 rw[<- hb.out];exact l2Fits_any d ks v B n HN w h hl
theorem specValidTree_any (ns:List Ae) (v:Value) (w:World) (hN:Bz w v ns) :
  Calls prog 6 #[.agg #[v]] w fun e w'=>e = .returned (.bool (Dl ns))/\Below w.heap.size w w':=by
 obtain⟨i0,T,V,B,X⟩:=info_parts Tryz.infoInt;cases hR:Eb ns with
 | none =>
  have HV:Hid (Dl ns=false):=by rw[Hid,Dl,hR]
  go_enter func6,ntmps6;go_wp2_with (go_at_call 17;refine(l2Kids_any ns v _ (E9 hN (OP w _))).mono ?_;rintro e a ⟨vo,ok,rfl,Y,hk⟩;rw[hR]at hk;simp only at hk;subst hk;rw[World.size_alloc]at Y);go_ret;exact⟨Al HV.out.symm,(OP w _).trans (Y.mono OC)⟩
 | some r =>
  obtain⟨K,o⟩:=r;by_cases ho:o.length=1
  ·go_enter func6,ntmps6;go_wp2_with (go_at_call 17;refine(l2Kids_any ns v _ (E9 hN (OP w _))).mono ?_;rintro e a ⟨vo,ok,rfl,Y,hk⟩;rw[hR]at hk;simp only[ho,decide_true]at hk;obtain⟨rfl,vs,J⟩:=hk;rw[World.size_alloc]at Y J);obtain⟨br,bs,hK,ab,_⟩:=Qec hR;have HV:Hid (Dl ns=(Dy ns K 0 [] && (Es ns (ns.length - 1) == 24))):=(by rw[Hid,Dl,hR];simp[ho]);have bl:Bz a v ns:=E9 hN ((OP w _).trans (Y.mono OC));have aa:a.cell? (OK w.heap.size 0)=some v:=(by rw[Y.cell (p:=(OK w.heap.size 0)) OF];simp[go_sem]);have a2:w.heap.size < a.heap.size:=(by have:=Y.size;simp at this;omega);have af:Below w.heap.size w a:=(OP w _).trans (Y.mono OC);clear hN hR ho Y;obtain⟨av,cv,hv,ay⟩:=bl;obtain⟨I,bm,aq,_⟩:=ay 0 OC;subst bm;have A:∀ i (hi:i < ns.length) j,j < 6->a.cell? (OK I (i * 6+j))=(By ns[i])[j]?:=fun i hi j Q=>by
    obtain⟨g,hg,_,bo⟩:=ay i hi;cases hg;exact bo j Q
   clear ay;obtain⟨n,HN⟩:∃ n,Hid (ns.length=n):=⟨_,rfl⟩;have HK:Hid (K.length=n):=(by rw[Hid,hK];exact HN.out);rw[HN.out]at br bs hv;subst hv;have N:a.ownsRow (w.heap.size+1) 60 1 vo n vs:=(by have:=J.1;rwa [HK.out]at this);obtain⟨go,co,rfl,_,bp⟩:=Oy N OC;have az:∀ i (hi:i < n),∃ u,a.cell? (OK go i)=some u/\a.ownsRow (w.heap.size+1) 3 1 u (K[i]'(by rw[HK.out];exact hi)).length (Bt (K[i]'(by rw[HK.out];exact hi))):=fun i hi=>by
    obtain⟨u,Z,ho⟩:=J.2 i (by rw[HK.out];exact hi);exact⟨u,by rw[N.cellAt i OC];exact Z,ho⟩
   clear J N;go_loopw [5,6] (fun vh t wr => ∃ (i:Nat) (b:List Nat),i<=n/\t = .int .i64 (i:Int)/\b.length=i/\(∀ x ∈ b,x<=60)/\wr.ownsRow a.heap.size 3 1 vh i (Bt b)/\Below a.heap.size a wr/\Dy ns (K.drop i) i b=Dy ns K 0 []) (fun _ t _=>n - (intOf t).toNat);case atStart =>
    refine⟨0,[],by omega,rfl,rfl,by simp, ?_,OP a _,rfl⟩;simpa[Bt]using World.ownsRow_made (base:=a.heap.size) (e:=3) (size:=1) a #[] 0 ON OD rfl
   case round =>
    obtain⟨i,b,hi,rfl,a7,P,l,E,Z⟩:=hrel;obtain⟨f,bu⟩:∃ x,x=wr:=⟨_,rfl⟩;subst bu;by_cases hlt:i < n
    ·obtain⟨u,an,ak⟩:=az i hlt;have aw:i < K.length:=(by rw[HK.out];exact hlt);have ax:i < ns.length:=(by rw[HN.out];exact hlt);obtain⟨R,bb⟩:=ab i aw;clear az ab;obtain⟨ks,ac⟩:∃ ks,Hid (K[i]=ks):=⟨_,(rfl:K[i]=_)⟩;rw[ac.out]at ak R bb;obtain⟨q,HQ⟩:∃ q,Hid (ks.length=q):=⟨_,rfl⟩;rw[HQ.out]at ak bb;have cu:f.cell? (OK go i)=some u:=(by rw[E.cell (p:=(OK go i)) bp];exact an);have ou:=Fc ak E;have ct:f.cell? (OK w.heap.size 0)=some (.slice (some (OK I 0)) n cv):=(by rw[E.cell (p:=(OK w.heap.size 0)) a2];exact aa);have bx:a.heap.size<=f.heap.size:=E.size;obtain⟨au,ae,rfl,a0⟩:=Qak ou HQ.out;obtain⟨ah,ch,bt,ar⟩:=Qak l a7;subst bt;go_wp2;go_loopw [7,8,9] (fun vk th tk wq => ∃ j:Nat,j<=q/\tk = .int .i64 (j:Int)/\th = .int .i64 (Cg b (ks.take j):Int)/\wq.ownsRow f.heap.size 3 1 vk j (C3 (Df ns (ks.take j)))/\Below f.heap.size f wq) (fun _ _ tk _=>q - (intOf tk).toNat);case atStart =>
      refine⟨0,by omega,rfl,rfl, ?_,OP f _⟩;simpa[C3,Df]using World.ownsRow_made (base:=f.heap.size) (e:=3) (size:=1) f #[] 0 ON OD rfl
     case round =>
      obtain⟨j,Q,rfl,rfl,z,k⟩:=hrel;have hz:f.heap.size<=wr.heap.size:=k.size;by_cases hjq:j < q
      ·have a9:j < ks.length:=(by rw[HQ.out];exact hjq);obtain⟨gu,rfl,_,ap,cx⟩:=a0 j hjq;have bv:=R ks[j] (List.getElem_mem a9);have aj:ks.take (j+1)=ks.take j++[ks[j]]:=(by rw[List.take_add_one];simp[a9]);clear a0 R;obtain⟨x,hx⟩:∃ x,x=ks[j]:=⟨_,rfl⟩;rw[<- hx]at cx bv aj;have a1:x < ns.length:=OC;have bd:x < b.length:=OC;obtain⟨gh,rfl,_,ao,am⟩:=ar x OC;have bg:wr.cell? (OK go i)=some (.slice (some (OK gu 0)) q ae):=(by rw[k.cell (p:=(OK go i)) OH];exact cu);have b3:wr.cell? (OK gu j)=some (.int .i64 (x:Int)):=(by rw[k.cell (p:=(OK gu j)) ap];exact cx);have b2:wr.cell? (OK w.heap.size 0)=some (.slice (some (OK I 0)) n cv):=(by rw[k.cell (p:=(OK w.heap.size 0)) OH];exact ct);have b1:wr.cell? (OK I (x * 6))=some (.int .i64 (Es ns x)):=by
        rw[k.cell (p:=(OK I (x * 6))) OH,E.cell (p:=(OK I (x * 6))) aq,T0 ns x a1];have:=A x a1 0 OC;simpa[By]using this
       have b0:wr.cell? (OK gh x)=some (.int .i64 (b[x]:Int)):=(by rw[k.cell (p:=(OK gh x)) ao];exact am);have HH:Hid (Cg b (ks.take (j+1))=max (Cg b (ks.take j)) (b[x]+1)):=(by rw[Hid,aj,Za,Qgp b x bd]);have HI:Hid (C3 (Df ns (ks.take (j+1)))=C3 (Df ns (ks.take j))++[.int .i64 (Es ns x)]):=(by rw[Hid,aj,Df,List.map_append,Qea];rfl);have b4:b[x]<=60:=P _ (List.getElem_mem bd);have bk:Cg b (ks.take j)<=61:=Tx b P _;generalize b[x]=y at *;generalize Es ns x=kd at *;generalize Cg b (ks.take j)=H at *;clear aj hx ar A ct aa an;have bz:x < n:=(by rw[<- HN.out];exact a1);by_cases hy:H < y+1
       ·have bw:(H:Int) < (y:Int)+1:=OC;go_wp2_with fail;go_region_law (refine Iy rfl (.tmp 34) (.tmp 47) 60 rfl f.heap.size 3 i0 (.int .i64 0) 1 8 underlying60 T V B X rfl OD _ _ _ rfl (by repeat (first|exact z|apply World.ownsRow.drew|apply World.ownsRow.alloc)) (OK wr.heap.size 0) 1 1 [.int .i64 kd] rfl rfl (by intro j u Z;exact cell_one_new _ _ _ j u Z) (Hp _) OI OC OH ?_;intro v' w3 M F);all_goals
         have C:Below f.heap.size f w3:=Below.grown (by repeat (first|exact k|apply Below.drew|(refine Below.alloc ?_ (by simpa using hz) _))) F OH (fun j Q=>(z.lt _ Q).1);have bi:w3.cell? (OK go i)=some (.slice (some (OK gu 0)) q ae):=(by rw[C.cell (p:=(OK go i)) OH];exact cu);have bj:w3.cell? (OK gu j)=some (.int .i64 (x:Int)):=(by rw[C.cell (p:=(OK gu j)) ap];exact cx);have bh:w3.cell? (OK gh x)=some (.int .i64 (y:Int)):=(by rw[C.cell (p:=(OK gh x)) ao];exact am);go_wp2;go_roundw;case rel=>exact⟨j+1,by omega,by go_num,by rw[HH.out,Nat.max_eq_right OC];rfl,by rw[HI.out];exact M,C⟩
         case measure=>simp[intOf];omega
       ·have bw:¬ (H:Int) < (y:Int)+1:=OC;go_wp2_with fail;go_region_law (refine Iy rfl (.tmp 34) (.tmp 47) 60 rfl f.heap.size 3 i0 (.int .i64 0) 1 8 underlying60 T V B X rfl OD _ _ _ rfl (by repeat (first|exact z|apply World.ownsRow.drew|apply World.ownsRow.alloc)) (OK wr.heap.size 0) 1 1 [.int .i64 kd] rfl rfl (by intro j u Z;exact cell_one_new _ _ _ j u Z) (Hp _) OI OC OH ?_;intro v' w3 M F);all_goals
         have C:Below f.heap.size f w3:=Below.grown (by repeat (first|exact k|apply Below.drew|(refine Below.alloc ?_ (by simpa using hz) _))) F OH (fun j Q=>(z.lt _ Q).1);have bi:w3.cell? (OK go i)=some (.slice (some (OK gu 0)) q ae):=(by rw[C.cell (p:=(OK go i)) OH];exact cu);have bj:w3.cell? (OK gu j)=some (.int .i64 (x:Int)):=(by rw[C.cell (p:=(OK gu j)) ap];exact cx);have bh:w3.cell? (OK gh x)=some (.int .i64 (y:Int)):=(by rw[C.cell (p:=(OK gh x)) ao];exact am);go_wp2;go_roundw;case rel=>exact⟨j+1,by omega,by go_num,by rw[HH.out,Nat.max_eq_left OC],by rw[HI.out];exact M,C⟩
         case measure=>simp[intOf];omega
      ·have ba:j=q:=OC;subst ba;have bc:ks.take j=ks:=List.take_of_length_le (by rw[HQ.out];exact ON);rw[bc]at z |-
       obtain⟨d,HD⟩:∃ d,Hid (ns[i]? = some d):=⟨ns[i],List.getElem?_eq_getElem ax⟩;have a6:ns[i]=d:=(by have:=HD.out;rw[List.getElem?_eq_getElem ax]at this;exact Option.some.inj this);have hB:Below a.heap.size a wr:=E.trans (k.mono bx);have bg:wr.cell? (OK go i)=some (.slice au j ae):=(by rw[k.cell (p:=(OK go i)) OH];exact cu);have L:∀ {W:World},Below a.heap.size a W->(W.cell? (OK w.heap.size 0)=some (.slice (some (OK I 0)) n cv)/\W.cell? (OK I (i * 6))=some (.int .i64 d.kind)/\W.cell? (OK I (i * 6+1))=some (.int .i64 d.op)/\W.cell? (OK I (i * 6+2))=some (.int .i64 d.type)/\W.cell? (OK I (i * 6+3))=some (.int .i64 d.n)/\W.cell? (OK I (i * 6+4))=some (.string d.text)/\W.cell? (OK I (i * 6+5))=some (.int .i64 d.kids)):=by
        intro W hW;have hq:∀ m,m < 6->W.cell? (OK I (i * 6+m))=(By d)[m]?:=fun m hm=>by
         rw[hW.cell (p:=(OK I (i * 6+m))) aq,A i ax m hm,a6]
        exact⟨by rw[hW.cell (p:=(OK w.heap.size 0)) a2];exact aa,hq 0 OC,hq 1 OC,hq 2 OC,hq 3 OC,hq 4 OC,hq 5 OC⟩
       have G:=Fc l k;have bk:Cg b ks<=61:=Tx b P _;have ad:Hid (It ns i (Cg b ks) ks=(decide (Cg b ks<=60) && Bo d && Ac d.kind d.op (Df ns ks))):=(by rw[Hid,It,HD.out]);have a3:Hid ((Df ns ks).length=j):=(by rw[Hid,Df,List.length_map];exact HQ.out);have al:Hid (It ns i (Cg b ks) ks=false->Dl ns=false):=by
        intro h;have:=Qct ns K i b aw (by rw[ac.out];exact h);rw[HV.out,<- Z,this];rfl
       have a4:Hid (It ns i (Cg b ks) ks=true->Dy ns (K.drop (i+1)) (i+1) (b++[Cg b ks])=Dy ns K 0 []):=by
        intro h;have:=Qbg ns K i b aw (by rw[ac.out];exact h);rw[ac.out]at this;rw[<- this];exact Z
       have O:Cn u7 (.slice ah i ch):=by
        intro g h1 h2;have:=(z.lt g h1).1;have:=(l.lt g h2).2;omega
       clear a0 ar R Z A a6 ct aa cu an ou ak bc;generalize Cg b ks=H at *;by_cases h60:H<=60
       ·have a5:¬ (60:Int) < (H:Int):=OC;cases hF:Bo d with
        | false =>
         have HF:Hid (Bo d=false):=hF;have HE:Hid (Dl ns=false):=al.out (by rw[ad.out,hF];simp);clear hF;go_wp2_with (first
          | (at_builtin;refine wpList_append_own _ rfl _ _ 60 rfl a.heap.size 3 i0 (.int .i64 0) 1 8 underlying60 T V B X rfl OD _ _ _ rfl (G.alloc _) (OK wr.heap.size 0) 1 1 [.int .i64 (H:Int)] rfl rfl (cell_one_new _ _ _) (Hp _) OI OC OH ?_;intro v' w4 S g4 _;have c:Below a.heap.size a w4:=Below.grown (hB.alloc OC _) g4 OH (fun j Q=>(l.lt _ Q).1);obtain⟨e0,e1,e2,e3,e4,e5,e6⟩:=L c;have U:w4.ownsRow f.heap.size 3 1 u7 j (C3 (Df ns ks)):=E2 (z.alloc _) g4 O)
          | (go_at_call 18;refine(l2Fields_is d false HF _).mono ?_;rintro e w5 ⟨rfl,D⟩;have s:Below a.heap.size a w5:=c.trans (D.mono c.size);obtain⟨f0,f1,f2,f3,f4,f5,f6⟩:=L s;have ai:=Fc U D))
         go_ret;exact⟨Al HE.out.symm,af.trans (s.mono OC)⟩
        | true =>
         have HF:Hid (Bo d=true):=hF;cases hT:Ac d.kind d.op (Df ns ks) with
         | false =>
          have HT:Hid (Ac d.kind d.op (Df ns ks)=false):=hT;have HE:Hid (Dl ns=false):=al.out (by rw[ad.out,hF,hT];simp);clear hF hT;go_wp2_with (first
           | (at_builtin;refine wpList_append_own _ rfl _ _ 60 rfl a.heap.size 3 i0 (.int .i64 0) 1 8 underlying60 T V B X rfl OD _ _ _ rfl (G.alloc _) (OK wr.heap.size 0) 1 1 [.int .i64 (H:Int)] rfl rfl (cell_one_new _ _ _) (Hp _) OI OC OH ?_;intro v' w4 S g4 _;have c:Below a.heap.size a w4:=Below.grown (hB.alloc OC _) g4 OH (fun j Q=>(l.lt _ Q).1);obtain⟨e0,e1,e2,e3,e4,e5,e6⟩:=L c;have U:w4.ownsRow f.heap.size 3 1 u7 j (C3 (Df ns ks)):=E2 (z.alloc _) g4 O)
           | (go_at_call 18;refine(l2Fields_is d true HF _).mono ?_;rintro e w5 ⟨rfl,D⟩;have s:Below a.heap.size a w5:=c.trans (D.mono c.size);obtain⟨f0,f1,f2,f3,f4,f5,f6⟩:=L s;have ai:=Fc U D)
           | (go_at_call 19;refine(l2Fits_is d (Df ns ks) false HT u7 f.heap.size j a3 _ ai OC).mono ?_;rintro e w6 ⟨rfl,ag⟩))
          go_ret;exact⟨Al HE.out.symm,af.trans ((s.trans (ag.mono s.size)).mono OC)⟩
         | true =>
          have HT:Hid (Ac d.kind d.op (Df ns ks)=true):=hT;have HE:=a4.out (by rw[ad.out,hF,hT];simp[h60]);have bf:Hid (Dy ns (K.drop (i+1)) (i+1) (b++[H])=Dy ns K 0 []):=HE;clear hF hT HE;go_wp2_with (first
           | (at_builtin;refine wpList_append_own _ rfl _ _ 60 rfl a.heap.size 3 i0 (.int .i64 0) 1 8 underlying60 T V B X rfl OD _ _ _ rfl (G.alloc _) (OK wr.heap.size 0) 1 1 [.int .i64 (H:Int)] rfl rfl (cell_one_new _ _ _) (Hp _) OI OC OH ?_;intro v' w4 S g4 _;have c:Below a.heap.size a w4:=Below.grown (hB.alloc OC _) g4 OH (fun j Q=>(l.lt _ Q).1);obtain⟨e0,e1,e2,e3,e4,e5,e6⟩:=L c;have U:w4.ownsRow f.heap.size 3 1 u7 j (C3 (Df ns ks)):=E2 (z.alloc _) g4 O)
           | (go_at_call 18;refine(l2Fields_is d true HF _).mono ?_;rintro e w5 ⟨rfl,D⟩;have s:Below a.heap.size a w5:=c.trans (D.mono c.size);obtain⟨f0,f1,f2,f3,f4,f5,f6⟩:=L s;have ai:=Fc U D)
           | (go_at_call 19;refine(l2Fits_is d (Df ns ks) true HT u7 f.heap.size j a3 _ ai OC).mono ?_;rintro e w6 ⟨rfl,ag⟩))
          have be:=Fc (Fc S D) ag;go_roundw;case rel =>
           refine⟨i+1,b++[H],by omega,by go_num,by simp[a7], ?_, ?_,s.trans (ag.mono s.size),bf.out⟩
           ·intro x hx;rcases List.mem_append.1 hx with hx|hx
            ·exact P x hx
            ·simp at hx;omega
           ·rw[Q0];exact be
          case measure=>simp[intOf];omega
       ·have a5:(60:Int) < (H:Int):=OC;have HE:Hid (Dl ns=false):=al.out (by rw[ad.out];simp[h60]);go_wp2_with (first
         | (at_builtin;refine wpList_append_own _ rfl _ _ 60 rfl a.heap.size 3 i0 (.int .i64 0) 1 8 underlying60 T V B X rfl OD _ _ _ rfl (G.alloc _) (OK wr.heap.size 0) 1 1 [.int .i64 (H:Int)] rfl rfl (cell_one_new _ _ _) (Hp _) OI OC OH ?_;intro v' w4 S g4 _;have c:Below a.heap.size a w4:=Below.grown (hB.alloc OC _) g4 OH (fun j Q=>(l.lt _ Q).1);obtain⟨e0,e1,e2,e3,e4,e5,e6⟩:=L c;have U:w4.ownsRow f.heap.size 3 1 u7 j (C3 (Df ns ks)):=E2 (z.alloc _) g4 O))
        go_ret;exact⟨Al HE.out.symm,af.trans (c.mono OC)⟩
    ·have bq:i=n:=OC;subst bq;have HF:Hid (Dl ns=(Es ns (i - 1) == 24)):=by
      rw[List.drop_of_length_le (by rw[HK.out];exact ON)]at Z;rw[Hid,HV.out,<- Z,HN.out];rfl
     have a8:i - 1 < ns.length:=(by rw[HN.out];omega);have ck:f.cell? (OK I ((i - 1) * 6))=some (.int .i64 (Es ns (i - 1))):=by
      rw[E.cell (p:=(OK I ((i - 1) * 6))) aq,T0 ns (i - 1) a8];have:=A (i - 1) a8 0 OC;simpa[By]using this
     have ct:f.cell? (OK w.heap.size 0)=some (.slice (some (OK I 0)) i cv):=(by rw[E.cell (p:=(OK w.heap.size 0)) a2];exact aa);have b5:((i:Int) - 1).toNat=i - 1:=OC;have bn:Below w.heap.size w f:=af.trans (E.mono OC);generalize Es ns (i - 1)=kd at *;clear Z A az ab;go_wp2;go_ret;exact⟨Al HF.out.symm,bn⟩
  ·have HV:Hid (Dl ns=false):=(by rw[Hid,Dl,hR];simp[ho]);go_enter func6,ntmps6;go_wp2_with (go_at_call 17;refine(l2Kids_any ns v _ (E9 hN (OP w _))).mono ?_;rintro e a ⟨vo,ok,rfl,Y,hk⟩;rw[hR]at hk;simp only[ho,decide_false]at hk;obtain⟨rfl,vs,J⟩:=hk;rw[World.size_alloc]at Y);go_ret;exact⟨Al HV.out.symm,(OP w _).trans (Y.mono OC)⟩
end Go.Proofs.YtjlaedokfbcbpaaGreatDoor
