import Derived.Test.YtjlaedokfbcbpaaGreatDoorKPriV
set_option maxRecDepth 100000
set_option maxHeartbeats 4000000
namespace Go.Proofs.YtjlaedokfbcbpaaGreatDoor
open Go.RowKit Proofs.Tryz
theorem Qp8 (b o k:Nat):(Addr.add (OK b o) k)=(OK b (o+k)):=by unfold Addr.add;split <;> simp_all
theorem Me {w:World} {B e:Nat} {v:Value} {n:Nat} {xs:List Value} (h:w.ownsRow B e 1 v n xs):∃ ua uc,v = .slice ua n uc/\∀ j u,xs[j]? = some u->∃ gu,ua=some (OK gu 0)/\gu < w.heap.size/\w.cell? (OK gu j)=some u:=by
 have k:=fun g=>h.cells (g:=g)
 have b:=h.lt;obtain⟨f,i⟩:=h;rcases i with⟨rfl,d⟩|⟨g,a,c,rfl,l,m,_⟩
 ·subst d;refine⟨none,0,rfl,fun j u hu => ?_⟩;have:xs=[]:=List.eq_nil_of_length_eq_zero (by simpa using f);rw[this]at hu;simp at hu
 ·refine⟨some (OK g 0),a,rfl,fun j u hu=>⟨g,rfl,(b g rfl).2, ?_⟩⟩;have:=k g rfl j u hu;rw[Qp8,Nat.zero_add]at this;exact this
theorem X8 {W:World} {g:Nat} {a b:Value} {T:TypeId} (h:W.heap[g]? = some (.cells #[a,b] T (0,0))):W.cell? (OK g 0)=some a/\W.cell? (OK g 1)=some b:=by simp[World.cell?,h]
theorem Qj8 {w0 w1:World} {B:Nat} {v vo:Value} {ns:List Ae} {K:List (List Nat)} {vs:List Value} {T:TypeId} (hN:Bz w0 v ns) (hb:Below w0.heap.size w0 w1) (hT:M7 w1 B vo K vs) (hK:K.length=ns.length) (h1:1<=ns.length) :
  A6 (w1.alloc (.cells #[v,vo] T)) w1.heap.size ns K:=by
 have M:=hb.size;have d:=(Below.refl w1.heap.size w1).alloc ON (.cells #[v,vo] T);have c:(w1.alloc (.cells #[v,vo] T)).heap[w1.heap.size]? = some (.cells #[v,vo] T (0,0)):=Cf w1 _;obtain⟨a,h,rfl,x⟩:=hN;obtain⟨k,rfl,n,_⟩:=x 0 h1;obtain⟨C,z⟩:=hT;obtain⟨N,G,rfl,y⟩:=Me C;obtain⟨H,q,_⟩:=z 0 OC;obtain⟨s,rfl,E,_⟩:=y 0 H q;refine⟨by simp,k,h,s,G,(X8 c).1,(X8 c).2,by simp;omega,by simp;omega,fun i hi j hj => ?_,fun i hi => ?_⟩
 ·obtain⟨L,f,D,b⟩:=x i hi;cases f
  rw[d.cell (p:=(OK k (i * 6+j))) OJ,hb.cell (p:=(OK k (i * 6+j))) n];exact b j hj
 ·obtain⟨u,F,g⟩:=z i hi;obtain⟨A,f,_,l⟩:=y i u F;cases f
  obtain⟨I,J,rfl,r⟩:=Me g;have m:K.getD i []=K[i]:=by rw[List.getD_eq_getElem?_getD,List.getElem?_eq_getElem hi];rfl
  rw[m];refine⟨I,J,by rw[d.cell (p:=(OK s i)) OJ];exact l,fun j hj => ?_⟩;obtain⟨t,f,o,b⟩:=r j (.int .i64 (K[i][j]:Int)) (by simp[Bt,hj]);exact⟨t,f,by simp;omega,by rw[d.cell (p:=(OK t j)) o];exact b⟩
theorem Ug {w w':World} {v:Value} {ns:List Ae} (h:Bz w v ns) (hb:Below w.heap.size w w'):Bz w' v ns:=by
 obtain⟨a,c,k,f⟩:=h;refine⟨a,c,k,fun i hi => ?_⟩;obtain⟨g,l,d,b⟩:=f i hi;exact⟨g,l,by have:=hb.size;omega,fun j hj=>(hb.cell (p:=(OK g (i * 6+j))) d).trans (b j hj)⟩
theorem Qnw (ns:List Ae) (v:Value) (K:List (List Nat)) (o:List Nat) (hk:Eb ns=some (K,o)) (hK:1<=K.length) (w:World) (hN:Bz w v ns) :
  Calls prog 17 #[.agg #[v]] w fun e w' => ∃ a b f g,e = .returned (.tuple #[.slice (some (OK a 0)) K.length b,.bool f])/\Below w.heap.size w w'/\M7 w' w.heap.size (.slice (some (OK a 0)) K.length b) K g:=by
 refine(l2Kids_any ns v w hN).mono ?_;rintro e w' ⟨m,f,rfl,i,h⟩;rw[hk]at h;obtain⟨_,g,c⟩:=h;obtain⟨l,b,rfl,j⟩:=Me c.1;obtain⟨k,d,_⟩:=c.2 0 OC;obtain⟨a,rfl,_,_⟩:=j 0 k d;exact⟨a,b,f,g,rfl,i,c⟩
def Dd (ns:List Ae):ByteArray :=
 if Dl ns=true then (match Bu ns [] with|some [t]=>(if (Ej t).length<=12000 then ⟨(Ej t).toArray⟩ else ⟨#[]⟩)|_=>⟨#[]⟩) else ⟨#[]⟩
theorem Qdf (b:Bool) (ns:List Ae) (h:Hid (Dl ns=b)) (v:Value) (w:World) (hN:Bz w v ns) :
  Calls prog 6 #[.agg #[v]] w fun e w'=>e = .returned (.bool b)/\Below w.heap.size w w':=by
 rw[<- h.out];exact specValidTree_any ns v w hN
theorem Zs (ns:List Ae) (v:Value) (w:World) (HN:Hid (Bz w v ns)) (htext:Dl ns=true->X9 ns<=1300000) (ht1:Hid (∀ d ∈ ns,d.text.size<=1000000)) :
    Calls prog 8 #[.agg #[v]] w fun e w'=>e = .returned (.string (Dd ns))/\Below w.heap.size w w':=by
  obtain⟨i0,hi,ax,ay,az⟩:=info_parts Tryz.infoByte;obtain⟨r,HR⟩:∃ r,Hid (Dd ns=r):=⟨_,rfl⟩;rw[HR.out];have S:Hid (∀ ob:Obj,Bz (w.alloc ob) v ns):=fun ob=>Ug HN.out (OP w ob)
  cases hv:Dl ns with
  | false =>
    clear htext;have HV:Hid (Dl ns=false):=hv;have y:Hid (⟨#[]⟩=r):=(by rw[Hid,<- HR.out,Dd,if_neg (by rw[hv];decide)]);clear hv;go_enter func8,ntmps8;go_wp2_with (go_at_call 6;refine(Qdf false ns HV v _ (S.out _)).mono ?_;rintro e w1 ⟨rfl,A⟩);go_ret;exact⟨by rw[<- y.out];rfl,(OP w _).trans (A.mono OF)⟩
  | true =>
    replace htext:=htext hv;obtain⟨K,o,t,ts,k1,k2,k3,k4,k5,k6,k7,k8,k9,a0,af⟩:=Ui ns hv;have HV:Hid (Dl ns=true):=hv;have y:Hid ((if (Ej t).length<=12000 then ⟨(Ej t).toArray⟩ else ⟨#[]⟩)=r):=(by rw[Hid,<- HR.out,Dd,if_pos hv,k3]);clear hv;have ag:Hid (Eb ns=some (K,o)):=k1;have U:K.length=ns.length:=k4.2.1;have a5:((ns.length:Int) - 1).toNat=ns.length - 1:=OC;have a6:(0:Int)<=(ns.length:Int) - 1:=OC;have a7:(ns.length:Int) - 1 < (ns.length:Int):=OC;have a8:IntKind.i64.wrap ((ns.length:Int) - 1)=(ns.length:Int) - 1:=wrap_small _ OC OC;go_enter func8,ntmps8;go_wp2_with (first
      | (go_at_call 6;refine(Qdf true ns HV v _ (S.out _)).mono ?_;rintro e w1 ⟨rfl,A⟩
         have a:Below (w.heap.size+1) (w.alloc (.cells #[v] 25)) w1:=A.mono OF
         have Y:w1.cell? (OK w.heap.size 0)=some v:=(a.cell (p:=(OK w.heap.size 0)) OJ).trans OF
         have B:Below w.heap.size w w1:=Bc a)
      | (go_at_call 17;refine(Qnw ns v K o ag.out OC _ (Ug HN.out B)).mono ?_;rintro e f ⟨G,kc,ok,vs,rfl,H,hT⟩
         have O:Below w.heap.size w f:=B.trans (H.mono B.size)
         have am:f.cell? (OK w.heap.size 0)=some v:=(H.cell (p:=(OK w.heap.size 0)) (by have:=a.size;simp at this;simp only;omega)).trans Y
         obtain⟨ul,ad,b⟩:=hT.2 (ns.length - 1) OC
         obtain⟨_,_,ao,an⟩:=Me hT.1
         obtain⟨a1,ab,J,Z⟩:=an (ns.length - 1) ul ad
         injection ao with hk1 hk2 hk3
         clear hk2 hk3
         subst hk1
         cases ab
         have C:∀ o1 o2:Obj,((f.alloc o1).alloc o2).cell? (OK G (ns.length - 1))=some ul:=fun o1 o2=>by
           have aw:=((Below.refl f.heap.size f).alloc ON o1).alloc OF o2
           rw[aw.cell (p:=(OK G (ns.length - 1))) J];exact Z
         have V:A6 (f.alloc (.cells #[v,.slice (some (OK G 0)) ns.length kc] 67)) f.heap.size ns K:=(by have ac:=Qj8 (T:=67) HN.out O hT U k5;rw[U]at ac;exact ac)))
    obtain⟨ua,uc,rfl,N⟩:=Me b;have aa:K.getD (ns.length - 1) []=K[ns.length - 1]:=(by rw[List.getD_eq_getElem?_getD,List.getElem?_eq_getElem OC];rfl);rw[<- aa]at N C |-
    have ae:Below w.heap.size w (f.alloc (.cells #[v,.slice (some (OK G 0)) ns.length kc] 67)):=O.alloc O.size _;have HJ:Hid (∀ j (h:j < (K.getD (ns.length - 1) []).length),∃ z,ua=some (OK z 0)/\z < (f.alloc (.cells #[v,.slice (some (OK G 0)) ns.length kc] 67)).heap.size/\(f.alloc (.cells #[v,.slice (some (OK G 0)) ns.length kc] 67)).cell? (OK z j)=some (.int .i64 ((K.getD (ns.length - 1) [])[j]:Int))):=fun j h=>by
      obtain⟨z,he,L,Q⟩:=N j (.int .i64 ((K.getD (ns.length - 1) [])[j]:Int)) (by rw[Bt,List.getElem?_map,List.getElem?_eq_getElem h];rfl);exact⟨z,he,by simp;omega,(((Below.refl f.heap.size f).alloc ON _).cell (p:=(OK z j)) L).trans Q⟩
    obtain⟨q1,q2,q3,q4⟩:=k4.2.2 (ns.length - 1) OC;have HF:Hid (∀ c ∈ K.getD (ns.length - 1) [],Qhs f.heap.size ns K c (Mz (Ad ts c))/\(Mz (Ad ts c)).size<=70000000):=fun c Q=>by
      have q:c < ns.length:=(by have:=q1 c Q;omega);have u:t = .node (ns[ns.length - 1]'OC) ((K.getD (ns.length - 1) []).map (Ad ts)):=(by rw[<- k7];exact q2);have ai:(ns[ns.length - 1]'OC).kind=24:=(by rw[u]at k8;exact k8);have hf:((K.getD (ns.length - 1) []).map (fun x=>(Ad ts x).nd.kind)).all (fun k=>k == 23)=true:=by
        rw[ai]at q3;have:(((K.getD (ns.length - 1) []).map (fun x=>(Ad ts x).nd.kind)).all (fun k=>k == 23) && decide (1<=((K.getD (ns.length - 1) []).map (fun x=>(Ad ts x).nd.kind)).length) && decide (((K.getD (ns.length - 1) []).map (fun x=>(Ad ts x).nd.kind)).length<=60))=true:=(by simpa[Ac]using q3);simp only[Bool.and_eq_true]at this;exact this.1.1
      have aj:(ns[c]'q).kind=23:=by
        rw[<- Ie k4 c q];have:=List.all_eq_true.1 hf _ (List.mem_map.2 ⟨c,Q,rfl⟩);simpa using this
      have bb:=Rj (List.mem_map.2 ⟨c,Q,rfl⟩:Ad ts c ∈ (K.getD (ns.length - 1) []).map (Ad ts));have a4:=Mi _ _ (List.mem_map.2 ⟨c,Q,rfl⟩:Ad ts c ∈ (K.getD (ns.length - 1) []).map (Ad ts));have ba:=Qj7 ns;rw[u,Ss]at a0;rw[u,Aa.high]at k9;exact Qpk f.heap.size ns K ts k4 k6 (fun d hd=>Nat.le_trans (ht1.out d hd) OD) af c q OC aj OC
    have ak:(K.getD (ns.length - 1) []).length<=12001:=af _;have HT:Hid (Ej t=(K.getD (ns.length - 1) []).flatMap (fun c=>(Mz (Ad ts c)).data.toList)):=by
      have u:t = .node (ns[ns.length - 1]'OC) ((K.getD (ns.length - 1) []).map (Ad ts)):=(by rw[<- k7];exact q2);rw[Hid,u,Ej,Aa.kids,List.flatMap_map]
    clear C Z ad b N hT Y am a B A H q1 q2 q3 q4 aa;generalize hW3:f.alloc (.cells #[v,.slice (some (OK G 0)) ns.length kc] 67)=W3 at *;generalize K.getD (ns.length - 1) []=R at *;obtain⟨n,E⟩:∃ n,Hid (R.length=n):=⟨_,rfl⟩;rw[E.out]at ak |-
    have h3:f.heap.size+1=W3.heap.size:=(by rw[<- hW3];simp);simp only[h3];clear hW3;go_loopw [6,8] (fun o i wr => ∃ (j:Nat) (acc:List UInt8),i = .int .i64 (j:Int)/\j<=n/\acc=(R.take j).flatMap (fun c=>(Mz (Ad ts c)).data.toList)/\acc.length<=j * 70000000/\wr.ownsRow W3.heap.size 5 1 o acc.length (Lib.byteCells acc)/\Below W3.heap.size W3 wr) (fun _ i _=>n - (intOf i).toNat);case atStart =>
      refine⟨0,[],rfl,by omega,by simp,by simp, ?_,OP W3 _⟩;exact World.ownsRow_made (base:=W3.heap.size) (e:=5) (size:=1) W3 #[] 0 ON OD rfl
    case round =>
      obtain⟨j,acc,rfl,hj,g,a2,b,a⟩:=hrel;have av:=a.size;have a9:j * 70000000<=12001 * 70000000:=Nat.mul_le_mul_right _ OC;by_cases hjn:j < n
      · have M:j < R.length:=(by rw[E.out];exact hjn);obtain⟨z,rfl,L,I⟩:=HJ.out j M;obtain⟨hE,bc⟩:=HF.out R[j] (List.getElem_mem M);have e2:R.take j++[R[j]]=R.take (j+1):=(by rw[List.take_add_one,List.getElem?_eq_getElem M];rfl);have HU:Hid (acc++(Mz (Ad ts R[j])).data.toList=(R.take (j+1)).flatMap (fun c=>(Mz (Ad ts c)).data.toList)):=by
          rw[Hid,<- e2,g,List.flatMap_append];simp only[List.flatMap_cons,List.flatMap_nil,List.append_nil]
        generalize Mz (Ad ts R[j])=x at *;generalize R[j]=c at *;have HX:Hid (Qhs f.heap.size ns K c x):=hE;clear hE e2 g;have c1:wr.cell? (OK z j)=some (.int .i64 (c:Int)):=(a.cell (p:=(OK z j)) L).trans I;have ah:Hid (A6 wr f.heap.size ns K):=V.below a;have aq:acc.length+x.size<=maxLen:=OI;have ar:acc.length+x.size<=140737488355328:=OC;go_wp2_with (first
          | (go_at_call 20;refine(HX.out _ ah.out).mono ?_;rintro e w4 ⟨rfl,W⟩
             have D:=My b W
             have m:=a.trans (W.mono av))
          | (at_builtin;refine Lib.wpList_append_own_string _ rfl _ _ 22 9 rfl W3.heap.size 5 i0 underlying22 underlying9 hi ax ay az _ _ _ rfl D x rfl aq ar m.size ?_;intro v' w5 s l au))
        have al:Below W3.heap.size W3 w5:=Below.grown m l m.size (fun j hj=>(D.lt _ hj).1);have HO:Hid (w5.ownsRow W3.heap.size 5 1 v' (acc++x.data.toList).length (Lib.byteCells (acc++x.data.toList))):=Sq acc x s;have hz:(acc++x.data.toList).length<=(j+1) * 70000000:=by
          rw[List.length_append];have e:x.data.toList.length=x.size:=OF;omega
        clear s l;go_wp2;go_roundw;case rel=>exact⟨j+1,_,by go_num,by omega,HU.out,hz,HO.out,al⟩
        case measure=>simp[intOf];omega
      · have HU:Hid (acc=Ej t):=(by rw[Hid,g,HT.out,List.take_of_length_le (by rw[E.out];omega)]);have a3:=Lq (P:=prog) (src:=22) (dst:=9) underlying22 underlying5 underlying9 b;have ap:acc.length<=900000000000:=OC;have X:Below w.heap.size w wr:=ae.trans (a.mono ae.size);clear g;obtain⟨oa,oc,rfl,_⟩:=Me b;by_cases h12:acc.length<=12000
        · have F:Hid (⟨acc.toArray⟩=r):=(by rw[Hid,<- y.out,<- HU.out,if_pos h12]);have hd:decide (12000 < (acc.length:Int))=false:=decide_eq_false OC;go_wp2;go_ret;exact⟨by rw[<- F.out];rfl,X⟩
        · have F:Hid (⟨#[]⟩=r):=(by rw[Hid,<- y.out,<- HU.out,if_neg h12]);have hd:decide (12000 < (acc.length:Int))=true:=decide_eq_true OC;go_wp2;go_ret;exact⟨by rw[<- F.out];rfl,X⟩
theorem Qiz : ∀ (ns:List Ae),(∀ d ∈ ns,Fi d)->X9 ns<=100 * ns.length
 | [],_=>by simp[X9]
 | d::r,h=>by
  have a:=Qiz r (fun x hx=>h x (List.mem_cons_of_mem _ hx))
  have b:=(h d (List.mem_cons_self ..)).1
  simp only[X9,List.map_cons,List.sum_cons,List.length_cons]at a |-
  omega
theorem Ak.of_but {R p:Nat} {w w':World} (hr:Dn w R p) (hb:Cp R w w'):Ak R w w':=by
 obtain⟨b,c⟩:=Wa hr;exact⟨hb.os,hb.tape,hb.output,hb.size,fun k hk a=>hb.block k hk (fun e=>by
  subst e
  rcases a with a|a
  ·omega
  ·exact(a _ _ _ c).1 rfl)⟩
def D7 (R P:Nat) (w w':World):Prop:=(∃ p,p<=P/\Dn w' R p)/\Ak R w w'
theorem D7.of_dr {R P p k:Nat} {w w1 w2:World} (h:D7 R P w w1) (hr:Dn w1 R p) (hp:p<=P) (hd:El R p k w1 w2):D7 R (P+k) w w2:=by
 obtain⟨q,b,c,a⟩:=hd.at_;exact⟨⟨q,by omega,a⟩,h.2.trans (Ak.of_but hr hd.but)⟩
theorem D7.below {R P:Nat} {w w1 w2:World} (h:D7 R P w w1) (hb:Below w1.heap.size w1 w2):D7 R P w w2:=by
 obtain⟨⟨p,b,c⟩,a⟩:=h;exact⟨⟨p,b,c.below hb⟩,a.trans (Ak.of_below hb)⟩
theorem D7.mono {R P P':Nat} {w w1:World} (h:D7 R P w w1) (hP:P<=P'):D7 R P' w w1:=by
 obtain⟨⟨p,c,b⟩,a⟩:=h;exact⟨⟨p,by omega,b⟩,a⟩
theorem D7.refl {R p P:Nat} {w:World} (hr:Dn w R p) (hp:p<=P):D7 R P w w:=⟨⟨p,hp,hr⟩,Ak.refl R w⟩
theorem D7.lt {R P:Nat} {w w1:World} (h:D7 R P w w1):R < w1.heap.size:=by
 obtain⟨⟨p,_,a⟩,_⟩:=h;exact a.lt
theorem Gg {R P:Nat} {w w1:World} (n:Int) (h:D7 R P w w1) (hP:P<=900000000) (h1:1<=n) (h2:n<=1048576) :
  Calls prog 26 #[.pointer (some (OK R 0)),.int .i64 n] w1 fun e w' => ∃ v:Int,e = .returned (.int .i64 v)/\(0<=v/\v < n)/\D7 R (P+1) w w'/\Ak R w1 w':=by
 obtain⟨⟨p,b,a⟩,g⟩:=h;refine(pick_D n (Qoh a) OC h1 h2).mono ?_;rintro e w' ⟨v,f,i,d,c⟩;exact⟨v,f,by omega,(D7.of_dr ⟨⟨p,b,a⟩,g⟩ a b d).mono OC,Ak.of_but a c⟩
theorem Kl {R P:Nat} {w w1:World} (n:Int) (h:D7 R P w w1) (hP:P<=900000000) (h1:1<=n) (h2:n<=1048576) :
  Calls prog 26 #[.pointer (some (OK R 0)),.int .i64 n] w1 fun e w' => ∃ v:Nat,e = .returned (.int .i64 (v:Int))/\(v:Int) < n/\D7 R (P+1) w w'/\Ak R w1 w':=by
 obtain⟨⟨p,b,a⟩,g⟩:=h;refine(pick_D n (Qoh a) OC h1 h2).mono ?_;rintro e w' ⟨v,f,i,d,c⟩;exact⟨v,f,i,(D7.of_dr ⟨⟨p,b,a⟩,g⟩ a b d).mono OC,Ak.of_but a c⟩
theorem Qab {R P:Nat} {w w1:World} (h:D7 R P w w1) (hP:P<=300000000) (size:Int) (hs:0<=size/\size<=P) :
  Calls prog 29 #[.pointer (some (OK R 0)),.int .i64 size] w1 fun e w' => ∃ a n c,e = .returned (.agg #[.slice a n c])/\As w1.heap.size w' (.slice a n c) 300000000/\D7 R (P+200000000) w w'/\Ak R w1 w':=by
 obtain⟨⟨p,k,l⟩,j⟩:=h;refine(Qb1 l k hP size hs).mono ?_;rintro e w' ⟨a,n,c,m,i,d,f,g,b⟩;exact⟨a,n,c,i,d,⟨⟨m,f,g⟩,j.trans b⟩,b⟩
def Tk.WPost (R P K:Nat) (w0 w:World) (e:Ending) (w':World):Prop := ∃ a n c,e = .returned (.agg #[.slice a n c])/\As w.heap.size w' (.slice a n c) K/\D7 R P w0 w'/\Ak R w w'
theorem Tk.set_fw {R:Nat} {w W:World} {v:Value} (hf:Ak R (w.alloc (.cells #[.slice none 0 0] 25)) W) (_hR:R < w.heap.size):Ak R w (W.setCell (OK w.heap.size 0) v):=by
 have h:=(Ak.of_below (B:=R) (Tk.up1 w (.cells #[.slice none 0 0] 25))).trans hf;exact⟨h.os,h.tape,h.output,Nat.le_trans h.size (by simp[World.setCell]),fun k hk hp=>(Bd OC).trans (h.keep k hk hp)⟩
theorem Tk.set_dw {R P:Nat} {w w0 W:World} {v:Value} (hd:D7 R P w0 W) (hR:R < w.heap.size) (hw:w0.heap.size<=w.heap.size):D7 R P w0 (W.setCell (OK w.heap.size 0) v):=by
 obtain⟨⟨p,a,b⟩,h⟩:=hd;exact⟨⟨p,a,H6 b (fun k hk=>Bd OC)⟩,⟨h.os,h.tape,h.output,Nat.le_trans h.size (by simp[World.setCell]),fun k hk hq=>(Bd OC).trans (h.keep k hk hq)⟩⟩
theorem Tk.tree_cellW {R:Nat} {w W:World} (hf:Ak R (w.alloc (.cells #[.slice none 0 0] 25)) W):W.heap[w.heap.size]? = some (.cells #[.slice none 0 0] 25)/\W.cell? (OK w.heap.size 0)=some (.slice none 0 0)/\W.frozen? (OK w.heap.size 0)=false:=by
 have a:W.heap[w.heap.size]? = some (.cells #[.slice none 0 0] 25):=hf.blk (World.alloc_heap_new w _) OD;exact⟨a,by simp[World.cell?,a],by simp[World.frozen?,a]⟩
theorem Tk.tree_endW {R P K n c A:Nat} {w w0 W:World} {a:Option Addr} (hr:As A W (.slice a n c) K) (hA:w.heap.size<=A) (hd:D7 R P w0 W) (hf:Ak R (w.alloc (.cells #[.slice none 0 0] 25)) W) (hR:R < w.heap.size) (hw:w0.heap.size<=w.heap.size):Tk.WPost R P K w0 w (.returned (.agg #[.slice a n c])) (W.setCell (OK w.heap.size 0) (.slice a n c)):=by
 have h:=(Tk.tree_cellW hf).1;obtain⟨l,f,g,d⟩:=hr;refine⟨a,n,c,rfl,⟨l,f,g,B1 (G0 d hA) (fun k hk _ _=>Bd (fun e => ?_))⟩,Tk.set_dw hd hR hw,Tk.set_fw hf hR⟩;obtain⟨_,i,b⟩:=A8 d hk;subst e;rw[h]at b;injection b with b;injection b with _ b _;exact absurd b OD
def Tk.rlen (v:Value):Nat:=match v with|.slice _ n _=>n|_=>0
theorem Tk.infoRow : (prog.info? 23).map (fun i=>(i.zero,i.size,i.bytes))=some (some (.slice none 0 0),1,24):=OE
def Tk.Rows (A:Nat) (w:World) (a:Option Addr) (n c:Nat):Prop := ∃ vs:List Value,vs.length=n/\w.ownsRow A 23 1 (.slice a n c) n vs/\∀ v ∈ vs,∃ B,As B w v 1
theorem Tk.wp_row {w:World} {ops:Array Oper} {rest:List Oper} {o:Oper} {a:Act} {Q:Exit->Act->World->Prop} (hgd:o.guard=none) (s x:Operand)
  (ho:o.op = .call { callee:=.builtin .append,args := #[s,x],argTypes := #[118,118] }) {A B n c n2 c2 b:Nat} {da a2:Option Addr} (h1:Tk.Rows A w da n c) (h2:As B w (.slice a2 n2 c2) 1) (hV:w.heap[b]? = some (.cells #[.slice a2 n2 c2] 23)) (hA:A<=w.heap.size) (hn:n<=1000)
  (hs:a.eval s = .slice da n c) (hx:a.eval x = .slice (some (OK b 0)) 1 1)
  (h:∀ a' c' w',Tk.Rows A w' a' (n+1) c'->Below A w w'->wpList prog ops Q rest (a.put o.dst (.slice a' (n+1) c')) w') :
  wpList prog ops Q (o::rest) a w:=by
 obtain⟨M,r,y,z,C⟩:=info_parts Tk.infoRow;obtain⟨P,I,p,L⟩:=h1;have j:Jn w (some (OK b 0)) 1 [.slice a2 n2 c2]:=fun _=>⟨_,rfl,fun k u hk=>by
  rw[Ld,Lib.cell_of_heap hV]
  simpa using hk⟩
 refine Eo hgd s x 118 ho A 23 M (.slice none 0 0) 1 24 underlying118 r y z C rfl OD _ _ _ hs p (some (OK b 0)) 1 1 hx [.slice a2 n2 c2] rfl j (by intro u D;simp at D;subst D;rfl) OI OC hA ?_;intro T F g d;obtain⟨G,H,J⟩:=B3 g;subst J;have i:∀ {v:Value} {B K:Nat},As B w v K->As B F v K:=fun {v B K} hr=>by
  obtain⟨l,N,O,E⟩:=hr;refine⟨l,N,O,B1 E (fun k hk _ hl=>d.block k hl (fun e => ?_))⟩;obtain⟨_,R,t⟩:=A8 E hk;obtain⟨_,S,f⟩:=A8 p e.symm;rw[t]at f;injection f with f;injection f with _ f _;exact absurd f OD
 refine h G H F ⟨P++[.slice a2 n2 c2],by simp[I],g,fun v m => ?_⟩ ⟨d.os,d.tape,d.output,d.size,fun k hk=>d.block k (Nat.lt_of_lt_of_le hk hA) (fun e => ?_)⟩
 ·rcases List.mem_append.1 m with m|m
  ·obtain⟨B',q⟩:=L v m;exact⟨B',i q⟩
  ·rw[List.mem_singleton.1 m];exact⟨B,i h2⟩
 ·have:=(A8 p e.symm).1.1;omega
theorem Tk.fw_on {R A:Nat} {V w w':World} (h:Ak R V w) (hb:Below A w w') (hA:V.heap.size<=A):Ak R V w':=⟨hb.os.trans h.os,hb.tape.trans h.tape,hb.output.trans h.output,Nat.le_trans h.size hb.size,fun k hk hp=>(hb.block k (Nat.lt_of_lt_of_le hk hA)).trans (h.keep k hk hp)⟩
theorem Tk.dw_on {R P A:Nat} {w0 w w':World} (h:D7 R P w0 w) (hb:Below A w w') (hR:R < A) (hw:w0.heap.size<=A):D7 R P w0 w':=by
 obtain⟨⟨p,b,c⟩,a⟩:=h;exact⟨⟨p,b,H6 c (fun k hk=>hb.block k OC)⟩,Tk.fw_on a hb hw⟩
theorem Tk.Rows.below {A n c:Nat} {w w':World} {a:Option Addr} (h:Tk.Rows A w a n c) (hb:Below w.heap.size w w'):Tk.Rows A w' a n c:=by
 obtain⟨i,b,d,f⟩:=h;exact⟨i,b,B1 d (fun k _ _ hl=>hb.block k hl),fun v hv=>by obtain⟨B,g⟩:=f v hv;exact⟨B,Tk.Row_below g hb⟩⟩
theorem Tk.Rows.empty (w:World):Tk.Rows w.heap.size (w.alloc (.cells #[] 23)) (some (OK w.heap.size 0)) 0 0 :=
 ⟨[],rfl,⟨rfl,.inr ⟨w.heap.size,0,#[],rfl,Nat.le_refl _,(MapKept.heap_alloc w _).1,Nat.le_refl _,Nat.zero_le _,rfl,rfl⟩⟩,fun _ hv=>absurd hv List.not_mem_nil⟩
theorem Tk.over_rows (d:Ae) (hd:Fi d) {A n c:Nat} {w:World} {a:Option Addr} (h:Tk.Rows A w a n c) (hn:n<=20) :
  Calls prog 54 #[.agg #[.int .i64 d.kind,.int .i64 d.op,.int .i64 d.type,.int .i64 d.n,.string d.text,.int .i64 d.kids],.slice a n c] w (Jm 21 w):=by
 obtain⟨f,o,j,p⟩:=h;have:=Pi d hd f 1 a c w (fun i v hi=>by
  have q:0 < f.length:=by
   rcases Nat.eq_zero_or_pos f.length with b|b
   ·rw[List.eq_nil_of_length_eq_zero b]at hi;simp at hi
   ·exact b
  rcases j.2 with⟨e,b⟩|⟨g,k,l,e,_⟩
  ·omega
  ·injection e with e1 e2 e3
   refine⟨g,e1, ?_⟩
   exact G7 j (by rw[e1];rfl) i v hi) p OC OC
 rw[o]at this;unfold Af at this;exact this.mono fun e w' ⟨a,m,c,k1,k2,k3⟩=>⟨a,m,c,k1,k2.mono ON OC,k3⟩
theorem Tk.k5 {k:Int} (h:0<=k/\k < 5):(k=4/\Tk.Mk)\/(k=0/\Tk.Mk)\/(k=1/\Tk.Mk)\/(k=2/\Tk.Mk)\/(k=3/\Tk.Mk):=by
 simp only[Tk.Mk,and_true];omega
theorem Tk.Rows.fw {A R n c:Nat} {w w':World} {a:Option Addr} (h:Tk.Rows A w a n c) (hf:Ak R w w'):Tk.Rows A w' a n c:=by
 obtain⟨i,b,d,f⟩:=h;exact⟨i,b,hf.row d OD,fun v hv=>by obtain⟨B,g⟩:=f v hv;exact⟨B,g.fw hf⟩⟩
theorem Tk.edge_any {R P:Nat} {w w0:World} (hD:D7 R P w0 w) (hP:P<=800000000):Calls prog 27 #[.pointer (some (OK R 0))] w (Tk.WPost R (P+4) 6000 w0 w):=by
 obtain⟨z,E⟩:∃ V,w.alloc (.cells #[.slice none 0 0] 25)=V:=⟨_,rfl⟩;have ak:z.heap.size=w.heap.size+1:=by rw[<- E];simp
 have q:Hid (w.alloc (.cells #[.slice none 0 0] 25)=z):=E;have aa:D7 R P w0 z:=by rw[<- E];exact hD.below (Tk.up1 w _)
 have hR:R < w.heap.size:=hD.lt;have O:w0.heap.size<=w.heap.size:=hD.2.size;have t0:Tk.Mk:=trivial;go_enter func27,ntmps27;go_wp2_with (first
  | (go_at_call 26;have _t:=t0;clear t0;refine(Gg 5 aa OC OD OD).mono ?_;rintro e A ⟨k,rfl,hk,r,p⟩;rcases Tk.k5 hk with⟨rfl,m4⟩|⟨rfl,m0⟩|⟨rfl,m1⟩|⟨rfl,m2⟩|⟨rfl,m3⟩)
  | (go_at_call 26;have _t:=m0;clear m0;refine(Gg 3 r OC OD OD).mono ?_;rintro e f ⟨x,rfl,hx,m,h⟩;have g:Ak R z f:=p.trans h;clear h;have C:wrap64 (60+x)=60+x:=IntWalk.wrap64_in _ OC;have ai:wrap64 (60+x - 1)=60+x - 1:=IntWalk.wrap64_in _ OC;have S:Tk.Mk:=trivial)
  | (go_at_call 55;have _t:=S;clear S;refine(Tk.deep_any (60+x - 1) OC f).mono ?_;rintro e D ⟨J,M,c5,rfl,B,u,b⟩;have l:=u.mono (K':=6000) ON OD;have j:=(m.below b).mono (P':=P+4) OC;have d:Ak R (w.alloc (.cells #[.slice none 0 0] 25)) D:=(by rw[q.out];exact g.trans (Ak.of_below b));have o:w.heap.size<=f.heap.size:=Nat.le_trans OC g.size;obtain⟨-,N,x1⟩:=Tk.tree_cellW d;have r0:Tk.Mk:=trivial)
  | (go_at_call 26;have _t:=m1;clear m1;refine(Gg 3 r OC OD OD).mono ?_;rintro e f ⟨x,rfl,hx,m,h⟩;have g:Ak R z f:=p.trans h;clear h;have C:wrap64 (200+x)=200+x:=IntWalk.wrap64_in _ OC;have ai:wrap64 (200+x - 1)=200+x - 1:=IntWalk.wrap64_in _ OC;have T:Tk.Mk:=trivial)
  | (go_at_call 56;have _t:=T;clear T;refine(Tk.wide_any (200+x - 1) OC f).mono ?_;rintro e D ⟨J,M,c5,rfl,B,u,b⟩;have l:=u.mono (K':=6000) ON OD;have j:=(m.below b).mono (P':=P+4) OC;have d:Ak R (w.alloc (.cells #[.slice none 0 0] 25)) D:=(by rw[q.out];exact g.trans (Ak.of_below b));have o:w.heap.size<=f.heap.size:=Nat.le_trans OC g.size;obtain⟨-,N,x1⟩:=Tk.tree_cellW d;have r0:Tk.Mk:=trivial)
  | (go_at_call 26;have _t:=m2;clear m2;refine(Gg 2 r OC OD OD).mono ?_;rintro e w3 ⟨x,rfl,hx,ab,h⟩;have ad:Ak R z w3:=p.trans h;clear h;have C:wrap64 (59+x)=59+x:=IntWalk.wrap64_in _ OC;have U:Tk.Mk:=trivial)
  | (go_at_call 26;have _t:=U;clear U;refine(Gg 2 ab OC OD OD).mono ?_;rintro e f ⟨y,rfl,hy,m,h⟩;have g:Ak R z f:=ad.trans h;clear h;have W:Tk.Mk:=trivial)
  | (go_at_call 57;have _t:=W;clear W;refine(Tk.many_any (59+x) y OC OC f).mono ?_;rintro e D ⟨J,M,c5,rfl,B,l,b⟩;have j:=(m.below b).mono (P':=P+4) OC;have d:Ak R (w.alloc (.cells #[.slice none 0 0] 25)) D:=(by rw[q.out];exact g.trans (Ak.of_below b));have o:w.heap.size<=f.heap.size:=Nat.le_trans OC g.size;obtain⟨-,N,x1⟩:=Tk.tree_cellW d;have r0:Tk.Mk:=trivial)
  | (go_at_call 26;have _t:=m3;clear m3;refine(Gg 2 r OC OD OD).mono ?_;rintro e f ⟨x,rfl,hx,m,h⟩;have g:Ak R z f:=p.trans h;clear h;have C:wrap64 (8+x)=8+x:=IntWalk.wrap64_in _ OC;have X:Tk.Mk:=trivial)
  | (go_at_call 57;have _t:=X;clear X;refine(Tk.many_any 2 (8+x) OC OC f).mono ?_;rintro e D ⟨J,M,c5,rfl,B,l,b⟩;have j:=(m.below b).mono (P':=P+4) OC;have d:Ak R (w.alloc (.cells #[.slice none 0 0] 25)) D:=(by rw[q.out];exact g.trans (Ak.of_below b));have o:w.heap.size<=f.heap.size:=Nat.le_trans OC g.size;obtain⟨-,N,x1⟩:=Tk.tree_cellW d;have r0:Tk.Mk:=trivial)
  | (go_at_call 26;have _t:=m4;clear m4;refine(Gg 2 (r.below (Tk.up1 A (.cells #[] 23))) OC OD OD).mono ?_;rintro e w2 ⟨x,rfl,hx,s,h⟩;have C:wrap64 (8+x)=8+x:=IntWalk.wrap64_in _ OC;have K:Tk.Rows A.heap.size w2 (some (OK A.heap.size 0)) 0 0:=Tk.Rows.fw (Tk.Rows.empty A) h;have t:Ak R z w2:=(p.trans (Ak.of_below (Tk.up1 A _))).trans h;clear h;have r4:Tk.Mk:=trivial))
 all_goals first
  | (have _t:=r0;exact bodyPost_ret (v:=.agg #[.slice J M c5]) (by simp[results,results27,go_sem,N]) rfl (Tk.tree_endW l o j d hR O))
  | skip
 have al:w.heap.size+1<=A.heap.size:=by have:=p.size;omega
 go_loopw [3] (fun t3 wr => ∃ (a:Option Addr) (n c:Nat),t3 = .slice a n c/\(n:Int)<=8+x/\Hid (Tk.Rows A.heap.size wr a n c)/\Hid (D7 R (P+1+1) w0 wr)/\Hid (Ak R z wr)/\A.heap.size<=wr.heap.size) (fun t3 _=>(8+x - (Tk.rlen t3:Int)).toNat);case atStart=>exact⟨_,_,_,rfl,by omega,K,s,t,by obtain⟨vs,_,h9,_⟩:=K;have h8:A.heap.size < w2.heap.size:=(A8 h9 rfl).1.2;omega⟩
 case round =>
  clear K s t;obtain⟨a,n,c,rfl,hn,K,s,t,hz⟩:=hrel;by_cases hlt:(n:Int) < 8+x
  ·have Y:Tk.Mk:=trivial;go_wp2_with (first
    | (go_at_call 52;have _t:=Y;clear Y;refine(D8 _ OD wr).mono ?_;rintro e f ⟨I,L,c4,rfl,H,i⟩;have Q:A.heap.size<=(f.alloc (.cells #[.slice I L c4] 23)).heap.size:=Nat.le_trans (Nat.le_trans hz i.size) (Tk.up1 f _).size;have af:=(K.out.below i).below (Tk.up1 f (.cells #[.slice I L c4] 23));have l:=Tk.Row_below H (Tk.up1 f (.cells #[.slice I L c4] 23));have j:=(s.out.below i).below (Tk.up1 f (.cells #[.slice I L c4] 23));have d:=(t.out.trans (Ak.of_below i)).trans (Ak.of_below (Tk.up1 f (.cells #[.slice I L c4] 23)));have Z:Tk.Mk:=trivial)
    | (at_builtin;have _t:=Z;clear Z;refine Tk.wp_row rfl _ _ rfl af l (World.alloc_heap_new f _) Q OC rfl rfl ?_;intro a6 c6 w6 ag G;have ac:=Tk.dw_on j G OC OC;have ae:=Tk.fw_on d G OC;have aj:=Nat.le_trans Q G.size))
   go_roundw;case rel=>exact⟨a6,n+1,c6,rfl,by omega,ag,ac,ae,aj⟩
   case measure=>simp only[Tk.rlen];omega
  ·have Y:Tk.Mk:=trivial;go_wp2_with (first
    | (go_at_call 54;have _t:=Y;clear Y;refine(Tk.over_rows ⟨7,0,0,0,⟨#[102]⟩,0⟩ OD K.out OC).mono ?_;rintro e w3 ⟨a3,n3,c3,rfl,ah,F⟩;have Z:Tk.Mk:=trivial)
    | (go_at_call 54;have _t:=Z;clear Z;refine(D9 ⟨20,0,0,0,⟨#[]⟩,0⟩ OD ah OD).mono ?_;rintro e f ⟨I,L,c4,rfl,H,i⟩;have s2:Tk.Mk:=trivial)
    | (go_at_call 53;have _t:=s2;clear s2;refine(Tk.main_any H OD 1).mono ?_;rintro e D ⟨J,M,c5,rfl,B,l,b⟩;have j:=(((s.out.below F).below i).below b).mono (P':=P+4) OC;have d:Ak R (w.alloc (.cells #[.slice none 0 0] 25)) D:=(by rw[q.out];exact((t.out.trans (Ak.of_below F)).trans (Ak.of_below i)).trans (Ak.of_below b));have o:w.heap.size<=f.heap.size:=(by have:=F.size;have:=i.size;omega);obtain⟨-,N,x1⟩:=Tk.tree_cellW d))
   exact bodyPost_ret (v:=.agg #[.slice J M c5]) (by simp[results,results27,go_sem,N]) rfl (Tk.tree_endW (l.mono ON OD) o j d hR O)
def Tk.Fld (i:Nat) (v:Value):Prop:=(i < 6/\i≠4/\∃ z:Int,v = .int .i64 z/\(i=3 -> -9223372036854775808<=z/\z<=9223372036854775807))\/(i=4/\∃ t:ByteArray,v = .string t/\t.size<=100)
theorem Tk.Fld.num {i:Nat} (z:Int) (h:i < 6/\i≠4/\i≠3:=by decide):Tk.Fld i (.int .i64 z):=.inl ⟨h.1,h.2.1,z,rfl,fun e=>absurd e h.2.2⟩
theorem Tk.Fld.n {z:Int} (h : -9223372036854775808<=z/\z<=9223372036854775807):Tk.Fld 3 (.int .i64 z):=.inl ⟨by decide,by decide,z,rfl,fun _=>h⟩
theorem Tk.Fld.text {t:ByteArray} (h:t.size<=100):Tk.Fld 4 (.string t):=.inr ⟨rfl,t,rfl,h⟩
theorem Tk.Fld.nd {i:Nat} {v:Value} (h:Tk.Fld i v) (d:Ae) (hd:Fi d):∃ d':Ae,Fi d'/\(By d).set i v=By d':=by
 rcases h with⟨a,b,z,rfl,f⟩|⟨rfl,t,rfl,c⟩
 ·match i,a,b with
  | 0,_,_=>exact⟨{ d with kind:=z },hd,rfl⟩
  | 1,_,_=>exact⟨{ d with op:=z },hd,rfl⟩
  | 2,_,_=>exact⟨{ d with type:=z },hd,rfl⟩
  | 3,_,_=>exact⟨{ d with n:=z },⟨hd.1,f rfl⟩,rfl⟩
  | 5,_,_=>exact⟨{ d with kids:=z },hd,rfl⟩
 ·exact⟨{ d with text:=t },⟨c,hd.2⟩,rfl⟩
theorem Tk.nd_set : ∀ (l:List Ae) (k i:Nat) (v:Value),k < l.length->i < 6->Tk.Fld i v->(∀ d ∈ l,Fi d)->∃ b:List Ae,b.length=l.length/\(∀ d ∈ b,Fi d)/\(Ap l).set (k * 6+i) v=Ap b
 | d::r,0,i,v,_,hi,hf,hx=>by
  obtain⟨g,c,f⟩:=hf.nd d (hx d List.mem_cons_self)
  refine⟨g::r,rfl,fun y a => ?_, ?_⟩
  ·rcases List.mem_cons.1 a with rfl|a
   ·exact c
   ·exact hx y (List.mem_cons_of_mem _ a)
  ·show (By d++Ap r).set (0 * 6+i) v=By g++Ap r
   rw[List.set_append_left _ _ (by simp[By];omega),Nat.zero_mul,Nat.zero_add,f]
 | d::r,k+1,i,v,hk,hi,hf,hx=>by
  obtain⟨b,c,f,h⟩:=Tk.nd_set r k i v (by simpa using hk) hi hf (fun y a=>hx y (List.mem_cons_of_mem _ a))
  refine⟨d::b,by simp[c],fun y a => ?_, ?_⟩
  ·rcases List.mem_cons.1 a with rfl|a
   ·exact hx _ List.mem_cons_self
   ·exact f y a
  ·show (By d++Ap r).set ((k+1) * 6+i) v=By d++Ap b
   have e:(By d).length=6:=rfl
   rw[List.set_append_right _ _ (by rw[e];omega),e,show (k+1) * 6+i - 6=k * 6+i by omega,h]
theorem Tk.heap_set {W:World} {g j:Nat} {u:Value} {cur:Array Value} {t:TypeId} (h:W.heap[g]? = some (.cells cur t)):(W.setCell (OK g j) u).heap[g]? = some (.cells (cur.setIfInBounds j u) t):=by
 simp only[World.setCell,Array.getElem?_modify,h,if_true,Option.map_some];rfl
theorem Tk.own_set {W:World} {B e size n c g j:Nat} {xs:List Value} (h:W.ownsRow B e size (.slice (some (OK g 0)) n c) n xs) (u:Value):(W.setCell (OK g j) u).ownsRow B e size (.slice (some (OK g 0)) n c) n (xs.set j u):=by
 obtain⟨f,i⟩:=h;rcases i with⟨b,_⟩|⟨r,d,a,b,k,l,m,o,p,q⟩
 ·cases b
 ·injection b with e2 e3 e4;injection e2 with e2;injection e2 with e2 _ _;subst e2 e4;exact⟨by rw[List.length_set];exact f,.inr ⟨g,c,a.setIfInBounds j u,rfl,k,Tk.heap_set l,m,o,by rw[Array.size_setIfInBounds];exact p,by rw[Array.toList_setIfInBounds,List.take_set,q]⟩⟩
theorem Tk.Row_set {A K n c g k i:Nat} {W:World} {v:Value} (h:As A W (.slice (some (OK g 0)) n c) K) (hk:k < n) (hi:i < 6) (hf:Tk.Fld i v):As A (W.setCell (OK g (k * 6+i)) v) (.slice (some (OK g 0)) n c) K:=by
 obtain⟨l,r,d,a⟩:=h;obtain⟨q,c4,b⟩:=B3 a;injection b with e41 e42 e43;subst e42;obtain⟨p,f,m,o⟩:=Tk.nd_set l k i v hk hi hf d;have:=Tk.own_set (j:=k * 6+i) a v;rw[o]at this;exact⟨p,by omega,m,by rw[f];exact this⟩
theorem Tk.Row_cells {A K n c g k:Nat} {W:World} (h:As A W (.slice (some (OK g 0)) n c) K) (b:k < n):∃ d:Ae,Fi d/\(W.cell? (OK g (k * 6))=some (.int .i64 d.kind)/\W.cell? (OK g (k * 6+1))=some (.int .i64 d.op)/\W.cell? (OK g (k * 6+2))=some (.int .i64 d.type)/\W.cell? (OK g (k * 6+3))=some (.int .i64 d.n)/\W.cell? (OK g (k * 6+4))=some (.string d.text)/\W.cell? (OK g (k * 6+5))=some (.int .i64 d.kids))/\∀ j,W.frozen? (OK g j)=false:=by
 obtain⟨l,y,t,o⟩:=h;obtain⟨x,c4,q⟩:=B3 o;injection q with e41 e42 e43;subst e42;have m:∀ j u,(Ap l)[j]? = some u->W.cell? (OK g j)=some u:=fun j u hu=>G7 o rfl j u hu
 have a:∀ (l:List Ae) (k:Nat) (b:k < l.length) (i:Nat),i < 6->(Ap l)[k * 6+i]? = (By l[k])[i]?:=by
  intro l;induction l with
  | nil=>intro k b;simp at b
  | cons d r ih =>
   intro k b i v;have e:Ap (d::r)=By d++Ap r:=rfl;have s:(By d).length=6:=rfl;cases k with
   | zero=>rw[e,Nat.zero_mul,Nat.zero_add,List.getElem?_append_left OC];rfl
   | succ k=>rw[e,List.getElem?_append_right OC,s,show (k+1) * 6+i - 6=k * 6+i by omega];exact ih k (by simpa using b) i v
 refine⟨l[k],t _ (List.getElem_mem b),⟨m _ _ (a l k b 0 OC),m _ _ (a l k b 1 OC),m _ _ (a l k b 2 OC),m _ _ (a l k b 3 OC),m _ _ (a l k b 4 OC),m _ _ (a l k b 5 OC)⟩,fun j => ?_⟩;obtain⟨_,p,f⟩:=A8 o rfl;simp only at f;simp[World.frozen?,f]
structure Tk.Sp (R P:Nat) (w0 w W:World) (b4 b5 b8 g n c:Nat):Prop where
 dw:D7 R P w0 W
 fw:Ak R w W
 res:W.heap[b4]? = some (.cells #[.slice none 0 0] 25)
 out:W.heap[b5]? = some (.cells #[.slice (some (OK g 0)) n c] 25)
 xs:∃ d:Ae,Fi d/\W.heap[b8]? = some (.cells #[.int .i64 d.kind,.int .i64 d.op,.int .i64 d.type,.int .i64 d.n,.string d.text,.int .i64 d.kids] 62)
 row:As w.heap.size W (.slice (some (OK g 0)) n c) 300000000
 ne1:b4≠b5
 ne2:g≠b8
 lo:w.heap.size<=b4/\w.heap.size<=b5/\w.heap.size<=b8
 rd:R < w.heap.size/\w0.heap.size<=w.heap.size
theorem Tk.Sp.draw {R P P':Nat} {w0 w W W':World} {b4 b5 b8 g n c:Nat} (h:Tk.Sp R P w0 w W b4 b5 b8 g n c) (hd:D7 R P' w0 W') (hf:Ak R W W'):Tk.Sp R P' w0 w W' b4 b5 b8 g n c :=
 ⟨hd,h.fw.trans hf,hf.blk h.res OD,hf.blk h.out OD,by obtain⟨d,a,b⟩:=h.xs;exact⟨d,a,hf.blk b OD⟩,h.row.fw hf,h.ne1,h.ne2,h.lo,h.rd⟩
theorem Tk.Sp.below {R P:Nat} {w0 w W W':World} {b4 b5 b8 g n c:Nat} (h:Tk.Sp R P w0 w W b4 b5 b8 g n c) (hb:Below W.heap.size W W'):Tk.Sp R P w0 w W' b4 b5 b8 g n c:=h.draw (h.dw.below hb) (Ak.of_below hb)
theorem Tk.Sp.glo {R P:Nat} {w0 w W:World} {b4 b5 b8 g n c:Nat} (h:Tk.Sp R P w0 w W b4 b5 b8 g n c):w.heap.size<=g/\∃ cur,W.heap[g]? = some (.cells cur 62):=by
 obtain⟨l,f,i,a⟩:=h.row;obtain⟨b,d⟩:=A8 a rfl;exact⟨b.1,d⟩
theorem Tk.set_frame {R P b i:Nat} {w0 w W:World} {v:Value} (hd:D7 R P w0 W) (hf:Ak R w W) (hb:w.heap.size<=b) (hR:R < w.heap.size/\w0.heap.size<=w.heap.size):D7 R P w0 (W.setCell (OK b i) v)/\Ak R w (W.setCell (OK b i) v):=by
 obtain⟨⟨p,a,c⟩,h⟩:=hd;exact⟨⟨⟨p,a,H6 c (fun k hk=>Bd OC)⟩,⟨h.os,h.tape,h.output,Nat.le_trans h.size (by simp[World.setCell]),fun k hk hq=>(Bd OC).trans (h.keep k hk hq)⟩⟩,⟨hf.os,hf.tape,hf.output,Nat.le_trans hf.size (by simp[World.setCell]),fun k hk hq=>(Bd OC).trans (hf.keep k hk hq)⟩⟩
theorem Tk.diff {W:World} {a b s t:Nat} {x y:Array Value} (h1:W.heap[a]? = some (.cells x s)) (h2:W.heap[b]? = some (.cells y t)) (ht:s≠t):a≠b:=fun e=>by
 subst e;rw[h1]at h2;injection h2 with h2;injection h2 with _ h2 _;exact ht h2
theorem Tk.Sp.setX {R P:Nat} {w0 w W:World} {b4 b5 b8 g n c i:Nat} {v:Value} (h:Tk.Sp R P w0 w W b4 b5 b8 g n c) (hf:Tk.Fld i v):Tk.Sp R P w0 w (W.setCell (OK b8 i) v) b4 b5 b8 g n c:=by
 obtain⟨d,b,a⟩:=h.xs;obtain⟨o,p⟩:=Tk.set_frame (i:=i) (v:=v) h.dw h.fw h.lo.2.2 h.rd;obtain⟨l,q,r,s⟩:=h.row;refine⟨o,p,(Bd (Tk.diff h.res a OD)).trans h.res,(Bd (Tk.diff h.out a OD)).trans h.out, ?_,⟨l,q,r,B1 s (fun k hk _ _=>Bd (fun e=>h.ne2 (by simp[Value.ownBlock]at hk;omega)))⟩,h.ne1,h.ne2,h.lo,h.rd⟩;obtain⟨f,j,m⟩:=hf.nd d b;refine⟨f,j, ?_⟩;rw[Tk.heap_set a];congr 2;apply Array.toList_inj.1;rw[Array.toList_setIfInBounds];exact m
theorem Tk.Sp.setRow {R P:Nat} {w0 w W:World} {b4 b5 b8 g n c k i:Nat} {v:Value} (h:Tk.Sp R P w0 w W b4 b5 b8 g n c) (hk:k < n) (hi:i < 6) (hf:Tk.Fld i v):Tk.Sp R P w0 w (W.setCell (OK g (k * 6+i)) v) b4 b5 b8 g n c:=by
 obtain⟨l,j,a⟩:=h.glo;obtain⟨m,o⟩:=Tk.set_frame (i:=k * 6+i) (v:=v) h.dw h.fw l h.rd;obtain⟨d,b,f⟩:=h.xs;exact⟨m,o,(Bd (Tk.diff h.res a OD)).trans h.res,(Bd (Tk.diff h.out a OD)).trans h.out,⟨d,b,(Bd (Ne.symm h.ne2)).trans f⟩,Tk.Row_set h.row hk hi hf,h.ne1,h.ne2,h.lo,h.rd⟩
theorem Tk.Sp.fin {R P:Nat} {w0 w W:World} {b4 b5 b8 g n c:Nat} (h:Tk.Sp R P w0 w W b4 b5 b8 g n c):Tk.WPost R P 300000000 w0 w (.returned (.agg #[.slice (some (OK g 0)) n c])) (W.setCell (OK b4 0) (.slice (some (OK g 0)) n c)):=by
 obtain⟨p,b,a⟩:=h.glo;obtain⟨d,f⟩:=Tk.set_frame (i:=0) (v:=.slice (some (OK g 0)) n c) h.dw h.fw h.lo.1 h.rd;obtain⟨l,j,m,o⟩:=h.row;exact⟨_,_,_,rfl,⟨l,j,m,B1 o (fun k hk _ _=>Bd (fun e=>Tk.diff h.res a OD (by simp[Value.ownBlock]at hk;omega)))⟩,d,f⟩
theorem Tk.Sp.cells {R P:Nat} {w0 w W:World} {b4 b5 b8 g n c:Nat} (h:Tk.Sp R P w0 w W b4 b5 b8 g n c):W.cell? (OK b5 0)=some (.slice (some (OK g 0)) n c)/\W.cell? (OK b4 0)=some (.slice none 0 0)/\W.frozen? (OK b4 0)=false/\W.frozen? (OK b5 0)=false/\(∀ i,W.frozen? (OK b8 i)=false)/\∃ d:Ae,Fi d/\W.cell? (OK b8 0)=some (.int .i64 d.kind)/\W.cell? (OK b8 1)=some (.int .i64 d.op)/\W.cell? (OK b8 2)=some (.int .i64 d.type)/\W.cell? (OK b8 3)=some (.int .i64 d.n)/\W.cell? (OK b8 4)=some (.string d.text)/\W.cell? (OK b8 5)=some (.int .i64 d.kids):=by
 obtain⟨d,b,a⟩:=h.xs;refine⟨by rw[Lib.cell_of_heap h.out];rfl,by rw[Lib.cell_of_heap h.res];rfl,by simp[World.frozen?,h.res],by simp[World.frozen?,h.out],fun i=>by simp[World.frozen?,a],d,b, ?_⟩;refine⟨?_, ?_, ?_, ?_, ?_, ?_⟩ <;> (rw[Lib.cell_of_heap a];rfl)
theorem Tk.Sp.six {R P:Nat} {w0 w Y0:World} {b4 b5 b8 g n c k:Nat} {d:Ae} (S:Tk.Sp R P w0 w Y0 b4 b5 b8 g n c) (hk:k < n) (hd:Fi d):∃ (Y1 Y2 Y3 Y4 Y5 Y6:World) (u0 u1 u2 u3 u4 u5:Value),Y0.setCell (OK g (k * 6)) (.int .i64 d.kind)=Y1/\Y1.setCell (OK g (k * 6+1)) (.int .i64 d.op)=Y2/\Y2.setCell (OK g (k * 6+2)) (.int .i64 d.type)=Y3/\Y3.setCell (OK g (k * 6+3)) (.int .i64 d.n)=Y4/\Y4.setCell (OK g (k * 6+4)) (.string d.text)=Y5/\Y5.setCell (OK g (k * 6+5)) (.int .i64 d.kids)=Y6/\Y0.cell? (OK g (k * 6))=some u0/\Y1.cell? (OK g (k * 6+1))=some u1/\Y2.cell? (OK g (k * 6+2))=some u2/\Y3.cell? (OK g (k * 6+3))=some u3/\Y4.cell? (OK g (k * 6+4))=some u4/\Y5.cell? (OK g (k * 6+5))=some u5/\Y0.frozen? (OK g (k * 6))=false/\Y1.frozen? (OK g (k * 6+1))=false/\Y2.frozen? (OK g (k * 6+2))=false/\Y3.frozen? (OK g (k * 6+3))=false/\Y4.frozen? (OK g (k * 6+4))=false/\Y5.frozen? (OK g (k * 6+5))=false/\Tk.Sp R P w0 w Y6 b4 b5 b8 g n c:=by
 have a:=S.setRow (i:=0) hk OD (Tk.Fld.num d.kind);have b:=a.setRow (i:=1) hk OD (Tk.Fld.num d.op);have f:=b.setRow (i:=2) hk OD (Tk.Fld.num d.type);have h:=f.setRow (i:=3) hk OD (Tk.Fld.n hd.2);have j:=h.setRow (i:=4) hk OD (Tk.Fld.text hd.1);have l:=j.setRow (i:=5) hk OD (Tk.Fld.num d.kids);obtain⟨_,_,⟨t,_,_,_,_,_⟩,m⟩:=Tk.Row_cells S.row hk;obtain⟨_,_,⟨_,u,_,_,_,_⟩,o⟩:=Tk.Row_cells a.row hk;obtain⟨_,_,⟨_,_,v,_,_,_⟩,p⟩:=Tk.Row_cells b.row hk;obtain⟨_,_,⟨_,_,_,x,_,_⟩,q⟩:=Tk.Row_cells f.row hk;obtain⟨_,_,⟨_,_,_,_,y,_⟩,r⟩:=Tk.Row_cells h.row hk;obtain⟨_,_,⟨_,_,_,_,_,z⟩,s⟩:=Tk.Row_cells j.row hk;exact⟨_,_,_,_,_,_,_,_,_,_,_,_,rfl,rfl,rfl,rfl,rfl,rfl,t,u,v,x,y,z,m _,o _,p _,q _,r _,s _,l⟩
end Go.Proofs.YtjlaedokfbcbpaaGreatDoor
