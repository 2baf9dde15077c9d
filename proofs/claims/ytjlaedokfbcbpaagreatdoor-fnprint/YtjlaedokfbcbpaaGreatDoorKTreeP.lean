import Derived.Test.YtjlaedokfbcbpaaGreatDoorKTreeM
set_option maxRecDepth 100000
set_option maxHeartbeats 4000000
namespace Go.Proofs.YtjlaedokfbcbpaaGreatDoor
open Go.RowKit Proofs.Tryz
theorem Qb9 (w:World) (o:Obj) (a b c d:Value) (t:TypeId) (j:Nat) (u:Value) (h:[a,b,c,d][j]? = some u):((w.alloc o).alloc (.cells #[a,b,c,d] t)).cell? (((OK (w.heap.size+1) 0):Addr).add j)=some u:=by
 have f:((OK (w.heap.size+1) 0):Addr).add j=(OK ((w.alloc o).heap.size) j):=by unfold Addr.add;split <;> simp_all
 rw[f,cell_of_row _ _ _ #[a,b,c,d] t (0,0) (heap_alloc_new (w.alloc o) _)];simpa using h
theorem Qd7 (nm:ByteArray) (r:Int) (a a':Option Addr) (n c n' c':Nat):∀ u ∈ [Value.string nm,.int .i64 r,.slice a n c,.slice a' n' c'],u.oneCell'=true:=by
 intro u b;simp at b;rcases b with rfl|rfl|rfl|rfl <;> rfl
def Kb (fs:List C4):List Value:=fs.flatMap (fun f=>[.string f.name,.int .i64 f.result,f.sp,f.sb])
theorem Qd6 (fs:List C4) (f:C4):Kb (fs++[f])=Kb fs++[.string f.name,.int .i64 f.result,f.sp,f.sb]:=by simp[Kb]
def Hk (ks:List Int):Bool:=ks.all (fun k=>k == 23) && decide (1<=ks.length) && decide (ks.length<=60)
def Qk6 (P:Nat->Prop) (w:World) (us:List Value) (X:Value):Prop := ∃ (fs:List C4) (SF:Value),us=fs.map F8/\Bk P w SF fs.length (Kb fs)/\X = .agg #[SF]/\∃ a n c,SF = .slice a n c
theorem grownProgram_any (P:Nat->Prop) (us:List Value) (ks:List Int) (S:Value) (n:Nat) (HN:Hid (ks.length=n)) (w:World) (hP:∀ g,P g->g < w.heap.size) (hS:Bk P w S n us) (hk:Aq us ks) :
  Calls prog 71 #[S] w fun e w'=>Nz w 40 (Hk ks) (Qk6 (fun g=>w.heap.size<=g/\g < w'.heap.size) w' us) e w':=by
 obtain⟨i0,aa,ag,ah,ai⟩:=info_parts Tryz.infoFn;have tp:=Tryz.ta_fnNode;obtain⟨a,c,rfl,D⟩:=hS;by_cases h1:n < 1
 ·have y:Hid (Hk ks=false):=by
   have I:¬ 1<=ks.length:=(by rw[HN.out];omega);rw[Hid];simp only[Hk,I,decide_false,Bool.and_false,Bool.false_and]
  have V:(n:Int) < 1:=OC
  clear D h1;go_enter func71,ntmps71;go_wp2;go_ret;exact⟨OO _,.inr ⟨y.out,rfl⟩⟩
 ·by_cases h60:60 < n
  ·have y:Hid (Hk ks=false):=by
    have I:¬ ks.length<=60:=(by rw[HN.out];omega);rw[Hid];simp only[Hk,I,decide_false,Bool.and_false]
   have V:¬ (n:Int) < 1:=OC;have aj:(60:Int) < (n:Int):=OC;clear D h1 h60;go_enter func71,ntmps71;go_wp2;go_ret;exact⟨OO _,.inr ⟨y.out,rfl⟩⟩
  ·have ak:(1:Int)<=(n:Int):=OC;have al:(n:Int)<=60:=OC;have B:Hid (Hk ks=ks.all (fun k=>k == 23)):=by
    have ac:1<=ks.length:=(by rw[HN.out];omega);have ad:ks.length<=60:=(by rw[HN.out];omega);rw[Hid];simp only[Hk,ac,ad,decide_true,Bool.and_true]
   have ao:us.length=n:=(by rw[hk.1];exact HN.out);obtain⟨g,rfl,Z⟩:∃ g,a=some (OK g 0)/\g < w.heap.size:=by
    obtain⟨u,hu⟩:∃ u,us[0]? = some u:=⟨_,List.getElem?_eq_getElem OC⟩;obtain⟨g,ha,hg,_⟩:=D 0 u hu;exact⟨g,ha,hP g hg⟩
   have d:∀ {W:World},Below w.heap.size w W->∀ j u,us[j]? = some u->W.cell? (OK g j)=some u:=by
    intro W hW j u hj;obtain⟨g',Y,_,I⟩:=D j u hj;cases Y
    rw[hW.cell (p:=(OK g j)) Z];exact I
   clear D;go_enter func71,ntmps71;go_wp2;go_loopw [18] (fun tv wr => ∃ (i:Nat) (z:List C4) (L:Option Addr) (O:Nat),i<=n/\tv = .int .i64 (i:Int)/\z.length=i/\us.take i=z.map F8/\(ks.take i).all (fun k=>k == 23)=true/\wr.ownsRow (w.heap.size+1) 53 4 (.slice L i O) i (Kb z)/\Below w.heap.size w wr/\w.heap.size+1<=wr.heap.size/\wr.cell? (OK w.heap.size 0)=some (.slice L i O)/\∀ j,wr.frozen? (OK w.heap.size j)=false) (fun tv _=>n - (intOf tv).toNat);case atStart =>
    refine⟨0,[],none,0,by omega,rfl,rfl,by simp,by simp,⟨by simp[Kb],.inl ⟨rfl,rfl⟩⟩,OP w _,by simp, ?_, ?_⟩;all_goals simp[go_sem]
   case round =>
    obtain⟨i,z,L,O,hi,rfl,H,x,l,m,s,ae,q0,qf⟩:=hrel;by_cases hlt:i < n
    ·obtain⟨u,q⟩:∃ u,us[i]? = some u:=⟨_,List.getElem?_eq_getElem OC⟩;obtain⟨kp,yp,E,F,v,rfl,G⟩:=B7 hk i u q;have ci:=d s i _ q;clear d;by_cases h22:kp=23
     ·subst h22;obtain⟨nm,r,J,Q,M,K,R,N,rfl⟩:=G.2.2.2 rfl;have A:A9 23=53:=rfl;rw[A]at ci q;have U:Hid (us.take (i+1)=(z++[(⟨nm,r,J,Q,M,K,R,N⟩:C4)]).map F8):=by
       have f:i < us.length:=OC;have X:us[i]=F8 ⟨nm,r,J,Q,M,K,R,N⟩:=by
        rw[List.getElem?_eq_getElem f]at q;exact Option.some.inj q
       rw[Hid,<- List.take_append_getElem f,X,x,List.map_append];rfl
      have T:Hid ((ks.take (i+1)).all (fun k=>k == 23)=true):=by
       have f:i < ks.length:=(by rw[HN.out];omega);have X:ks[i]=23:=(by rw[List.getElem?_eq_getElem f]at v;exact Option.some.inj v);rw[Hid,<- List.take_append_getElem f,X,List.all_append,l];rfl
      clear x l E F v G A;have an:w.heap.size < wr.heap.size:=OC;go_wp2_with (first|(at_builtin;(refine wpList_append_own _ rfl _ _ 38 rfl (w.heap.size+1) 53 i0 (.agg #[.string ByteArray.empty,.int .i64 0,.slice none 0 0,.slice none 0 0]) 4 72 underlying38 aa ag ah ai rfl OD _ _ _ rfl ((m.alloc _).alloc _) (OK (wr.heap.size+1) 0) 1 1 [.string nm,.int .i64 r,.slice J Q M,.slice K R N] rfl rfl (Qb9 _ _ _ _ _ _ _) (Qd7 _ _ _ _ _ _ _ _) OI OC OB ?_;intro v' w3 o t _;obtain⟨a',c',af⟩:=G1 o;subst af;have b:Below (w.heap.size+1) wr w3:=Below.grown (((OO wr).alloc ae _).alloc OB _) t OB (fun j hj=>(m.lt _ hj).1);have d2:w3.cell? (OK w.heap.size 0)=some (.slice L i O):=(by rw[b.cell (p:=(OK w.heap.size 0)) (Nat.lt_succ_self _)];exact q0);have df:w3.frozen? (OK w.heap.size 0)=false:=(by rw[b.frozen (p:=(OK w.heap.size 0)) (Nat.lt_succ_self _)];exact qf 0))));have am:=b.size;go_roundw;case rel =>
       refine⟨i+1,z++[⟨nm,r,J,Q,M,K,R,N⟩],a',c',by omega,by go_num,by simp[H],U.out,T.out, ?_, ?_,by simp;omega, ?_, ?_⟩
       ·rw[Qd6];exact ownsRow_setCell_below o (a:=(OK w.heap.size 0)) OF _
       ·exact(s.trans (b.mono OC)).setCell (p:=(OK w.heap.size 0)) ON _
       ·exact World.cell?_setCell_same _ _ _ d2
       ·intro j;simp only[World.frozen?_setCell];rw[b.frozen (p:=(OK w.heap.size j)) OF];exact qf j
      case measure=>simp[intOf];omega
     ·have A:¬ A9 kp=53:=Hl E F (j:=23) OC OC h22;have y:Hid (Hk ks=false):=by
       rw[Hid,B.out,Bool.eq_false_iff];intro C;have:=List.all_eq_true.1 C kp (List.mem_of_getElem? v);simp at this;exact h22 this
      go_wp2;go_ret;exact⟨s.alloc OC _,.inr ⟨y.out,rfl⟩⟩
    ·have ab:i=n:=OC;subst ab;have hT:ks.take i=ks:=List.take_of_length_le (by rw[HN.out];exact ON);have hU:us.take i=us:=List.take_of_length_le OC;rw[hT]at l;rw[hU]at x;have y:Hid (Hk ks=true):=(by rw[Hid,B.out];exact l);clear hT hU l;go_wp2;go_ret;refine⟨s,.inl ⟨y.out,_,rfl,z,_,x, ?_,rfl,_,_,_,rfl⟩⟩;rw[H];exact(Ma m).below (fun g h=>⟨by omega,h.2⟩) (fun g h=>rfl)
theorem C6 {c:Prop} [Decidable c] {A A' B B':Prop} (h1:A->A') (h2:B->B'):(if c then A else B)->(if c then A' else B'):=by
 by_cases h:c
 ·rw[if_pos h,if_pos h];exact h1
 ·rw[if_neg h,if_neg h];exact h2
theorem Az.below {P Q:Nat->Prop} {w w':World} {d:Ae} {us:List Value} {x:Value} (h:Az P w d us x) (hQ:∀ g,P g->Q g) (hc:∀ g,P g->w'.heap[g]? = w.heap[g]?):Az Q w' d us x:=by
 unfold Az at h |-
 exact(C6 id (C6 id (C6 id (C6 id (C6 id (C6 id (C6 (fun ⟨S,h1,h2⟩=>⟨S,h1.below hQ hc,h2⟩) (C6 (fun ⟨S,h1,h2⟩=>⟨S,h1.below hQ hc,h2⟩) (C6 id (C6 id (C6 id (C6 id (C6 id (C6 id (C6 id (C6 id (C6 id (C6 (fun ⟨S,h1,h2⟩=>⟨S,h1.below hQ hc,h2⟩) (C6 id (C6 (fun ⟨ps,SP,SB,h1,h2,h3⟩=>⟨ps,SP,SB,h1,h2.below hQ hc,h3⟩) (fun ⟨fs,SF,h1,h2,h3⟩=>⟨fs,SF,h1,h2.below hQ hc,h3⟩))))))))))))))))))))) h
theorem H7.below {P Q:Nat->Prop} {w w':World} {d:Ae} {us:List Value} {v:Value} (h:H7 P w d us v) (hQ:∀ g,P g->Q g) (hc:∀ g,P g->w'.heap[g]? = w.heap[g]?):H7 Q w' d us v:=by
 obtain⟨a,b,x,c,f⟩:=h;exact⟨a,b,x,c,f.below hQ hc⟩
theorem De.from {P:Nat->Prop} {w w1 w':World} {d:Ae} {us:List Value} {ks:List Int} {e:Ending} (h:De P w1 d us ks e w') (hb:Below w.heap.size w w1):De P w d us ks e w':=by
 obtain⟨c,f⟩:=h;refine⟨hb.trans (c.mono hb.size), ?_⟩;rcases f with⟨b,v,i,j⟩|b
 ·exact .inl ⟨b,v,i,j.below (fun g a=>by rcases a with a|a;exact .inl a;exact .inr ⟨Nat.le_trans hb.size a.1,a.2⟩) (fun g _=>rfl)⟩
 ·exact .inr b
theorem grown_value (c o t y:Int) (x:ByteArray) (k:Int) (h1:1<=c) (h2:c<=9) (ho:c=8->1<=o/\o<=12) (P:Nat->Prop) (us:List Value) (ks:List Int) (S:Value) (n:Nat) (HN:Hid (ks.length=n)) (w:World) (hW:Ed w) (hP:∀ g,P g->g < w.heap.size) (hS:Bk P w S n us) (hk:Aq us ks) (hl:n<=1000000) :
  Calls prog 66 #[Af ⟨c,o,t,y,x,k⟩,S] w fun e w'=>De P w ⟨c,o,t,y,x,k⟩ us ks e w':=by
 have:c=1\/c=2\/c=3\/c=4\/c=5\/c=6\/c=7\/c=8\/c=9:=OC
 rcases this with rfl|rfl|rfl|rfl|rfl|rfl|rfl|rfl|rfl
 ·exact grownValue_al _ OD o t y x k P us ks S n HN w hP hS hk hl
 ·exact grownValue_al _ OD o t y x k P us ks S n HN w hP hS hk hl
 ·exact grownValue_al _ OD o t y x k P us ks S n HN w hP hS hk hl
 ·exact grownValue_al _ OD o t y x k P us ks S n HN w hP hS hk hl
 ·exact grownValue_bl _ OD o t y x k P us ks S n HN w hP hS hk hl
 ·exact grownValue_6 o t y x k P us ks S n HN w hP hS hk hl
 ·exact grownValue_7 o t y x k P us ks S n HN w hP hS hk hl
 ·exact grownValue_8 o t y x k (ho rfl) P us ks S n HN w hW hP hS hk hl
 ·exact grownValue_bl _ OD o t y x k P us ks S n HN w hP hS hk hl
theorem grown_statement (c o t y:Int) (x:ByteArray) (k:Int) (h1:10<=c) (h2:c<=20) (P:Nat->Prop) (us:List Value) (ks:List Int) (S:Value) (n:Nat) (HN:Hid (ks.length=n)) (w:World) (hP:∀ g,P g->g < w.heap.size) (hS:Bk P w S n us) (hk:Aq us ks) (hl:n<=1000000) :
  Calls prog 67 #[Af ⟨c,o,t,y,x,k⟩,S] w fun e w'=>De P w ⟨c,o,t,y,x,k⟩ us ks e w':=by
 have:c=10\/c=11\/c=12\/c=13\/c=14\/c=15\/c=16\/c=17\/c=18\/c=19\/c=20:=OC
 rcases this with rfl|rfl|rfl|rfl|rfl|rfl|rfl|rfl|rfl|rfl|rfl
 ·exact grownStatement_10 o t y x k P us ks S n HN w hP hS hk hl
 ·exact grownStatement_11 o t y x k P us ks S n HN w hP hS hk hl
 ·exact grownStatement_12 o t y x k P us ks S n HN w hP hS hk
 ·exact grownStatement_13 o t y x k P us ks S n HN w hP hS hk
 ·exact grownStatement_14 o t y x k P us ks S n HN w hP hS hk hl
 ·exact grownStatement_15 o t y x k P us ks S n HN w hP hS hk hl
 ·exact grownStatement_16 o t y x k P us ks S n HN w hP hS hk hl
 ·exact grownStatement_17 o t y x k P us ks S n HN w hP hS hk hl
 ·exact grownStatement_18 o t y x k P us ks S n HN w hP hS hk hl
 ·exact grownStatement_19 o t y x k P us ks S n HN w hP hS hk hl
 ·exact grownStatement_20 o t y x k P us ks S n HN w hP hS hk
def Qb6 (S:Value) (n:Nat):Prop := ∀ a c,S = .slice a n c->n<=c
theorem grown_any (c o t y:Int) (x:ByteArray) (k:Int) (ho:c=8->1<=o/\o<=12) (P:Nat->Prop) (us:List Value) (ks:List Int) (S:Value) (n:Nat) (HN:Hid (ks.length=n)) (w:World) (hW:Ed w) (hP:∀ g,P g->g < w.heap.size) (hS:Bk P w S n us) (hcap:Qb6 S n) (hk:Aq us ks) (hl:n<=1000000) :
  Calls prog 32 #[Af ⟨c,o,t,y,x,k⟩,S] w fun e w'=>De P w ⟨c,o,t,y,x,k⟩ us ks e w':=by
 have d:=(Below.refl w.heap.size w).alloc ON (.cells #[.int .i64 c,.int .i64 o,.int .i64 t,.int .i64 y,.string x,.int .i64 k] 62);have f:=hS.alloc hP (.cells #[.int .i64 c,.int .i64 o,.int .i64 t,.int .i64 y,.string x,.int .i64 k] 62);have l:∀ g,P g->g < (w.alloc (.cells #[.int .i64 c,.int .i64 o,.int .i64 t,.int .i64 y,.string x,.int .i64 k] 62)).heap.size:=fun g h=>by have:=hP g h;rw[World.size_alloc];omega
 have G:Ed (w.alloc (.cells #[.int .i64 c,.int .i64 o,.int .i64 t,.int .i64 y,.string x,.int .i64 k] 62)):=⟨fun m p r=>by rw[World.cell?_alloc_past _ _ _ hW.2];exact hW.1 m p r,by rw[World.size_alloc];have:=hW.2;omega⟩;have z:us.length=n:=by rw[hk.1];exact HN.out
 by_cases p:1<=c/\c<=9
 ·obtain⟨p,r⟩:=p;simp only[Af];go_enter func32,ntmps32;go_wp2_with (go_at_call 66;refine(grown_value c o t y x k p r ho P us ks S n HN _ G l f hk hl).mono ?_;intro e w' i;have q:=De.from i d;clear i;obtain⟨v,rfl⟩:∃ v,e = .returned v:=by { rcases q.2 with⟨_,v,h,_⟩|⟨_,h⟩;exact⟨v,h⟩;exact⟨_,h⟩ });go_ret;exact q
 ·by_cases r:10<=c/\c<=20
  ·obtain⟨I,J⟩:=r;have h5:¬ c<=9:=OC;clear p;simp only[Af];go_enter func32,ntmps32;go_wp2_with (go_at_call 67;refine(grown_statement c o t y x k I J P us ks S n HN _ l f hk hl).mono ?_;intro e w' i;have q:=De.from i d;clear i;obtain⟨v,rfl⟩:∃ v,e = .returned v:=by { rcases q.2 with⟨_,v,h,_⟩|⟨_,h⟩;exact⟨v,h⟩;exact⟨_,h⟩ });go_ret;exact q
  ·by_cases h21:c=21
   ·subst h21;obtain⟨b,E⟩:∃ b,Hid (ks.all Cv=b):=⟨_,(rfl:ks.all Cv=_)⟩;have s:Hid (Ac 21 o ks=b):=(by rw[Hid];simp[Ac];exact E.out);obtain⟨a,H,rfl,D⟩:=hS;clear D p r;simp only[Af];cases b with
    | false =>
     go_enter func32,ntmps32;go_wp2_with (go_at_call 68;refine(allStatement_is false P us ks E _ n HN _ f hk hl).mono ?_;rintro e w' ⟨rfl,rfl⟩);go_ret;exact⟨d,.inr ⟨s.out,rfl⟩⟩
    | true =>
     go_enter func32,ntmps32;go_wp2_with (go_at_call 68;refine(allStatement_is true P us ks E _ n HN _ f hk hl).mono ?_;rintro e w' ⟨rfl,rfl⟩);go_ret;refine⟨d,.inl ⟨s.out,_,rfl,by simp,by simp,_,rfl, ?_⟩⟩;have C:=f.below (Q:=fun g=>P g\/(w.heap.size<=g/\g < (w.alloc (.cells #[.int .i64 21,.int .i64 o,.int .i64 t,.int .i64 y,.string x,.int .i64 k] 62)).heap.size)) (fun g h => .inl h) (fun g h=>rfl);rw[<- z]at C;unfold Az;simp (decide:=true) only[if_false,if_true];exact⟨_,C,by rw[z]⟩
   ·by_cases h22:c=22
    ·subst h22;obtain⟨a,H,rfl,D⟩:=hS;clear D p r;simp only[Af];by_cases h0:n=0
     ·subst h0;have s:Hid (Ac 22 o ks=true):=(by rw[Hid];have:=HN.out;simp[Ac,this]);obtain rfl:=T8 z;go_enter func32,ntmps32;go_wp2_with fail;go_ret;exact⟨d,.inl ⟨s.out,_,rfl,by simp,by simp,_,rfl,by simp[Az]⟩⟩
     ·have s:Hid (Ac 22 o ks=false):=(by rw[Hid];have:=HN.out;simp[Ac,this,h0]);have V:((n:Int) == 0)=false:=(by simpa using (by omega:¬ (n:Int)=0));clear h0 z;go_enter func32,ntmps32;go_wp2_with fail;go_ret;exact⟨d,.inr ⟨s.out,rfl⟩⟩
    ·by_cases h23:c=23
     ·subst h23;have u:Hid (Ac 23 o ks=Ea ks):=(by rw[Hid];simp[Ac]);clear p r;cases hK:Ea ks with
      | true =>
       rw[hK]at u;simp only[Af];go_enter func32,ntmps32;go_wp2_with (go_at_call 70;refine(grownFn_any 23 o t y x k P us ks S n HN _ l f hcap hk hl).mono ?_;rintro e w' ⟨j,i⟩;rw[hK]at i;obtain⟨_,X,rfl,W,N,L,B,F,rfl,O,Y⟩:=i.resolve_right OF);go_ret;refine⟨d.trans (j.mono (by rw[World.size_alloc];omega)),.inl ⟨u.out,_,rfl,by simp,by simp,_,rfl, ?_⟩⟩;unfold Az;simp (decide:=true) only[if_false,if_true];exact⟨W,N,L,B,F.below (fun g h => .inr ⟨by have:=h.1;rw[World.size_alloc]at this;omega,h.2⟩) (fun g _=>rfl),rfl⟩
      | false =>
       rw[hK]at u;simp only[Af];go_enter func32,ntmps32;go_wp2_with (go_at_call 70;refine(grownFn_any 23 o t y x k P us ks S n HN _ l f hcap hk hl).mono ?_;rintro e w' ⟨j,i⟩;rw[hK]at i;obtain⟨_,rfl⟩:=i.resolve_left OF);go_ret;exact⟨d.trans (j.mono (by rw[World.size_alloc];omega)),.inr ⟨u.out,rfl⟩⟩
     ·by_cases h24:c=24
      ·subst h24;have u:Hid (Ac 24 o ks=Hk ks):=(by rw[Hid];simp[Ac,Hk]);clear p r h21 h22 h23;cases hK:Hk ks with
       | true =>
        rw[hK]at u;simp only[Af];go_enter func32,ntmps32;go_wp2_with (go_at_call 71;refine(grownProgram_any P us ks S n HN _ l f hk).mono ?_;rintro e w' ⟨j,i⟩;rw[hK]at i;obtain⟨_,X,rfl,R,M,B,F,rfl,O⟩:=i.resolve_right OF);go_ret;refine⟨d.trans (j.mono (by rw[World.size_alloc];omega)),.inl ⟨u.out,_,rfl,by simp,by simp,_,rfl, ?_⟩⟩;unfold Az;simp (decide:=true) only[if_false];exact⟨R,M,B,F.below (fun g h => .inr ⟨by have:=h.1;rw[World.size_alloc]at this;omega,h.2⟩) (fun g _=>rfl),rfl⟩
       | false =>
        rw[hK]at u;simp only[Af];go_enter func32,ntmps32;go_wp2_with (go_at_call 71;refine(grownProgram_any P us ks S n HN _ l f hk).mono ?_;rintro e w' ⟨j,i⟩;rw[hK]at i;obtain⟨_,rfl⟩:=i.resolve_left OF);go_ret;exact⟨d.trans (j.mono (by rw[World.size_alloc];omega)),.inr ⟨u.out,rfl⟩⟩
      ·have K:∀ m:Int,1<=m->m<=24->c≠m:=fun m I J=>OC
       have s:Hid (Ac c o ks=false):=(by rw[Hid];simp[Ac,K]);have B:¬ (1<=c/\c<=9):=p;have A:c < 1\/24 < c:=OC;obtain⟨a,H,rfl,D⟩:=hS;clear D K B p r;simp only[Af];rcases A with A|A
       ·have T:¬ 1<=c:=OC;have U:¬ 10<=c:=OC;go_enter func32,ntmps32;go_wp2_with fail;go_ret;exact⟨d,.inr ⟨s.out,rfl⟩⟩
       ·have T:¬ c<=9:=OC;have U:¬ c<=20:=OC;have Z:1<=c:=OC;have g4:10<=c:=OC;go_enter func32,ntmps32;go_wp2_with fail;go_ret;exact⟨d,.inr ⟨s.out,rfl⟩⟩
def Ay (d:Ae) (m:Nat):Ae:=⟨d.kind,if Hm d.kind then d.op else 0,if F4 d.kind then d.type else 0,if d.kind=1 then d.n else if d.kind=3 then (if d.n=1 then 1 else 0) else 0,if F3 d.kind then d.text else ⟨#[]⟩,(m:Int)⟩
def Cl (P:Nat->Prop) (w:World) (d:Ae) (us:List Value) (e:Ending) (w':World):Prop :=
 ∃ S,e = .returned (.tuple #[Af (Ay d us.length),S])/\Below w.heap.size w w'/\Bk (fun g=>P g\/(w.heap.size<=g/\g < w'.heap.size)) w' S us.length us
theorem H0 (P:Nat->Prop) (w:World):Bk P w (.slice none 0 0) 0 []:=⟨none,0,rfl,fun j u hj=>by simp at hj⟩
theorem J2 {P:Nat->Prop} {w:World} {B c:Nat} {u:Value} (h:w.cell? (OK B 0)=some u) (hP:P B):Bk P w (.slice (some (OK B 0)) 1 c) 1 [u]:=by
 refine⟨_,_,rfl,fun j v hj=>⟨B,rfl,hP, ?_⟩⟩;match j,hj with
 | 0,hj=>simp at hj;rw[<- hj];exact h
theorem Qn {P:Nat->Prop} {w:World} {B c:Nat} {u v:Value} (h:w.cell? (OK B 0)=some u) (h1:w.cell? (OK B 1)=some v) (hP:P B):Bk P w (.slice (some (OK B 0)) 2 c) 2 [u,v]:=by
 refine⟨_,_,rfl,fun j z hj=>⟨B,rfl,hP, ?_⟩⟩;match j,hj with
 | 0,hj=>simp at hj;rw[<- hj];exact h
 | 1,hj=>simp at hj;rw[<- hj];exact h1
theorem Qeq {P:Nat->Prop} {w:World} {B c:Nat} {u v z:Value} (h:w.cell? (OK B 0)=some u) (h1:w.cell? (OK B 1)=some v) (h2:w.cell? (OK B 2)=some z) (hP:P B):Bk P w (.slice (some (OK B 0)) 3 c) 3 [u,v,z]:=by
 refine⟨_,_,rfl,fun j y hj=>⟨B,rfl,hP, ?_⟩⟩;match j,hj with
 | 0,hj=>simp at hj;rw[<- hj];exact h
 | 1,hj=>simp at hj;rw[<- hj];exact h1
 | 2,hj=>simp at hj;rw[<- hj];exact h2
theorem above_any (c o t y:Int) (x:ByteArray) (k:Int) (a:Option Addr) (n cc:Nat) (w:World) :
  Calls prog 224 #[.agg #[.int .i64 c,.int .i64 o,.int .i64 t,.int .i64 y,.string x,.int .i64 k],.slice a n cc] w fun e w'=>e = .returned (.tuple #[.agg #[.int .i64 c,.int .i64 o,.int .i64 t,.int .i64 y,.string x,.int .i64 (n:Int)],.slice a n cc])/\w'=(w.alloc (.cells #[.int .i64 c,.int .i64 o,.int .i64 t,.int .i64 y,.string x,.int .i64 (n:Int)] 62)).alloc (.cells #[.int .i64 c,.int .i64 o,.int .i64 t,.int .i64 y,.string x,.int .i64 (n:Int)] 62):=by
 go_enter func224,ntmps224;go_wp2;exact bodyPost_ret (v:=.tuple #[.agg #[.int .i64 c,.int .i64 o,.int .i64 t,.int .i64 y,.string x,.int .i64 (n:Int)],.slice a n cc]) (by simp[results,results224,go_sem]) rfl ⟨rfl,rfl⟩
theorem parts_1 (o t y:Int) (x:ByteArray) (k:Int) (P:Nat->Prop) (w:World) :
  Calls prog 229 #[.agg #[.int .i64 t,.int .i64 y]] w fun e w'=>Cl P w ⟨1,o,t,y,x,k⟩ [] e w':=by
 have a:Hid (Af (Ay ⟨1,o,t,y,x,k⟩ 0) = .agg #[.int .i64 1,.int .i64 0,.int .i64 t,.int .i64 y,.string ⟨#[]⟩,.int .i64 0]):=by rw[Hid];rfl
 go_enter func229,ntmps229;go_wp2;refine bodyPost_ret (v:=.tuple #[.agg #[.int .i64 1,.int .i64 0,.int .i64 t,.int .i64 y,.string ⟨#[]⟩,.int .i64 0],.slice none 0 0]) (by simp[results,results229,go_sem]) rfl ⟨_,by rw[<- a.out];rfl,OA,H0 _ _⟩
theorem parts_2 (o t y:Int) (x:ByteArray) (k:Int) (P:Nat->Prop) (w:World) :
  Calls prog 230 #[.agg #[.string x]] w fun e w'=>Cl P w ⟨2,o,t,y,x,k⟩ [] e w':=by
 have a:Hid (Af (Ay ⟨2,o,t,y,x,k⟩ 0) = .agg #[.int .i64 2,.int .i64 0,.int .i64 0,.int .i64 0,.string x,.int .i64 0]):=by rw[Hid];rfl
 go_enter func230,ntmps230;go_wp2;refine bodyPost_ret (v:=.tuple #[.agg #[.int .i64 2,.int .i64 0,.int .i64 0,.int .i64 0,.string x,.int .i64 0],.slice none 0 0]) (by simp[results,results230,go_sem]) rfl ⟨_,by rw[<- a.out];rfl,OA,H0 _ _⟩
theorem parts_4 (o t y:Int) (x:ByteArray) (k:Int) (P:Nat->Prop) (w:World) :
  Calls prog 232 #[.agg #[.string x]] w fun e w'=>Cl P w ⟨4,o,t,y,x,k⟩ [] e w':=by
 have a:Hid (Af (Ay ⟨4,o,t,y,x,k⟩ 0) = .agg #[.int .i64 4,.int .i64 0,.int .i64 0,.int .i64 0,.string x,.int .i64 0]):=by rw[Hid];rfl
 go_enter func232,ntmps232;go_wp2;refine bodyPost_ret (v:=.tuple #[.agg #[.int .i64 4,.int .i64 0,.int .i64 0,.int .i64 0,.string x,.int .i64 0],.slice none 0 0]) (by simp[results,results232,go_sem]) rfl ⟨_,by rw[<- a.out];rfl,OA,H0 _ _⟩
theorem parts_14 (o t y:Int) (x:ByteArray) (k:Int) (P:Nat->Prop) (w:World) :
  Calls prog 240 #[.agg #[]] w fun e w'=>Cl P w ⟨14,o,t,y,x,k⟩ [] e w':=by
 have a:Hid (Af (Ay ⟨14,o,t,y,x,k⟩ 0) = .agg #[.int .i64 14,.int .i64 0,.int .i64 0,.int .i64 0,.string ⟨#[]⟩,.int .i64 0]):=by rw[Hid];rfl
 go_enter func240,ntmps240;go_wp2;refine bodyPost_ret (v:=.tuple #[.agg #[.int .i64 14,.int .i64 0,.int .i64 0,.int .i64 0,.string ⟨#[]⟩,.int .i64 0],.slice none 0 0]) (by simp[results,results240,go_sem]) rfl ⟨_,by rw[<- a.out];rfl,OA,H0 _ _⟩
theorem parts_15 (o t y:Int) (x:ByteArray) (k:Int) (P:Nat->Prop) (w:World) :
  Calls prog 241 #[.agg #[]] w fun e w'=>Cl P w ⟨15,o,t,y,x,k⟩ [] e w':=by
 have a:Hid (Af (Ay ⟨15,o,t,y,x,k⟩ 0) = .agg #[.int .i64 15,.int .i64 0,.int .i64 0,.int .i64 0,.string ⟨#[]⟩,.int .i64 0]):=by rw[Hid];rfl
 go_enter func241,ntmps241;go_wp2;refine bodyPost_ret (v:=.tuple #[.agg #[.int .i64 15,.int .i64 0,.int .i64 0,.int .i64 0,.string ⟨#[]⟩,.int .i64 0],.slice none 0 0]) (by simp[results,results241,go_sem]) rfl ⟨_,by rw[<- a.out];rfl,OA,H0 _ _⟩
theorem parts_22 (o t y:Int) (x:ByteArray) (k:Int) (P:Nat->Prop) (w:World) :
  Calls prog 228 #[.agg #[.string x,.int .i64 t]] w fun e w'=>Cl P w ⟨22,o,t,y,x,k⟩ [] e w':=by
 have a:Hid (Af (Ay ⟨22,o,t,y,x,k⟩ 0) = .agg #[.int .i64 22,.int .i64 0,.int .i64 t,.int .i64 0,.string x,.int .i64 0]):=by rw[Hid];rfl
 go_enter func228,ntmps228;go_wp2;refine bodyPost_ret (v:=.tuple #[.agg #[.int .i64 22,.int .i64 0,.int .i64 t,.int .i64 0,.string x,.int .i64 0],.slice none 0 0]) (by simp[results,results228,go_sem]) rfl ⟨_,by rw[<- a.out];rfl,OA,H0 _ _⟩
theorem parts_16n (o t y:Int) (x:ByteArray) (k:Int) (P:Nat->Prop) (w:World) :
  Calls prog 242 #[.agg #[.nilIface]] w fun e w'=>Cl P w ⟨16,o,t,y,x,k⟩ [] e w':=by
 have a:Hid (Af (Ay ⟨16,o,t,y,x,k⟩ 0) = .agg #[.int .i64 16,.int .i64 0,.int .i64 0,.int .i64 0,.string ⟨#[]⟩,.int .i64 0]):=by rw[Hid];rfl
 go_enter func242,ntmps242;go_wp2;refine bodyPost_ret (v:=.tuple #[.agg #[.int .i64 16,.int .i64 0,.int .i64 0,.int .i64 0,.string ⟨#[]⟩,.int .i64 0],.slice none 0 0]) (by simp[results,results242,go_sem]) rfl ⟨_,by rw[<- a.out];rfl,OA,H0 _ _⟩
theorem parts_5 (o t y:Int) (x:ByteArray) (k:Int) (tu:TypeId) (yu:Value) (P:Nat->Prop) (w:World) :
  Calls prog 233 #[.agg #[.int .i64 o,.iface tu yu]] w fun e w'=>Cl P w ⟨5,o,t,y,x,k⟩ [.iface tu yu] e w':=by
 have a:Hid (Af (Ay ⟨5,o,t,y,x,k⟩ 1) = .agg #[.int .i64 5,.int .i64 o,.int .i64 0,.int .i64 0,.string ⟨#[]⟩,.int .i64 1]):=by rw[Hid];rfl
 go_enter func233,ntmps233;go_wp2_with (go_at_call 224;refine(above_any _ _ _ _ _ _ _ _ _ _).mono ?_;rintro e w' ⟨rfl,rfl⟩);refine bodyPost_ret (v:=.tuple #[.agg #[.int .i64 5,.int .i64 o,.int .i64 0,.int .i64 0,.string ⟨#[]⟩,.int .i64 1],.slice (some (OK (w.heap.size+1+1) 0)) 1 1]) (by simp[results,results233,go_sem]) rfl ⟨_,by rw[<- a.out];rfl,OA,J2 (by simp[go_sem]) (.inr OB)⟩
theorem parts_9 (o t y:Int) (x:ByteArray) (k:Int) (tu:TypeId) (yu:Value) (P:Nat->Prop) (w:World) :
  Calls prog 237 #[.agg #[.int .i64 t,.iface tu yu]] w fun e w'=>Cl P w ⟨9,o,t,y,x,k⟩ [.iface tu yu] e w':=by
 have a:Hid (Af (Ay ⟨9,o,t,y,x,k⟩ 1) = .agg #[.int .i64 9,.int .i64 0,.int .i64 t,.int .i64 0,.string ⟨#[]⟩,.int .i64 1]):=by rw[Hid];rfl
 go_enter func237,ntmps237;go_wp2_with (go_at_call 224;refine(above_any _ _ _ _ _ _ _ _ _ _).mono ?_;rintro e w' ⟨rfl,rfl⟩);refine bodyPost_ret (v:=.tuple #[.agg #[.int .i64 9,.int .i64 0,.int .i64 t,.int .i64 0,.string ⟨#[]⟩,.int .i64 1],.slice (some (OK (w.heap.size+1+1) 0)) 1 1]) (by simp[results,results237,go_sem]) rfl ⟨_,by rw[<- a.out];rfl,OA,J2 (by simp[go_sem]) (.inr OB)⟩
theorem parts_10 (o t y:Int) (x:ByteArray) (k:Int) (tu:TypeId) (yu:Value) (P:Nat->Prop) (w:World) :
  Calls prog 238 #[.agg #[.string x,.iface tu yu]] w fun e w'=>Cl P w ⟨10,o,t,y,x,k⟩ [.iface tu yu] e w':=by
 have a:Hid (Af (Ay ⟨10,o,t,y,x,k⟩ 1) = .agg #[.int .i64 10,.int .i64 0,.int .i64 0,.int .i64 0,.string x,.int .i64 1]):=by rw[Hid];rfl
 go_enter func238,ntmps238;go_wp2_with (go_at_call 224;refine(above_any _ _ _ _ _ _ _ _ _ _).mono ?_;rintro e w' ⟨rfl,rfl⟩);refine bodyPost_ret (v:=.tuple #[.agg #[.int .i64 10,.int .i64 0,.int .i64 0,.int .i64 0,.string x,.int .i64 1],.slice (some (OK (w.heap.size+1+1) 0)) 1 1]) (by simp[results,results238,go_sem]) rfl ⟨_,by rw[<- a.out];rfl,OA,J2 (by simp[go_sem]) (.inr OB)⟩
theorem parts_11 (o t y:Int) (x:ByteArray) (k:Int) (tu:TypeId) (yu:Value) (P:Nat->Prop) (w:World) :
  Calls prog 239 #[.agg #[.string x,.iface tu yu]] w fun e w'=>Cl P w ⟨11,o,t,y,x,k⟩ [.iface tu yu] e w':=by
 have a:Hid (Af (Ay ⟨11,o,t,y,x,k⟩ 1) = .agg #[.int .i64 11,.int .i64 0,.int .i64 0,.int .i64 0,.string x,.int .i64 1]):=by rw[Hid];rfl
 go_enter func239,ntmps239;go_wp2_with (go_at_call 224;refine(above_any _ _ _ _ _ _ _ _ _ _).mono ?_;rintro e w' ⟨rfl,rfl⟩);refine bodyPost_ret (v:=.tuple #[.agg #[.int .i64 11,.int .i64 0,.int .i64 0,.int .i64 0,.string x,.int .i64 1],.slice (some (OK (w.heap.size+1+1) 0)) 1 1]) (by simp[results,results239,go_sem]) rfl ⟨_,by rw[<- a.out];rfl,OA,J2 (by simp[go_sem]) (.inr OB)⟩
theorem parts_16 (o t y:Int) (x:ByteArray) (k:Int) (tu:TypeId) (yu:Value) (P:Nat->Prop) (w:World) :
  Calls prog 242 #[.agg #[.iface tu yu]] w fun e w'=>Cl P w ⟨16,o,t,y,x,k⟩ [.iface tu yu] e w':=by
 have a:Hid (Af (Ay ⟨16,o,t,y,x,k⟩ 1) = .agg #[.int .i64 16,.int .i64 0,.int .i64 0,.int .i64 0,.string ⟨#[]⟩,.int .i64 1]):=by rw[Hid];rfl
 go_enter func242,ntmps242;go_wp2_with (go_at_call 224;refine(above_any _ _ _ _ _ _ _ _ _ _).mono ?_;rintro e w' ⟨rfl,rfl⟩);refine bodyPost_ret (v:=.tuple #[.agg #[.int .i64 16,.int .i64 0,.int .i64 0,.int .i64 0,.string ⟨#[]⟩,.int .i64 1],.slice (some (OK (w.heap.size+1+1) 0)) 1 1]) (by simp[results,results242,go_sem]) rfl ⟨_,by rw[<- a.out];rfl,OA,J2 (by simp[go_sem]) (.inr OB)⟩
theorem parts_17 (o t y:Int) (x:ByteArray) (k:Int) (tu:TypeId) (yu:Value) (P:Nat->Prop) (w:World) :
  Calls prog 243 #[.agg #[.iface tu yu]] w fun e w'=>Cl P w ⟨17,o,t,y,x,k⟩ [.iface tu yu] e w':=by
 have a:Hid (Af (Ay ⟨17,o,t,y,x,k⟩ 1) = .agg #[.int .i64 17,.int .i64 0,.int .i64 0,.int .i64 0,.string ⟨#[]⟩,.int .i64 1]):=by rw[Hid];rfl
 go_enter func243,ntmps243;go_wp2_with (go_at_call 224;refine(above_any _ _ _ _ _ _ _ _ _ _).mono ?_;rintro e w' ⟨rfl,rfl⟩);refine bodyPost_ret (v:=.tuple #[.agg #[.int .i64 17,.int .i64 0,.int .i64 0,.int .i64 0,.string ⟨#[]⟩,.int .i64 1],.slice (some (OK (w.heap.size+1+1) 0)) 1 1]) (by simp[results,results243,go_sem]) rfl ⟨_,by rw[<- a.out];rfl,OA,J2 (by simp[go_sem]) (.inr OB)⟩
theorem parts_19 (o t y:Int) (x:ByteArray) (k:Int) (tu:TypeId) (yu:Value) (P:Nat->Prop) (w:World) :
  Calls prog 245 #[.agg #[.iface tu yu]] w fun e w'=>Cl P w ⟨19,o,t,y,x,k⟩ [.iface tu yu] e w':=by
 have a:Hid (Af (Ay ⟨19,o,t,y,x,k⟩ 1) = .agg #[.int .i64 19,.int .i64 0,.int .i64 0,.int .i64 0,.string ⟨#[]⟩,.int .i64 1]):=by rw[Hid];rfl
 go_enter func245,ntmps245;go_wp2_with (go_at_call 224;refine(above_any _ _ _ _ _ _ _ _ _ _).mono ?_;rintro e w' ⟨rfl,rfl⟩);refine bodyPost_ret (v:=.tuple #[.agg #[.int .i64 19,.int .i64 0,.int .i64 0,.int .i64 0,.string ⟨#[]⟩,.int .i64 1],.slice (some (OK (w.heap.size+1+1) 0)) 1 1]) (by simp[results,results245,go_sem]) rfl ⟨_,by rw[<- a.out];rfl,OA,J2 (by simp[go_sem]) (.inr OB)⟩
theorem parts_6 (o t y:Int) (x:ByteArray) (k:Int) (tu:TypeId) (yu:Value) (tv:TypeId) (yv:Value) (P:Nat->Prop) (w:World) :
  Calls prog 234 #[.agg #[.int .i64 o,.iface tu yu,.iface tv yv]] w fun e w'=>Cl P w ⟨6,o,t,y,x,k⟩ [.iface tu yu,.iface tv yv] e w':=by
 have a:Hid (Af (Ay ⟨6,o,t,y,x,k⟩ 2) = .agg #[.int .i64 6,.int .i64 o,.int .i64 0,.int .i64 0,.string ⟨#[]⟩,.int .i64 2]):=by rw[Hid];rfl
 go_enter func234,ntmps234;go_wp2_with (go_at_call 224;refine(above_any _ _ _ _ _ _ _ _ _ _).mono ?_;rintro e w' ⟨rfl,rfl⟩);refine bodyPost_ret (v:=.tuple #[.agg #[.int .i64 6,.int .i64 o,.int .i64 0,.int .i64 0,.string ⟨#[]⟩,.int .i64 2],.slice (some (OK (w.heap.size+1+1) 0)) 2 2]) (by simp[results,results234,go_sem]) rfl ⟨_,by rw[<- a.out];rfl,OA,Qn (by simp[go_sem]) (by simp[go_sem]) (.inr OB)⟩
theorem parts_18 (o t y:Int) (x:ByteArray) (k:Int) (tu:TypeId) (yu:Value) (tv:TypeId) (yv:Value) (P:Nat->Prop) (w:World) :
  Calls prog 244 #[.agg #[.iface tu yu,.iface tv yv]] w fun e w'=>Cl P w ⟨18,o,t,y,x,k⟩ [.iface tu yu,.iface tv yv] e w':=by
 have a:Hid (Af (Ay ⟨18,o,t,y,x,k⟩ 2) = .agg #[.int .i64 18,.int .i64 0,.int .i64 0,.int .i64 0,.string ⟨#[]⟩,.int .i64 2]):=by rw[Hid];rfl
 go_enter func244,ntmps244;go_wp2_with (go_at_call 224;refine(above_any _ _ _ _ _ _ _ _ _ _).mono ?_;rintro e w' ⟨rfl,rfl⟩);refine bodyPost_ret (v:=.tuple #[.agg #[.int .i64 18,.int .i64 0,.int .i64 0,.int .i64 0,.string ⟨#[]⟩,.int .i64 2],.slice (some (OK (w.heap.size+1+1) 0)) 2 2]) (by simp[results,results244,go_sem]) rfl ⟨_,by rw[<- a.out];rfl,OA,Qn (by simp[go_sem]) (by simp[go_sem]) (.inr OB)⟩
theorem parts_13 (o t y:Int) (x:ByteArray) (k:Int) (tu:TypeId) (yu:Value) (sa:Option Addr) (sn sc:Nat) (P:Nat->Prop) (w:World) :
  Calls prog 247 #[.agg #[.iface tu yu,.slice sa sn sc]] w fun e w'=>Cl P w ⟨13,o,t,y,x,k⟩ [.iface tu yu,Dv (.slice sa sn sc)] e w':=by
 have a:Hid (Af (Ay ⟨13,o,t,y,x,k⟩ 2) = .agg #[.int .i64 13,.int .i64 0,.int .i64 0,.int .i64 0,.string ⟨#[]⟩,.int .i64 2]):=by rw[Hid];rfl
 go_enter func247,ntmps247;go_wp2_with (go_at_call 224;refine(above_any _ _ _ _ _ _ _ _ _ _).mono ?_;rintro e w' ⟨rfl,rfl⟩);refine bodyPost_ret (v:=.tuple #[.agg #[.int .i64 13,.int .i64 0,.int .i64 0,.int .i64 0,.string ⟨#[]⟩,.int .i64 2],.slice (some (OK (w.heap.size+1+1) 0)) 2 2]) (by simp[results,results247,go_sem]) rfl ⟨_,by rw[<- a.out];rfl,OA,Qn (by simp[go_sem]) (by simp[go_sem,Dv]) (.inr OB)⟩
theorem parts_12n (o t y:Int) (x:ByteArray) (k:Int) (tu:TypeId) (yu:Value) (sa:Option Addr) (sn sc:Nat) (P:Nat->Prop) (w:World) :
  Calls prog 246 #[.agg #[.iface tu yu,.slice sa sn sc,.nilIface]] w fun e w'=>Cl P w ⟨12,o,t,y,x,k⟩ [.iface tu yu,Dv (.slice sa sn sc)] e w':=by
 have a:Hid (Af (Ay ⟨12,o,t,y,x,k⟩ 2) = .agg #[.int .i64 12,.int .i64 0,.int .i64 0,.int .i64 0,.string ⟨#[]⟩,.int .i64 2]):=by rw[Hid];rfl
 go_enter func246,ntmps246;go_wp2_with (go_at_call 224;refine(above_any _ _ _ _ _ _ _ _ _ _).mono ?_;rintro e w' ⟨rfl,rfl⟩);refine bodyPost_ret (v:=.tuple #[.agg #[.int .i64 12,.int .i64 0,.int .i64 0,.int .i64 0,.string ⟨#[]⟩,.int .i64 2],.slice (some (OK (w.heap.size+1+1) 0)) 2 2]) (by simp[results,results246,go_sem]) rfl ⟨_,by rw[<- a.out];rfl,OA,Qn (by simp[go_sem]) (by simp[go_sem,Dv]) (.inr OB)⟩
theorem parts_12 (o t y:Int) (x:ByteArray) (k:Int) (tu:TypeId) (yu:Value) (sa:Option Addr) (sn sc:Nat) (tv:TypeId) (yv:Value) (P:Nat->Prop) (w:World) :
  Calls prog 246 #[.agg #[.iface tu yu,.slice sa sn sc,.iface tv yv]] w fun e w'=>Cl P w ⟨12,o,t,y,x,k⟩ [.iface tu yu,Dv (.slice sa sn sc),.iface tv yv] e w':=by
 have a:Hid (Af (Ay ⟨12,o,t,y,x,k⟩ 3) = .agg #[.int .i64 12,.int .i64 0,.int .i64 0,.int .i64 0,.string ⟨#[]⟩,.int .i64 3]):=by rw[Hid];rfl
 go_enter func246,ntmps246;go_wp2_with (go_at_call 224;refine(above_any _ _ _ _ _ _ _ _ _ _).mono ?_;rintro e w' ⟨rfl,rfl⟩);refine bodyPost_ret (v:=.tuple #[.agg #[.int .i64 12,.int .i64 0,.int .i64 0,.int .i64 0,.string ⟨#[]⟩,.int .i64 3],.slice (some (OK (w.heap.size+1+1) 0)) 3 3]) (by simp[results,results246,go_sem]) rfl ⟨_,by rw[<- a.out];rfl,OA,Qeq (by simp[go_sem]) (by simp[go_sem,Dv]) (by simp[go_sem]) (.inr OB)⟩
theorem parts_20 (o t y:Int) (x:ByteArray) (k:Int) (nm:ByteArray) (sa:Option Addr) (sn sc:Nat) (P:Nat->Prop) (w:World) :
  Calls prog 248 #[.agg #[.string nm,.slice sa sn sc]] w fun e w'=>Cl P w ⟨20,o,t,y,x,k⟩ [.iface 183 (.agg #[.string nm,.slice sa sn sc])] e w':=by
 have a:Hid (Af (Ay ⟨20,o,t,y,x,k⟩ 1) = .agg #[.int .i64 20,.int .i64 0,.int .i64 0,.int .i64 0,.string ⟨#[]⟩,.int .i64 1]):=by rw[Hid];rfl
 go_enter func248,ntmps248;go_wp2_with (go_at_call 224;refine(above_any _ _ _ _ _ _ _ _ _ _).mono ?_;rintro e w' ⟨rfl,rfl⟩);refine bodyPost_ret (v:=.tuple #[.agg #[.int .i64 20,.int .i64 0,.int .i64 0,.int .i64 0,.string ⟨#[]⟩,.int .i64 1],.slice (some (OK (w.heap.size+1+1) 0)) 1 1]) (by simp[results,results248,go_sem]) rfl ⟨_,by rw[<- a.out];rfl,OA,J2 (by simp[go_sem]) (.inr OB)⟩
theorem parts_3t (o t y:Int) (x:ByteArray) (k:Int) (hy:y=1) (P:Nat->Prop) (w:World) :
  Calls prog 231 #[.agg #[.bool true]] w fun e w'=>Cl P w ⟨3,o,t,y,x,k⟩ [] e w':=by
 have a:Hid (Af (Ay ⟨3,o,t,y,x,k⟩ 0) = .agg #[.int .i64 3,.int .i64 0,.int .i64 0,.int .i64 1,.string ⟨#[]⟩,.int .i64 0]):=by rw[Hid];simp[Af,Ay,Hm,F4,F3,Cs,hy]
 clear hy;go_enter func231,ntmps231;go_wp2;refine bodyPost_ret (v:=.tuple #[.agg #[.int .i64 3,.int .i64 0,.int .i64 0,.int .i64 1,.string ⟨#[]⟩,.int .i64 0],.slice none 0 0]) (by simp[results,results231,go_sem]) rfl ⟨_,by rw[<- a.out];rfl,OA,H0 _ _⟩
theorem parts_3f (o t y:Int) (x:ByteArray) (k:Int) (hy:y≠1) (P:Nat->Prop) (w:World) :
  Calls prog 231 #[.agg #[.bool false]] w fun e w'=>Cl P w ⟨3,o,t,y,x,k⟩ [] e w':=by
 have a:Hid (Af (Ay ⟨3,o,t,y,x,k⟩ 0) = .agg #[.int .i64 3,.int .i64 0,.int .i64 0,.int .i64 0,.string ⟨#[]⟩,.int .i64 0]):=by rw[Hid];simp[Af,Ay,Hm,F4,F3,Cs,hy]
 clear hy;go_enter func231,ntmps231;go_wp2;refine bodyPost_ret (v:=.tuple #[.agg #[.int .i64 3,.int .i64 0,.int .i64 0,.int .i64 0,.string ⟨#[]⟩,.int .i64 0],.slice none 0 0]) (by simp[results,results231,go_sem]) rfl ⟨_,by rw[<- a.out];rfl,OA,H0 _ _⟩
theorem DdTreeSx34 {P:Prop} (h:P:=by
 rw[hu]
 refine hS.below (fun g h => .inl h) (fun g h => ?_)
 have:=hP g h
 repeat (first|rfl|rw[Below.heap_alloc _ _ _ OB]|rw[Below.heap_alloc _ _ _ this])
 ):P:=h
theorem parts_7 (o t y:Int) (x:ByteArray) (k:Int) (a:Option Addr) (n c:Nat) (us:List Value) (P:Nat->Prop) (w:World) (hP:∀ g,P g->g < w.heap.size) (hu:us.length=n) (hS:Bk P w (.slice a n c) n us) :
  Calls prog 235 #[.agg #[.string x,.slice a n c]] w fun e w'=>Cl P w ⟨7,o,t,y,x,k⟩ us e w':=by
 have b:Hid (Af (Ay ⟨7,o,t,y,x,k⟩ n) = .agg #[.int .i64 7,.int .i64 0,.int .i64 0,.int .i64 0,.string x,.int .i64 (n:Int)]):=by rw[Hid];rfl
 go_enter func235,ntmps235;go_wp2_with (go_at_call 224;refine(above_any _ _ _ _ _ _ _ _ _ _).mono ?_;rintro e w' ⟨rfl,rfl⟩);refine bodyPost_ret (v:=.tuple #[.agg #[.int .i64 7,.int .i64 0,.int .i64 0,.int .i64 0,.string x,.int .i64 (n:Int)],.slice a n c]) (by simp[results,results235,go_sem]) rfl ⟨_,by rw[hu,<- b.out],OA, ?_⟩;exact DdTreeSx34
theorem parts_8 (o t y:Int) (x:ByteArray) (k:Int) (a:Option Addr) (n c:Nat) (us:List Value) (P:Nat->Prop) (w:World) (hP:∀ g,P g->g < w.heap.size) (hu:us.length=n) (hS:Bk P w (.slice a n c) n us) :
  Calls prog 236 #[.agg #[.int .i64 o,.slice a n c]] w fun e w'=>Cl P w ⟨8,o,t,y,x,k⟩ us e w':=by
 have b:Hid (Af (Ay ⟨8,o,t,y,x,k⟩ n) = .agg #[.int .i64 8,.int .i64 o,.int .i64 0,.int .i64 0,.string ⟨#[]⟩,.int .i64 (n:Int)]):=by rw[Hid];rfl
 go_enter func236,ntmps236;go_wp2_with (go_at_call 224;refine(above_any _ _ _ _ _ _ _ _ _ _).mono ?_;rintro e w' ⟨rfl,rfl⟩);refine bodyPost_ret (v:=.tuple #[.agg #[.int .i64 8,.int .i64 o,.int .i64 0,.int .i64 0,.string ⟨#[]⟩,.int .i64 (n:Int)],.slice a n c]) (by simp[results,results236,go_sem]) rfl ⟨_,by rw[hu,<- b.out],OA, ?_⟩;exact DdTreeSx34
theorem parts_21 (o t y:Int) (x:ByteArray) (k:Int) (a:Option Addr) (n c:Nat) (us:List Value) (P:Nat->Prop) (w:World) (hP:∀ g,P g->g < w.heap.size) (hu:us.length=n) (hS:Bk P w (.slice a n c) n us) :
  Calls prog 226 #[.agg #[.slice a n c]] w fun e w'=>Cl P w ⟨21,o,t,y,x,k⟩ us e w':=by
 have b:Hid (Af (Ay ⟨21,o,t,y,x,k⟩ n) = .agg #[.int .i64 21,.int .i64 0,.int .i64 0,.int .i64 0,.string ⟨#[]⟩,.int .i64 (n:Int)]):=by rw[Hid];rfl
 go_enter func226,ntmps226;go_wp2_with (go_at_call 224;refine(above_any _ _ _ _ _ _ _ _ _ _).mono ?_;rintro e w' ⟨rfl,rfl⟩);refine bodyPost_ret (v:=.tuple #[.agg #[.int .i64 21,.int .i64 0,.int .i64 0,.int .i64 0,.string ⟨#[]⟩,.int .i64 (n:Int)],.slice a n c]) (by simp[results,results226,go_sem]) rfl ⟨_,by rw[hu,<- b.out],OA, ?_⟩;exact DdTreeSx34
end Go.Proofs.YtjlaedokfbcbpaaGreatDoor
