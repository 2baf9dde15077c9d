import Derived.Test.YtjlaedokfbcbpaaGreatDoorKGenK
set_option maxRecDepth 100000
set_option maxHeartbeats 2000000
namespace Go.Proofs.YtjlaedokfbcbpaaGreatDoor
open Go.RowKit Proofs.Tryz
theorem M1 (n:Int) (h0:0<=n) (h1:n<=9223372036854775807) (w:World) :
  Calls prog 59 #[.int .i64 n] w fun e w' => ∃ t:ByteArray,e = .returned (.string t)/\t.size<=20/\Below w.heap.size w w':=by
 have f:¬ n < 0:=OC
 have b:Hid (∀ U:World,Calls prog 99 #[.int .u64 n] U fun e w' => ∃ t:ByteArray,e = .returned (.string t)/\t.size<=20/\Below U.heap.size U w'):=fun U=>by
  obtain⟨m,rfl⟩:=Int.eq_ofNat_of_zero_le h0;refine(Qv m OC U).mono ?_;rintro e w' ⟨c,a⟩;exact⟨_,c,by have:=S3 m OC;show (Lib.decDigits m).toArray.size<=20;simpa using this,a⟩
 have g:n % 18446744073709551616=n:=OC
 go_enter func59,ntmps59;go_wp2_with (go_at_call 99;refine(b.out _).mono ?_;rintro e h ⟨t,rfl,d,a⟩);go_ret;exact⟨t,rfl,d,a⟩
theorem Qb0 {w:World} {B e size n:Nat} {a:Option Addr} {c:Nat} {xs:List Value} (h:w.ownsRow B e size (.slice a n c) n xs) (m:Nat) (hm:m<=n):w.ownsRow B e size (.slice a m c) m (xs.take (m * size)):=by
 have p:m * size<=n * size:=Nat.mul_le_mul_right _ hm;refine⟨by rw[List.length_take,h.1];omega, ?_⟩;rcases h.2 with⟨f,q⟩|⟨g,b,d,f,l,o,r,i,j,k⟩
 ·injection f with e1 e2 e3;exact .inl ⟨by rw[e1,e3,show m=0 by omega],by omega⟩
 ·injection f with e1 e2 e3;refine .inr ⟨g,b,d,by rw[e1,e3],l,o,by omega,i,j, ?_⟩;rw[<- k,List.take_take,Nat.min_eq_left p]
theorem Aw.addName {B g R P:Nat} {w V w5:World} {nv v5:Value} {nl:List (ByteArray × Int)} {fv:Value} {F:List Ca} {ret loops count size:Int} (h:Aw B g R P w nv nl fv F ret loops count size) (x:ByteArray) (t:Int) (hx:x.size<=30) (ht:Hs t) (hb:Below w.heap.size w V) (ho:w5.ownsRow g 162 2 v5 (nl.length+1) (Ov nl++[.string x,.int .i64 t])) (hg:V.grownBy w5 nv.ownBlock) :
  Aw B g R (P+1) (w5.setCell (OK g 1) v5) v5 (nl++[(x,t)]) fv F ret loops count size/\Ak B w (w5.setCell (OK g 1) v5):=by
 have hV:=h.below hb;have N:=h.lo;have Q:=hb.size;have S:=hg.size;have m:g < w.heap.size:=(Array.getElem?_eq_some_iff.1 h.box).1;have d:∀ k,nv.ownBlock=some k->k≠g/\k≠R/\g<=k:=fun k hk=>by
  obtain⟨r,G,c⟩:=A8 h.names hk;refine⟨fun e => ?_,fun e => ?_,r.1⟩
  ·subst e;rw[h.box]at c;injection c with c;injection c with _ c _;exact absurd c OD
  ·subst e;obtain⟨p,_,E⟩:=h.rd;obtain⟨Z,D⟩:=Wa E;rw[D]at c;injection c with c;injection c with _ c _;exact absurd c OD
 have s:∀ k,v5.ownBlock=some k->k≠g:=fun k hk e=>by
  obtain⟨r,G,c⟩:=A8 ho hk;subst e;have L:w5.heap[k]? = w.heap[k]?:=(hg.block k OC (fun e=>(d k e.symm).1 rfl)).trans (hb.block k m);rw[L,h.box]at c;injection c with c;injection c with _ c _;exact absurd c OD
 have o:∀ k,k < w.heap.size->nv.ownBlock≠some k->k≠g->(w5.setCell (OK g 1) v5).heap[k]? = w.heap[k]?:=fun k hk l A=>(Bd A).trans ((hg.block k OC (fun e=>l e.symm)).trans (hb.block k hk))
 have C:w5.heap[g]? = w.heap[g]?:=(hg.block g OC (fun e=>(d g e.symm).1 rfl)).trans (hb.block g m);have H:Ak B w (w5.setCell (OK g 1) v5):=⟨hg.os.trans hb.os,hg.tape.trans hb.tape,hg.output.trans hb.output,by simp only[World.setCell,Array.size_modify];omega,fun k hk f=>by
  refine o k hk (fun e => ?_) (fun e => ?_)
  ·rcases f with f|f
   ·have:=(d k e).2.2;omega
   ·obtain⟨G,c⟩:=(A8 h.names e).2
    exact(f _ _ _ c).2.2 rfl
  ·subst e
   rcases f with f|f
   ·omega
   ·exact(f _ _ _ h.box).2.1 rfl⟩
 obtain⟨p,f,E⟩:=h.rd;obtain⟨I,W,X,Y⟩:=h.bd;refine⟨⟨h.lo,⟨p,by omega, ?_⟩, ?_, ?_, ?_,h.fns.fw H,I,by omega,by omega,by omega⟩,H⟩
 ·obtain⟨v,n,J,O,M⟩:=E.box;have q:∀ k,k<=R->nv.ownBlock≠some k->(w5.setCell (OK g 1) v5).heap[k]? = w.heap[k]?:=fun k hk l=>o k OC l OC
  refine⟨v,n,(q R ON (fun e=>(d R e).2.1 rfl)).trans J,O, ?_⟩;rcases M with e|⟨b,u,z,l,A,K⟩
  ·exact .inl e
  ·refine .inr ⟨b,u,z,l,A,fun i hi => ?_⟩;obtain⟨y,T,U,j⟩:=K i hi;refine⟨y,T,U, ?_⟩;rw[World.cell?_of_block (a:=(OK b (u+i))) (q b OC (fun e => ?_))]
   ·exact j
   ·have:=(d b e).2.2;omega
 ·rw[Ha (C.trans h.box)];rfl
 ·have:=B1 ho (w':=w5.setCell (OK g 1) v5) (fun k hk _ _=>Bd (s k hk));simpa[Ov,Qgi]using this
 ·refine⟨by have:=h.nbd.1;simp;omega,fun y j => ?_⟩;rcases List.mem_append.1 j with j|j
  ·exact h.nbd.2 y j
  ·simp at j;subst j;exact⟨hx,ht⟩
def Qf9 (B g R P:Nat) (w:World) (nv:Value) (nl:List (ByteArray × Int)) (fv:Value) (F:List Ca) (ret loops count size:Int) (e:Ending) (w':World):Prop := ∃ t:ByteArray,e = .returned (.string t)/\t.size<=30/\Aw B g R P w' nv nl fv F ret loops count size/\Ak B w w'
theorem Ou {B g R P:Nat} {w:World} {nv:Value} {nl:List (ByteArray × Int)} {fv:Value} {F:List Ca} {ret loops count size:Int} (h:Aw B g R P w nv nl fv F ret loops count size) (hP:P<=800000000) :
  Calls prog 159 #[.pointer (some (OK g 0))] w (Qf9 B g R (P+1) w nv nl fv F ret loops (count+1) size):=by
 have o:=h.cells.2.2.2.2.2.1;have n:=h.froz 5;have f:=h.bd;have q:wrap64 (count+1)=count+1:=IntWalk.wrap64_in _ OC;obtain⟨d,c⟩:=h.putW (P':=P+1) OC 5 (.int .i64 (count+1)) (size':=size) (ret':=ret) (loops':=loops) (count':=count+1) rfl ⟨f.1,by omega,by omega,by omega⟩;have a:Hid (Aw B g R (P+1) (w.setCell (OK g 5) (.int .i64 (count+1))) nv nl fv F ret loops (count+1) size):=d;have b:Hid (Ak B w (w.setCell (OK g 5) (.int .i64 (count+1)))):=c;obtain⟨V,m⟩:∃ V,w.setCell (OK g 5) (.int .i64 (count+1))=V:=⟨_,rfl⟩;rw[m]at a b;have r:=a.out.cells.2.2.2.2.2.1;clear h d c;go_enter func159,ntmps159;go_wp2_with fail;refine(M1 (count+1) OC OC V).mono ?_;rintro e s ⟨t,rfl,p,j⟩;have k:¬ (9223372036854775807 < 1+t.size):=OC
 have i:¬ (9223372036854775806 < t.size):=OC
 go_wp2;go_ret;exact⟨_,rfl,by have l:(⟨#[118]⟩:ByteArray).size=1:=rfl;simp only[ByteArray.size_append,l];omega,a.out.below j,b.out.trans (Ak.of_below j)⟩
theorem Qk2 (nl:List (ByteArray × Int)) (n:Nat):(Ov nl).take (n * 2)=Ov (nl.take n):=by
 induction nl generalizing n with
 | nil=>simp[Ov]
 | cons x nl ih =>
  cases n with
  | zero=>simp[Ov]
  | succ n =>
   have:=ih n;unfold Ov at *;rw[List.take_succ_cons,List.flatMap_cons,List.flatMap_cons,<- this,Nat.add_mul,Nat.one_mul];simp[Qgi]
theorem Aw.cutName {B g R P:Nat} {w:World} {a:Option Addr} {c:Nat} {nl:List (ByteArray × Int)} {fv:Value} {F:List Ca} {ret loops count size:Int} (h:Aw B g R P w (.slice a nl.length c) nl fv F ret loops count size) (n:Nat) (hn:n<=nl.length) :
  Aw B g R P (w.setCell (OK g 1) (.slice a n c)) (.slice a n c) (nl.take n) fv F ret loops count size/\Ak B w (w.setCell (OK g 1) (.slice a n c)):=by
 have k:=h.lo;have i:Ak B w (w.setCell (OK g 1) (.slice a n c)):=⟨rfl,rfl,rfl,by simp[World.setCell],fun j hj d=>Bd (fun e=>by
  subst e
  rcases d with d|d
  ·omega
  ·exact(d _ _ _ h.box).2.1 rfl)⟩
 obtain⟨p,d,l⟩:=h.rd;refine⟨⟨h.lo,⟨p,by omega,H6 l (fun j hj=>Bd OC)⟩,by rw[Ha h.box];rfl, ?_,⟨by have:=h.nbd.1;rw[List.length_take];omega,fun x hx=>h.nbd.2 x (List.mem_of_mem_take hx)⟩,h.fns.fw i,h.bd⟩,i⟩;have f:=Qb0 h.names n hn;rw[Qk2]at f;rw[List.length_take,Nat.min_eq_left hn];refine B1 f (fun j hj _ _=>Bd (fun e => ?_));subst e;obtain⟨m,b⟩:=(A8 f hj).2;rw[h.box]at b;injection b with b;injection b with _ b _;exact absurd b OD
theorem DdGenNx86 {P:Prop} (h:P:=by
 rintro e I ⟨r,A,c3,rfl,m,f⟩
 go_wp2_with fail
 go_ret
 exact⟨r,A,c3,o,rfl,m.mono OC OC,(i.below f).mono OC,(c.trans a).trans (Ak.of_below f)⟩
 ):P:=h
theorem L6 {B g R P:Nat} {w:World} {nv:Value} {nl:List (ByteArray × Int)} {fv:Value} {F:List Ca} {ret loops count size:Int} (h:Aw B g R P w nv nl fv F ret loops count size) (hP:P+2600<=700000000) :
  Calls prog 102 #[.pointer (some (OK g 0))] w (Qff B g R (P+2600) 2600 w nv nl fv F ret loops count):=by
 have k:Hid (Th B g R 1):=Ot B g R 1;have l:Hid (Th B g R 2):=Ot B g R 2;have D:Bm 1=500:=rfl;have E:Bm 2=2500:=rfl;have p:Hid (Aw B g R P w nv nl fv F ret loops count size):=h;have t:=h.cells.1;clear h;go_enter func102,ntmps102;go_wp2_with fail;refine(Ow p.out 8 OC OC OC).mono ?_;rintro e j ⟨v,rfl,H,b,c⟩;have G:=b.cells.2.2.2.1;have y:=c.size;clear t;by_cases hv0:v=0
 ·subst hv0;go_wp2_with fail;refine(k.out _ j nv nl _ F ret loops count size 2 b OC).mono ?_;rintro e C ⟨q,z,s,o,rfl,d,i,a⟩;have n:=a.size;go_wp2_with fail;refine(D9 ⟨17,0,0,0,⟨#[]⟩,0⟩ Bh d OC).mono ?_;exact DdGenNx86
 ·have x:((v:Int) == 0)=false:=by simp;omega
  by_cases hr0:ret=0
  ·subst hr0;go_wp2_with fail;go_ret;exact⟨_,_,_,size,rfl,(Fj j ⟨16,0,0,0,⟨#[]⟩,0⟩ Bh).mono OC OC,(b.below (OP j _)).mono OC,c.alloc _⟩
  ·have u:(ret == 0)=false:=(by simpa using hr0);go_wp2_with fail;refine(l.out _ j nv nl _ F ret loops count size ret b OC).mono ?_;rintro e C ⟨q,z,s,o,rfl,d,i,a⟩;have n:=a.size;go_wp2_with fail;refine(D9 ⟨16,0,0,0,⟨#[]⟩,0⟩ Bh d OC).mono ?_;exact DdGenNx86
def Cj (n:Nat):Nat:=13000 * 12 ^ n
theorem Qbz (n:Nat):Cj (n+1)=12 * Cj n:=by unfold Cj;rw[Nat.pow_succ];omega
theorem Kk (n:Nat):13000<=Cj n:=by unfold Cj;have:=Nat.one_le_pow n 12 OC;omega
def Wy (B g R P K:Nat) (m2:Int) (w:World) (nl:List (ByteArray × Int)) (fv:Value) (F:List Ca) (ret loops:Int) (e:Ending) (w':World):Prop := ∃ a m c k nv' nl' count' size',e = .returned (.tuple #[.slice a m c,.int .i64 k])/\(0<=k/\k<=m2)/\As w.heap.size w' (.slice a m c) K/\Aw B g R P w' nv' nl' fv F ret loops count' size'/\nl.length<=nl'.length/\Ak B w w'
def Ut (B g R n:Nat):Prop := ∀ (d:Int),-1<=d->d.toNat=n->∀ (P:Nat) (w:World) (nv:Value) (nl:List (ByteArray × Int)) (fv:Value) (F:List Ca) (ret loops count size:Int),Aw B g R P w nv nl fv F ret loops count size->P+Cj n<=700000000->Calls prog 130 #[.pointer (some (OK g 0)),.int .i64 d] w (Wy B g R (P+Cj n) (Cj n) 2 w nl fv F ret loops)
def Ij (B g R n:Nat):Prop := ∀ (d:Int),-1<=d->d.toNat=n->∀ (P:Nat) (w:World) (nv:Value) (nl:List (ByteArray × Int)) (fv:Value) (F:List Ca) (ret loops count size:Int),Aw B g R P w nv nl fv F ret loops count size->P+3 * Cj n+10<=700000000->Calls prog 100 #[.pointer (some (OK g 0)),.int .i64 d] w (Wy B g R (P+3 * Cj n+10) (3 * Cj n+10) 6 w nl fv F ret loops)
theorem Qad (B g R n:Nat) (HST:Hid (Ut B g R n)):Ij B g R n:=by
 intro d hd af P w nv U A F b a c size h hP;obtain⟨i0,ay,a1,a2,a3⟩:=info_parts K0;have an:Hid (d.toNat=n):=af;have HS:Hid (Aw B g R P w nv U A F b a c size):=h;have ba:=Kk n;have ax:g < w.heap.size:=(Array.getElem?_eq_some_iff.1 h.box).1;obtain⟨V,hV⟩:∃ V,w.alloc (.cells #[] 62)=V:=⟨_,rfl⟩;have M:Below w.heap.size w V:=by rw[<- hV];exact OP w _
 have ad:Hid (V.ownsRow w.heap.size 62 6 (.slice (some (OK w.heap.size 0)) 0 0) 0 (Ap [])):=by rw[Hid,<- hV];exact L2 w w.heap.size ON [] OF
 have L:Hid (Aw B g R P V nv U A F b a c size):=h.below M;have ab:Hid (Ak B w V):=Ak.of_below M;have g0:=L.out.cells.1;clear h af M;go_enter func100,ntmps100;go_wp2_with fail;try rw[hV]
 refine(Ow L.out 4 OC OC OC).mono ?_;rintro e w1 ⟨v,rfl,hv,ak,N⟩;have au:Hid (Aw B g R (P+1) w1 nv U A F b a c size):=ak;have ao:Hid (Ak B w w1):=ab.out.trans N;have ar:Hid (w1.ownsRow w.heap.size 62 6 (.slice (some (OK w.heap.size 0)) 0 0) 0 (Ap [])):=N.row ad.out OD;clear ak N g0 ad ab L;go_wp2_with fail;go_loopw [6,7,8] (fun o q t wr => ∃ (i:Nat) (l:List Ae) (m:Int) (z:Value) (k:List (ByteArray × Int)) (count' size':Int),i<=v/\t = .int .i64 ((v:Int) - (i:Int))/\q = .int .i64 m/\(0<=m/\m<=2 * (i:Int))/\l.length<=i * Cj n/\(∀ x ∈ l,Fi x)/\wr.ownsRow w.heap.size 62 6 o l.length (Ap l)/\Aw B g R (P+1+i * Cj n) wr z k A F b a count' size'/\U.length<=k.length/\Ak B w wr) (fun _ _ t _=>(intOf t).toNat);case atStart=>exact⟨0,[],0,nv,U,c,size,by omega,by simp,rfl,by omega,by simp,by simp,ar.out,by simpa using au.out,Nat.le_refl _,ao.out⟩
 case round =>
  obtain⟨i,l,m,z,k,count',size',a4,rfl,rfl,a9,Q,aj,u,T,az,O⟩:=hrel;obtain⟨Y,Z,rfl⟩:=B3 u;have k6:=T.cells.2.2.2.2.2.2;have ae:Hid (Aw B g R (P+1+i * Cj n) wr z k A F b a count' size'):=T;have aa:Hid (Ak B w wr):=O;have J:Hid (wr.ownsRow w.heap.size 62 6 (.slice Y l.length Z) l.length (Ap l)):=u;have ac:Hid (∀ x ∈ l,Fi x):=aj;have bf:=O.size;have ah:i * Cj n<=3 * Cj n:=Nat.mul_le_mul_right _ OC;clear T O u aj;by_cases hgo:i < v/\0 < size'
  ·have h1:(0:Int) < (v:Int) - (i:Int):=OC;have h2:(0:Int) < size':=hgo.2;have I:i * Cj n+Cj n<=3 * Cj n:=(by have:=Nat.mul_le_mul_right (Cj n) (show i+1<=3 by omega);rw[Nat.add_mul,Nat.one_mul]at this;exact this);have r:Hid (i * Cj n+Cj n<=3 * Cj n/\l.length<=i * Cj n):=⟨I,Q⟩;clear Q ah I;go_wp2_with fail;refine(HST.out d hd an.out _ wr z k A F b a count' size' ae.out (by have:=r.out;omega)).mono ?_;rintro e w5 ⟨a5,n5,c5,k5,X,W,f,j,rfl,a8,a0,al,bb,G⟩;obtain⟨C,ai,am,S⟩:=a0;have be:=G.size;have D:Hid (w5.ownsRow w.heap.size 62 6 (.slice Y l.length Z) l.length (Ap l)):=G.row J.out OD;obtain⟨a6,c6,e6⟩:=B3 S;injection e6 with e61 e62 e63;subst e61;subst e62;subst e63;have av:Hid (Aw B g R (P+1+i * Cj n+Cj n) w5 X W A F b a f j):=al;have ap:Hid (Ak B w w5):=aa.out.trans G;have K:Hid (w5.ownsRow wr.heap.size 62 6 (.slice a5 C.length c5) C.length (Ap C)/\(∀ x ∈ C,Fi x)/\C.length<=Cj n):=⟨S,am,ai⟩;clear al G S am;obtain⟨q5,E⟩:∃ q,Hid (C.length=q):=⟨_,(rfl:C.length=_)⟩;rw[E.out]at ai |-
   obtain⟨q6,s⟩:∃ q,Hid (l.length=q):=⟨_,(rfl:l.length=_)⟩;rw[s.out]at D r J |-
   have bc:wrap64 (m+k5)=m+k5:=IntWalk.wrap64_in _ OC;have bd:wrap64 ((v:Int) - (i:Int) - 1)=(v:Int) - (i:Int) - 1:=IntWalk.wrap64_in _ OC;go_wp2_with (first|(at_builtin;(refine Eo rfl _ _ 23 rfl w.heap.size 62 i0 (.agg #[.int .i64 0,.int .i64 0,.int .i64 0,.int .i64 0,.string ⟨#[]⟩,.int .i64 0]) 6 56 underlying23 ay a1 a2 a3 rfl OD _ _ _ rfl D.out a5 q5 c5 rfl (Ap C) (by rw[Jo,E.out]) (by have:=M5 K.out.1;rw[E.out]at this;exact this) (Le C) (by have:=r.out;unfold maxLen;omega) (by have:=r.out;omega) OC ?_;intro v6 w6 y ag)));obtain⟨a7,c7,e7⟩:=B3 y;subst e7;have aw:Hid (Aw B g R (P+1+i * Cj n+Cj n) w6 X W A F b a f j):=av.out.grown D.out ax ag;have aq:Hid (Ak B w w6):=ap.out.grown D.out ON ag;go_roundw;case rel =>
    refine⟨i+1,l++C,m+k5,X,W,f,j,by omega, ?_,rfl,by omega, ?_, ?_, ?_, ?_,by omega,aq.out⟩
    ·congr 1;omega
    ·rw[List.length_append,Nat.add_mul,Nat.one_mul,s.out];have:=r.out;have:=K.out.2.2;omega
    ·intro x hx;rcases List.mem_append.1 hx with hx|hx
     ·exact ac.out x hx
     ·exact K.out.2.1 x hx
    ·rw[List.length_append,s.out,E.out,Ap,List.flatMap_append];exact y
    ·rw[Nat.add_mul,Nat.one_mul,<- Nat.add_assoc];exact aw.out
   case measure=>simp[intOf];omega
  ·have H:Wy B g R (P+3 * Cj n+10) (3 * Cj n+10) 6 w U A F b a (.returned (.tuple #[.slice Y l.length Z,.int .i64 m])) wr :=
    ⟨Y,_,Z,m,z,k,count',size',rfl,by omega,⟨l,by omega,ac.out,J.out⟩,ae.out.mono OC,az,aa.out⟩
   have p:Hid (Wy B g R (P+3 * Cj n+10) (3 * Cj n+10) 6 w U A F b a (.returned (.tuple #[.slice Y l.length Z,.int .i64 m])) wr):=H;clear H Q ah;obtain⟨q6,s⟩:∃ q,Hid (l.length=q):=⟨_,(rfl:l.length=_)⟩;rw[s.out]at p |-
   by_cases hiv2:i < v
   ·have h1:(0:Int) < (v:Int) - (i:Int):=OC;have h2:¬ (0:Int) < size':=fun h=>hgo ⟨hiv2,h⟩
    go_wp2_with fail;exact bodyPost_ret (v:=.tuple #[.slice Y q6 Z,.int .i64 m]) (by simp[results,results100,go_sem]) rfl p.out
   ·have h1:¬ (0:Int) < (v:Int) - (i:Int):=OC;go_wp2_with fail;exact bodyPost_ret (v:=.tuple #[.slice Y q6 Z,.int .i64 m]) (by simp[results,results100,go_sem]) rfl p.out
def Pe (B g R P K:Nat) (w:World) (nl:List (ByteArray × Int)) (fv:Value) (F:List Ca) (ret loops:Int) (e:Ending) (w':World):Prop := ∃ a m c nv' nl' count' size',e = .returned (.slice a m c)/\As w.heap.size w' (.slice a m c) K/\Aw B g R P w' nv' nl' fv F ret loops count' size'/\nl.length<=nl'.length/\Ak B w w'
theorem Qfj {w:World} {B e size n:Nat} {v:Value} {xs:List Value} (h:w.ownsRow B e size v n xs):∃ a b,v = .slice a n b/\n<=b/\b<=maxLen:=by
 rcases h.2 with⟨rfl,d⟩|⟨g,b,c,rfl,_,_,f,i,_⟩
 ·exact⟨none,0,by rw[d],by omega,by unfold maxLen;omega⟩
 ·exact⟨_,_,rfl,f,i⟩
theorem Rq (B g R n:Nat) (HSM:Hid (Ij B g R n)) (d:Int) (hd : -1<=d) (hdn:d.toNat=n) {P:Nat} {w:World} {nv:Value} {nl:List (ByteArray × Int)} {fv:Value} {F:List Ca} {ret loops count size:Int} (h:Aw B g R P w nv nl fv F ret loops count size) (hP:P+3 * Cj n+20<=700000000) :
  Calls prog 184 #[.pointer (some (OK g 0)),.int .i64 d] w (Pe B g R (P+3 * Cj n+20) (3 * Cj n+20) w nl fv F ret loops):=by
 obtain⟨i0,W,ab,ac,ad⟩:=info_parts K0;have I:Hid (d.toNat=n):=hdn;have HS:Hid (Aw B g R P w nv nl fv F ret loops count size):=h;have ag:=Kk n;have U:g < w.heap.size:=(Array.getElem?_eq_some_iff.1 h.box).1;have Z:=h.nbd.1;obtain⟨na,nc,rfl⟩:=B3 h.names;have g1:=h.cells.2.1;clear h hdn;obtain⟨q,N⟩:∃ q,Hid (nl.length=q):=⟨_,(rfl:nl.length=_)⟩;rw[N.out]at g1 Z;go_enter func184,ntmps184;go_wp2_with fail;refine(HSM.out d hd I.out P w _ nl fv F ret loops count size HS.out OC).mono ?_;rintro e w1 ⟨a1,m1,c1,k,ak,o,i,y,rfl,hk,aa,f,j,v⟩;obtain⟨l,X,D,a⟩:=aa;obtain⟨a2,c2,e2⟩:=B3 a;injection e2 with e21 e22 e23;subst e21;subst e22;subst e23;obtain⟨G,H,rfl,T,ae⟩:=Qfj f.names;have k1:=f.cells.2.1;have f1:=f.froz 1;obtain⟨m,b⟩:=f.cutName nl.length j;rw[N.out]at m b j;have M:Hid (q<=o.length):=j;obtain⟨q1,O⟩:∃ q,Hid (o.length=q):=⟨_,(rfl:o.length=_)⟩;rw[O.out]at k1 T j;obtain⟨q2,r⟩:∃ q,Hid (l.length=q):=⟨_,(rfl:l.length=_)⟩;rw[r.out]at a X |-
 have ah:=v.size;obtain⟨V,hV⟩:∃ V,w1.setCell (OK g 1) (.slice G q H)=V:=⟨_,rfl⟩;rw[hV]at m b;have ai:=b.size;obtain⟨z,s⟩:∃ Y,V.alloc (.cells #[.int .i64 21,.int .i64 0,.int .i64 0,.int .i64 0,.string ⟨#[]⟩,.int .i64 k] 62)=Y:=⟨_,rfl⟩;have t:Below V.heap.size V z:=by rw[<- s];exact OP V _
 have aj:z.heap.size=V.heap.size+1:=by rw[<- s];simp
 have p:Hid (z.ownsRow w.heap.size 62 6 (.slice a1 q2 c1) q2 (Ap l)):=B1 (b.row a OD) (fun k _ _ X=>t.block k X);have E:Jn z (some (OK V.heap.size 0)) 1 (By ⟨21,0,0,0,⟨#[]⟩,k⟩):=fun _=>⟨_,rfl,fun k u hk=>by
  rw[Ld,<- s,Lib.cell_of_heap (World.alloc_heap_new V _)]
  simpa[By]using hk⟩
 have Q:Hid (Aw B g R (P+3 * Cj n+10) z (.slice G q H) (o.take q) fv F ret loops i y):=m.below t;have J:Hid (Ak B w z):=(v.trans b).trans (Ak.of_below t);have L:Hid (∀ x ∈ l,Fi x):=D;clear f m v b a D g1;have af:q2<=700000010:=OC
 go_wp2_with (first|(at_builtin;(refine Eo rfl _ _ 23 rfl w.heap.size 62 i0 (.agg #[.int .i64 0,.int .i64 0,.int .i64 0,.int .i64 0,.string ⟨#[]⟩,.int .i64 0]) 6 56 underlying23 W ab ac ad rfl OD _ _ _ rfl p.out (some (OK V.heap.size 0)) 1 1 rfl (By ⟨21,0,0,0,⟨#[]⟩,k⟩) rfl E (fun u hu=>Le [⟨21,0,0,0,⟨#[]⟩,k⟩] u (by simpa[Ap]using hu)) OI OC OC ?_;intro v6 w6 c C)));obtain⟨a7,c7,e7⟩:=B3 c;subst e7;have S:=Q.out.grown p.out U C;have K:=J.out.grown p.out ON C;go_ret;refine⟨a7,_,c7,_,_,_,_,rfl,⟨l++[⟨21,0,0,0,⟨#[]⟩,k⟩], ?_, ?_, ?_⟩,S.mono OC, ?_,K⟩
 ·rw[List.length_append,r.out];simp;omega
 ·intro x A;rcases List.mem_append.1 A with A|A
  ·exact L.out x A
  ·simp at A;subst A;exact Bh
 ·rw[List.length_append,r.out,Ap,List.flatMap_append];simpa[Ap]using c
 ·rw[List.length_take,N.out];have:=M.out;omega
theorem Qac {w:World}:∀ (ps:List (Value × Nat)),(∀ p ∈ ps,∃ A,As A w p.1 p.2)->∃ L:List (List Ae),L.length=ps.length/\L.flatten.length<=(ps.map (·.2)).sum/\(∀ d ∈ L.flatten,Fi d)/\∀ i (hi:i < L.length),∃ a c,(ps.map (·.1))[i]? = some (.slice a L[i].length c)/\Jn w a L[i].length (Ap L[i])
 | [],_=>⟨[],rfl,by simp,by simp,fun i hi=>by simp at hi⟩
 | (v,K)::ps,h=>by
  obtain⟨L,g,o,j,k⟩:=Qac ps (fun u hu=>h u (List.mem_cons_of_mem _ hu))
  obtain⟨A,l,m,n,f⟩:=h (v,K) OF
  obtain⟨a,c,e⟩:=B3 f
  simp only at e;subst e
  refine⟨l::L,by simp[g], ?_, ?_,fun i hi => ?_⟩
  ·simp only[List.flatten_cons,List.length_append,List.map_cons,List.sum_cons];simp only at m;omega
  ·intro d b
   simp only[List.flatten_cons,List.mem_append]at b
   rcases b with b|b
   ·exact n d b
   ·exact j d b
  ·cases i with
   | zero=>exact⟨a,c,rfl,M5 f⟩
   | succ i=>exact k i (by simpa using hi)
theorem Qaa (d:Ae) (hd:Fi d) (ps:List (Value × Nat)) (w:World) (hr:∀ p ∈ ps,∃ A,As A w p.1 p.2) (hl:ps.length<=100) (hK:(ps.map (·.2)).sum<=1000000000) :
  Calls prog 54 #[Af d,.slice (some (OK w.heap.size 0)) ps.length ps.length] (w.alloc (.cells (ps.map (·.1)).toArray 23)) (Jm ((ps.map (·.2)).sum+1) w):=by
 have f:Below w.heap.size w (w.alloc (.cells (ps.map (·.1)).toArray 23)):=OP w _;obtain⟨L,o,E,q,r⟩:=Qac (w:=w.alloc (.cells (ps.map (·.1)).toArray 23)) ps (fun p hp=>by obtain⟨A,h⟩:=hr p hp;exact⟨A,h.fw (B:=0) (Ak.of_below f)⟩);have:=Z9 d L (some (OK w.heap.size 0)) ps.length (w.alloc (.cells (ps.map (·.1)).toArray 23)) (fun i hi=>by
  obtain⟨a,c,t,u⟩:=r i hi
  obtain⟨b,v,y⟩:=Ru w (ps.map (·.1)) 23 i _ t
  exact⟨b,a,c,v,y,u⟩) OC (by unfold Fk;omega)
 rw[o]at this;refine this.mono ?_;rintro e w' ⟨a,c,rfl,s,l⟩;refine⟨a,_,c,rfl,⟨L.flatten++[{ d with kids:=(ps.length:Int) }], ?_, ?_, ?_⟩,f.trans (l.mono f.size)⟩
 ·simp only[List.length_append,List.length_cons,List.length_nil];omega
 ·intro x g;simp only[List.mem_append,List.mem_singleton]at g;rcases g with g|rfl
  ·exact q x g
  ·exact hd
 ·have e:(L.flatten++[{ d with kids:=(ps.length:Int) }]).length=Fk L+1:=by simp[Fk]
  rw[e];obtain⟨z,m⟩:=s;refine⟨z, ?_⟩;rcases m with m|⟨n,j,k,C,F,D⟩
  ·exact .inl m
  ·exact .inr ⟨n,j,k,C,by have:=f.size;omega,D⟩
theorem M4 (d:Ae) (hd:Fi d) {a a':Option Addr} {n c n' c' K K' A A':Nat} {w:World} (h:As A w (.slice a n c) K) (h':As A' w (.slice a' n' c') K') (hK:K+K'<=1000000000) :
  Calls prog 54 #[.agg #[.int .i64 d.kind,.int .i64 d.op,.int .i64 d.type,.int .i64 d.n,.string d.text,.int .i64 d.kids],.slice (some (OK w.heap.size 0)) 2 2] (w.alloc (.cells #[.slice a n c,.slice a' n' c'] 23)) (Jm (K+K'+1) w):=by
 have:=Qaa d hd [(.slice a n c,K),(.slice a' n' c',K')] w (fun v hv=>by simp at hv;rcases hv with rfl|rfl <;> first|exact⟨A,h⟩|exact⟨A',h'⟩) OF OH;exact this.mono fun e w' ⟨a,n,c,h1,h2,h3⟩=>⟨a,n,c,h1,h2.mono ON OF,h3⟩
theorem Qfi (d:Ae) (hd:Fi d) {a a' a2:Option Addr} {n c n' c' n2 c2 K K' K2 A A' A2:Nat} {w:World} (h:As A w (.slice a n c) K) (h':As A' w (.slice a' n' c') K') (h2:As A2 w (.slice a2 n2 c2) K2) (hK:K+K'+K2<=1000000000) :
  Calls prog 54 #[.agg #[.int .i64 d.kind,.int .i64 d.op,.int .i64 d.type,.int .i64 d.n,.string d.text,.int .i64 d.kids],.slice (some (OK w.heap.size 0)) 3 3] (w.alloc (.cells #[.slice a n c,.slice a' n' c',.slice a2 n2 c2] 23)) (Jm (K+K'+K2+1) w):=by
 have:=Qaa d hd [(.slice a n c,K),(.slice a' n' c',K'),(.slice a2 n2 c2,K2)] w (fun v hv=>by simp at hv;rcases hv with rfl|rfl|rfl <;> first|exact⟨A,h⟩|exact⟨A',h'⟩|exact⟨A2,h2⟩) OF OH;exact this.mono fun e w' ⟨a,n,c,h1,h2,h3⟩=>⟨a,n,c,h1,h2.mono ON OH,h3⟩
def Tn : Nat->Nat
 | 0=>7 * Cj 0
 | n+1=>11 * Cj n
theorem Qoj (n:Nat):Tn n<=7 * Cj n:=by
 cases n with
 | zero=>exact ON
 | succ n=>have:=Qbz n;show 11 * Cj n<=_;omega
def Us (B g R n:Nat):Prop := ∀ (P:Nat) (w:World) (nv:Value) (nl:List (ByteArray × Int)) (fv:Value) (F:List Ca) (ret loops count size:Int),Aw B g R P w nv nl fv F ret loops count size->P+Tn n<=700000000->Calls prog 161 #[.pointer (some (OK g 0)),.int .i64 (n:Int)] w (Pe B g R (P+Tn n) (Tn n) w nl fv F ret loops)
theorem DdGenQx116 {P:Prop} (h:P:=by
 rintro e f ⟨Y,n4,c4,k,d,a,L,rfl,r,X,U,q⟩
 go_wp2_with fail
 refine(Qfi ⟨12,0,0,0,⟨#[]⟩,0⟩ Bh (A.out.fw q) (C.out.fw q) r OC).mono ?_
 rintro e z ⟨x,y,c5,rfl,W,T⟩
 go_wp2_with fail
 go_ret
 exact l.out f z x y c5 _ _ _ _ _ _ q X OC OC U W T
 ):P:=h
theorem Wz (B g R n m Z:Nat) (HSM:Hid (Ij B g R m)) (hm:((n:Int) - 1).toNat=m) (HC:Hid (0 < n->Us B g R (n - 1))) (HZ:Hid ((0 < n->Tn (n - 1)+3 * Cj m+3000<=Z)/\6 * Cj m+3000<=Z)) (hn:n<=100) {P:Nat} {w:World} {nv:Value} {nl:List (ByteArray × Int)} {fv:Value} {F:List Ca} {ret loops count size:Int} (h:Aw B g R P w nv nl fv F ret loops count size) (hP:P+Z<=700000000) :
  Calls prog 161 #[.pointer (some (OK g 0)),.int .i64 (n:Int)] w (Pe B g R (P+Z) Z w nl fv F ret loops):=by
 have M:Hid (Th B g R 2):=Ot B g R 2;have e2:Bm 2=2500:=rfl;have HS:Hid (Aw B g R P w nv nl fv F ret loops count size):=h;have aa:=Kk m;have O:Hid (((n:Int) - 1).toNat=m):=hm;have ai:=HZ.out.2;have ae:wrap64 ((n:Int) - 1)=(n:Int) - 1:=IntWalk.wrap64_in _ OC;clear h hm;go_enter func161,ntmps161;go_wp2_with fail;refine(M.out _ w nv nl _ F ret loops count size _ HS.out OC).mono ?_;rintro e w1 ⟨a1,n1,c1,s1,rfl,E,H,p⟩;have af:=p.size;go_wp2_with fail;refine(Rq B g R m HSM ((n:Int) - 1) OC O.out H OC).mono ?_;rintro e w2 ⟨a2,n2,c2,J,t,b,s2,rfl,G,s,ab,j⟩;have ag:=j.size;have g0:=s.cells.1;go_wp2_with fail;refine(Ow s 4 OC OC OC).mono ?_;rintro e u ⟨v,rfl,hv,I,c⟩;have ah:=c.size;have A:Hid (As w.heap.size u (.slice a1 n1 c1) 2500):=(E.fw j).fw c;have C:Hid (As w1.heap.size u (.slice a2 n2 c2) (3 * Cj m+20)):=G.fw c;have N:Hid (Ak B w u):=(p.trans j).trans c;have i:Hid (Aw B g R (P+2500+3 * Cj m+20+1) u J t fv F ret loops b s2):=I;clear E G H s I p j c g0;have l:Hid (∀ (f z:World) (x:Option Addr) (y c5 Q K:Nat) (k:Value) (d:List (ByteArray × Int)) (a L:Int),Ak B u f->Aw B g R Q f k d fv F ret loops a L->Q<=P+Z->K<=Z->t.length<=d.length->As f.heap.size z (.slice x y c5) K->Below f.heap.size f z->Pe B g R (P+Z) Z w nl fv F ret loops (.returned (.slice x y c5)) z):=by
  intro f z x y c5 Q K k d a L h1 h2 h3 h4 h5 h6 h7;have:=h1.size;exact⟨x,y,c5,k,d,a,L,rfl,h6.mono OC h4,(h2.below h7).mono h3,by omega,(N.out.trans h1).trans (Ak.of_below h7)⟩
 by_cases hv0:v=0
 ·subst hv0;go_wp2_with fail;refine(M4 ⟨12,0,0,0,⟨#[]⟩,0⟩ Bh A.out C.out OC).mono ?_;rintro e f ⟨Y,n4,c4,rfl,r,S⟩;go_wp2_with fail;go_ret;exact l.out u f Y n4 c4 _ _ _ _ _ _ (Ak.refl _ _) i.out OC OC ON r S
 ·have ac:((v:Int) == 0)=false:=by simp;omega
  by_cases hgo:v=1/\0 < n
  ·obtain⟨rfl,D⟩:=hgo;have V:(0:Int) < (n:Int):=OC;have aj:=HZ.out.1 D;have o:((n:Int) - 1)=((n - 1:Nat):Int):=OC;go_wp2_with fail;refine(HC.out D _ u J t fv F ret loops b s2 i.out OC).mono ?_;clear o;exact DdGenQx116
  ·by_cases hv1:v=1
   ·subst hv1;have V:¬ (0:Int) < (n:Int):=OC;go_wp2_with fail;refine(Rq B g R m HSM ((n:Int) - 1) OC O.out i.out OC).mono ?_;exact DdGenQx116
   ·have ad:((v:Int) == 1)=false:=OH;go_wp2_with fail;refine(Rq B g R m HSM ((n:Int) - 1) OC O.out i.out OC).mono ?_;exact DdGenQx116
theorem Qif (B g R:Nat):∀ n:Nat,n<=100->(∀ m,m<=n - 1->Ij B g R m)->Us B g R n:=by
 intro n;induction n with
 | zero =>
  intro _ c P w l k i F f b a size h d;exact Wz B g R 0 0 (Tn 0) (c 0 OC) rfl (fun h=>absurd h OC) ⟨fun h=>absurd h OC,by have:=Kk 0;show _<=7 * Cj 0;omega⟩ OC h d
 | succ n ih =>
  intro j c P w l k i F f b a size h d;exact Wz B g R (n+1) n (Tn (n+1)) (c n OC) OC (fun _=>ih OC (fun m hm=>c m OC)) ⟨fun _=>by have:=Kk n;have:=Qoj n;simp only[Nat.add_sub_cancel];show _<=11 * Cj n;omega,by have:=Kk n;show _<=11 * Cj n;omega⟩ j h d
theorem Z8 : (prog.info? 162).map (fun i=>(i.zero,i.size,i.bytes))=some (some (.agg #[.string ⟨#[]⟩,.int .i64 0]),2,24):=OE
theorem C8 {w:World} {ops:Array Oper} {rest:List Oper} {o:Oper} {a:Act} {Q:Exit->Act->World->Prop} (hgd:o.guard=none) (s x:Operand)
  (ho:o.op = .call { callee:=.builtin .append,args := #[s,x],argTypes := #[23,23] }) {A1 A2 K1 K2 dn dc sn sc:Nat} {da sa:Option Addr} (hs:a.eval s = .slice da dn dc) (hx:a.eval x = .slice sa sn sc) (h1:As A1 w (.slice da dn dc) K1) (h2:As A2 w (.slice sa sn sc) K2) (hA:A1<=w.heap.size) (hK:K1+K2<=1000000000)
  (h:∀ a' n' c' w',As A1 w' (.slice a' n' c') (K1+K2)->(∀ B w0,w0.heap.size<=A1->Ak B w0 w->Ak B w0 w')->(∀ B g R P nv nl fv F ret loops count size,g < A1->Aw B g R P w nv nl fv F ret loops count size->Aw B g R P w' nv nl fv F ret loops count size)->wpList prog ops Q rest (a.put o.dst (.slice a' n' c')) w') :
  wpList prog ops Q (o::rest) a w:=by
 obtain⟨u,i,j,k,l⟩:=info_parts K0;obtain⟨v,E,z,m⟩:=h1;obtain⟨f,G,A,n⟩:=h2;obtain⟨D,c3,r⟩:=B3 n;injection r with e31 e32 e33;subst e31;subst e32;subst e33;refine Eo hgd s x 23 ho A1 62 u (.agg #[.int .i64 0,.int .i64 0,.int .i64 0,.int .i64 0,.string ⟨#[]⟩,.int .i64 0]) 6 56 underlying23 i j k l rfl OD _ _ _ hs m sa f.length sc hx (Ap f) (Jo f) (M5 n) (Le f) OI OC hA ?_;intro H C b c;obtain⟨p,q,t⟩:=B3 b;subst t;refine h p _ q C ⟨v++f, ?_, ?_, ?_⟩ (fun B w0 hz hf=>hf.grown m hz c) (fun B g R P nv nl fv F ret loops count size hg hs=>hs.grown m hg c)
 ·rw[List.length_append];omega
 ·intro y d;rcases List.mem_append.1 d with d|d
  ·exact z y d
  ·exact A y d
 ·rw[List.length_append,Ap,List.flatMap_append];exact b
theorem Rw {w:World} {ops:Array Oper} {rest:List Oper} {o:Oper} {a:Act} {Q:Exit->Act->World->Prop} (hgd:o.guard=none) (s x:Operand)
  (ho:o.op = .call { callee:=.builtin .append,args := #[s,x],argTypes := #[128,128] }) {B g R P:Nat} {nv:Value} {nl:List (ByteArray × Int)} {fv:Value} {F:List Ca} {ret loops count size:Int} (hst:Aw B g R P w nv nl fv F ret loops count size) (t:ByteArray) (ty:Int) (ht:t.size<=30) (hty:Hs ty) (hP:P<=900000000) {V:World} (hV:w.alloc (.cells #[.string t,.int .i64 ty] 162)=V)
  (hs:a.eval s=nv) (hx:a.eval x = .slice (some (OK w.heap.size 0)) 1 1)
  (h:∀ a' c' w',(w'.cell? (OK g 1)=some nv/\w'.frozen? (OK g 1)=false)->Aw B g R (P+1) (w'.setCell (OK g 1) (.slice a' (nl.length+1) c')) (.slice a' (nl.length+1) c') (nl++[(t,ty)]) fv F ret loops count size->Ak B w (w'.setCell (OK g 1) (.slice a' (nl.length+1) c'))->wpList prog ops Q rest (a.put o.dst (.slice a' (nl.length+1) c')) w') :
  wpList prog ops Q (o::rest) a V:=by
 obtain⟨I,n,q,r,v⟩:=info_parts Z8;have l:Below w.heap.size w V:=by rw[<- hV];exact OP w _
 have H:=l.size;have d:=hst.below l;have E:g < w.heap.size:=(Array.getElem?_eq_some_iff.1 hst.box).1;have j:Jn V (some (OK w.heap.size 0)) 1 [.string t,.int .i64 ty]:=fun _=>⟨_,rfl,fun k u hk=>by
  rw[Ld,<- hV,Lib.cell_of_heap (World.alloc_heap_new w _)]
  simpa using hk⟩
 have G:=hst.nbd.1;refine Eo hgd s x 128 ho g 162 I (.agg #[.string ⟨#[]⟩,.int .i64 0]) 2 24 underlying128 n q r v rfl OD _ _ _ hs d.names (some (OK w.heap.size 0)) 1 1 hx [.string t,.int .i64 ty] rfl j (by intro u y;simp at y;rcases y with rfl|rfl <;> rfl) OI OC OC ?_;intro K z c i;obtain⟨p,m⟩:=hst.addName t ty ht hty l c i;obtain⟨A,C,D⟩:=B3 c;subst D;have f:z.heap[g]? = V.heap[g]?:=i.block g OC (fun e=>by
  obtain⟨_,J,b⟩:=A8 d.names e.symm
  rw[d.box]at b;injection b with b;injection b with _ b _;exact absurd b OD)
 rw[d.box]at f;exact h A C z ⟨by rw[Lib.cell_of_heap f];rfl,by simp[World.frozen?,f]⟩ p m
def Tk.Mk : Prop:=True
end Go.Proofs.YtjlaedokfbcbpaaGreatDoor
