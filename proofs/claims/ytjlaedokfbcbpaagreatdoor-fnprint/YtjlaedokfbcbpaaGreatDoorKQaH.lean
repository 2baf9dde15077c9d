import Derived.Test.YtjlaedokfbcbpaaGreatDoorKQaE
set_option maxRecDepth 100000
set_option maxHeartbeats 4000000
namespace Go.Proofs.YtjlaedokfbcbpaaGreatDoor
open Go.RowKit Proofs.Tryz
variable {ts:List (Ab × Nat)} {g:Nat} {a:Option Addr} {c E i j:Nat} {w W W2:World}
structure Gc (ts:List (Ab × Nat)):Prop where
 mark:∀ i,Dm ts i=5->B8 ts i ∈ Dt
 word:∀ i,Dm ts i=2->B8 ts i ∉ Dt
 ne:∀ i,Dm ts i=2->B8 ts i≠[]
theorem Qjg {ts:List (Ab × Nat)}:∀ (n:Nat) (us:List Aa) (i:Nat) (x),Ji ts n us i=some (.ok x)->x.1.length+i<=us.length+x.2:=by
 intro n;induction n with
 | zero=>intro us i x h;simp[Ji]at h
 | succ n ih =>
  intro us i x h;rw[Ji]at h;obtain⟨y,a,h⟩:=Ai h;have:=(O9 ts n).rank _ _ _ a;split at h
  ·simp only[Option.some.injEq,Except.ok.injEq]at h;subst h;simp;omega
  ·obtain⟨z,b,h⟩:=Ai h;have:=Ho b;have:=ih _ _ _ h;simp at this;omega
theorem Qao {ts:List (Ab × Nat)} {n i:Nat} {x} (h:Jj ts n i=some (.ok x)):x.1.length<=x.2:=by
 cases n with
 | zero=>simp[Jj]at h
 | succ n =>
  rw[Jj]at h;obtain⟨y,a,h⟩:=Ai h;split at h
  ·simp only[Option.some.injEq,Except.ok.injEq]at h;subst h;simp
  ·have:=Qjg _ _ _ _ h;simp at this;omega
theorem Gc.mne (hG:Gc ts) (h:Dm ts i=5):B8 ts i≠[]:=by
 have a:=hG.mark i h;intro e;rw[e]at a;revert a;decide
theorem Gc.st0 (hG:Gc ts) (i:Nat):Bq ts 5 [] i=false:=by
 cases h:Bq ts 5 [] i with
 | false=>rfl
 | true=>simp only[Bq,Bool.and_eq_true,beq_iff_eq]at h;exact absurd h.2 (hG.mne h.1)
theorem Gc.sw0 (hG:Gc ts) (i:Nat):Bq ts 2 [] i=false:=by
 cases h:Bq ts 2 [] i with
 | false=>rfl
 | true=>simp only[Bq,Bool.and_eq_true,beq_iff_eq]at h;exact absurd h.2 (hG.ne i h.1)
theorem Qpd (k:Nat) (kZ:Int) (hk:k < 4) (hz:kZ=(k:Int)) (W:World):Sem.run prog (Instr.index 235 (.agg Qfv.toArray) (.int .i64 kZ)) W = .ok (.string ⟨(([]::In).getD k []).toArray⟩) W:=by
 subst hz;have h:k=0\/k=1\/k=2\/k=3:=OC
 rcases h with rfl|rfl|rfl|rfl <;> (show _=_;kernel_rfl)
def Qfo (ts:List (Ab × Nat)) (g:Nat) (a:Option Addr) (c E n:Nat):Prop := ∀ (x:List UInt8) (i:Nat) (w:World) (r:List Aa × Nat),Jj ts n i=some (.ok r)->Eg g w->Cz ts g a c E i w ->
 Calls prog 183 #[.pointer (some (OK g 0)),.string (Aj x)] w (Xx ts g a c E x r w)
def Zk (ts:List (Ab × Nat)) (g:Nat) (a:Option Addr) (c E n:Nat):Prop := ∀ (i:Nat) (w:World) (r:Aa × Nat),Dm ts i=2->K8 ts n i=some (.ok r)->Eg g w->Cz ts g a c E i w ->
 Calls prog 202 #[.pointer (some (OK g 0))] w (Kw ts g a c E r w)
def Qcv (ts:List (Ab × Nat)) (g:Nat) (a:Option Addr) (c E n:Nat):Prop := ∀ (i:Nat) (w:World) (r:Aa × Nat),Nc ts n i=some (.ok r)->Eg g w->Cz ts g a c E i w ->
 Calls prog 203 #[.pointer (some (OK g 0))] w (Kw ts g a c E r w)
theorem Qo6 (h:Dm ts i≠0):i < ts.length:=by
 by_cases hp:i < ts.length
 ·exact hp
 ·rw[Rg hp]at h;exact absurd rfl h
theorem DdQaHx88 {P:Prop} (h:P:=by
 go_roundw
 case rel=>exact⟨k+1,z+1,by omega,by rw[R],by rw[Hid,D.out];omega,b,fun m hm=>Wh F.out (by rw[U.out];exact hI) m hm⟩
 case measure=>rw[R];simp[intOf,D.out];clear R;omega
 ):P:=h
theorem Qjy (hG:Gc ts) (n:Nat) (ihu:Qcx ts g a c E n)
  (ihc:Qfo ts g a c E n) (ihw:Zk ts g a c E n) (ihb:Qcv ts g a c E n) (r:Aa × Nat) (f:Fx ts (n+1) i=some (.ok r)) (M:Eg g w) (hP:Cz ts g a c E i w) :
  Calls prog 194 #[.pointer (some (OK g 0))] w (Kw ts g a c E r w):=by
 have b:B2 ts g a c E i w w:=⟨hP,Bl.refl _ _⟩;have am:=hP.lt;have HR:Hid (Fx ts (n+1) i=some (.ok r)):=f;clear f;go_enter func194,ntmps194;go_wp2_with (refine wpList_load_mid rfl 235 _ rfl 3 0 rfl Qfv (.array 4 9) M.u underlying235 rfl OE ?_);go_loopw [7,3,4] (fun v _ _ wr => ∃ (k:Nat) (z:Int),k<=4/\v = .int .i64 z/\Hid (z=(k:Int))/\B2 ts g a c E i w wr/\Hid (∀ m,m < k->Bq ts 5 (([]::In).getD m []) i=false)) (fun v _ _ _=>30 - (intOf v).toNat);case atStart=>exact⟨0,0,by omega,rfl,rfl,b,fun m hm=>OC⟩
 case round =>
  clear b;obtain⟨k,z,hk,rfl,D,b,F⟩:=hrel;by_cases hk4:k < 4
  ·have ah:=Qpd k z hk4 D.out;have ad:z < 4:=(by rw[D.out];omega);have R:wrap64 (z+1)=z+1:=(by rw[D.out,wrap64];omega);obtain⟨T,U⟩:∃ T,Hid (([]::In).getD k []=T):=⟨_,rfl⟩;rw[U.out]at ah;cases hI:Bq ts 5 T i with
   | false =>
    go_wp2_with ((go_at_call 92;refine(D2 T b.1).mono ?_;rintro e q ⟨rfl,d⟩;rw[hI]at d |-;replace b:=b.to d;clear d));exact DdQaHx88
   | true =>
    have ac:k≠0:=by
     rintro rfl;have:T=[]:=U.out.symm;subst this;rw[hG.st0]at hI;simp at hI
    have hU:Ol ts i=k:=Sk 5 In OD OD k (by simp[In];omega) (by rw[U.out];exact hI);have f:=HR.out;rw[Fx,hU,if_pos ac]at f;replace f:=Ai f;obtain⟨x,O,f⟩:=f;have N:Hid (∀ W,Eg g W->Cz ts g a c E (i+1) W->Calls prog 194 #[.pointer (some (OK g 0))] W (Kw ts g a c E x W)):=fun W hb s=>ihu (i+1) W x O hb s
    rw[Option.some.injEq,Except.ok.injEq]at f;subst f;go_wp2_with (first
     | (go_at_call 92;refine(D2 T b.1).mono ?_;rintro e q ⟨rfl,d⟩;rw[hI]at d |-;replace b:=b.to d;clear d)
     | (go_at_call 194;refine(N.out _ (M.fr b.2) b.1).mono ?_;rintro e V ⟨ty,y,rfl,u,d⟩;replace u:=u.mono b.2.size;replace b:=b.to d;clear d))
    go_ret;have H:=Qo9 (k:Int) u;rw[D.out];exact⟨_,_,rfl,H,b⟩
  ·have hU:Ol ts i=0:=U0 5 In OD fun m hm=>F.out m (by simp[In]at hm;omega)
   have f:=HR.out;clear HR F;rw[Fx,hU]at f;simp only[ne_eq,not_true_eq_false,if_false]at f;have ad:¬ z < 4:=(by rw[D.out];omega);obtain⟨I,L⟩:=b.1.sum;have HP:Hid (Dm ts i≠0->i < ts.length):=Qo6;have HN:Hid (Nt ts E i = .agg #[.int .i64 (Dm ts i),.string (Aj (B8 ts i)),.int .i64 (P8 ts i),.int .i64 (P3 ts i),.int .i64 (P7 ts E i:Int)]):=rfl;have aa:Hid (Dm ts i=2->∀ (w:World) (r:Aa × Nat),K8 ts n i=some (.ok r)->Eg g w->Cz ts g a c E i w->Calls prog 202 #[.pointer (some (OK g 0))] w (Kw ts g a c E r w)):=fun h w r=>ihw i w r h
   clear ihw;obtain⟨X,HX⟩:∃ X,Hid (Aj (B8 ts i)=X):=⟨_,rfl⟩;rw[HX.out]at HN;generalize Dm ts i=KK at *;generalize P8 ts i=Y at *;generalize P3 ts i=Z at *;generalize ((P7 ts E i:Nat):Int)=Q at *;by_cases k3:KK=3
   ·subst k3;rw[if_pos rfl,Option.some.injEq,Except.ok.injEq]at f;subst f;have s:=HP.out OD;go_wp2_with (go_at_call 126;refine(J3 b.1).mono ?_;rintro e q ⟨rfl,l⟩;rw[HN.out];have C:q.heap.size≠g:=Nat.ne_of_gt (Nat.lt_of_lt_of_le b.1.lt l.size);replace b:=(b.to ⟨b.1.below l,Bl.of_below l⟩).to ⟨(b.1.below l).below (OP _ (.cells #[.int .i64 3,.string X,.int .i64 Y,.int .i64 Z,.int .i64 Q] 113)),Bl.of_below (OP _ _)⟩;obtain⟨c0,c1,c2,f1⟩:=b.1.cells);go_ret;exact⟨_,_,rfl,Qng _ _ Y Z,b.to ⟨b.1.nx s,Bl.set _ _ _⟩⟩
   rw[if_neg k3]at f;by_cases k4:KK=4
   ·subst k4;rw[if_pos rfl,Option.some.injEq,Except.ok.injEq]at f;subst f;have s:=HP.out OD;have ak:∀ B W,Ck B W (Lk 2 0 0 0 (B8 ts i)) (.iface 173 (.agg #[.string X])):=fun B W=>by rw[<- HX.out];exact Qlt B W _
    go_wp2_with (go_at_call 126;refine(J3 b.1).mono ?_;rintro e q ⟨rfl,l⟩;rw[HN.out];have C:q.heap.size≠g:=Nat.ne_of_gt (Nat.lt_of_lt_of_le b.1.lt l.size);replace b:=(b.to ⟨b.1.below l,Bl.of_below l⟩).to ⟨(b.1.below l).below (OP _ (.cells #[.int .i64 4,.string X,.int .i64 Y,.int .i64 Z,.int .i64 Q] 113)),Bl.of_below (OP _ _)⟩;obtain⟨c0,c1,c2,f1⟩:=b.1.cells);go_ret;exact⟨_,_,rfl,ak _ _,b.to ⟨b.1.nx s,Bl.set _ _ _⟩⟩
   rw[if_neg k4]at f;by_cases k1:KK=1
   ·subst k1;rw[if_pos rfl]at f;have s:=HP.out OD;cases hI:Bq ts 5 [40] (i+1) with
    | false =>
     rw[hI]at f;simp only[Bool.false_eq_true,if_false,Option.some.injEq,Except.ok.injEq]at f;subst f;go_wp2_with (first|(go_at_call 126;refine(J3 b.1).mono ?_;rintro e q ⟨rfl,l⟩;rw[HN.out];have C:q.heap.size≠g:=Nat.ne_of_gt (Nat.lt_of_lt_of_le b.1.lt l.size);replace b:=(b.to ⟨b.1.below l,Bl.of_below l⟩).to ⟨(b.1.below l).below (OP _ (.cells #[.int .i64 1,.string X,.int .i64 Y,.int .i64 Z,.int .i64 Q] 113)),Bl.of_below (OP _ _)⟩;obtain⟨c0,c1,c2,f1⟩:=b.1.cells)|(go_at_call 155;refine(Gd 5 [40] (b.1.nx s)).mono ?_;rintro e W2 ⟨rfl,A⟩;rw[hI];replace b:=(b.to ⟨b.1.nx s,Bl.set _ _ _⟩).to ⟨(b.1.nx s).below A,Bl.of_below A⟩;have ct:=A.cell (p:=(OK q.heap.size 1)) OF;unfold OK at ct));go_ret;rw[<- HX.out];exact⟨_,_,rfl,Qlp _ _ _,b⟩
    | true =>
     rw[hI,if_pos rfl]at f;replace f:=Ai f;obtain⟨x,O,f⟩:=f;have N:Hid (∀ W,Eg g W->Cz ts g a c E (i+1) W->Calls prog 183 #[.pointer (some (OK g 0)),.string X] W (Xx ts g a c E (B8 ts i) x W)):=fun W hb s=>by rw[<- HX.out];exact ihc (B8 ts i) (i+1) W x O hb s
     rw[Option.some.injEq,Except.ok.injEq]at f;subst f;have au:=b.1.len;go_wp2_with (first|(go_at_call 126;refine(J3 b.1).mono ?_;rintro e q ⟨rfl,l⟩;rw[HN.out];have C:q.heap.size≠g:=Nat.ne_of_gt (Nat.lt_of_lt_of_le b.1.lt l.size);replace b:=(b.to ⟨b.1.below l,Bl.of_below l⟩).to ⟨(b.1.below l).below (OP _ (.cells #[.int .i64 1,.string X,.int .i64 Y,.int .i64 Z,.int .i64 Q] 113)),Bl.of_below (OP _ _)⟩;obtain⟨c0,c1,c2,f1⟩:=b.1.cells)|(go_at_call 155;refine(Gd 5 [40] (b.1.nx s)).mono ?_;rintro e W2 ⟨rfl,A⟩;rw[hI];replace b:=(b.to ⟨b.1.nx s,Bl.set _ _ _⟩).to ⟨(b.1.nx s).below A,Bl.of_below A⟩;have ct:=A.cell (p:=(OK q.heap.size 1)) OF;unfold OK at ct)|(go_at_call 183;refine(N.out _ (M.fr b.2) b.1).mono ?_;rintro e V ⟨va,vc,rfl,u,d⟩;replace u:=u.mono b.2.size;replace b:=b.to d;clear d));go_ret;exact⟨_,_,rfl,Qc3 _ u (by have h3:=Qao O;have h4:=b.1.le;clear I L;omega),b⟩
   rw[if_neg k1]at f;by_cases k2:KK=2
   ·subst k2;rw[if_pos rfl]at f;have N:Hid (∀ W,Eg g W->Cz ts g a c E i W->Calls prog 202 #[.pointer (some (OK g 0))] W (Kw ts g a c E r W)):=fun W hb s=>aa.out rfl W _ f hb s
    clear aa f;go_wp2_with (first|(go_at_call 126;refine(J3 b.1).mono ?_;rintro e q ⟨rfl,l⟩;rw[HN.out];have C:q.heap.size≠g:=Nat.ne_of_gt (Nat.lt_of_lt_of_le b.1.lt l.size);replace b:=(b.to ⟨b.1.below l,Bl.of_below l⟩).to ⟨(b.1.below l).below (OP _ (.cells #[.int .i64 2,.string X,.int .i64 Y,.int .i64 Z,.int .i64 Q] 113)),Bl.of_below (OP _ _)⟩;obtain⟨c0,c1,c2,f1⟩:=b.1.cells)|(go_at_call 202;refine(N.out _ (M.fr b.2) b.1).mono ?_;rintro e V ⟨ty,y,rfl,u,d⟩;replace u:=u.mono b.2.size;replace b:=b.to d;clear d));go_ret;exact⟨_,_,rfl,u,b⟩
   rw[if_neg k2]at f;have b3:(KK == 3)=false:=(by simpa using k3);have b4:(KK == 4)=false:=(by simpa using k4);have b1:(KK == 1)=false:=(by simpa using k1);have b2:(KK == 2)=false:=(by simpa using k2);go_wp2_with (first|(go_at_call 126;refine(J3 b.1).mono ?_;rintro e q ⟨rfl,l⟩;rw[HN.out];have C:q.heap.size≠g:=Nat.ne_of_gt (Nat.lt_of_lt_of_le b.1.lt l.size);replace b:=(b.to ⟨b.1.below l,Bl.of_below l⟩).to ⟨(b.1.below l).below (OP _ (.cells #[.int .i64 KK,.string X,.int .i64 Y,.int .i64 Z,.int .i64 Q] 113)),Bl.of_below (OP _ _)⟩;obtain⟨c0,c1,c2,f1⟩:=b.1.cells)|(go_at_call 203;refine(ihb _ _ _ f (M.fr b.2) b.1).mono ?_;rintro e V ⟨ty,y,rfl,u,d⟩;replace u:=u.mono b.2.size;replace b:=b.to d;clear d));go_ret;exact⟨_,_,rfl,u,b⟩
variable {ts:List (Ab × Nat)} {g:Nat} {a:Option Addr} {c E i j:Nat} {w W W2:World}
theorem Qev {ts:List (Ab × Nat)} (k:Nat):∀ (n j:Nat) (us:List Aa) (i:Nat) (x),us.length=j->j<=k->Gy ts n k j us i=some (.ok x)->x.1.length=k:=by
 intro n;induction n with
 | zero=>intro j us i x _ _ h;simp[Gy]at h
 | succ n ih =>
  intro j us i x a b h;rw[Gy]at h;split at h
  ·obtain⟨y,_,h⟩:=Ai h;obtain⟨y,_,h⟩:=Ai h;exact ih (j+1) _ _ _ (by simp[a]) OC h
  ·simp only[Option.some.injEq,Except.ok.injEq]at h;subst h;simp only;omega
theorem Qhe {ts:List (Ab × Nat)} {n k i:Nat} {x} (h:Hn ts n k i=some (.ok x)):x.1.length=k:=by
 cases n with
 | zero=>simp[Hn]at h
 | succ n =>
  rw[Hn]at h;obtain⟨y,_,h⟩:=Ai h;obtain⟨y,a,h⟩:=Ai h;obtain⟨z,_,h⟩:=Ai h;simp only[Option.some.injEq,Except.ok.injEq]at h;subst h;exact Qev k n 0 [] _ y rfl OC a
theorem Qlh (o:Nat):0<=Bv (o:Int):=by unfold Bv;(repeat' (first|omega|split))
theorem Qlg (o:Nat):(Bv (o:Int)).toNat<=3:=by unfold Bv;(repeat' (first|omega|split)) <;> decide
theorem Qno : Da ts i<=10:=by
 unfold Da;split
 ·have:=Qc0 I0 (B8 ts i);simpa[I0]using this
 ·omega
theorem Qpe (k:Nat) (kZ:Int) (hk:k < 13) (hz:kZ=(k:Int)) (W:World):Sem.run prog (Instr.index 186 (.agg Qat.toArray) (.int .i64 kZ)) W = .ok (.agg #[.string ⟨(([]::Ks).getD k []).toArray⟩,.int .i64 (Bv (k:Int))]) W:=by
 subst hz;have h:k=0\/k=1\/k=2\/k=3\/k=4\/k=5\/k=6\/k=7\/k=8\/k=9\/k=10\/k=11\/k=12:=OC
 rcases h with rfl|rfl|rfl|rfl|rfl|rfl|rfl|rfl|rfl|rfl|rfl|rfl|rfl <;> (show _=_;kernel_rfl)
theorem Qhp (hG:Gc ts) (n:Nat) (ihl:∀ (K:Nat) (i:Nat) (w:World) (r:List Aa × Nat),K<=3->Hn ts n K i=some (.ok r)->Eg g w->Cz ts g a c E i w->Calls prog 207 #[.pointer (some (OK g 0)),.int .i64 (K:Int)] w (Qbo ts g a c E r w)) (ihb:Qcv ts g a c E n):Zk ts g a c E (n+1):=by
 intro i w r ar f M hP;have b:B2 ts g a c E i w w:=⟨hP,Bl.refl _ _⟩;have am:=hP.lt;have G:True:=trivial;have S:True:=trivial;rw[K8]at f;cases hA:Bq ts 2 [116,114,117,101] i with
 | true =>
  rw[hA,if_pos rfl,Option.some.injEq,Except.ok.injEq]at f;subst f;go_enter func202,ntmps202;go_wp2_with (have _t:=G;go_at_call 124;refine(D3 [116,114,117,101] b.1).mono ?_;rintro e q ⟨rfl,d⟩;rw[hA]at d |-;replace b:B2 ts g a c E (i+1) w q:=b.to d;clear d;clear G);go_ret;exact⟨_,_,rfl,Qc2 _ _ 1,b⟩
 | false =>
  rw[hA,if_neg OD]at f;cases hC:Bq ts 2 [102,97,108,115,101] i with
  | true =>
   rw[hC,if_pos rfl,Option.some.injEq,Except.ok.injEq]at f;subst f;go_enter func202,ntmps202;go_wp2_with (first|(have _t:=G;go_at_call 124;refine(D3 [116,114,117,101] b.1).mono ?_;rintro e q ⟨rfl,d⟩;rw[hA]at d |-;replace b:B2 ts g a c E i w q:=b.to d;clear d;clear G)|(have _t:=S;go_at_call 124;refine(D3 [102,97,108,115,101] b.1).mono ?_;rintro e q ⟨rfl,d⟩;rw[hC]at d |-;replace b:B2 ts g a c E (i+1) w q:=b.to d;clear d;clear S));go_ret;exact⟨_,_,rfl,Qc2 _ _ 0,b⟩
  | false =>
   rw[hC,if_neg OD]at f;go_enter func202,ntmps202;go_wp2_with (first|(have _t:=G;go_at_call 124;refine(D3 [116,114,117,101] b.1).mono ?_;rintro e q ⟨rfl,d⟩;rw[hA]at d |-;replace b:B2 ts g a c E i w q:=b.to d;clear d;clear G)|(have _t:=S;go_at_call 124;refine(D3 [102,97,108,115,101] b.1).mono ?_;rintro e q ⟨rfl,d⟩;rw[hC]at d |-;replace b:B2 ts g a c E i w q:=b.to d;clear d;clear S)|(refine wpList_load_mid rfl 186 _ rfl 2 0 rfl Qat (.array 13 185) (M.fr b.2).d underlying186 rfl OE ?_));have HR:Hid ((if Ok ts i≠0 then Dj (Hn ts n (Bv (Ok ts i)).toNat (i+1)) fun us j=>some (.ok (Co 8 (Ok ts i) 0 [] us,j)) else if Da ts i < 3 then some (.error i) else Dj (Nc ts n (i+1)) fun t j=>some (.ok (Co 9 0 (Da ts i) [] [t],j)))=some (.ok r)):=f;clear f;go_loopw [17,3,4] (fun v _ _ wr => ∃ (k:Nat) (z:Int),k<=13/\v = .int .i64 z/\Hid (z=(k:Int))/\B2 ts g a c E i w wr/\Hid (∀ m,m < k->Bq ts 2 (([]::Ks).getD m []) i=false)) (fun v _ _ _=>30 - (intOf v).toNat);case atStart=>exact⟨0,0,by omega,rfl,rfl,b,fun m hm=>OC⟩
   case round =>
    clear b;obtain⟨k,z,hk,rfl,D,b,F⟩:=hrel;by_cases hk4:k < 13
    ·have ad:z < 13:=(by rw[D.out];omega);have R:wrap64 (z+1)=z+1:=(by rw[D.out,wrap64];omega);obtain⟨T,U⟩:∃ T,Hid (([]::Ks).getD k []=T):=⟨_,rfl⟩;obtain⟨J,HJ⟩:∃ J,Hid (Bv (k:Int)=J):=⟨_,rfl⟩;have ah:∀ W,Sem.run prog (Instr.index 186 (.agg Qat.toArray) (.int .i64 z)) W = .ok (.agg #[.string ⟨T.toArray⟩,.int .i64 J]) W:=(by rw[<- U.out,<- HJ.out];exact Qpe k z hk4 D.out);have C:wr.heap.size≠g:=Nat.ne_of_gt b.1.lt;replace b:B2 ts g a c E i w (wr.alloc (.cells #[.string ⟨T.toArray⟩,.int .i64 J] 185)):=b.to ⟨b.1.below (OP _ _),Bl.of_below (OP _ _)⟩;cases hI:Bq ts 2 T i with
     | false =>
      go_wp2_with (go_at_call 124;refine(D3 T b.1).mono ?_;rintro e q ⟨rfl,d⟩;rw[hI]at d |-;replace b:B2 ts g a c E i w q:=b.to d;clear d);exact DdQaHx88
     | true =>
      have ac:k≠0:=by
       rintro rfl;have:T=[]:=U.out.symm;subst this;rw[hG.sw0]at hI;simp at hI
      have hU:Ok ts i=k:=Sk 2 Ks OD OD k (by simp[Ks];omega) (by rw[U.out];exact hI);have f:=HR.out;rw[hU,if_pos ac]at f;have ag:0<=J:=(by rw[<- HJ.out];exact Qlh k);have ab:J.toNat<=3:=(by rw[<- HJ.out];exact Qlg k);have aj:Hid (J.toNat<=3):=ab;rw[HJ.out]at f;have al:(wr.alloc (.cells #[.string ⟨T.toArray⟩,.int .i64 J] 185)).cell? (OK wr.heap.size 1)=some (.int .i64 J):=(by simp[go_sem]);have an:wr.heap.size < (wr.alloc (.cells #[.string ⟨T.toArray⟩,.int .i64 J] 185)).heap.size:=OF;replace f:=Ai f;obtain⟨x,O,f⟩:=f;have N:Hid (∀ W,Eg g W->Cz ts g a c E (i+1) W->Calls prog 207 #[.pointer (some (OK g 0)),.int .i64 J] W (Qbo ts g a c E x W)):=fun W hb s=>by
       have h3:=ihl J.toNat (i+1) W x ab O hb s;rw[Int.toNat_of_nonneg ag]at h3;exact h3
      clear ag ab;rw[Option.some.injEq,Except.ok.injEq]at f;subst f;go_wp2_with (first|(go_at_call 124;refine(D3 T b.1).mono ?_;rintro e q ⟨rfl,d⟩;rw[hI]at d |-;have aq:=(d.2.cell (o:=1) an C).trans al;replace b:B2 ts g a c E (i+1) w q:=b.to d;clear d)|(go_at_call 207;refine(N.out _ (M.fr b.2) b.1).mono ?_;rintro e V ⟨va,vc,rfl,u,d⟩;replace u:=u.mono b.2.size;replace b:=b.to d;clear d));go_ret;have hl:x.1.length<=100000:=(by rw[Qhe O];exact Nat.le_trans (aj.out) OD);have H:=Qjs (k:Int) u hl;rw[D.out];exact⟨_,_,rfl,H,b⟩
    ·have hU:Ok ts i=0:=U0 2 Ks OD fun m hm=>F.out m (by simp[Ks]at hm;omega)
     have f:=HR.out;clear HR F;rw[hU]at f;simp only[ne_eq,not_true_eq_false,if_false]at f;have ad:¬ z < 13:=(by rw[D.out];omega);obtain⟨I,L⟩:=b.1.sum;have HP:Hid (Da ts i≠0->i < ts.length):=Qfx;have ae:Hid (Da ts i<=10):=Qno;have af:Hid (∀ W,Eg g W->Cz ts g a c E i W->Calls prog 128 #[.pointer (some (OK g 0))] W fun e w'=>e = .returned (.int .i64 (Da ts i:Int))/\B2 ts g a c E i W w'):=fun W hb s=>S9 hb s
     generalize Da ts i=Y at *;obtain⟨YZ,HY⟩:∃ YZ:Int,Hid ((Y:Int)=YZ):=⟨_,rfl⟩;rw[HY.out]at af;by_cases h3:Y < 3
     ·rw[if_pos h3]at f;simp at f
     ·rw[if_neg h3]at f;have ao:(3:Int)<=YZ:=(by rw[<- HY.out];clear I L;omega);have ai:YZ<=10:=(by have ap:=ae.out;rw[<- HY.out];clear I L;omega);have s:=HP.out (by clear I L;omega);have HI:Hid ((decide (3<=YZ) && decide (YZ<=10))=true):=(by rw[Hid];simp[ao,ai]);replace f:=Ai f;obtain⟨x,O,f⟩:=f;have N:Hid (∀ W,Eg g W->Cz ts g a c E (i+1) W->Calls prog 203 #[.pointer (some (OK g 0))] W (Kw ts g a c E x W)):=fun W hb s=>ihb (i+1) W x O hb s
      rw[Option.some.injEq,Except.ok.injEq]at f;subst f;go_wp2_with (first|(go_at_call 128;refine(af.out _ (M.fr b.2) b.1).mono ?_;rintro e q ⟨rfl,d⟩;replace b:=b.to d;clear d;obtain⟨c0,c1,c2,f1⟩:=b.1.cells)|(go_at_call 62;refine(isIntType_is YZ true HI _).mono ?_;rintro e W3 ⟨rfl,rfl⟩)|(go_at_call 203;replace b:=b.to ⟨b.1.nx s,Bl.set _ _ _⟩;refine(N.out _ (M.fr b.2) b.1).mono ?_;rintro e V ⟨ty,y,rfl,u,d⟩;replace u:=u.mono b.2.size;replace b:=b.to d;clear d));go_ret;have H:=Qlm (Y:Int) u;rw[<- HY.out];exact⟨_,_,rfl,H,b⟩
variable {ts:List (Ab × Nat)} {g:Nat} {a:Option Addr} {c E i j:Nat} {w W W2:World}
def Qk8 (ts:List (Ab × Nat)) (g:Nat) (a:Option Addr) (c E n:Nat):Prop := ∀ (K:Nat) (i:Nat) (w:World) (r:List Aa × Nat),K<=3->Hn ts n K i=some (.ok r)->Eg g w->Cz ts g a c E i w->Calls prog 207 #[.pointer (some (OK g 0)),.int .i64 (K:Int)] w (Qbo ts g a c E r w)
structure Qqq (ts:List (Ab × Nat)) (g:Nat) (a:Option Addr) (c E n:Nat):Prop where
 rank:Rf ts g a c E n
 unm:Qcx ts g a c E n
 call:Qfo ts g a c E n
 word:Zk ts g a c E n
 brk:Qcv ts g a c E n
 brest:Qk8 ts g a c E n
theorem Xz (hG:Gc ts) (n:Nat):∀ m,m<=n->Qqq ts g a c E m:=by
 induction n with
 | zero =>
  intro m f;obtain rfl:m=0:=OC
  exact⟨fun l i w r _ _ h=>by simp[Ds]at h,fun i w r h=>by simp[Fx]at h,fun x i w r h=>by simp[Jj]at h,fun i w r _ h=>by simp[K8]at h,fun i w r h=>by simp[Nc]at h,fun K i w r _ h=>by simp[Hn]at h⟩
 | succ n ih =>
  intro m f;by_cases e:m<=n
  ·exact ih m e
  obtain rfl:m=n+1:=OC
  have b:=ih n ON;have d:∀ m,m<=n->Rf ts g a c E m:=fun m h=>(ih m h).rank
  exact⟨Qhj n d b.unm,fun i w r h hB hP=>Qjy hG n b.unm b.call b.word b.brk r h hB hP,fun x i w r h hB hP=>Qla (fun m h=>Mc (d m h)) x r h hB hP,Qhp hG n b.brest b.brk,fun i w r h hB hP=>Qnb (Mc b.rank) r h hB hP,fun K i w r hK h hB hP=>Qji (fun m h=>Mc (d m h)) K hK r h hB hP⟩
theorem Ql0 (hG:Gc ts) (n:Nat) (r:Aa × Nat) (hr:Ds ts n 1 i=some (.ok r)) (hB:Eg g w) (hP:Cz ts g a c E i w) :
  Calls prog 157 #[.pointer (some (OK g 0))] w (Kw ts g a c E r w):=Mc (Xz hG n n ON).rank i w r hr hB hP
theorem Qlb (hG:Gc ts) (n:Nat) (x:List UInt8) (r:List Aa × Nat) (hr:Jj ts n i=some (.ok r)) (hB:Eg g w) (hP:Cz ts g a c E i w) :
  Calls prog 183 #[.pointer (some (OK g 0)),.string (Aj x)] w (Xx ts g a c E x r w):=(Xz hG n n ON).call x i w r hr hB hP
variable {ts:List (Ab × Nat)} {g:Nat} {a:Option Addr} {c E i j:Nat} {w W W2:World}
theorem Qhk {B:Nat} {t t2 t3:Aa} {v v2 v3:Value} (h:Ck B W t v) (h2:Ck B W t2 v2) (h3:Ck B W t3 v3):Hq B W [t,t2,t3] [v,v2,v3]:=by
 unfold Hq;rw[An];exact⟨v,[v2,v3],rfl,h,P5 h2 h3⟩
theorem Qnh {B:Nat} {t:Aa} {v:Value} (x:List UInt8) (h:Ck B W t v):Ck B W (Co 10 0 0 x [t]) (.iface 192 (.agg #[.string (Aj x),v])) :=
 Eh ⟨10,0,0,0,Aj x,1⟩ [t] [v] _ OF OF ⟨v,rfl,rfl⟩ (Jb h) OF
theorem Qnk {B:Nat} {t:Aa} {v:Value} (x:List UInt8) (h:Ck B W t v):Ck B W (Co 11 0 0 x [t]) (.iface 193 (.agg #[.string (Aj x),v])) :=
 Eh ⟨11,0,0,0,Aj x,1⟩ [t] [v] _ OF OF ⟨v,rfl,rfl⟩ (Jb h) OF
theorem Qjr (B:Nat) (W:World):Ck B W (Lk 14 0 0 0 []) (.iface 195 (.agg #[])) :=
 Eh ⟨14,0,0,0,Aj [],0⟩ [] [] _ OF OF ⟨rfl,rfl⟩ (G5 _ _) OF
theorem Qc4 (B:Nat) (W:World):Ck B W (Lk 15 0 0 0 []) (.iface 196 (.agg #[])) :=
 Eh ⟨15,0,0,0,Aj [],0⟩ [] [] _ OF OF ⟨rfl,rfl⟩ (G5 _ _) OF
theorem Qlr (B:Nat) (W:World):Ck B W (Lk 16 0 0 0 []) (.iface 198 (.agg #[.nilIface])) :=
 Eh ⟨16,0,0,0,Aj [],0⟩ [] [] _ OF OF (.inl ⟨rfl,rfl⟩) (G5 _ _) OF
theorem Qls {B:Nat} {t:Aa} {ty:TypeId} {y:Value} (h:Ck B W t (.iface ty y)):Ck B W (Co 16 0 0 [] [t]) (.iface 198 (.agg #[.iface ty y])) :=
 Eh ⟨16,0,0,0,Aj [],1⟩ [t] [.iface ty y] _ OF OF (.inr ⟨ty,y,rfl,rfl⟩) (Jb h) OF
theorem Qln {B:Nat} {t:Aa} {v:Value} (h:Ck B W t v):Ck B W (Co 17 0 0 [] [t]) (.iface 200 (.agg #[v])) :=
 Eh ⟨17,0,0,0,Aj [],1⟩ [t] [v] _ OF OF ⟨v,rfl,rfl⟩ (Jb h) OF
theorem Qnj {B:Nat} {t:Aa} {v:Value} (h:Ck B W t v):Ck B W (Co 19 0 0 [] [t]) (.iface 203 (.agg #[v])) :=
 Eh ⟨19,0,0,0,Aj [],1⟩ [t] [v] _ OF OF ⟨v,rfl,rfl⟩ (Jb h) OF
theorem Qju {B:Nat} {t t2:Aa} {v v2:Value} (h:Ck B W t v) (h2:Ck B W t2 v2):Ck B W (Co 18 0 0 [] [t,t2]) (.iface 202 (.agg #[v,v2])) :=
 Eh ⟨18,0,0,0,Aj [],2⟩ [t,t2] [v,v2] _ OF OF ⟨v,v2,rfl,rfl⟩ (P5 h h2) OF
theorem Qo8 {B:Nat} {va:Option Addr} {vc:Nat} {l:List Aa} (x:List UInt8) (h:Et B W va vc l) (hl:l.length<=100000):Ck B W (Co 20 0 0 [] [Co 7 0 0 x l]) (.iface 209 (.agg #[.string (Aj x),.slice va l.length vc])) :=
 Eh ⟨20,0,0,0,Aj [],1⟩ [Co 7 0 0 x l] [.iface 183 (.agg #[.string (Aj x),.slice va l.length vc])] _ OF OF ⟨Aj x,.slice va l.length vc,rfl,rfl⟩ (Jb (Qc3 x h hl)) OF
theorem Qjt {B:Nat} {t:Aa} {v:Value} {va:Option Addr} {vc:Nat} {l:List Aa} (h:Ck B W t v) (h2:Et B W va vc l) (hl:l.length<=100000):Ck B W (Co 13 0 0 [] [t,Co 21 0 0 [] l]) (.iface 207 (.agg #[v,.slice va l.length vc])) :=
 Eh ⟨13,0,0,0,Aj [],2⟩ [t,Co 21 0 0 [] l] [v,.iface 51 (.agg #[.slice va l.length vc])] _ OF OF ⟨v,.slice va l.length vc,rfl,rfl⟩ (P5 h (Mb h2 hl)) OF
theorem Hq.two {B:Nat} {t t2:Aa} {v v2:Value} (h:Hq B W ([]++[t]++[t2]) ([]++[v]++[v2])):Ck B W t v/\Ck B W t2 v2:=by
 simp only[Hq,List.nil_append,List.cons_append,An]at h;obtain⟨_,_,e,h,_,_,a,b,_⟩:=h;cases e;cases a
 exact⟨h,b⟩
theorem Qlx (k:Int) (T:List UInt8) (h:Bq ts k T i=true) (hP:Cz ts g a c E i w):Calls prog 155 #[.pointer (some (OK g 0)),.int .i64 k,.string ⟨T.toArray⟩] w fun e w'=>e = .returned (.bool true)/\B2 ts g a c E i w w':=(Gd k T hP).mono (by rintro e w' ⟨rfl,b⟩;rw[h];exact⟨rfl,hP.below b,Bl.of_below b⟩)
theorem Qlw (k:Int) (T:List UInt8) (h:¬ Bq ts k T i=true) (hP:Cz ts g a c E i w):Calls prog 155 #[.pointer (some (OK g 0)),.int .i64 k,.string ⟨T.toArray⟩] w fun e w'=>e = .returned (.bool false)/\B2 ts g a c E i w w':=(Gd k T hP).mono (by rintro e w' ⟨rfl,b⟩;rw[Bool.eq_false_iff.2 h];exact⟨rfl,hP.below b,Bl.of_below b⟩)
theorem Qjv (hG:Gc ts) (n:Nat) (r:Aa × Nat) (f:Ei ts n i=some (.ok r)) (hB:Eg g w) (hP:Cz ts g a c E i w) :
  Calls prog 158 #[.pointer (some (OK g 0))] w (Kw ts g a c E r w):=by
 obtain⟨n,rfl⟩:∃ n',n=n'+1:=by
  cases n with
  | zero=>simp[Ei]at f
  | succ n=>exact⟨n,rfl⟩
 have d:B2 ts g a c E i w w:=⟨hP,Bl.refl _ _⟩;have k:=hP.lt;have h:=G5 w.heap.size w;have p:=Mc (Xz hG (g:=g) (a:=a) (c:=c) (E:=E) n n ON).rank;rw[Ei]at f;repeat' (first|(replace f:=K6 f;obtain⟨_,f⟩:=f)|(replace f:=P2 f;obtain⟨_,f⟩:=f)|(replace f:=Nb f;obtain⟨_,f⟩:=f)|(replace f:=Ai f;obtain⟨_,_,f⟩:=f)|(split at f)|fail)
 all_goals
  simp only[Option.some.injEq,Except.ok.injEq]at f;subst f;go_enter func158,ntmps158;go_wp2_with (first|(go_at_call 124;(first|refine(Qda _ OG d.1).mono ?_|refine(Qc9 _ OG d.1).mono ?_);rintro e m ⟨rfl,b⟩;replace h:=h.fr b.2 k;replace d:=d.to b;clear b)|(go_at_call 92;(first|refine(L5 _ OG d.1).mono ?_|refine(L4 _ OG d.1).mono ?_);rintro e m ⟨rfl,b⟩;replace h:=h.fr b.2 k;replace d:=d.to b;clear b)|(go_at_call 90;refine(K7 OG d.1).mono ?_;rintro e m ⟨rfl,b⟩;replace h:=h.fr b.2 k;replace d:=d.to b;clear b)|(go_at_call 91;refine(Dz _ OG d.1).mono ?_;rintro e m ⟨rfl,b⟩;replace h:=h.fr b.2 k;replace d:=d.to b;clear b)|(go_at_call 157;refine(p _ _ _ OG (hB.fr d.2) d.1).mono ?_;rintro e m ⟨u,y,rfl,o,b⟩;replace h:=(h.fr b.2 k).snoc (o.mono d.2.size);replace d:=d.to b;clear b o)|(go_at_call 155;(first|refine(Qlx _ _ OG d.1).mono ?_|refine(Qlw _ _ OG d.1).mono ?_);rintro e m ⟨rfl,b⟩;replace h:=h.fr b.2 k;replace d:=d.to b;clear b)|(go_at_call 183;refine(Qlb hG n _ _ OG (hB.fr d.2) d.1).mono ?_;rintro e m ⟨v,x,rfl,l,b⟩;replace l:=l.mono d.2.size;replace d:=d.to b;clear b));go_ret;first|exact⟨_,_,rfl,Qnh _ h.one,d⟩|exact⟨_,_,rfl,Qjr _ _,d⟩|exact⟨_,_,rfl,Qc4 _ _,d⟩|exact⟨_,_,rfl,Qlr _ _,d⟩|exact⟨_,_,rfl,Qls h.one,d⟩|exact⟨_,_,rfl,Qln h.one,d⟩|exact⟨_,_,rfl,Qju h.two.1 h.two.2,d⟩|exact⟨_,_,rfl,Qnj h.one,d⟩|exact⟨_,_,rfl,Qnk _ h.one,d⟩|exact⟨_,_,rfl,Qo8 _ l (by have q:=Qao (ts:=ts) (n:=n) OG;have s:=d.1.le;have t:=d.1.len;omega),d⟩
variable {ts:List (Ab × Nat)} {g:Nat} {a:Option Addr} {c E i j:Nat} {w W W2:World}
structure Qqx (ts:List (Ab × Nat)) (n:Nat):Prop where
 block:∀ i x,Er ts n i=some (.ok x)->i < x.2
 blockL:∀ us i x,Fm ts n us i=some (.ok x)->i < x.2
 ifr:∀ i x,L3 ts n i=some (.ok x)->i < x.2
 stmt:∀ i x,Kc ts n i=some (.ok x)->i < x.2
 short:∀ i x,Ei ts n i=some (.ok x)->i < x.2
theorem N9 {ts:List (Ab × Nat)} {i:Nat} {x} (h:Ib ts i=some (.ok x)):x.2=i+1:=by
 unfold Ib at h;split at h
 ·simp at h;rw[<- h]
 ·simp at h
theorem Ub {ts:List (Ab × Nat)} {i:Nat} {x} (h:Oa ts i=some (.ok x)):x.2=i+1:=by
 unfold Oa at h;split at h
 ·simp at h
 ·simp at h;rw[<- h]
theorem Qjw {ts:List (Ab × Nat)} (n i:Nat) (x) (h:Ei ts (n+1) i=some (.ok x)):i < x.2:=by
 have b:=O9 ts n;rw[Ei]at h;split at h
 ·obtain⟨y,c,h⟩:=Ai h;obtain⟨z,d,h⟩:=Ai h;obtain⟨u,a,h⟩:=Ai h;have:=N9 c;have:=Ho d;have:=b.rank _ _ _ a;simp at h;rw[<- h];simp;omega
 split at h
 ·simp at h;rw[<- h];simp
 split at h
 ·simp at h;rw[<- h];simp
 split at h
 ·split at h
  ·simp at h;rw[<- h];simp
  ·obtain⟨u,a,h⟩:=Ai h;have:=b.rank _ _ _ a;simp at h;rw[<- h];simp;omega
 split at h
 ·obtain⟨u,a,h⟩:=Ai h;have:=b.rank _ _ _ a;simp at h;rw[<- h];simp;omega
 split at h
 ·obtain⟨u,a,h⟩:=Ai h;obtain⟨z,d,h⟩:=Ai h;obtain⟨v,f,h⟩:=Ai h;have:=b.rank _ _ _ a;have:=Ho d;have:=b.rank _ _ _ f;simp at h;rw[<- h];simp;omega
 split at h
 ·obtain⟨u,a,h⟩:=Ai h;have:=b.rank _ _ _ a;simp at h;rw[<- h];simp;omega
 obtain⟨y,c,h⟩:=Ai h;have:=N9 c;split at h
 ·obtain⟨u,a,h⟩:=Ai h;have:=b.rank _ _ _ a;simp at h;rw[<- h];simp;omega
 ·obtain⟨u,a,h⟩:=Ai h;have:=b.call _ _ a;simp at h;rw[<- h];simp;omega
theorem Uz (ts:List (Ab × Nat)):∀ n,Qqx ts n
 | 0=>by constructor <;> intros <;> rename_i h <;> simp[Er,Fm,L3,Kc,Ei]at h
 | n+1=>by
  have b:=Uz ts n
  have f:=O9 ts n
  constructor
  ·intro i x h
   rw[Er]at h
   obtain⟨z,a,h⟩:=Ai h
   have:=Ho a;have:=b.blockL _ _ _ h
   omega
  ·intro us i x h
   rw[Fm]at h
   split at h
   ·simp at h;rw[<- h];simp
   ·obtain⟨z,a,h⟩:=Ai h
    have:=b.stmt _ _ a;have:=b.blockL _ _ _ h
    omega
  ·intro i x h
   rw[L3]at h
   obtain⟨y,c,h⟩:=Ai h
   obtain⟨z,a,h⟩:=Ai h
   have:=f.rank _ _ _ c;have:=b.block _ _ a
   split at h
   ·split at h
    ·obtain⟨u,d,h⟩:=Ai h
     have:=b.ifr _ _ d
     simp at h;rw[<- h];simp;omega
    ·obtain⟨u,d,h⟩:=Ai h
     have:=b.block _ _ d
     simp at h;rw[<- h];simp;omega
   ·simp at h;rw[<- h];simp;omega
  ·intro i x h
   rw[Kc]at h
   split at h
   ·obtain⟨u,d,h⟩:=Ai h
    have:=b.ifr _ _ d
    simp at h;rw[<- h];simp;omega
   split at h
   ·obtain⟨y,c,h⟩:=Ai h
    obtain⟨z,a,h⟩:=Ai h
    have:=f.rank _ _ _ c;have:=b.block _ _ a
    simp at h;rw[<- h];simp;omega
   ·obtain⟨y,c,h⟩:=Ai h
    obtain⟨z,a,h⟩:=Ai h
    have:=b.short _ _ c;have:=Ho a
    simp at h;rw[<- h];simp;omega
  ·exact fun i x h=>Qjw n i x h
theorem Qjl {ts:List (Ab × Nat)}:∀ (n:Nat) (us:List Aa) (i:Nat) (x),G2 ts n us i=some (.ok x)->i < x.2:=by
 intro n;induction n with
 | zero=>intro us i x h;simp[G2]at h
 | succ n ih =>
  intro us i x h;rw[G2]at h;obtain⟨y,a,h⟩:=Ai h;obtain⟨z,b,h⟩:=Ai h;have:=N9 a;have:=Ub b;split at h
  ·simp at h;rw[<- h];simp;omega
  ·obtain⟨v,c,h⟩:=Ai h;have:=Ho c;have:=ih _ _ _ h;omega
theorem Qnc {ts:List (Ab × Nat)} (n:Nat) (i:Nat) (x) (h:Nf ts n i=some (.ok x)):i < x.2:=by
 cases n with
 | zero=>simp[Nf]at h
 | succ n =>
  rw[Nf]at h;obtain⟨y,c,h⟩:=Ai h;obtain⟨z,d,h⟩:=Ai h;obtain⟨u,f,h⟩:=Ai h;obtain⟨v,a,h⟩:=Ai h;obtain⟨k,b,h⟩:=Ai h;obtain⟨l,g,h⟩:=Ai h;have:=Ho c;have:=N9 d;have:=Ho f;have:=(Uz ts n).block _ _ g;have:u.2 < v.2:=by
   split at a
   ·simp at a;rw[<- a];simp
   ·exact Qjl _ _ _ _ a
  have:v.2<=k.2:=by
   split at b
   ·have:=Ub b;omega
   ·simp at b;rw[<- b];simp
  simp at h;rw[<- h];simp;omega
theorem Qcz {ts:List (Ab × Nat)}:∀ (n:Nat) (us:List Aa) (i:Nat) (x),Fm ts n us i=some (.ok x)->x.1.length+i<=us.length+x.2:=by
 intro n;induction n with
 | zero=>intro us i x h;simp[Fm]at h
 | succ n ih =>
  intro us i x h;rw[Fm]at h;split at h
  ·simp only[Option.some.injEq,Except.ok.injEq]at h;subst h;simp
  ·obtain⟨z,a,h⟩:=Ai h;have:=(Uz ts n).stmt _ _ a;have:=ih _ _ _ h;simp at this;omega
theorem G9 {ts:List (Ab × Nat)} {n i:Nat} {x} (h:Er ts n i=some (.ok x)):x.1.length<=x.2:=by
 cases n with
 | zero=>simp[Er]at h
 | succ n =>
  rw[Er]at h;obtain⟨y,a,h⟩:=Ai h;have:=Qcz _ _ _ _ h;simp at this;omega
def Qo (ts:List (Ab × Nat)) (g:Nat) (a:Option Addr) (c E:Nat) (p:List Aa × Nat) (w:World) (e:Ending) (w':World):Prop := ∃ va vc,e = .returned (.agg #[.slice va p.1.length vc])/\Et w.heap.size w' va vc p.1/\B2 ts g a c E p.2 w w'
def Xy (ts:List (Ab × Nat)) (g:Nat) (a:Option Addr) (c E n:Nat):Prop := ∀ (i:Nat) (w:World) (r:List Aa × Nat),Er ts n i=some (.ok r)->Eg g w->Cz ts g a c E i w ->
 Calls prog 95 #[.pointer (some (OK g 0))] w (Qo ts g a c E r w)
def Qhc (ts:List (Ab × Nat)) (g:Nat) (a:Option Addr) (c E n:Nat):Prop := ∀ (i:Nat) (w:World) (r:Aa × Nat),Kc ts n i=some (.ok r)->Eg g w->Cz ts g a c E i w ->
 Calls prog 129 #[.pointer (some (OK g 0))] w (Kw ts g a c E r w)
structure N5 (ts:List (Ab × Nat)) (g:Nat) (a:Option Addr) (c E:Nat) (w:World) (b:Nat) (p:Nat) (W:World) (va:Option Addr) (vc:Nat) (l:List Aa):Prop where
 T:B2 ts g a c E p w W
 res:W.heap[w.heap.size]? = some (.cells #[.slice none 0 0] 51)
 var:W.heap[b]? = some (.cells #[.slice va l.length vc] 51)
 K:Et (b+1) W va vc l
 gw:g < w.heap.size
 bw:w.heap.size < b
variable {b p p2:Nat} {va:Option Addr} {vc:Nat} {l:List Aa}
theorem N5.to (h:N5 ts g a c E w b p W va vc l) (hT:B2 ts g a c E p2 W W2):N5 ts g a c E w b p2 W2 va vc l:=by
 have j:=h.gw;have i:=h.bw;have d:=(Array.getElem?_eq_some_iff.1 h.res).1;have f:=(Array.getElem?_eq_some_iff.1 h.var).1;exact⟨h.T.to hT,(hT.2.keep _ d OC).trans h.res,(hT.2.keep _ f OC).trans h.var,h.K.fr hT.2 OC,j,i⟩
theorem DdQaLx188 {P:Prop} (h:P:=by
 have d:=h.res
 have f:=h.var
 refine⟨?_, ?_,fun k => ?_,fun k => ?_⟩
 ·rw[Lib.cell_of_heap d];rfl
 ·rw[Lib.cell_of_heap f];rfl
 ·simp[World.frozen?,d]
 ·simp[World.frozen?,f]
 ):P:=h
theorem N5.cells (h:N5 ts g a c E w b p W va vc l):W.cell? (OK w.heap.size 0)=some (.slice none 0 0)/\W.cell? (OK b 0)=some (.slice va l.length vc)/\(∀ k,W.frozen? (OK w.heap.size k)=false)/\∀ k,W.frozen? (OK b k)=false:=by
 exact DdQaLx188
theorem N5.store {a':Option Addr} {c':Nat} {l':List Aa} (h:N5 ts g a c E w b p W va vc l) (hK:Et (b+1) W2 a' c' l') (hFg:∀ V,Bl g V W->V.heap.size<=b+1->Bl g V W2) (hPg:∀ ts a c E i,Cz ts g a c E i W->Cz ts g a c E i W2) (hk:W.heap.size<=W2.heap.size/\∀ k,k < b+1->k < W.heap.size->W2.heap[k]? = W.heap[k]?):N5 ts g a c E w b p (W2.setCell (OK b 0) (.slice a' l'.length c')) a' c' l':=by
 have q:=h.gw;have o:=h.bw;have m:=(Array.getElem?_eq_some_iff.1 h.res).1;have n:=(Array.getElem?_eq_some_iff.1 h.var).1;have d:=hFg w h.T.2 OC;have f:=hPg _ _ _ _ _ h.T.1;refine⟨⟨⟨?_,f.tks.keep fun j hj=>Below.heap_setCell _ _ _ _ OJ,f.le,f.len,f.cap⟩,⟨d.os,d.tape,d.output,by simpa[World.setCell]using d.size,fun j hj hjg=>(Below.heap_setCell _ _ _ _ OJ).trans (d.keep j hj hjg)⟩⟩, ?_, ?_,hK.set OC _,q,o⟩
 ·rw[Below.heap_setCell _ _ _ _ OJ];exact f.blk
 ·rw[Below.heap_setCell _ _ _ _ OJ,hk.2 _ OC m];exact h.res
 ·have:=(hk.2 _ OC n).trans h.var;simp[World.setCell,Array.getElem?_modify,this]
theorem N5.ret {v0:Value} (h:N5 ts g a c E w b p W va vc l):Et w.heap.size (W.setCell (OK w.heap.size 0) v0) va vc l/\B2 ts g a c E p w (W.setCell (OK w.heap.size 0) v0):=by
 have n:=h.gw;have m:=h.bw;have f:=h.T.1;have d:=h.T.2;have i:∀ k,k≠w.heap.size->(W.setCell (OK w.heap.size 0) v0).heap[k]? = W.heap[k]?:=fun k i=>Below.heap_setCell _ _ _ _ i
 refine⟨(h.K.set OC _).mono OC,⟨(i _ OC).trans f.blk,f.tks.keep fun j hj=>i _ OC,f.le,f.len,f.cap⟩,⟨d.os,d.tape,d.output,by simpa[World.setCell]using d.size,fun j hj hjg=>(i _ OC).trans (d.keep j hj hjg)⟩⟩
theorem N5.drew (h:N5 ts g a c E w b p W va vc l):N5 ts g a c E w b p W.drew va vc l:=h.to ⟨h.T.1.below (Ja (OO _)),Bl.of_below (Ja (OO _))⟩
theorem N5.start {V:World} (hR:V.heap[w.heap.size]? = some (.cells #[.slice none 0 0] 51)) (hT:B2 ts g a c E p w V) (hg:g < w.heap.size):N5 ts g a c E w V.heap.size p (V.alloc (.cells #[.slice none 0 0] 51)) none 0 []:=by
 have b:Below V.heap.size V (V.alloc (.cells #[.slice none 0 0] 51)):=OP _ _;have d:=(Array.getElem?_eq_some_iff.1 hR).1;exact⟨hT.to ⟨hT.1.below b,Bl.of_below b⟩,(b.block _ d).trans hR,heap_alloc_new _ _,Et.nil _ _,hg,d⟩
theorem Qlu (hP:Cz ts g a c E p w):∃ V,w.alloc (.cells #[.slice none 0 0] 51)=V/\V.heap[w.heap.size]? = some (.cells #[.slice none 0 0] 51)/\B2 ts g a c E p w V/\w.heap.size < V.heap.size :=
 ⟨_,rfl,heap_alloc_new _ _,⟨hP.below (OP _ _),Bl.of_below (OP _ _)⟩,by simp⟩
theorem Qjh (n:Nat) (ih:∀ m,m<=n->Qhc ts g a c E m):Xy ts g a c E (n+1):=by
 intro i w r u hB T;have G:=T.lt;obtain⟨V0,C,h,B,D⟩:=Qlu T;rw[Er]at u;replace u:=K6 u;obtain⟨h1,u⟩:=u;have HR:Hid (Fm ts n [] (i+1)=some (.ok r)):=u;clear u;go_enter func95,ntmps95;go_wp2_with (go_at_call 91;(try rw[C]);refine(Dz [123] h1 B.1).mono ?_;rintro e V ⟨rfl,d⟩;replace h:=(d.2.keep _ D (Nat.ne_of_gt G)).trans h;replace B:=B.to d;clear d;have f:=N5.start h B G);go_loopw [6] (fun _ wr => ∃ (m:Nat) (us:List Aa) (p:Nat) (s:Option Addr) (t:Nat),m<=n/\N5 ts g a c E w V.heap.size p wr s t us/\Fm ts m us p=some (.ok r)/\us.length<=p) (fun _ wr=>K9 g ts.length wr);case atStart=>exact⟨n,[],_,_,_,Nat.le_refl _,f,HR.out,by simp⟩
 case round =>
  clear f B h D C;generalize V.heap.size=b at *;obtain⟨m,us,p,s,t,hm,f,j,ac⟩:=hrel;obtain⟨m,rfl⟩:∃ m',m=m'+1:=by
   cases m with
   | zero=>simp[Fm]at j
   | succ m=>exact⟨m,rfl⟩
  rw[Fm]at j;cases h6:Bq ts 5 [125] p with
  | true =>
   rw[h6,if_pos rfl,Option.some.injEq,Except.ok.injEq]at j;subst j;go_wp2_with (go_at_call 92;refine(D2 [125] f.T.1).mono ?_;rintro e V ⟨rfl,d⟩;rw[h6]at d |-;rw[if_pos rfl]at d;replace f:=f.to d;clear d;obtain⟨Y,z,f0,f1⟩:=f.cells);have S:=f.ret (v0:=.slice s us.length t);have y0:=World.cell?_setCell_same _ (OK w.heap.size 0) (.slice s us.length t) Y;refine bodyPost_ret (v:=.agg #[.slice s us.length t]) (by simp[results,results95,go_sem,y0]) rfl ?_;exact⟨s,t,rfl,S.1,S.2⟩
  | false =>
   rw[h6,if_neg OF]at j;go_wp2_with (go_at_call 92;refine(D2 [125] f.T.1).mono ?_;rintro e V ⟨rfl,d⟩;rw[h6]at d |-;rw[if_neg OF]at d;have O:K9 g ts.length wr=ts.length+1 - p:=f.T.1.left;replace f:=f.to d;clear d;obtain⟨Y,z3,f0,f1⟩:=f.cells);have aa:=f.bw;have U:=f.T.1.le;have P:=f.T.1.len;have Q:us.length+1<=1000000:=OC;have F:b+1<=V.heap.size:=(Array.getElem?_eq_some_iff.1 f.var).1;have A:b+1<=V.drew.heap.size:=F;have N:∀ k,(Value.slice s us.length t).ownBlock=some k->k < V.drew.heap.size:=fun k hk=>(f.K.blk hk).1
   have M:g < V.drew.heap.size:=Nat.lt_of_lt_of_le OC F;have H:Eg g V.drew:=hB.fr f.drew.T.2;have I:Cz ts g a c E p V.drew:=f.drew.T.1;replace j:=Ai j;obtain⟨x,R,j⟩:=j;have Z:Hid (∀ W,Eg g W->Cz ts g a c E p W->Calls prog 129 #[.pointer (some (OK g 0))] W (Kw ts g a c E x W)):=fun W hb hp=>ih m OC p W x R hb hp
   have HL:Hid (Fm ts m (us++[x.1]) x.2=some (.ok r)):=j;clear j;have ab:=(Uz ts m).stmt _ _ R;go_region_law (first
    | (go_simp;go_at_call 129;refine(Z.out _ H I).mono ?_;rintro e V4 ⟨ty,y,rfl,hR,d⟩;have o:=f.drew.to d;have z:=o.cells.2.1;have z2:(V4.alloc (.cells #[.iface ty y] 86)).cell? (OK b 0)=some (.slice s us.length t):=(by rw[World.cell?_alloc_lt _ _ (OK b 0) (World.block_lt_of_cell? _ _ z)];exact z);(try simp only))
    | (refine X3 (g:=g) rfl (.tmp 10) (.tmp 13) rfl o.K hR A N (Nat.le_trans A d.2.size) Q OC (Nat.lt_of_lt_of_le M d.2.size) rfl rfl ?_;intro a' c' X K J L l;have u1:X.cell? (OK b 0)=some (.slice s us.length t):=(by rw[World.cell?_of_block (l.2 b OC (World.block_lt_of_cell? _ _ z))];exact z);have u2:X.frozen? (OK b 0)=false:=(by rw[World.frozen?_of_block (l.2 b OC (World.block_lt_of_cell? _ _ z))];exact o.cells.2.2.2 0)))
   all_goals
    have e5:(us++[x.1]).length=us.length+1:=OF;have q:=o.store K J L l;rw[e5]at q;go_wp2_with fail;go_roundw;case rel=>exact⟨m,us++[x.1],x.2,a',c',by omega,q,HL.out,by simp;omega⟩
    case measure=>rw[O,q.T.1.left];have:=q.T.1.le;omega
end Go.Proofs.YtjlaedokfbcbpaaGreatDoor
