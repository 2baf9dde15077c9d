import Derived.Test.YtjlaedokfbcbpaaGreatDoorKGenM
set_option maxRecDepth 100000
set_option maxHeartbeats 4000000
namespace Go.Proofs.YtjlaedokfbcbpaaGreatDoor
open Go.RowKit Proofs.Tryz
theorem Tk.wp_rows {w:World} {ops:Array Oper} {rest:List Oper} {o:Oper} {a:Act} {Q:Exit->Act->World->Prop} (hgd:o.guard=none) (s x:Operand)
  (ho:o.op = .call { callee:=.builtin .append,args := #[s,x],argTypes := #[23,23] }) {A1 A2 K1 K2 dn dc sn sc:Nat} {da sa:Option Addr} (hs:a.eval s = .slice da dn dc) (hx:a.eval x = .slice sa sn sc) (h1:As A1 w (.slice da dn dc) K1) (h2:As A2 w (.slice sa sn sc) K2) (hA:A1<=w.heap.size) (hK:K1+K2<=1000000000)
  (h:∀ a' n' c' w',As A1 w' (.slice a' n' c') (K1+K2)->n'=dn+sn->(∀ V:World,V.heap.size<=A1->Below V.heap.size V w->Below V.heap.size V w')->w.heap.size<=w'.heap.size->wpList prog ops Q rest (a.put o.dst (.slice a' n' c')) w') :
  wpList prog ops Q (o::rest) a w:=by
 obtain⟨v,g,i,j,l⟩:=info_parts K0;obtain⟨z,F,A,m⟩:=h1;obtain⟨f,G,B,n⟩:=h2;obtain⟨D,c3,r⟩:=B3 n;injection r with e31 e32 e33;subst e31;subst e32;subst e33;obtain⟨E,c4,t⟩:=B3 m;injection t with e41 e42 e43;subst e41;subst e42;subst e43;refine Eo hgd s x 23 ho A1 62 v (.agg #[.int .i64 0,.int .i64 0,.int .i64 0,.int .i64 0,.string ⟨#[]⟩,.int .i64 0]) 6 56 underlying23 g i j l rfl OD _ _ _ hs m sa f.length sc hx (Ap f) (Jo f) (M5 n) (Le f) OI OC hA ?_;intro H C c b;obtain⟨p,q,u⟩:=B3 c;subst u;refine h p _ q C ⟨z++f, ?_, ?_, ?_⟩ rfl (fun V hV hb => ?_) b.size
 ·rw[List.length_append];omega
 ·intro y d;rcases List.mem_append.1 d with d|d
  ·exact A y d
  ·exact B y d
 ·rw[List.length_append,Ap,List.flatMap_append];exact c
 ·refine⟨b.os.trans hb.os,b.tape.trans hb.tape,b.output.trans hb.output,Nat.le_trans hb.size b.size,fun k hk=>(b.block k (Nat.lt_of_lt_of_le hk hb.size) (fun e => ?_)).trans (hb.block k hk)⟩;have:=(A8 m e.symm).1.1;omega
theorem Tk.Row_below {A K:Nat} {w w':World} {v:Value} (h:As A w v K) (hb:Below w.heap.size w w'):As A w' v K:=h.fr (Bg.of_below (B:=0) hb)
theorem Tk.empty_row (w:World):As w.heap.size (w.alloc (.cells #[] 62)) (.slice (some (OK w.heap.size 0)) 0 0) 0 :=
 ⟨[],Nat.le_refl _,fun d hd=>absurd hd List.not_mem_nil,L2 w w.heap.size ON [] OD⟩
theorem Tk.new_two (w:World) (d e:Ae) (hd:Fi d) (he:Fi e):As w.heap.size (w.alloc (.cells #[.int .i64 d.kind,.int .i64 d.op,.int .i64 d.type,.int .i64 d.n,.string d.text,.int .i64 d.kids,.int .i64 e.kind,.int .i64 e.op,.int .i64 e.type,.int .i64 e.n,.string e.text,.int .i64 e.kids] 62)) (.slice (some (OK w.heap.size 0)) 2 2) 2 :=
 ⟨[d,e],Nat.le_refl _,fun x a=>by
  rcases List.mem_cons.1 a with rfl|a
  ·exact hd
  ·rw[List.mem_singleton.1 a];exact he,L2 w w.heap.size ON [d,e] OF⟩
def Tk.TPost (K:Nat) (w:World) (e:Ending) (w':World):Prop := ∃ a n c,e = .returned (.agg #[.slice a n c])/\1<=n/\As w.heap.size w' (.slice a n c) K/\Below w.heap.size w w'
theorem Tk.tree_end {w W:World} {a:Option Addr} {n c K:Nat} (hr:As (w.heap.size+1) W (.slice a n c) K) (hn:1<=n) (hb:Below (w.heap.size+1) (w.alloc (.cells #[.slice none 0 0] 25)) W):Tk.TPost K w (.returned (.agg #[.slice a n c])) (W.setCell (OK w.heap.size 0) (.slice a n c)):=by
 have i:W.heap[w.heap.size]? = some (.cells #[.slice none 0 0] 25):=(hb.block w.heap.size OC).trans (World.alloc_heap_new w _);have d:=((Below.refl w.heap.size w).alloc ON (.cells #[.slice none 0 0] 25)).trans (hb.mono OC);obtain⟨l,g,h,f⟩:=hr;refine⟨a,n,c,rfl,hn,⟨l,g,h,B1 (G0 f OC) (fun k d _ _=>Bd (fun e => ?_))⟩,⟨d.os,d.tape,d.output,Nat.le_trans d.size (by simp[World.setCell]),fun k hk1=>(Bd OC).trans (d.block k hk1)⟩⟩;obtain⟨_,j,b⟩:=A8 f d;subst e;rw[i]at b;injection b with b;injection b with _ b _;exact absurd b OD
theorem Tk.tree_cell {w W:World} (hb:Below (w.heap.size+1) (w.alloc (.cells #[.slice none 0 0] 25)) W):W.cell? (OK w.heap.size 0)=some (.slice none 0 0)/\W.frozen? (OK w.heap.size 0)=false:=by
 have a:W.heap[w.heap.size]? = some (.cells #[.slice none 0 0] 25):=(hb.block w.heap.size OC).trans (World.alloc_heap_new w _);exact⟨by simp[World.cell?,a],by simp[World.frozen?,a]⟩
theorem Tk.bl {a b c:World} {A B:Nat} (h1:Below A a b) (h2:Below B b c) (h:A<=B):Below A a c:=h1.trans (h2.mono h)
theorem Tk.up1 (w:World) (o:Obj):Below w.heap.size w (w.alloc o):=OP w o
theorem Tk.main_any {A K:Nat} {w:World} {a:Option Addr} {n c:Nat} (h:As A w (.slice a n c) K) (hK:K<=300000000) (m:Int) :
  Calls prog 53 #[.slice a n c,.int .i64 m] w (Tk.TPost (K+5) w):=by
 have t0:Tk.Mk:=trivial;obtain⟨d,j⟩:∃ V,w.alloc (.cells #[.slice none 0 0] 25)=V:=⟨_,rfl⟩;have b:d.heap.size=w.heap.size+1:=by rw[<- j];simp
 have hE:As (w.heap.size+1) (d.alloc (.cells #[] 62)) (.slice (some (OK (w.heap.size+1) 0)) 0 0) 0:=by have:=Tk.empty_row d;rw[b]at this;exact this
 have s:As A (d.alloc (.cells #[] 62)) (.slice a n c) K:=Tk.Row_below (Tk.Row_below h (by rw[<- j];exact Tk.up1 w _)) (Tk.up1 d _);have L:Below (w.heap.size+1) d (d.alloc (.cells #[] 62)):=by rw[<- b];exact Tk.up1 d _
 have Z:w.heap.size+1<=(d.alloc (.cells #[] 62)).heap.size:=by simp[b]
 have b1:0+K<=1000000000:=OC
 have b2:0+K+2<=1000000000:=OC
 have b3:0+K+2+1<=1000000000:=OC
 have b4:0+K+2+1+2<=1000000000:=OC
 clear h;go_enter func53,ntmps53;go_wp2_with (first
  | (at_builtin;have _t:=t0;clear t0;refine Tk.wp_rows rfl _ _ rfl rfl rfl hE s Z b1 ?_;intro a1 n1 c1 w1 C o t W;clear o;have k:Below (w.heap.size+1) d w1:=(by have:=t d OC (by rw[b];exact L);rw[b]at this;exact this);have p:w.heap.size+1<=w1.heap.size:=(by have:=k.size;omega);clear hE s t W;have t1:Tk.Mk:=trivial)
  | (go_at_call 52;have _t:=t1;clear t1;refine(D8 _ OD w1).mono ?_;rintro e w2 ⟨a2,n2,c2,rfl,D,f⟩;have t2:Tk.Mk:=trivial)
  | (go_at_call 54;have _t:=t2;clear t2;refine(D9 ⟨16,0,0,0,⟨#[]⟩,0⟩ OD D OD).mono ?_;rintro e w3 ⟨a3,n3,c3,rfl,E,g⟩;have H:=Tk.Row_below (Tk.Row_below C f) g;have M:Below (w.heap.size+1) d w3:=Tk.bl (Tk.bl k f p) g (Nat.le_trans p f.size);have I:w.heap.size+1<=w3.heap.size:=Nat.le_trans (Nat.le_trans p f.size) g.size;clear C f g D k;have t3:Tk.Mk:=trivial)
  | (at_builtin;have _t:=t3;clear t3;refine Tk.wp_rows rfl _ _ rfl rfl rfl H E I b2 ?_;intro a4 n4 c4 i F R u X;clear R;have N:Below (w.heap.size+1) d i:=(by have:=u d OC (by rw[b];exact M);rw[b]at this;exact this);have q:w.heap.size+1<=i.heap.size:=Nat.le_trans I X;have z:=Tk.Row_below F (Tk.up1 i (.cells #[.int .i64 21,.int .i64 0,.int .i64 0,.int .i64 0,.string ⟨#[]⟩,.int .i64 (wrap64 (m+1))] 62));have O:Below (w.heap.size+1) d (i.alloc (.cells #[.int .i64 21,.int .i64 0,.int .i64 0,.int .i64 0,.string ⟨#[]⟩,.int .i64 (wrap64 (m+1))] 62)):=Tk.bl N (Tk.up1 i _) q;clear H E u F;have t4:Tk.Mk:=trivial)
  | (at_builtin;have _t:=t4;clear t4;refine Tk.wp_rows rfl _ _ rfl rfl rfl z (Fj i ⟨21,0,0,0,⟨#[]⟩,wrap64 (m+1)⟩ Bh) (Nat.le_trans q (Tk.up1 i _).size) b3 ?_;intro a5 n5 c5 r G S x Y;clear S;have P:Below (w.heap.size+1) d r:=(by have:=x d OC (by rw[b];exact O);rw[b]at this;exact this);have J:w.heap.size+1<=r.heap.size:=Nat.le_trans (Nat.le_trans q (Tk.up1 i _).size) Y;have B:=Tk.Row_below G (Tk.up1 r (.cells #[.int .i64 23,.int .i64 0,.int .i64 2,.int .i64 0,.string ⟨#[109,97,105,110]⟩,.int .i64 1,.int .i64 24,.int .i64 0,.int .i64 0,.int .i64 0,.string ⟨#[]⟩,.int .i64 1] 62));have Q:Below (w.heap.size+1) d (r.alloc (.cells #[.int .i64 23,.int .i64 0,.int .i64 2,.int .i64 0,.string ⟨#[109,97,105,110]⟩,.int .i64 1,.int .i64 24,.int .i64 0,.int .i64 0,.int .i64 0,.string ⟨#[]⟩,.int .i64 1] 62)):=Tk.bl P (Tk.up1 r _) J;clear z x G;have t5:Tk.Mk:=trivial)
  | (at_builtin;have _t:=t5;clear t5;refine Tk.wp_rows rfl _ _ rfl rfl rfl B (Tk.new_two r ⟨23,0,2,0,⟨#[109,97,105,110]⟩,1⟩ ⟨24,0,0,0,⟨#[]⟩,1⟩ OD OD) (Nat.le_trans J (Tk.up1 r _).size) b4 ?_;intro a6 n6 c6 w6 U T y aa;have l:Below (w.heap.size+1) d w6:=(by have:=y d OC (by rw[b];exact Q);rw[b]at this;exact this);have o:1<=n6:=OC;rw[<- j]at l;obtain⟨x0,x1⟩:=Tk.tree_cell l;clear B y T))
 exact bodyPost_ret (v:=.agg #[.slice a6 n6 c6]) (by simp[results,results53,go_sem,x0]) rfl (Tk.tree_end (U.mono ON OC) o l)
theorem Tk.bin (op:Int) {a a':Option Addr} {n c n' c' K K' A A':Nat} {w:World} (h:As A w (.slice a n c) K) (h':As A' w (.slice a' n' c') K') (hK:K+K'<=1000000000) :
  Calls prog 97 #[.int .i64 op,.slice a n c,.slice a' n' c'] w (Jm (K+K'+1) w):=by
 have d:Hid (Calls prog 54 #[.agg #[.int .i64 6,.int .i64 op,.int .i64 0,.int .i64 0,.string ⟨#[]⟩,.int .i64 0],.slice (some (OK w.heap.size 0)) 2 2] (w.alloc (.cells #[.slice a n c,.slice a' n' c'] 23)) (Jm (K+K'+1) w)):=M4 ⟨6,op,0,0,⟨#[]⟩,0⟩ Bh h h' hK;clear h h';go_enter func97,ntmps97;go_wp2_with fail;refine d.out.mono ?_;rintro e g ⟨a,n,c,rfl,f,b⟩;go_wp2;go_ret;exact⟨a,n,c,rfl,f,b⟩
theorem Tk.deep_any (N:Int) (hN:4<=N/\N<=1000) (w:World):Calls prog 55 #[.int .i64 N] w (Tk.TPost 3000 w):=by
 obtain⟨l,f⟩:∃ V,w.alloc (.cells #[.slice none 0 0] 25)=V:=⟨_,rfl⟩;have A:l.heap.size=w.heap.size+1:=by rw[<- f];simp
 have u:Hid (w.alloc (.cells #[.slice none 0 0] 25)=l):=f;have H:wrap64 (N - 4)=N - 4:=IntWalk.wrap64_in _ OC;have C:Tk.Mk:=trivial;go_enter func55,ntmps55;go_wp2_with (first
  | (go_at_call 52;have _t:=C;clear C;refine(D8 _ OD l).mono ?_;rintro e P ⟨D,J,F,rfl,o,m⟩;rw[A]at o m))
 go_loopw [3,4] (fun t3 t4 wr => ∃ (j:Int) (a:Option Addr) (n c:Nat),(0<=j/\j<=N - 4)/\t4 = .int .i64 j/\t3 = .slice a n c/\Hid (As (w.heap.size+1) wr (.slice a n c) (1+2 * j.toNat))/\Hid (Below (w.heap.size+1) l wr)) (fun _ t4 _=>(N - 4 - intOf t4).toNat);case atStart=>exact⟨0,D,J,F,by omega,rfl,rfl,o,m⟩
 case round =>
  obtain⟨j,a,n,c,O,rfl,rfl,B,x⟩:=hrel;clear f;have k:w.heap.size+1<=wr.heap.size:=by have:=x.out.size;omega
  by_cases hlt:j < N - 4
  ·have I:wrap64 (j+1)=j+1:=IntWalk.wrap64_in _ OC;have p:Tk.Mk:=trivial;go_wp2_with (first
    | (go_at_call 52;have _t:=p;clear p;refine(D8 _ OD wr).mono ?_;rintro e L ⟨E,K,G,rfl,h,b⟩;have q:Tk.Mk:=trivial)
    | (go_at_call 97;have _t:=q;clear q;refine(Tk.bin 9 (Tk.Row_below B.out b) h OC).mono ?_;rintro e t ⟨r,s,c3,rfl,i,g⟩))
   have d:Below (w.heap.size+1) l t:=Tk.bl (Tk.bl x.out b k) g (Nat.le_trans k b.size);have z:As (w.heap.size+1) t (.slice r s c3) (1+2 * (j+1).toNat):=i.mono (Nat.le_trans k b.size) OC;go_roundw;case rel=>exact⟨j+1,r,s,c3,by omega,rfl,rfl,z,d⟩
   case measure=>simp only[intOf];omega
  ·have p:Tk.Mk:=trivial;go_wp2_with (first
    | (go_at_call 54;have _t:=p;clear p;refine(D9 ⟨19,0,0,0,⟨#[]⟩,0⟩ OD B.out OC).mono ?_;rintro e L ⟨E,K,G,rfl,h,b⟩;have q:Tk.Mk:=trivial)
    | (go_at_call 53;have _t:=q;clear q;refine(Tk.main_any h OC 1).mono ?_;rintro e t ⟨r,s,c3,rfl,y,i,g⟩;have d:Below (w.heap.size+1) (w.alloc (.cells #[.slice none 0 0] 25)) t:=(by rw[u.out];exact Tk.bl (Tk.bl x.out b k) g (Nat.le_trans k b.size));obtain⟨M,Q⟩:=Tk.tree_cell d))
   exact bodyPost_ret (v:=.agg #[.slice r s c3]) (by simp[results,results55,go_sem,M]) rfl (Tk.tree_end (i.mono (Nat.le_trans k b.size) OC) y d)
theorem Tk.lead (b:UInt8) {t:ByteArray} (h:t.size<=20):((⟨#[b]⟩:ByteArray)++t).size<=100:=by
 rw[ByteArray.size_append];have:(⟨#[b]⟩:ByteArray).size=1:=rfl;omega
theorem Tk.wide_any (N:Int) (hN:0<=N/\N<=1000) (w:World):Calls prog 56 #[.int .i64 N] w (Tk.TPost 3000 w):=by
 obtain⟨f,i⟩:∃ V,w.alloc (.cells #[.slice none 0 0] 25)=V:=⟨_,rfl⟩;have h:f.heap.size=w.heap.size+1:=by rw[<- i];simp
 have o:Hid (w.alloc (.cells #[.slice none 0 0] 25)=f):=i;have G:As (w.heap.size+1) (f.alloc (.cells #[] 62)) (.slice (some (OK (w.heap.size+1) 0)) 0 0) 0:=by have:=Tk.empty_row f;rw[h]at this;exact this
 have m:Below (w.heap.size+1) f (f.alloc (.cells #[] 62)):=by rw[<- h];exact Tk.up1 f _
 go_enter func56,ntmps56;go_wp2_with fail;go_loopw [3,4] (fun t3 t4 wr => ∃ (j:Int) (a:Option Addr) (n c:Nat),(0<=j/\j<=N)/\t4 = .int .i64 j/\t3 = .slice a n c/\Hid (As (w.heap.size+1) wr (.slice a n c) (2 * j.toNat))/\Hid (Below (w.heap.size+1) f wr)) (fun _ t4 _=>(N - intOf t4).toNat);case atStart=>exact⟨0,_,_,_,by omega,rfl,rfl,G,m⟩
 case round =>
  obtain⟨j,a,n,c,T,rfl,rfl,H,p⟩:=hrel;clear i G m;have l:w.heap.size+1<=wr.heap.size:=by have:=p.out.size;omega
  by_cases hlt:j < N
  ·have X:wrap64 (j+1)=j+1:=IntWalk.wrap64_in _ OC;have S:2 * j.toNat+(1+1)<=1000000000:=OC;have K:Tk.Mk:=trivial;go_wp2_with (first
    | (go_at_call 59;have _t:=K;clear K;refine(M1 j T.1 OC wr).mono ?_;rintro e Z ⟨t,rfl,W,g⟩;have U:=Tk.lead 119 W;have L:Tk.Mk:=trivial)
    | (go_at_call 98;have _t:=L;clear L;refine(J5 3 _ Z).mono ?_;rintro e P ⟨D,I,c3,rfl,k,b⟩;have M:Tk.Mk:=trivial)
    | (go_at_call 54;have _t:=M;clear M;refine(D9 ⟨10,0,0,0,(⟨#[119]⟩:ByteArray)++t,0⟩ (L1 U) k OD).mono ?_;rintro e Q ⟨a4,n4,c4,rfl,y,d⟩;have B:=Tk.Row_below (Tk.Row_below (Tk.Row_below H.out g) b) d;have C:w.heap.size+1<=Q.heap.size:=Nat.le_trans (Nat.le_trans (Nat.le_trans l g.size) b.size) d.size;have q:Below (w.heap.size+1) f Q:=Tk.bl (Tk.bl (Tk.bl p.out g l) b (Nat.le_trans l g.size)) d (Nat.le_trans (Nat.le_trans l g.size) b.size);have O:Tk.Mk:=trivial)
    | (at_builtin;have _t:=O;clear O;refine Tk.wp_rows rfl _ _ rfl rfl rfl B y C S ?_;intro E J F R z x s Y;clear x;have r:Below (w.heap.size+1) f R:=(by have:=s f OC (by rw[h];exact q);rw[h]at this;exact this);have A:As (w.heap.size+1) R (.slice E J F) (2 * (j+1).toNat):=z.mono ON OC))
   go_roundw;case rel=>exact⟨j+1,E,J,F,by omega,rfl,rfl,A,r⟩
   case measure=>simp only[intOf];omega
  ·go_wp2_with (first
    | (go_at_call 53;refine(Tk.main_any H.out OC N).mono ?_;rintro e P ⟨D,I,c3,rfl,u,k,b⟩;have d:Below (w.heap.size+1) (w.alloc (.cells #[.slice none 0 0] 25)) P:=(by rw[o.out];exact Tk.bl p.out b l);obtain⟨x0,x1⟩:=Tk.tree_cell d))
   exact bodyPost_ret (v:=.agg #[.slice D I c3]) (by simp[results,results56,go_sem,x0]) rfl (Tk.tree_end (k.mono l OC) u d)
theorem Tk.Row_cut {A K n c:Nat} {w:World} {a:Option Addr} (h:As A w (.slice a n c) K) (m:Nat) (hm:m<=n):As A w (.slice a m c) K:=by
 obtain⟨l,j,f,b⟩:=h;obtain⟨o,c4,i⟩:=B3 b;injection i with e41 e42 e43;subst e41;subst e42;subst e43;have g:(l.take m).length=m:=by rw[List.length_take];omega
 refine⟨l.take m,by omega,fun d hd=>f d (List.mem_of_mem_take hd), ?_⟩;have:=Qb0 b m hm;rw[g];have e:(Ap l).take (m * 6)=Ap (l.take m):=by
  unfold Ap;clear this g hm j f b;induction l generalizing m with
  | nil=>simp
  | cons d r ih =>
   cases m with
   | zero=>simp
   | succ k =>
    have:=ih k;rw[List.take_succ_cons,List.flatMap_cons,List.flatMap_cons,show (k+1) * 6=(By d).length+k * 6 by simp[By];omega,List.take_length_add_append,this]
 rw[<- e];exact this
theorem Tk.Row_cap {A K n c:Nat} {w:World} {a:Option Addr} (h:As A w (.slice a n c) K):n<=c:=by
 obtain⟨l,_,_,f⟩:=h;rcases f.2 with⟨e,i⟩|⟨g,b,d,e,_,_,j,_⟩
 ·injection e with _ e1 e2;omega
 ·injection e with _ e1 e2;omega
theorem Tk.Row_len {A K n c:Nat} {w:World} {a:Option Addr} (h:As A w (.slice a n c) K):n<=K:=by
 obtain⟨l,g,_,d⟩:=h;obtain⟨f,c4,b⟩:=B3 d;injection b with e41 e42 e43;omega
theorem Tk.many_any (N M:Int) (hN:0<=N/\N<=200) (hM:0<=M/\M<=20) (w:World):Calls prog 57 #[.int .i64 N,.int .i64 M] w (Tk.TPost 6000 w):=by
  obtain⟨b,D⟩:∃ V,w.alloc (.cells #[.slice none 0 0] 25)=V:=⟨_,rfl⟩;have d:b.heap.size=w.heap.size+1:=by rw[<- D];simp
  have U:Hid (w.alloc (.cells #[.slice none 0 0] 25)=b):=D;have hE:As (w.heap.size+1) (b.alloc (.cells #[] 62)) (.slice (some (OK (w.heap.size+1) 0)) 0 0) 0:=by have:=Tk.empty_row b;rw[d]at this;exact this
  have Q:Below (w.heap.size+1) b (b.alloc (.cells #[] 62)):=by rw[<- d];exact Tk.up1 b _
  have ak:wrap64 (M+1)=M+1:=IntWalk.wrap64_in _ OC;have al:wrap64 (N+1)=N+1:=IntWalk.wrap64_in _ OC;go_enter func57,ntmps57;go_wp2_with fail;go_loopw [5,6] (fun t3 t4 wr => ∃ (j:Int) (a:Option Addr) (n c:Nat),(0<=j/\j<=N)/\t4 = .int .i64 j/\t3 = .slice a n c/\Hid (As (w.heap.size+1) wr (.slice a n c) (25 * j.toNat))/\Hid (Below (w.heap.size+1) b wr)) (fun _ t4 _=>(N - intOf t4).toNat);case atStart=>exact⟨0,_,_,_,by omega,rfl,rfl,hE,Q⟩
  case round =>
    obtain⟨j,a,n,c,hj,rfl,rfl,P,y⟩:=hrel;clear D hE Q;by_cases hlt:j < N
    · have am:wrap64 (j+1)=j+1:=IntWalk.wrap64_in _ OC;go_wp2_with fail;go_loopw [5,7] (fun t5 t7 wr => ∃ (q:Int) (a:Option Addr) (n c:Nat),(0<=q/\q<=M)/\t7 = .int .i64 q/\t5 = .slice a n c/\Hid (As (w.heap.size+1) wr (.slice a n c) (25 * j.toNat+q.toNat))/\Hid (Below (w.heap.size+1) b wr)) (fun _ t7 _=>(M - intOf t7).toNat);case atStart=>exact⟨0,a,n,c,by omega,rfl,rfl,by simpa using P,y⟩
      case round =>
        clear P y;obtain⟨q,a,n,c,hq,rfl,rfl,P,y⟩:=hrel;have x:w.heap.size+1<=wr.heap.size:=(by have:=y.out.size;omega);by_cases hlq:q < M
        · have an:wrap64 (q+1)=q+1:=IntWalk.wrap64_in _ OC;have W:25 * j.toNat+q.toNat+1<=1000000000:=OC;have A:Tk.Mk:=trivial;go_wp2_with (first
            | (go_at_call 59;have _t:=A;clear A;refine(M1 q hq.1 OC wr).mono ?_;rintro e h ⟨t,rfl,ht,f⟩;have hl:=Tk.lead 112 ht;have r:w.heap.size+1<=h.heap.size:=Nat.le_trans x f.size;have p:=Tk.Row_below (Tk.Row_below P.out f) (Tk.up1 h (.cells #[.int .i64 22,.int .i64 0,.int .i64 1,.int .i64 0,.string ((⟨#[112]⟩:ByteArray)++t),.int .i64 0] 62));have F:Below (w.heap.size+1) b (h.alloc (.cells #[.int .i64 22,.int .i64 0,.int .i64 1,.int .i64 0,.string ((⟨#[112]⟩:ByteArray)++t),.int .i64 0] 62)):=Tk.bl (Tk.bl y.out f x) (Tk.up1 h _) r;have S:Tk.Mk:=trivial)
            | (at_builtin;have _t:=S;clear S;refine Tk.wp_rows rfl _ _ rfl rfl rfl p (Fj h ⟨22,0,1,0,(⟨#[112]⟩:ByteArray)++t,0⟩ (L1 hl)) (Nat.le_trans r (Tk.up1 h _).size) W ?_;intro B L C i o l k J;clear l;have g:Below (w.heap.size+1) b i:=(by have:=k b OC (by rw[d];exact F);rw[d]at this;exact this);have u:As (w.heap.size+1) i (.slice B L C) (25 * j.toNat+(q+1).toNat):=o.mono ON OC))
          go_roundw;case rel=>exact⟨q+1,B,L,C,by omega,rfl,rfl,u,g⟩
          case measure=>simp only[intOf];omega
        · have W:25 * j.toNat+q.toNat+2<=1000000000:=OC;have A:Tk.Mk:=trivial;go_wp2_with (first
            | (go_at_call 59;have _t:=A;clear A;refine(M1 j hj.1 OC wr).mono ?_;rintro e h ⟨t,rfl,ht,f⟩;have hl:=Tk.lead 103 ht;have r:w.heap.size+1<=h.heap.size:=Nat.le_trans x f.size;have p:=Tk.Row_below (Tk.Row_below P.out f) (Tk.up1 h (.cells #[.int .i64 21,.int .i64 0,.int .i64 0,.int .i64 0,.string ⟨#[]⟩,.int .i64 0,.int .i64 23,.int .i64 0,.int .i64 0,.int .i64 0,.string ((⟨#[103]⟩:ByteArray)++t),.int .i64 (M+1)] 62));have F:Below (w.heap.size+1) b (h.alloc (.cells #[.int .i64 21,.int .i64 0,.int .i64 0,.int .i64 0,.string ⟨#[]⟩,.int .i64 0,.int .i64 23,.int .i64 0,.int .i64 0,.int .i64 0,.string ((⟨#[103]⟩:ByteArray)++t),.int .i64 (M+1)] 62)):=Tk.bl (Tk.bl y.out f x) (Tk.up1 h _) r;have S:Tk.Mk:=trivial)
            | (at_builtin;have _t:=S;clear S;refine Tk.wp_rows rfl _ _ rfl rfl rfl p (Tk.new_two h ⟨21,0,0,0,⟨#[]⟩,0⟩ ⟨23,0,0,0,(⟨#[103]⟩:ByteArray)++t,M+1⟩ Bh (L1 hl)) (Nat.le_trans r (Tk.up1 h _).size) W ?_;intro B L C i o l k J;clear l;have g:Below (w.heap.size+1) b i:=(by have:=k b OC (by rw[d];exact F);rw[d]at this;exact this);have u:As (w.heap.size+1) i (.slice B L C) (25 * (j+1).toNat):=o.mono ON OC))
          first
            | exact⟨⟨j+1,B,L,C,by omega,rfl,rfl,u,g⟩,by simp only[intOf];omega⟩
            | (go_roundw
               case rel=>exact⟨j+1,B,L,C,by omega,rfl,rfl,u,g⟩
               case measure=>simp only[intOf];omega)
    · have x:w.heap.size+1<=wr.heap.size:=(by have:=y.out.size;omega);have A:Tk.Mk:=trivial;go_wp2_with (first
        | (go_at_call 53;have _t:=A;clear A;refine(Tk.main_any (Tk.empty_row wr) OD 0).mono ?_;rintro e s ⟨O,z,c3,rfl,ac,I,E⟩;have Z:(s.alloc (.cells #[.slice O z c3] 25)).cell? (OK s.heap.size 0)=some (.slice O z c3):=(by rw[Lib.cell_of_heap (World.alloc_heap_new s _)];rfl);have ah:=Tk.Row_cap I;obtain⟨T,H⟩:∃ m,Hid (z=m+1):=⟨z - 1,(Nat.sub_add_cancel ac).symm⟩;have aj:wrap64 ((z:Int) - 1)=(T:Int):=(by have:=H.out;have:=Tk.Row_len I;rw[IntWalk.wrap64_in _ OC];omega);have ai:T<=c3:=(by have:=H.out;omega);have af:As (w.heap.size+1) (s.alloc (.cells #[.slice O z c3] 25)) (.slice O T c3) 5:=Tk.Row_below (Tk.Row_cut (I.mono (Nat.le_trans x (Tk.up1 wr _).size) OD) T (by have:=H.out;omega)) (Tk.up1 s _);have K:w.heap.size+1<=s.heap.size:=Nat.le_trans (Nat.le_trans x (Tk.up1 wr _).size) E.size;have ag:=Tk.Row_below (Tk.Row_below (Tk.Row_below P.out (Tk.up1 wr (.cells #[] 62))) E) (Tk.up1 s (.cells #[.slice O z c3] 25));have X:Below (w.heap.size+1) b (s.alloc (.cells #[.slice O z c3] 25)):=Tk.bl (Tk.bl (Tk.bl y.out (Tk.up1 wr _) x) E (Nat.le_trans x (Tk.up1 wr _).size)) (Tk.up1 s _) K;have s1:Tk.Mk:=trivial)
        | (at_builtin;have _t:=s1;clear s1;refine Tk.wp_rows rfl _ _ rfl rfl rfl ag af (Nat.le_trans K (Tk.up1 s _).size) OC ?_;intro B L C i o l k J;clear l;have g:Below (w.heap.size+1) b i:=(by have:=k b OC (by rw[d];exact X);rw[d]at this;exact this);have R:w.heap.size+1<=i.heap.size:=Nat.le_trans (Nat.le_trans K (Tk.up1 s _).size) J;have p:=Tk.Row_below o (Tk.up1 i (.cells #[.int .i64 24,.int .i64 0,.int .i64 0,.int .i64 0,.string ⟨#[]⟩,.int .i64 (N+1)] 62));have Y:Below (w.heap.size+1) b (i.alloc (.cells #[.int .i64 24,.int .i64 0,.int .i64 0,.int .i64 0,.string ⟨#[]⟩,.int .i64 (N+1)] 62)):=Tk.bl g (Tk.up1 i _) R;have s2:Tk.Mk:=trivial)
        | (at_builtin;have _t:=s2;clear s2;refine Tk.wp_rows rfl _ _ rfl rfl rfl p (Fj i ⟨24,0,0,0,⟨#[]⟩,N+1⟩ Bh) (Nat.le_trans R (Tk.up1 i _).size) OC ?_;intro a8 n8 c8 w8 ae ad aa ao;have G:Below (w.heap.size+1) b w8:=(by have:=aa b OC (by rw[d];exact Y);rw[d]at this;exact this);have ab:1<=n8:=OC;rw[<- U.out]at G;obtain⟨x0,x1⟩:=Tk.tree_cell G;clear ad))
      exact bodyPost_ret (v:=.agg #[.slice a8 n8 c8]) (by simp[results,results57,go_sem,x0]) rfl (Tk.tree_end (ae.mono ON OC) ab G)
theorem Ln {B g R P:Nat} {w:World} {nv:Value} {nl:List (ByteArray × Int)} {fv:Value} {F:List Ca} {ret loops count size:Int} (h:Aw B g R P w nv nl fv F ret loops count size) (n:Int) (h1:1<=n) (h2:n<=1000000000) (hP:P<=1000000000) :
  Calls prog 26 #[.pointer (some (OK R 0)),.int .i64 n] w fun e w' => ∃ v:Int,e = .returned (.int .i64 v)/\(0<=v/\v < n)/\Aw B g R (P+1) w' nv nl fv F ret loops count size/\Ak B w w':=by
 refine(Ow h n h1 h2 hP).mono ?_;rintro e w' ⟨v,a,d,c,b⟩;exact⟨v,a,by omega,c,b⟩
theorem Qqj {v:Int} (h:0<=v/\v < 8):Hs (3+v):=by unfold Hs;omega
theorem Qql {v:Int} (h:0<=v/\v < 8):wrap64 (3+v)=3+v:=IntWalk.wrap64_in _ OC
theorem Qqm {v:Int} (h:0<=v/\v < 4):wrap64 (1+v)=1+v:=IntWalk.wrap64_in _ OC
theorem Qqk {v:Int} (h:0<=v/\v < 4):IntKind.i64.wrap (1+v)=1+v:=(IntWalk.i64_left _).trans (IntWalk.wrap64_in _ OC)
theorem Qqo {k:Int} (h:0<=k/\k<=6):wrap64 (k+1)=k+1:=IntWalk.wrap64_in _ OC
theorem Cb {w V:World} {o:Obj} (h:w.alloc o=V):Below w.heap.size w V:=by rw[<- h];exact OP w _
theorem Qk1 {nl l:List (ByteArray × Int)} {x:ByteArray × Int} {q:Nat} (h:nl++[x]=l) (hq:nl.length+1=q):l.length=q:=by rw[<- h];simpa using hq
theorem Aw.up {B g R P:Nat} {w:World} {nv:Value} {nl:List (ByteArray × Int)} {fv:Value} {F:List Ca} {ret loops count size:Int} (h:Aw B g R P w nv nl fv F ret loops count size):Aw B g R (P+1) (w.setCell (OK g 4) (.int .i64 (loops+1))) nv nl fv F ret (loops+1) count size/\Ak B w (w.setCell (OK g 4) (.int .i64 (loops+1))):=by
 have a:=h.bd;exact h.putW OC 4 _ rfl ⟨a.1,by omega,by omega,by omega⟩
theorem Aw.dn {B g R P:Nat} {w:World} {nv:Value} {nl:List (ByteArray × Int)} {fv:Value} {F:List Ca} {ret loops count size:Int} (h:Aw B g R P w nv nl fv F ret (loops+1) count size) (h0:0<=loops):Aw B g R P (w.setCell (OK g 4) (.int .i64 loops)) nv nl fv F ret loops count size/\Ak B w (w.setCell (OK g 4) (.int .i64 loops)):=by
 have a:=h.bd;exact h.putW OC 4 _ rfl ⟨a.1,by omega,by omega,by omega⟩
theorem Qiu (B g R m:Nat) (HSM:Hid (Ij B g R m)) (n:Nat) (hm:((n:Int) - 1).toNat=m) (hn:n<=100) {P:Nat} {w:World} {nv:Value} {nl:List (ByteArray × Int)} {fv:Value} {F:List Ca} {ret loops count size:Int} (h:Aw B g R P w nv nl fv F ret loops count size) (hP:P+4 * Cj m<=700000000) :
    Calls prog 162 #[.pointer (some (OK g 0)),.int .i64 (n:Int)] w (Pe B g R (P+4 * Cj m) (4 * Cj m) w nl fv F ret loops):=by
  have df:Hid (Th B g R 2):=Ot B g R 2;have HS:Hid (Aw B g R P w nv nl fv F ret loops count size):=h;have ej:=Kk m;have HM:Hid (((n:Int) - 1).toNat=m):=hm;have el:wrap64 ((n:Int) - 1)=(n:Int) - 1:=IntWalk.wrap64_in _ OC;have cc:g < w.heap.size:=(Array.getElem?_eq_some_iff.1 h.box).1;have dt:=h.bd.2.1;have eo:wrap64 (loops+1)=loops+1:=IntWalk.wrap64_in _ OC;have d4:wrap64 (loops+1 - 1)=loops:=by rw[show loops+1 - 1=loops by omega];exact IntWalk.wrap64_in _ OC
  have b1:P<=800000000:=OC
  have b2:P+1<=1000000000:=OC
  have b3:P+2<=900000000:=OC
  obtain⟨q,HQ⟩:∃ q,Hid (nl.length+1=q):=⟨_,(rfl:nl.length+1=_)⟩;have ek:q<=P+1:=by have h1:=h.nbd.1;have h2:=HQ.out;omega
  have b4:P+1+1+1+1+3 * Cj m+10<=700000000:=OC
  have b5:(3+1)+(3 * Cj m+10)<=1000000000:=OC
  have b6:(3+1)+(3 * Cj m+10)+1<=1000000000:=OC
  have e2:Bm 2=2500:=rfl;have b7:P+1+1+1+1+3 * Cj m+10<=1000000000:=OC
  have b8:P+1+1+1+1+3 * Cj m+10+1<=1000000000:=OC
  have b9:P+1+1+1+1+3 * Cj m+10+1+1+Bm 2<=700000000:=OC
  have bt:Bm 2+((3+1)+(3 * Cj m+10)+1)<=1000000000:=OC
  have dj:2 * 1+1<=Bm 2:=OC
  have dk:P+1+1+1+1+3 * Cj m+10+1+1<=P+1+1+1+1+3 * Cj m+10+1+1+Bm 2:=OC
  have dl:(1+1)+(Bm 2+((3+1)+(3 * Cj m+10)+1)+1)<=1000000000:=OC
  clear e2;have du:(-1:Int)<=(n:Int) - 1:=OC
  clear h hm;go_enter func162,ntmps162;go_wp2_with (first
    | (go_at_call 159;refine(Ou HS.out b1).mono ?_;rintro e w1 ⟨x,rfl,hx,bo,bg⟩;have g0:=bo.cells.1;clear HS)
    | (go_at_call 26;refine(Ln bo 8 OD OD b2).mono ?_;rintro e w2 ⟨v,rfl,hv,cv,bh⟩;have ep:=Qql hv;clear g0 bo)
    | (go_at_call 98;refine(J5 _ _ w2).mono ?_;rintro e w3 ⟨a3,n3,c3,rfl,cg,ae⟩;clear b2)
    | (go_at_call 54;refine(D9 ⟨10,0,0,0,x,0⟩ (L1 (Nat.le_trans hx OD)) cg OD).mono ?_;rintro e w4 ⟨a4,n4,c4,rfl,ch,af⟩;have bp:=(cv.below ae).below af;have bs:Hid (Ak B w w4):=((bg.trans bh).trans (Ak.of_below ae)).trans (Ak.of_below af);have aj:w.heap.size<=w3.heap.size:=((bg.trans bh).trans (Ak.of_below (B:=B) ae)).size;have bq:=af.size;have g1:=bp.cells.2.1;obtain⟨V,hV⟩:∃ V,w4.alloc (.cells #[.string x,.int .i64 (3+v)] 162)=V:=⟨_,rfl⟩;clear cv bg bh ae af cg)
    | (at_builtin;(refine Rw rfl _ _ rfl bp x (3+v) hx (Qqj hv) b3 hV rfl rfl ?_;intro na c5 w5 bf ai bi;obtain⟨bf,ds⟩:=bf;rw[HQ.out]at ai bi |-;obtain⟨ex,L⟩:∃ l,nl++[(x,3+v)]=l:=⟨_,rfl⟩;have ce:=Qk1 L HQ.out;rw[L]at ai;clear bp g1 b3 hV V L))
    | (go_at_call 96;refine(Qi _ _ (Nat.le_trans hx OD) _).mono ?_;rintro e w6 ⟨a6,n6,c6,rfl,ci,bc⟩;have cx:=ai.below bc;have bz:=bi.trans (Ak.of_below bc);clear ai bi bf ds bc)
    | (go_at_call 98;refine(J5 _ _ w6).mono ?_;rintro e w7 ⟨a7,n7,c7,rfl,cj,ag⟩;have cy:=cx.below ag;have b0:=bz.trans (Ak.of_below ag);have a1:=ci.fw (Ak.of_below (B:=B) ag);clear cx bz ag ci)
    | (go_at_call 97;refine(Yu _ a1 cj OD).mono ?_;rintro e w8 ⟨a8,n8,c8,rfl,ck,bd⟩;have cz:=cy.below bd;have bj:=b0.trans (Ak.of_below bd);have dv:=bj.size;clear cy b0 bd a1 cj)
    | (go_at_call 54;refine(D9 ⟨11,0,0,0,x,0⟩ (L1 (Nat.le_trans hx OD)) ck OD).mono ?_;rintro e w9 ⟨a9,n9,c9,rfl,cl,be⟩;have A:=cz.below be;have ca:=(Ak.of_below (B:=B) be);have k1:=A.cells.2.1;have k4:=A.cells.2.2.2.2.1;have f4:=A.froz 4;clear cz be ck)
    | (go_at_call 100;refine(HSM.out ((n:Int) - 1) du HM.out _ _ _ _ _ _ _ _ _ _ A.up.1 b4).mono ?_;rintro e d0 ⟨d6,er,ec,k,d5,ab,bu,dd,rfl,hk,ar,j,J,al⟩
       obtain⟨db,dc,rfl,bw,ei⟩:=Qfj j.names
       obtain⟨V1,dq⟩:∃ V,d0.setCell (OK g 4) (.int .i64 loops)=V:=⟨_,rfl⟩
       obtain⟨o,t⟩:=j.dn dt.1
       rw[dq]at o t
       have j4:=j.cells.2.2.2.2.1
       have e4:=j.froz 4
       obtain⟨N,u⟩:=o.cutName q (Nat.le_trans (Nat.le_of_eq ce.symm) J)
       have j1:=o.cells.2.1
       have e1:=o.froz 1
       obtain⟨V2,dr⟩:∃ V,V1.setCell (OK g 1) (.slice db q dc)=V:=⟨_,rfl⟩
       rw[dr]at N u
       have bk:=(A.up.2.trans al).trans (t.trans u)
       have cu:=cl.fw bk
       have cm:=ar.fw (t.trans u)
       have bl:=ca.trans bk
       have dw:=bl.size
       have cd:q<=ab.length:=Nat.le_trans (Nat.le_of_eq ce.symm) J
       obtain⟨ey,ak⟩:∃ q,Hid (ab.length=q):=⟨_,(rfl:ab.length=_)⟩
       rw[ak.out]at j1 bw cd
       have en:=Qqo hk
       clear A j o al t u cl ar ca bk k1 k4 f4
       have da:g < w8.heap.size:=Nat.lt_of_lt_of_le cc (Nat.le_trans (Nat.le_trans aj bq) dv))
    | (at_builtin;refine C8 rfl _ _ rfl rfl rfl cu cm dw b5 ?_;intro d7 es ed ac au G Y;have a2:=Y _ _ _ _ _ _ _ _ _ _ _ _ da N;have am:=G B w8 ON bl;obtain⟨V3,bv⟩:∃ V,ac.alloc (.cells #[.int .i64 21,.int .i64 0,.int .i64 0,.int .i64 0,.string ⟨#[]⟩,.int .i64 (k+1)] 62)=V:=⟨_,rfl⟩;have p:Below ac.heap.size ac V3:=Cb bv;have av:=au.fw (Ak.of_below (B:=B) p);have K:=Fj ac ⟨21,0,0,0,⟨#[]⟩,k+1⟩ Bh;rw[show ac.alloc (.cells #[.int .i64 (Ae.mk 21 0 0 0 ⟨#[]⟩ (k+1)).kind,.int .i64 (Ae.mk 21 0 0 0 ⟨#[]⟩ (k+1)).op,.int .i64 (Ae.mk 21 0 0 0 ⟨#[]⟩ (k+1)).type,.int .i64 (Ae.mk 21 0 0 0 ⟨#[]⟩ (k+1)).n,.string (Ae.mk 21 0 0 0 ⟨#[]⟩ (k+1)).text,.int .i64 (Ae.mk 21 0 0 0 ⟨#[]⟩ (k+1)).kids] 62)=V3 from bv]at K;have a5:=a2.below p;have C:=am.trans (Ak.of_below p);have c2:=C.size;clear cu cm N bl Y G a2 am au p j4 e4 j1 e1)
    | (at_builtin;refine C8 rfl _ _ rfl rfl rfl av K c2 b6 ?_;intro d8 et ee ad aw H Z;have O:=Z _ _ _ _ _ _ _ _ _ _ _ _ da a5;have an:=H B w8 ON C;clear av K a5 C Z H;clear J bw))
  have E:Ak B ad ad.drew:=Ak.of_below ((OO ad).drew);have c0:=O.below ((OO ad).drew);have cb:=an.trans E;refine wp_region_held_drew (S:=(fun W=>W.cell? (OK g 0)=some (.pointer (some (OK R 0))))) OE (O.cells.1) fun _=>?_
  refine Tk 0 (.string x) ?_;refine Tk 2 (.int .i64 (3+v)) ?_;refine Tk 3 (.pointer (some (OK g 0))) ?_;(try simp[Act.put]);refine Tk 4 (.pointer (some (OK g 0))) ?_;refine Tk 5 (.pointer (some (OK g 0))) ?_;refine Tk 6 (.pointer (some (OK R 0))) ?_;(try simp[Act.put]);refine Tr 1 rfl fun KK hK=>?_
  go_simp;refine(Qi _ _ (Nat.le_trans hx OD) ad.drew).mono ?_;rintro e e0 ⟨d9,eu,ef,rfl,ax,r⟩;have ao:=cb.trans (Ak.of_below (B:=B) r);have Q:=c0.below r;have cn:=(aw.fw E).fw (Ak.of_below (B:=B) r);clear c0 cb r;go_wp2;refine hK.out _ _ (Q.cells.1) fun _=>?_
  clear hK;(try simp[Act.put]);refine Tr 7 rfl fun KK hK=>?_
  go_simp;refine(Ln Q 4 OD OD b7).mono ?_;rintro e d1 ⟨v4,rfl,c1,T,d⟩;have eq:=Qqm c1;have em:=Qqk c1;have co:=cn.fw d;have cp:=ax.fw d;have d:=ao.trans d;clear cn ax;go_wp2;refine hK.out _ _ (T.cells.1) fun _=>?_
  clear hK;(try simp[Act.put]);refine Tk 8 (.int .i64 (1+v4)) ?_;(try simp[Act.put]);refine Tr 9 rfl fun KK hK=>?_
  go_simp;refine(J5 _ _ d1).mono ?_;rintro e e3 ⟨ea,ev,eg,rfl,ay,f⟩;have U:=T.below f;have ap:=d.trans (Ak.of_below f);have cq:=co.fw (Ak.of_below (B:=B) f);have cr:=cp.fw (Ak.of_below (B:=B) f);clear co cp f;go_wp2;refine hK.out _ _ (U.cells.1) fun _=>?_
  clear hK;(try simp[Act.put]);refine Tr 10 rfl fun KK hK=>?_
  go_simp;refine(Yu _ cr ay OD).mono ?_;rintro e e5 ⟨dg,dx,dm,rfl,az,s⟩;have y:=U.below s;have aq:=ap.trans (Ak.of_below s);have cs:=cq.fw (Ak.of_below (B:=B) s);have g0:=y.cells.1;clear cq cr ay s;go_wp2;refine hK.out _ _ (y.cells.1) fun _=>?_
  clear hK;(try simp[Act.put]);refine Tk 11 (.slice dg dx dm) ?_;(try simp[Act.put]);refine wpAnyH_done OE ?_ _;clear O an aw E Q ao T d U ap;go_wp2_with (first
    | (go_at_call 26;refine(Ln y 10 OD OD b8).mono ?_;rintro e d2 ⟨ez,rfl,d3,z,a⟩
       have ah:=cs.fw a
       have bm:=az.fw a
       have a:=aq.trans a
       clear y aq cs az g0)
    | (go_at_call 101;refine(df.out _ d2 _ _ _ _ _ _ _ _ 1 z b9).mono ?_;rintro e e6 ⟨eb,ew,eh,de,rfl,a0,ba,i⟩
       have ct:=ah.fw i
       have i:=a.trans i
       clear z a ah bm)
    | (go_at_call 54;refine(M4 ⟨13,0,0,0,⟨#[]⟩,0⟩ Bh a0 ct bt).mono ?_;rintro e br ⟨dh,dy,dn,rfl,M,c⟩
       have X:=ba.below c
       have b:=(bj.trans i).trans (Ak.of_below c)
       have bn:=ch.fw b
       have bb:w3.heap.size<=br.heap.size:=Nat.le_trans bq b.size
       have D:=bs.out.trans b
       clear ba i a0 ct c)
    | (go_at_call 54;refine(M4 ⟨13,0,0,0,⟨#[]⟩,0⟩ Bh (bm.mono ON dj) ah bt).mono ?_;rintro e br ⟨dh,dy,dn,rfl,M,c⟩
       have X:=(z.below c).mono dk
       have b:=(bj.trans a).trans (Ak.of_below c)
       have bn:=ch.fw b
       have bb:w3.heap.size<=br.heap.size:=Nat.le_trans bq b.size
       have D:=bs.out.trans b
       clear z a ah bm c)
    | (at_builtin;refine C8 rfl _ _ rfl rfl rfl bn M bb dl ?_;intro di dz dp e7 cf I aa;have cw:=aa _ _ _ _ _ _ _ _ _ _ _ _ (Nat.lt_of_lt_of_le cc aj) X;have bx:=I B w aj D;clear bn M X b D aa I))
  all_goals
    go_ret;refine⟨di,dz,dp,_,_,_,_,rfl,cf.mono aj (by have e2:Bm 2=2500:=rfl;omega),cw.mono (by have e2:Bm 2=2500:=rfl;omega), ?_,bx⟩;rw[List.length_take,ak.out,Nat.min_eq_left cd,<- HQ.out];omega
def B0 : Prop:=True
theorem Qgf (q:Nat) (loops:Int) {k:Int} (h:0<=k/\k < 18):(k=0/\True/\B0)\/(k=1/\True/\B0)\/(k=2/\True/\B0)\/(k=3/\(0:Int) < (q:Int)/\B0)\/(k=3/\¬ (0:Int) < (q:Int)/\B0)\/(k=4/\(0:Int) < (q:Int)/\B0)\/(k=4/\¬ (0:Int) < (q:Int)/\B0)\/(k=5/\True/\B0)\/(k=6/\True/\B0)\/(k=7/\True/\B0)\/(k=8/\True/\B0)\/(k=9/\0 < loops/\B0)\/(k=9/\¬ 0 < loops/\B0)\/(k=10/\True/\B0)\/(k=11/\(0:Int) < (q:Int)/\B0)\/(k=11/\¬ (0:Int) < (q:Int)/\B0)\/(k=12/\(0:Int) < (q:Int)/\B0)\/(k=12/\¬ (0:Int) < (q:Int)/\B0)\/(k=13/\True/\B0)\/(k=14/\True/\B0)\/(k=15/\True/\B0)\/(k=16/\True/\B0)\/(k=17/\0 < loops/\B0)\/(k=17/\¬ 0 < loops/\B0):=by
 simp only[B0,and_true];omega
theorem Qge (q:Nat) (loops:Int) {k:Int} (h:0<=k/\k < 18):(k=0/\True/\B0)\/(k=1/\True/\B0)\/(k=2/\True/\B0)\/(k=3/\(0:Int) < (q:Int)/\B0)\/(k=3/\¬ (0:Int) < (q:Int)/\B0)\/(k=4/\(0:Int) < (q:Int)/\B0)\/(k=4/\¬ (0:Int) < (q:Int)/\B0)\/(k=5/\True/\B0)\/(k=6/\True/\B0)\/(k=7/\True/\B0)\/(k=8/\True/\B0)\/(k=9/\0 < loops/\B0)\/(k=9/\¬ 0 < loops/\B0)\/(k=10/\True/\B0)\/(k=11/\True/\B0)\/(k=12/\True/\B0)\/(k=13/\True/\B0)\/(k=14/\True/\B0)\/(k=15/\loops < 2/\B0)\/(k=15/\¬ loops < 2/\B0)\/(k=16/\loops < 2/\B0)\/(k=16/\¬ loops < 2/\B0)\/(k=17/\loops < 2/\B0)\/(k=17/\¬ loops < 2/\B0):=by
 simp only[B0,and_true];omega
theorem Xc {t:Int} (h:1<=t/\t<=10):Hs t:=by unfold Hs;omega
theorem Qk5 {v n:Int} (h:0<=v/\v < n) (hn:n<=3):wrap64 (14+v)=14+v:=IntWalk.wrap64_in _ OC
theorem Qgh {v:Nat} (h:(v:Int) < 5):v < 5:=OC
theorem Yy (nl:List (ByteArray × Int)) (x:ByteArray × Int):nl.length<=(nl++[x]).length:=by simp
theorem Wb {P Q:Nat} (b:Bool):P+1+cond b (3 * Q) 0<=P+1+3 * Q:=by cases b <;> simp
theorem Y7 {B:Nat} {w w1:World} {cs:Array Value} {T M:Nat} (hf:Bg B (w.alloc (.cells cs T)) w1) (hT:T≠81/\T≠131) (hM:cs.toList.all (Jr M)=true) (v:Nat) (hv:v < cs.size):∃ t:ByteArray,w1.cell? (OK w.heap.size v)=some (.string t)/\t.size<=M:=by
 have a:=hf.blk (World.alloc_heap_new w _) hT;obtain⟨t,c,b⟩:=Mn (List.all_eq_true.1 hM cs[v] OF);exact⟨t,by simp[World.cell?,a,hv,c],b⟩
theorem Aw.loc {B g R P bx:Nat} {W:World} {nv:Value} {nl:List (ByteArray × Int)} {fv:Value} {F:List Ca} {ret loops count size:Int} (h:Aw B g R P W nv nl fv F ret loops count size) {v0 v1:Value} (hx:W.heap[bx]? = some (.cells #[v0,v1] 162)) (hn:∀ k,nv.ownBlock=some k->k≠bx) (hg:g < bx) (s:ByteArray) (t:Int) :
  Aw B g R P ((W.setCell (OK bx 0) (.string s)).setCell (OK bx 1) (.int .i64 t)) nv nl fv F ret loops count size/\Ak B W ((W.setCell (OK bx 0) (.string s)).setCell (OK bx 1) (.int .i64 t))/\((W.setCell (OK bx 0) (.string s)).setCell (OK bx 1) (.int .i64 t)).heap[bx]? = some (.cells #[.string s,.int .i64 t] 162):=by
 have d:=h.lo;have a:∀ k,k≠bx->((W.setCell (OK bx 0) (.string s)).setCell (OK bx 1) (.int .i64 t)).heap[k]? = W.heap[k]?:=fun k hk=>(Bd hk).trans (Bd hk)
 have c:Ak B W ((W.setCell (OK bx 0) (.string s)).setCell (OK bx 1) (.int .i64 t)):=⟨rfl,rfl,rfl,by simp[World.setCell],fun j hj b=>a j (fun e=>by
  subst e
  rcases b with b|b
  ·omega
  ·exact(b _ _ _ hx).2.2 rfl)⟩
 obtain⟨p,b,f⟩:=h.rd;refine⟨⟨h.lo,⟨p,b,H6 f (fun j hj=>a j OC)⟩,(a g OC).trans h.box,B1 h.names (fun k hk _ _=>a k (hn k hk)),h.nbd,h.fns.fw c,h.bd⟩,c, ?_⟩;rw[Ha (Ha hx)];rfl
theorem Qig {W:World} {b T:Nat} {x y:Int} (h:W.heap[b]? = some (.cells #[.int .i64 x,.int .i64 y] T)) {v:Nat} (hv:(v:Int) < 2):∃ t:Int,W.cell? (OK b v)=some (.int .i64 t):=by
 have a:v=0\/v=1:=OC
 rcases a with rfl|rfl
 ·exact⟨x,by rw[Lib.cell_of_heap h];rfl⟩
 ·exact⟨y,by rw[Lib.cell_of_heap h];rfl⟩
theorem W8 {B g R P b q nc:Nat} {W:World} {nl:List (ByteArray × Int)} {fv:Value} {F:List Ca} {ret loops count size:Int} (h:Aw B g R P W (.slice (some (OK b 0)) q nc) nl fv F ret loops count size) (hq:nl.length=q):(W.cell? (OK g 0)=some (.pointer (some (OK R 0)))/\W.cell? (OK g 1)=some (.slice (some (OK b 0)) q nc))/\∀ i (hi:i < nl.length),W.cell? (OK b (i * 2))=some (.string nl[i].1)/\W.cell? (OK b (i * 2+1))=some (.int .i64 nl[i].2):=by
 refine⟨⟨h.cells.1,h.cells.2.1⟩,fun i hi => ?_⟩;obtain⟨d,e,a,c⟩:=Rt h.names hq i OC;injection e with e;injection e with e;subst e
 exact⟨a,c⟩
theorem Qiv {g R b q nc:Nat} {W:World} {o:Obj} {nl:List (ByteArray × Int)} (h:(W.cell? (OK g 0)=some (.pointer (some (OK R 0)))/\W.cell? (OK g 1)=some (.slice (some (OK b 0)) q nc))/\∀ i (hi:i < nl.length),W.cell? (OK b (i * 2))=some (.string nl[i].1)/\W.cell? (OK b (i * 2+1))=some (.int .i64 nl[i].2)):((W.alloc o).cell? (OK g 0)=some (.pointer (some (OK R 0)))/\(W.alloc o).cell? (OK g 1)=some (.slice (some (OK b 0)) q nc))/\∀ i (hi:i < nl.length),(W.alloc o).cell? (OK b (i * 2))=some (.string nl[i].1)/\(W.alloc o).cell? (OK b (i * 2+1))=some (.int .i64 nl[i].2) :=
 ⟨⟨Ge h.1.1,Ge h.1.2⟩,fun i hi=>⟨Ge (h.2 i hi).1,Ge (h.2 i hi).2⟩⟩
theorem Qbw {B g R P:Nat} {w:World} {nv:Value} {nl:List (ByteArray × Int)} {fv:Value} {F:List Ca} {ret loops count size:Int} (HE:Hid (F6 B g R 1)) (h:Aw B g R P w nv nl fv F ret loops count size) (hP:P+3 * Bm 1+1<=700000000) (t:Int) :
  Calls prog 160 #[.pointer (some (OK g 0)),.int .i64 t,.int .i64 2] w (Z6 B g R P (Bm 1) (3 * Bm 1+1) w nv nl fv F ret loops count):=Tm HE h hP t
theorem Yw {B g R m:Nat} {d:Int} (HC:Us B g R m) (hd:d=(m:Int)) {P:Nat} {w:World} {nv:Value} {nl:List (ByteArray × Int)} {fv:Value} {F:List Ca} {ret loops count size:Int} (h:Aw B g R P w nv nl fv F ret loops count size) (hP:P+Tn m<=700000000) :
  Calls prog 161 #[.pointer (some (OK g 0)),.int .i64 d] w (Pe B g R (P+Tn m) (Tn m) w nl fv F ret loops):=by subst hd;exact HC P w nv nl fv F ret loops count size h hP
theorem Yz {B g R m n:Nat} {d:Int} (HL:Hid (Ij B g R n)) (hd:d=(m:Int)) (hm:((m:Int) - 1).toNat=n) (hm1:m<=100) {P:Nat} {w:World} {nv:Value} {nl:List (ByteArray × Int)} {fv:Value} {F:List Ca} {ret loops count size:Int} (h:Aw B g R P w nv nl fv F ret loops count size) (hP:P+4 * Cj n<=700000000) :
  Calls prog 162 #[.pointer (some (OK g 0)),.int .i64 d] w (Pe B g R (P+4 * Cj n) (4 * Cj n) w nl fv F ret loops):=by subst hd;exact Qiu B g R n HL m hm hm1 h hP
end Go.Proofs.YtjlaedokfbcbpaaGreatDoor
