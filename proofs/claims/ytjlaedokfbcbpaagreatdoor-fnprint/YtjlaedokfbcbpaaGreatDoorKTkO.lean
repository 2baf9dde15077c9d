import Derived.Test.YtjlaedokfbcbpaaGreatDoorKTkN9
import Derived.Test.YtjlaedokfbcbpaaGreatDoorKTkN10
import Derived.Test.YtjlaedokfbcbpaaGreatDoorKTkNa
import Derived.Laws.StructEq
set_option maxRecDepth 100000
set_option maxHeartbeats 4000000
namespace Go.Proofs.YtjlaedokfbcbpaaGreatDoor
open Go.RowKit Proofs.Tryz
theorem Tk.spoil_any {R P A n0 c0:Nat} {w w0:World} {a0:Option Addr} (hD:D7 R P w0 w) (hP:P<=800000000) (hrow:As A w (.slice a0 n0 c0) 300000000):Calls prog 28 #[.pointer (some (OK R 0)),.agg #[.slice a0 n0 c0]] w (Tk.WPost R (P+5) 300000000 w0 w):=by
 obtain⟨i,s⟩:∃ V,(w.alloc (.cells #[.slice a0 n0 c0] 25)).alloc (.cells #[.slice none 0 0] 25)=V:=⟨_,rfl⟩;have W:i.heap.size=w.heap.size+1+1:=by rw[<- s];simp
 have G:Below w.heap.size w i:=by rw[<- s];exact Tk.bl (Tk.up1 w _) (Tk.up1 _ _) OF
 have af:∀ o,(i.alloc o).cell? (OK w.heap.size 0)=some (.slice a0 n0 c0):=fun o=>by
  have h1:i.heap[w.heap.size]? = some (.cells #[.slice a0 n0 c0] 25):=by rw[<- s,(Tk.up1 (w.alloc (.cells #[.slice a0 n0 c0] 25)) _).block w.heap.size OF];exact World.alloc_heap_new w _
  rw[(Tk.up1 i o).cell (p:=(OK w.heap.size 0)) OJ,Lib.cell_of_heap h1];rfl
 have y:i.heap[w.heap.size+1]? = some (.cells #[.slice none 0 0] 25):=by
  have:=World.alloc_heap_new (w.alloc (.cells #[.slice a0 n0 c0] 25)) (.cells #[.slice none 0 0] 25);rw[s]at this;simpa using this
 have hE:As (w.heap.size+1+1) (i.alloc (.cells #[] 62)) (.slice (some (OK (w.heap.size+1+1) 0)) 0 0) 0:=by have:=Tk.empty_row i;rw[W]at this;exact this
 have I:As A (i.alloc (.cells #[] 62)) (.slice a0 n0 c0) 300000000:=Tk.Row_below (Tk.Row_below hrow G) (Tk.up1 i _);have J:D7 R P w0 i:=hD.below G;have hR:R < w.heap.size/\w0.heap.size<=w.heap.size:=⟨hD.lt,hD.2.size⟩;have N:Ak R w i:=Ak.of_below G;have ah:=Tk.Row_len hrow;have t0:Tk.Mk:=trivial;clear hrow;go_enter func28,ntmps28;go_upto_block 0 with(first
  | (at_builtin;have _t:=t0;clear t0;refine Tk.wp_rows rfl _ _ rfl rfl rfl hE I (by simp[W]) OD ?_;intro l f j h U ab O ae;have c:f<=300000000:=OC;clear ab;have t:Below i.heap.size i h:=O i OC (Tk.up1 i _);have u:Below i.heap.size i (h.alloc (.cells #[.slice l f j] 25)):=Tk.bl t (Tk.up1 h _) t.size;have r:Hid (As w.heap.size (h.alloc (.cells #[.slice l f j] 25)) (.slice l f j) 300000000):=(Tk.Row_below U (Tk.up1 h _)).mono OC OD;have z:Hid (D7 R P w0 (h.alloc (.cells #[.slice l f j] 25))):=J.below u;have B:Hid (Ak R w (h.alloc (.cells #[.slice l f j] 25))):=N.trans (Ak.of_below u);have C:Hid ((h.alloc (.cells #[.slice l f j] 25)).heap[h.heap.size]? = some (.cells #[.slice l f j] 25)):=World.alloc_heap_new h _;have n:Hid ((h.alloc (.cells #[.slice l f j] 25)).heap[w.heap.size+1]? = some (.cells #[.slice none 0 0] 25)):=(by have:=(u.block (w.heap.size+1) OC).trans y;exact this);have am:w.heap.size+1+1<=h.heap.size:=(by have:=t.size;omega);have o1:(h.alloc (.cells #[.slice l f j] 25)).cell? (OK h.heap.size 0)=some (.slice l f j):=(by rw[Lib.cell_of_heap C.out];rfl);have Y:(h.alloc (.cells #[.slice l f j] 25)).cell? (OK (w.heap.size+1) 0)=some (.slice none 0 0)/\(h.alloc (.cells #[.slice l f j] 25)).frozen? (OK (w.heap.size+1) 0)=false:=(by rw[Lib.cell_of_heap n.out];exact⟨rfl,by simp[World.frozen?,n.out]⟩);obtain⟨Y,q2⟩:=Y;clear hE I O ae U t u J N y;have t1:Tk.Mk:=trivial)
  | (go_at_call 26;have _t:=t1;clear t1;refine(Gg 256 z.out OC OD OD).mono ?_;rintro e w2 ⟨v1,rfl,ai,K,Q⟩;have ak:wrap64 (v1 * 256)=v1 * 256:=IntWalk.wrap64_in _ OC;have t2:Tk.Mk:=trivial)
  | (go_at_call 26;have _t:=t2;clear t2;refine(Gg 256 K OC OD OD).mono ?_;rintro e X ⟨v2,rfl,aj,L,S⟩;have al:wrap64 (v1 * 256+v2)=v1 * 256+v2:=IntWalk.wrap64_in _ OC;have ac:((f:Int) == 0)=false:=OG;have ad:f≠0:=(by simpa using ac);have x:¬ ((f:Int)=0):=OC;obtain⟨k,ag,b⟩:∃ k:Nat,(v1 * 256+v2) % (f:Int)=(k:Int)/\k < f:=⟨((v1 * 256+v2) % (f:Int)).toNat,(by have:=Int.emod_nonneg (v1 * 256+v2) x;omega),(by have:=Int.emod_nonneg (v1 * 256+v2) x;have:=Int.emod_lt_of_pos (v1 * 256+v2) (show (0:Int) < f by omega);omega)⟩;obtain⟨g,rfl⟩:=Tk.Row_some r.out ad;have m:Hid (Ak R (h.alloc (.cells #[.slice (some (OK g 0)) f j] 25)) X):=Q.trans S;have E:=r.out.fw m.out;have D:=m.out.blk C.out OD;have H:=m.out.blk n.out OD;have o3:X.cell? (OK h.heap.size 0)=some (.slice (some (OK g 0)) f j):=(by rw[Lib.cell_of_heap D];rfl);obtain⟨d,Z,⟨y0,y1,y2,y3,y4,y5⟩,aa⟩:=Tk.Row_cells E b;have F:Hid (Tk.Sp R (P+1+1) w0 w (X.alloc (.cells #[.int .i64 d.kind,.int .i64 d.op,.int .i64 d.type,.int .i64 d.n,.string d.text,.int .i64 d.kids] 62)) (w.heap.size+1) h.heap.size X.heap.size g f j):=Tk.sp_new B.out m.out L E D H d Z OC hR ⟨by omega,by omega⟩;clear r z B C n o1 Y q2 K Q L S m E D H;have t3:Tk.Mk:=trivial)
  | (go_at_call 26;have _t:=t3;clear t3;refine(Gg 14 F.out.dw OC OD OD).mono ?_;rintro e w4 ⟨q,rfl,hq,M,T⟩;have a:Hid (Tk.Sp R (P+1+1+1) w0 w w4 (w.heap.size+1) h.heap.size X.heap.size g f j):=F.out.draw M T;clear F M T y0 y1 y2 y3 y4 y5 aa o3;have t4:Tk.Mk:=trivial))
 ·exact bodyPost_ret (v:=.agg #[.slice l f j]) (by simp[results,results28,go_sem,Y]) rfl (Tk.row_end r.out z.out B.out n.out hR OC OC)
 ·rcases Tk.k14 hq with⟨rfl,m0⟩|⟨rfl,m1⟩|⟨rfl,m2⟩|⟨rfl,m3⟩|⟨rfl,m4⟩|⟨rfl,m5⟩|⟨rfl,m6⟩|⟨rfl,m7⟩|⟨rfl,m8⟩|⟨rfl,m9⟩|⟨rfl,an⟩|⟨rfl,ao⟩|⟨rfl,ap⟩|⟨rfl,aq⟩
  ·exact Tk.spoil_0 a hP c b OG
  ·exact Tk.spoil_1 a hP c b OG
  ·exact Tk.spoil_2 a hP c b OG
  ·exact Tk.spoil_3 a hP c b OG
  ·exact Tk.spoil_4 a hP c b OG
  ·exact Tk.spoil_5 a hP c b OG
  ·exact Tk.spoil_6 a hP c b OG
  ·exact Tk.spoil_7 a hP c b OG
  ·exact Tk.spoil_8 a hP c b OG
  ·exact Tk.spoil_9 a hP c b OG
  ·exact Tk.spoil_10 a hP c b OG
  ·exact Tk.spoil_11 a hP c b OG
  ·exact Tk.spoil_12 a hP c b OG
  ·exact Tk.spoil_13 a hP c b OG
def Tk.SpoilIs : Prop := ∀ (R P A n0 c0:Nat) (w w0:World) (a0:Option Addr),D7 R P w0 w->P<=800000000->As A w (.slice a0 n0 c0) 300000000->Calls prog 28 #[.pointer (some (OK R 0)),.agg #[.slice a0 n0 c0]] w (Tk.WPost R (P+5) 300000000 w0 w)
theorem Tk.k40 {k:Int} (h:0<=k/\k < 40):(k=0/\Tk.Mk)\/((¬ k=0/\k < 4)/\Tk.Mk)\/((¬ k=0/\¬ k < 4)/\Tk.Mk):=by
 simp only[Tk.Mk,and_true];omega
theorem Tk.any_any (hS:Tk.SpoilIs) {R P:Nat} {w w0:World} (hD:D7 R P w0 w) (hP:P<=200000000) (hP2:200<=P):Calls prog 11 #[.pointer (some (OK R 0))] w (Tk.WPost R (P+200000010) 300000000 w0 w):=by
 obtain⟨t,i⟩:∃ V,w.alloc (.cells #[.slice none 0 0] 25)=V:=⟨_,rfl⟩;have M:t.heap.size=w.heap.size+1:=by rw[<- i];simp
 have g:Hid (w.alloc (.cells #[.slice none 0 0] 25)=t):=i;have J:Hid Tk.SpoilIs:=hS;clear hS;have y:D7 R P w0 t:=by rw[<- i];exact hD.below (Tk.up1 w _)
 have K:R < w.heap.size:=hD.lt;have A:w0.heap.size<=w.heap.size:=hD.2.size;have G:Tk.Mk:=trivial;go_enter func11,ntmps11;go_wp2_with (first
  | (go_at_call 26;have _t:=G;clear G;refine(Gg 40 y OC OD OD).mono ?_;rintro e H ⟨k,rfl,L,j,f⟩;have O:w.heap.size+1<=H.heap.size:=(by have:=f.size;omega);rcases Tk.k40 L with⟨rfl,D⟩|⟨⟨Q,S⟩,E⟩|⟨⟨Q,S⟩,F⟩)
  | (go_at_call 27;have _t:=D;clear D;refine(Tk.edge_any j OC).mono ?_;rintro e r ⟨u,B,c5,rfl,o,a,b⟩;have n:=o.mono (K':=300000000) ON OD;have m:=a.mono (P':=P+200000010) OC;have h:w.heap.size<=H.heap.size:=OC;have c:Ak R (w.alloc (.cells #[.slice none 0 0] 25)) r:=(by rw[g.out];exact f.trans b);obtain⟨-,C,I⟩:=Tk.tree_cellW c)
  | (go_at_call 29;have _t:=E;clear E;refine(Qab j OC 60 OC).mono ?_;rintro e s ⟨T,W,c3,rfl,z,l,d⟩;have p:Tk.Mk:=trivial)
  | (go_at_call 28;have _t:=p;clear p;refine(J.out R _ _ _ _ s w0 _ l OC z).mono ?_;rintro e r ⟨u,B,c5,rfl,n,a,b⟩;have m:=a.mono (P':=P+200000010) OC;have h:w.heap.size<=s.heap.size:=(by have:=d.size;omega);have c:Ak R (w.alloc (.cells #[.slice none 0 0] 25)) r:=(by rw[g.out];exact(f.trans d).trans b);obtain⟨-,C,I⟩:=Tk.tree_cellW c)
  | (go_at_call 26;have _t:=F;clear F;refine(Gg 120 j OC OD OD).mono ?_;rintro e s ⟨x,rfl,U,l,d⟩;have N:wrap64 (20+x)=20+x:=IntWalk.wrap64_in _ OC;have q:Tk.Mk:=trivial)
  | (go_at_call 29;have _t:=q;clear q;refine(Qab l OC (20+x) OC).mono ?_;rintro e r ⟨u,B,c5,rfl,n,a,b⟩;have m:=a.mono (P':=P+200000010) OC;have h:w.heap.size<=s.heap.size:=(by have:=d.size;omega);have c:Ak R (w.alloc (.cells #[.slice none 0 0] 25)) r:=(by rw[g.out];exact(f.trans d).trans b);obtain⟨-,C,I⟩:=Tk.tree_cellW c))
 all_goals exact bodyPost_ret (v:=.agg #[.slice u B c5]) (by simp[results,results11,go_sem,C]) rfl (Tk.tree_endW n h m c K A)
theorem Tk.spoil_is : Tk.SpoilIs:=fun _ _ _ _ _ _ _ _ h1 h2 h3=>Tk.spoil_any h1 h2 h3
theorem Tk.below_fw {w W W':World} (h:Below w.heap.size w W) (hf:Ak w.heap.size W W'):Below w.heap.size w W':=⟨hf.os.trans h.os,hf.tape.trans h.tape,hf.output.trans h.output,Nat.le_trans h.size hf.size,fun k hk=>(hf.keep k (Nat.lt_of_lt_of_le hk h.size) (.inl hk)).trans (h.block k hk)⟩
theorem Qpf {w W:World} {v:Value} {n:Nat} (h:G3 w w.heap.size v n) (hb:Below w.heap.size w W):G3 W W.heap.size v n:=by
 rcases h.below ON hb with h|⟨b,o,c,a,d,f⟩
 ·exact .inl h
 ·exact .inr ⟨b,o,c,a,Nat.lt_of_lt_of_le d hb.size,f⟩
theorem Qp6 (w:World) (v:Value) (n:Nat) (hB:G3 w w.heap.size v n) (hc:∀ a m c,v = .slice a m c->m<=c) (hn:n<=1048576) :
  Calls prog 4 #[v] w fun e w' => ∃ a m c,e = .returned (.agg #[.slice a m c])/\As w.heap.size w' (.slice a m c) 300000000/\Below w.heap.size w w':=by
 obtain⟨V,u⟩:∃ V,w.alloc (.cells #[.slice none 0 0] 25)=V:=⟨_,rfl⟩;have d:Below w.heap.size w V:=by rw[<- u];exact OP _ _
 have y:Hid (Calls prog 12 #[v] V fun e w'=>e = .returned (.pointer (some (OK V.heap.size 0)))/\Dn w' V.heap.size 0/\Below V.heap.size V w'):=l1Open_any V v n (Qpf hB d) hc hn;have z:Hid (∀ (R P:Nat) (w w0:World),D7 R P w0 w->P<=200000000->200<=P->Calls prog 11 #[.pointer (some (OK R 0))] w (Tk.WPost R (P+200000010) 300000000 w0 w)):=fun R P w w0 o p i=>Tk.any_any Tk.spoil_is o p i
 clear hB hc;go_enter func4,ntmps4;go_wp2_with (first
  | (go_at_call 12;refine y.out.mono ?_;rintro e j ⟨rfl,s,f⟩;have r:D7 V.heap.size 1000 j j:=D7.refl s OC)
  | (go_at_call 11;refine(z.out _ _ j j r OD OD).mono ?_;rintro e x ⟨a,m,c,rfl,t,B,h⟩;have C:Ak V.heap.size (w.alloc (.cells #[.slice none 0 0] 25)) x:=(by rw[u];exact(Ak.of_below f).trans h);obtain⟨A,D,F⟩:=Tk.tree_cellW C))
 refine bodyPost_ret (v:=.agg #[.slice a m c]) (by simp[results,results4,go_sem,D]) rfl ?_;have q:Below V.heap.size V x:=Tk.below_fw (by exact f) h;obtain⟨l,o,p,i⟩:=t;refine⟨a,m,c,rfl,⟨l,o,p,B1 (G0 i (Nat.le_trans d.size f.size)) (fun k hk _ _=>Bd (fun e => ?_))⟩, ?_⟩
 ·obtain⟨_,E,b⟩:=A8 i hk;subst e;rw[A]at b;injection b with b;injection b with _ b _;exact absurd b OD
 ·have g:=d.trans (q.mono d.size);exact⟨g.os,g.tape,g.output,Nat.le_trans g.size (by simp[World.setCell]),fun k hk=>(Bd OC).trans (g.block k hk)⟩
theorem Qnp (k o t n c:Int) (x:ByteArray) (w:World):(Op.equalIn 10000 62 (.agg #[.int .i64 k,.int .i64 o,.int .i64 t,.int .i64 n,.string x,.int .i64 c]) (.agg #[.int .i64 k,.int .i64 o,.int .i64 t,.int .i64 n,.string x,.int .i64 c])).run prog w = .ok true w:=by
 have f:=underlying3;have d:=underlying2;have g:=underlying9;have a:prog.underlying 62=some (.struct (prog.fieldsOf 62)):=OE
 have b:prog.stoodInHeld 62=false:=OE
 rw[show (10000:Nat)=9999+1 from rfl,run_equalIn_agg w 9999 62 _ _ a b];simp only[Program.fieldsOf,underlying62];go_simp
theorem Qhr : prog.eqGuardType prog.depth 62=false:=OE
theorem Qp7 (ns:List Ae) (va vb:Value) (w:World) (ha:Bz w va ns) (hb:Bz w vb ns) (hl:ns.length<=1048576) :
  Calls prog 10 #[.agg #[va],.agg #[vb]] w fun e w'=>e = .returned (.bool true)/\Below w.heap.size w w':=by
 obtain⟨a,r,rfl,K⟩:=ha;obtain⟨b,s,rfl,L⟩:=hb;obtain⟨n,G⟩:∃ n,Hid (ns.length=n):=⟨_,(rfl:ns.length=_)⟩;have E:Hid (∀ i (M:i < ns.length),∃ g,a=some (OK g 0)/\g < w.heap.size/\∀ j,j < 6->w.cell? (OK g (i * 6+j))=(By ns[i])[j]?):=K;have F:Hid (∀ i (M:i < ns.length),∃ g,b=some (OK g 0)/\g < w.heap.size/\∀ j,j < 6->w.cell? (OK g (i * 6+j))=(By ns[i])[j]?):=L;clear K L;rw[G.out]at hl;simp only[G.out];have P:((n:Int) != (n:Int))=false:=by simp
 have O:=Qhr;obtain⟨V,A⟩:∃ V,(w.alloc (.cells #[.slice a n r] 25)).alloc (.cells #[.slice b n s] 25)=V:=⟨_,rfl⟩;have J:Below w.heap.size w V:=by rw[<- A];exact(OP _ _).alloc OF _
 have hz:V.heap.size=w.heap.size+2:=by rw[<- A];simp
 have y:V.cell? (OK w.heap.size 0)=some (.slice a n r):=by rw[<- A];simp
 have z:V.cell? (OK (w.heap.size+1) 0)=some (.slice b n s):=by rw[<- A];simp
 go_enter func10,ntmps10;go_wp2;go_loopw [5] (fun t wr => ∃ i:Nat,i<=n/\t = .int .i64 (i:Int)/\Below V.heap.size V wr) (fun t _=>n - (intOf t).toNat);case atStart=>exact⟨0,by omega,rfl,by rw[<- A];exact OO _⟩
 case round =>
  obtain⟨i,M,rfl,h⟩:=hrel;have Q:wr.cell? (OK w.heap.size 0)=some (.slice a n r):=(h.cell (p:=(OK w.heap.size 0)) OJ).trans y;have R:wr.cell? (OK (w.heap.size+1) 0)=some (.slice b n s):=(h.cell (p:=(OK (w.heap.size+1) 0)) OJ).trans z;have f:Below w.heap.size w wr:=J.trans (h.mono OC);by_cases hlt:i < n
  ·have D:i < ns.length:=(by rw[G.out];exact hlt);obtain⟨l,rfl,H,B⟩:=E.out i D;obtain⟨q,rfl,I,C⟩:=F.out i D;have u:∀ j,j < 6->wr.cell? (OK l (i * 6+j))=(By ns[i])[j]?:=fun j hj=>(f.cell (p:=(OK l (i * 6+j))) H).trans (B j hj)
   have v:∀ j,j < 6->wr.cell? (OK q (i * 6+j))=(By ns[i])[j]?:=fun j hj=>(f.cell (p:=(OK q (i * 6+j))) I).trans (C j hj)
   generalize ns[i]=d at *;obtain⟨k,o,t,m,x,c⟩:=d;have S:wr.cell? (OK l (i * 6))=some (.int .i64 k):=u 0 OC;have T:wr.cell? (OK l (i * 6+1))=some (.int .i64 o):=u 1 OC;have U:wr.cell? (OK l (i * 6+2))=some (.int .i64 t):=u 2 OC;have W:wr.cell? (OK l (i * 6+3))=some (.int .i64 m):=u 3 OC;have X:wr.cell? (OK l (i * 6+4))=some (.string x):=u 4 OC;have Y:wr.cell? (OK l (i * 6+5))=some (.int .i64 c):=u 5 OC;have Z:wr.cell? (OK q (i * 6))=some (.int .i64 k):=v 0 OC;have b1:wr.cell? (OK q (i * 6+1))=some (.int .i64 o):=v 1 OC;have b2:wr.cell? (OK q (i * 6+2))=some (.int .i64 t):=v 2 OC;have b3:wr.cell? (OK q (i * 6+3))=some (.int .i64 m):=v 3 OC;have b4:wr.cell? (OK q (i * 6+4))=some (.string x):=v 4 OC;have b5:wr.cell? (OK q (i * 6+5))=some (.int .i64 c):=v 5 OC;clear B C E F u v y z;have N:=fun w=>Qnp k o t m c x w
   go_wp2_with fail;go_quiet (fail);go_wp2;go_roundw;case rel=>exact⟨i+1,by omega,by go_num,F7 _ h⟩
   case measure=>simp[intOf];omega
  ·clear E F y z;go_wp2;go_ret;exact⟨rfl,f⟩
def Dm (ts:List (Ab × Nat)) (i:Nat):Int:=match ts[i]? with|some p=>p.1.kind|none=>0
def B8 (ts:List (Ab × Nat)) (i:Nat):List UInt8:=match ts[i]? with|some p=>p.1.text|none=>[]
def P8 (ts:List (Ab × Nat)) (i:Nat):Int:=match ts[i]? with|some p=>p.1.type|none=>0
def P3 (ts:List (Ab × Nat)) (i:Nat):Int:=match ts[i]? with|some p=>p.1.n|none=>0
def I0 : List (List UInt8):=[[98,111,111,108],[116,101,120,116],[117,56],[117,49,54],[117,51,50],[117,54,52],[105,56],[105,49,54],[105,51,50],[105,54,52]]
def Ks : List (List UInt8):=[[114,101,97,100],[104,97,115],[108,105,115,116],[116,111,111,108],[97,114,103],[108,101,110],[97,116],[99,117,116],[102,105,110,100],[99,104,114],[100,101,99],[110,117,109]]
def G4 : List (List UInt8):=[[124,124],[38,38],[61,61],[33,61],[60],[60,61],[62],[62,61],[43],[45],[124],[94],[42],[47],[37],[38],[60,60],[62,62]]
def In : List (List UInt8):=[[45],[33],[126]]
def Lv (l:List (List UInt8)) (x:List UInt8):Nat:=if x ∈ l then l.idxOf x+1 else 0
def P6 (op:Nat):Nat:=if op=0 then 0 else if op=1 then 1 else if op=2 then 2 else if op<=8 then 3 else if op<=12 then 4 else 5
abbrev Jz (α:Type):=Option (Except Nat (α × Nat))
def Dj {α β:Type} (m:Jz α) (f:α->Nat->Jz β):Jz β:=match m with
 | none=>none
 | some (.error k)=>some (.error k)
 | some (.ok a)=>f a.1 a.2
def Bq (ts:List (Ab × Nat)) (k:Int) (T:List UInt8) (i:Nat):Bool:=Dm ts i == k && B8 ts i == T
def Kd (ts:List (Ab × Nat)) (k:Int) (T:List UInt8) (i:Nat):Jz Unit:=if Bq ts k T i then some (.ok ((),i+1)) else some (.error i)
def Ib (ts:List (Ab × Nat)) (i:Nat):Jz (List UInt8):=if Dm ts i=1 then some (.ok (B8 ts i,i+1)) else some (.error i)
def Da (ts:List (Ab × Nat)) (i:Nat):Nat:=if Dm ts i=2 then Lv I0 (B8 ts i) else 0
def Oa (ts:List (Ab × Nat)) (i:Nat):Jz Nat:=if Da ts i=0 then some (.error i) else some (.ok (Da ts i,i+1))
def Ol (ts:List (Ab × Nat)) (i:Nat):Nat:=if Dm ts i=5 then Lv In (B8 ts i) else 0
def Js (ts:List (Ab × Nat)) (i:Nat):Nat:=if Dm ts i=5 then Lv G4 (B8 ts i) else 0
def Ok (ts:List (Ab × Nat)) (i:Nat):Nat:=if Dm ts i=2 then Lv Ks (B8 ts i) else 0
def Lk (k o t y:Int) (x:List UInt8):Aa:=.node ⟨k,o,t,y,Aj x,0⟩ []
def Co (k o t:Int) (x:List UInt8) (us:List Aa):Aa:=.node ⟨k,o,t,0,Aj x,(us.length:Int)⟩ us
mutual
def Fx (ts:List (Ab × Nat)):Nat->Nat->Jz Aa
 | 0,_=>none
 | n+1,i =>
  if Ol ts i≠0 then Dj (Fx ts n (i+1)) fun t j=>some (.ok (Co 5 (Ol ts i) 0 [] [t],j))
  else if Dm ts i=3 then some (.ok (Lk 1 0 (P8 ts i) (P3 ts i) [],i+1))
  else if Dm ts i=4 then some (.ok (Lk 2 0 0 0 (B8 ts i),i+1))
  else if Dm ts i=1 then
   if Bq ts 5 [40] (i+1) then Dj (Jj ts n (i+1)) fun us j=>some (.ok (Co 7 0 0 (B8 ts i) us,j))
   else some (.ok (Lk 4 0 0 0 (B8 ts i),i+1))
  else if Dm ts i=2 then K8 ts n i
  else Nc ts n i
def K8 (ts:List (Ab × Nat)):Nat->Nat->Jz Aa
 | 0,_=>none
 | n+1,i =>
  if Bq ts 2 [116,114,117,101] i then some (.ok (Lk 3 0 0 1 [],i+1))
  else if Bq ts 2 [102,97,108,115,101] i then some (.ok (Lk 3 0 0 0 [],i+1))
  else if Ok ts i≠0 then Dj (Hn ts n (Bv (Ok ts i)).toNat (i+1)) fun us j=>some (.ok (Co 8 (Ok ts i) 0 [] us,j))
  else if Da ts i < 3 then some (.error i)
  else Dj (Nc ts n (i+1)) fun t j=>some (.ok (Co 9 0 (Da ts i) [] [t],j))
def Nc (ts:List (Ab × Nat)):Nat->Nat->Jz Aa
 | 0,_=>none
 | n+1,i=>Dj (Kd ts 5 [40] i) fun _ j=>Dj (Ds ts n 1 j) fun t k=>Dj (Kd ts 5 [41] k) fun _ l=>some (.ok (t,l))
def Hn (ts:List (Ab × Nat)):Nat->Nat->Nat->Jz (List Aa)
 | 0,_,_=>none
 | n+1,k,i=>Dj (Kd ts 5 [40] i) fun _ j=>Dj (Gy ts n k 0 [] j) fun us l=>Dj (Kd ts 5 [41] l) fun _ m=>some (.ok (us,m))
def Gy (ts:List (Ab × Nat)):Nat->Nat->Nat->List Aa->Nat->Jz (List Aa)
 | 0,_,_,_,_=>none
 | n+1,k,j,us,i=>if j < k then Dj (if 0 < j then Kd ts 5 [44] i else some (.ok ((),i))) fun _ l=>Dj (Ds ts n 1 l) fun t m=>Gy ts n k (j+1) (us++[t]) m else some (.ok (us,i))
def Jj (ts:List (Ab × Nat)):Nat->Nat->Jz (List Aa)
 | 0,_=>none
 | n+1,i=>Dj (Kd ts 5 [40] i) fun _ j=>if Bq ts 5 [41] j then some (.ok ([],j+1)) else Ji ts n [] j
def Ji (ts:List (Ab × Nat)):Nat->List Aa->Nat->Jz (List Aa)
 | 0,_,_=>none
 | n+1,us,i=>Dj (Ds ts n 1 i) fun t j=>if Bq ts 5 [41] j then some (.ok (us++[t],j+1)) else Dj (Kd ts 5 [44] j) fun _ k=>Ji ts n (us++[t]) k
def Ds (ts:List (Ab × Nat)):Nat->Nat->Nat->Jz Aa
 | 0,_,_=>none
 | n+1,l,i=>Dj (Fx ts n i) fun t j=>Iz ts n l 5 t j
def Iz (ts:List (Ab × Nat)):Nat->Nat->Nat->Aa->Nat->Jz Aa
 | 0,_,_,_,_=>none
 | n+1,l,m,t,i =>
  if P6 (Js ts i) < l\/m < P6 (Js ts i) then some (.ok (t,i))
  else Dj (Ds ts n (P6 (Js ts i)+1) (i+1)) fun u j=>Iz ts n l (if P6 (Js ts i)=3 then 2 else P6 (Js ts i)) (Co 6 (Js ts i) 0 [] [t,u]) j
end
mutual
def Er (ts:List (Ab × Nat)):Nat->Nat->Jz (List Aa)
 | 0,_=>none
 | n+1,i=>Dj (Kd ts 5 [123] i) fun _ j=>Fm ts n [] j
def Fm (ts:List (Ab × Nat)):Nat->List Aa->Nat->Jz (List Aa)
 | 0,_,_=>none
 | n+1,us,i=>if Bq ts 5 [125] i then some (.ok (us,i+1)) else Dj (Kc ts n i) fun t j=>Fm ts n (us++[t]) j
def L3 (ts:List (Ab × Nat)):Nat->Nat->Jz (List Aa)
 | 0,_=>none
 | n+1,i=>Dj (Ds ts n 1 i) fun c j=>Dj (Er ts n j) fun us k =>
  if Bq ts 2 [101,108,115,101] k then
   if Bq ts 2 [105,102] (k+1) then Dj (L3 ts n (k+2)) fun vs l=>some (.ok ([c,Co 21 0 0 [] us,Co 12 0 0 [] vs],l))
   else Dj (Er ts n (k+1)) fun vs l=>some (.ok ([c,Co 21 0 0 [] us,Co 21 0 0 [] vs],l))
  else some (.ok ([c,Co 21 0 0 [] us],k))
def Kc (ts:List (Ab × Nat)):Nat->Nat->Jz Aa
 | 0,_=>none
 | n+1,i =>
  if Bq ts 2 [105,102] i then Dj (L3 ts n (i+1)) fun us j=>some (.ok (Co 12 0 0 [] us,j))
  else if Bq ts 2 [119,104,105,108,101] i then Dj (Ds ts n 1 (i+1)) fun c j=>Dj (Er ts n j) fun us k=>some (.ok (Co 13 0 0 [] [c,Co 21 0 0 [] us],k))
  else Dj (Ei ts n i) fun t j=>Dj (Kd ts 5 [59] j) fun _ k=>some (.ok (t,k))
def Ei (ts:List (Ab × Nat)):Nat->Nat->Jz Aa
 | 0,_=>none
 | n+1,i =>
  if Bq ts 2 [108,101,116] i then Dj (Ib ts (i+1)) fun x j=>Dj (Kd ts 5 [61] j) fun _ k=>Dj (Ds ts n 1 k) fun t l=>some (.ok (Co 10 0 0 x [t],l))
  else if Bq ts 2 [98,114,101,97,107] i then some (.ok (Lk 14 0 0 0 [],i+1))
  else if Bq ts 2 [99,111,110,116,105,110,117,101] i then some (.ok (Lk 15 0 0 0 [],i+1))
  else if Bq ts 2 [114,101,116,117,114,110] i then
   if Bq ts 5 [59] (i+1) then some (.ok (Lk 16 0 0 0 [],i+1))
   else Dj (Ds ts n 1 (i+1)) fun t j=>some (.ok (Co 16 0 0 [] [t],j))
  else if Bq ts 2 [102,97,105,108] i then Dj (Ds ts n 1 (i+1)) fun t j=>some (.ok (Co 17 0 0 [] [t],j))
  else if Bq ts 2 [119,114,105,116,101] i then Dj (Ds ts n 1 (i+1)) fun t j=>Dj (Kd ts 5 [44] j) fun _ k=>Dj (Ds ts n 1 k) fun u l=>some (.ok (Co 18 0 0 [] [t,u],l))
  else if Bq ts 2 [115,97,121] i then Dj (Ds ts n 1 (i+1)) fun t j=>some (.ok (Co 19 0 0 [] [t],j))
  else Dj (Ib ts i) fun x j =>
   if Bq ts 5 [61] j then Dj (Ds ts n 1 (j+1)) fun t k=>some (.ok (Co 11 0 0 x [t],k))
   else Dj (Jj ts n j) fun us k=>some (.ok (Co 20 0 0 [] [Co 7 0 0 x us],k))
end
def G2 (ts:List (Ab × Nat)):Nat->List Aa->Nat->Jz (List Aa)
 | 0,_,_=>none
 | n+1,us,i=>Dj (Ib ts i) fun x j=>Dj (Oa ts j) fun t k =>
  if Bq ts 5 [41] k then some (.ok (us++[Lk 22 0 (t:Int) 0 x],k+1))
  else Dj (Kd ts 5 [44] k) fun _ l=>G2 ts n (us++[Lk 22 0 (t:Int) 0 x]) l
def Nf (ts:List (Ab × Nat)):Nat->Nat->Jz Aa
 | 0,_=>none
 | n+1,i=>Dj (Kd ts 2 [102,110] i) fun _ j=>Dj (Ib ts j) fun x k=>Dj (Kd ts 5 [40] k) fun _ l =>
  Dj (if Bq ts 5 [41] l then some (.ok ([],l+1)) else G2 ts n [] l) fun ps m =>
  Dj (if Bq ts 5 [45,62] m then Oa ts (m+1) else some (.ok (0,m))) fun t o =>
  Dj (Er ts n o) fun us q=>some (.ok (Co 23 0 (t:Int) x (ps++[Co 21 0 0 [] us]),q))
def Ic (ts:List (Ab × Nat)):Nat->List Aa->Nat->Jz (List Aa)
 | 0,_,_=>none
 | n+1,us,i=>if i < ts.length then Dj (Nf ts n i) fun t j=>Ic ts n (us++[t]) j else some (.ok (us,i))
end Go.Proofs.YtjlaedokfbcbpaaGreatDoor
