import Derived.Test.YtfjkahdghhbpnaaGreatDoorKTk
import Derived.Test.YtfjkahdghhbpnaaGreatDoorKStB
import Derived.Test.YtfjkahdghhbpnaaGreatDoorKCdT
import Derived.Deep.RegionHeld3
import Derived.Test.YtfjkahdghhbpnaaGreatDoorKCfYr
import Derived.Test.YtfjkahdghhbpnaaGreatDoorKCgB
import Derived.Laws.CopyRow
import Derived.Deep.RegionWith
import Derived.Test.YtfjkahdghhbpnaaGreatDoorKStG
set_option maxRecDepth 100000
set_option maxHeartbeats 2000000
namespace Go.Proofs.YtfjkahdghhbpnaaGreatDoor
open Go.RowKit
theorem Bv {W:World} {b o:Nat} {v:Value} (h:W.cell? ⟨b,o,none⟩=some v):b < W.heap.size:=by
 refine Nat.lt_of_not_le fun hn => ?_
 rw[World.cell?]at h
 simp only[Array.getElem?_eq_none hn]at h
 cases h
theorem Yb (c:List Ae) (a0:Option Addr) (cap:Nat) (w:World) (hl:c.length<=1048576) (hS:∀ f ∈ c,Iz f) (hC:Ak w.heap.size w (.slice a0 c.length cap) c) :
  Calls Tryz.prog 93 #[.slice a0 c.length cap,.func (Fn.func 94) #[] #[]] w fun e w' => ∃ a r E,e = .returned (.slice a c.length r)/\D0 E=c/\A2 w.heap.size w' (.slice a c.length r) E/\Below w.heap.size w w':=by
 obtain⟨i0,ak,ap,aq,ar⟩:=info_parts Qg
 obtain⟨n,HN⟩:∃ n,Hid (c.length=n):=⟨_,(rfl:c.length=_)⟩
 have HC:Hid (∀ k (hk:k < c.length),∃ g N M,a0=some ⟨g,0,none⟩/\g < w.heap.size/\(∀ j,j < 5->w.cell? ⟨g,k * 5+j,none⟩=(Ig c[k] N M)[j]?)/\Ab w.heap.size w N c[k].params/\Ba w.heap.size w M c[k].ins):=by
  obtain⟨a,cp,e,h⟩:=hC
  injection e with e1 e2 e3
  subst e1
  exact h
 have HS:Hid (∀ f ∈ c,Iz f):=hS
 clear hC hS
 rw[HN.out]at hl |-
 go_enter Tryz.func93,Tryz.ntmps93
 go_wp2_with (go_at_call 124;refine(Qcy n _ hl).mono ?_;rintro e w1 ⟨ga,gc,rfl,q,W⟩)
 go_loopw [5,13] (fun t5 t13 wr => ∃ (i:Nat) (a:Option Addr) (r:Nat) (E:List B0),i<=n/\t5 = .slice a i r/\t13 = .int .i64 (i:Int)/\D0 E=c.take i/\A2 w.heap.size wr (.slice a i r) E/\Below w.heap.size w wr) (fun _ t13 _=>n - (intOf t13).toNat)
 case atStart=>exact⟨0,ga,gc,[],by omega,rfl,rfl,rfl,⟨q,fun e he=>by simp at he,fun e he=>by simp at he,List.Pairwise.nil⟩,W⟩
 case round =>
  obtain⟨i,a,r,E,hi,rfl,rfl,hE,C,d⟩:=hrel
  have HO:Hid (A2 w.heap.size wr (.slice a i r) E):=C
  have HE:Hid (D0 E=c.take i):=hE
  have V:E.length=i:=by rw[<- Gq,hE,List.length_take,HN.out];omega
  have hz:=d.size
  clear C q W hE
  by_cases hlt:i < n
  ·have Z:(i:Int) < (n:Int):=by omega
   have K:i < c.length:=by rw[HN.out];exact hlt
   obtain⟨g2,N,M,rfl,aj,kc,hp,hq⟩:=HC.out i K
   have I:∀ j,j < 5->wr.cell? ⟨g2,i * 5+j,none⟩=(Ig c[i] N M)[j]?:=fun j hj=>by rw[d.cell (p:=⟨g2,i * 5+j,none⟩) aj,kc j hj]
   have L:=HS.out _ (List.getElem_mem K)
   have Q:Hid (c.take (i+1)=c.take i++[c[i]]):=by rw[Hid,List.take_add_one,List.getElem?_eq_getElem K];rfl
   obtain⟨f,HF⟩:∃ f,Hid (c[i]=f):=⟨_,(rfl:c[i]=_)⟩
   rw[HF.out]at I L Q hp hq
   have O:Hid (∀ o:Obj,Calls Tryz.prog 94 #[Aw f N M] (wr.alloc o) fun e w' => ∃ m l,e = .returned (Aw f m l)/\w'.ownsRow (wr.alloc o).heap.size 3 1 m f.params.length (Al f.params)/\w'.ownsRow (wr.alloc o).heap.size 140 4 l f.ins.length (Bm f.ins)/\Below (wr.alloc o).heap.size (wr.alloc o) w'):=fun o=>Se f N M L (wr.alloc o) ((hp.below (d.alloc hz o)).mono (by simp;omega)) ((hq.below (d.alloc hz o)).mono (by simp;omega))
   obtain⟨aw,ax,ab,-⟩:=hp
   obtain⟨au,av,Y,-⟩:=hq
   subst ab
   subst Y
   have e0:=I 0 (by omega);have e1:=I 1 (by omega);have e2:=I 2 (by omega);have e3:=I 3 (by omega);have e4:=I 4 (by omega)
   simp only[Ig,List.getElem?_cons_zero,List.getElem?_cons_succ,Nat.add_zero]at e0 e1 e2 e3 e4
   clear I kc HC HF L
   go_wp2_with fail
   refine(O.out _).mono ?_
   rintro e u ⟨m,l,rfl,aa,ac,A⟩
   have X:Below wr.heap.size wr u:=(Di wr _).trans (A.mono (by simp))
   have s:u.ownsRow wr.heap.size 3 1 m f.params.length (Al f.params):=Bc aa (by simp)
   have t:u.ownsRow wr.heap.size 140 4 l f.ins.length (Bm f.ins):=Bc ac (by simp)
   clear A aa ac e0 e1 e2 e3 e4
   have D:Hid (A2 w.heap.size u (.slice a i r) E):=HO.out.below X
   have B:Below w.heap.size w u:=d.trans (X.mono hz)
   have ad:=B.size
   have P:Hid (∀ e ∈ E,∀ k,e.p.ownBlock=some k\/e.i.ownBlock=some k->k < wr.heap.size):=HO.out.lt
   have F:Hid (u.ownsRow wr.heap.size 3 1 m f.params.length (Al f.params)):=s
   have G:Hid (u.ownsRow wr.heap.size 140 4 l f.ins.length (Bm f.ins)):=t
   have H:Hid (u.ownsRow w.heap.size 97 5 (.slice a i r) i (E4 E)):=by have h:=D.out.row;rw[V]at h;exact h
   have ag:(m:Value).cells.size=1:=by obtain⟨x,y,e⟩:=Aq s;rw[e];rfl
   have ah:(l:Value).cells.size=1:=by obtain⟨x,y,e⟩:=Aq t;rw[e];rfl
   obtain⟨pa,pc,an⟩:=Aq s
   obtain⟨ia,ic,am⟩:=Aq t
   subst an
   subst am
   obtain⟨R,z,S,T,v⟩:=f
   simp only[Aw]
   simp only at F G
   clear s t HO ag ah
   go_wp2_with (first|(at_builtin;(refine wpList_append_own _ rfl _ _ 36 rfl w.heap.size 97 i0 (.agg #[.string ByteArray.empty,.slice none 0 0,.int .i64 0,.int .i64 0,.slice none 0 0]) 5 80 Tryz.underlying36 ak ap aq ar rfl (by decide) _ _ _ rfl (H.out.alloc _) ⟨u.heap.size,0,none⟩ 1 1 [.string R,.slice pa z.length pc,.int .i64 S,.int .i64 T,.slice ia v.length ic] rfl rfl (D4 _ [.string R,.slice pa z.length pc,.int .i64 S,.int .i64 T,.slice ia v.length ic] _) (fun x hx=>by simp at hx;rcases hx with rfl|rfl|rfl|rfl|rfl <;> rfl) (by unfold maxLen;omega) (by omega) (by simp;omega) ?_;intro v3 w3 b J _;have U:A2 w.heap.size w3 v3 (E++[⟨⟨R,z,S,T,v⟩,.slice pa z.length pc,.slice ia v.length ic⟩]):=D.out.add F.out G.out hz P.out (by rw[V];exact b) J;obtain⟨a3,c3,ao⟩:=Aq b;subst ao;have ai:Below w.heap.size w w3:=(B.alloc ad _).grown J (by simp;omega) (Ij H.out))))
   have ae:Hid (A2 w.heap.size w3 (.slice a3 (i+1) c3) (E++[⟨⟨R,z,S,T,v⟩,.slice pa z.length pc,.slice ia v.length ic⟩])):=U
   have af:Hid (D0 (E++[⟨⟨R,z,S,T,v⟩,.slice pa z.length pc,.slice ia v.length ic⟩])=c.take (i+1)):=by rw[Hid,Q.out,Wg,HE.out];rfl
   clear U b J D P F G H O
   go_roundw
   case rel=>exact⟨i+1,a3,c3,_,by omega,rfl,by go_num,af.out,ae.out,ai⟩
   case measure=>simp[intOf];omega
  ·have Z:¬ (i:Int) < (n:Int):=by omega
   have al:i=n:=by omega
   subst al
   have HT:Hid (D0 E=c):=by rw[Hid,HE.out];exact List.take_of_length_le (by rw[HN.out];omega)
   clear HC
   go_wp2_with fail
   go_ret
   exact⟨_,_,rfl,E,HT.out,HO.out,d⟩
theorem Pf (c:List Ae) (a0:Option Addr) (cap:Nat) (w:World) (hl:c.length<=1048576) (hS:∀ f ∈ c,Iz f) (hC:Ak w.heap.size w (.slice a0 c.length cap) c) :
  Calls Tryz.prog 57 #[.agg #[.slice a0 c.length cap]] w fun e w' => ∃ a b E,e = .returned (.agg #[.slice a c.length b])/\D0 E=c/\A2 w.heap.size w' (.slice a c.length b) E/\Below w.heap.size w w':=by
 have n:Hid (∀ U:World,w.heap.size<=U.heap.size->Below w.heap.size w U->Calls Tryz.prog 93 #[.slice a0 c.length cap,.func (Fn.func 94) #[] #[]] U fun e w' => ∃ a b E,e = .returned (.slice a c.length b)/\D0 E=c/\A2 U.heap.size w' (.slice a c.length b) E/\Below U.heap.size U w'):=fun U g h2=>Yb c a0 cap U hl hS ((hC.below h2).mono g)
 clear hC hS
 go_enter Tryz.func57,Tryz.ntmps57
 go_wp2_with fail
 refine(n.out _ (by simp;omega) ((Di w _).alloc (by simp) _)).mono ?_
 rintro e i ⟨a,b,E,rfl,m,l,d⟩
 simp only[World.size_alloc]at d l
 have g:i.heap[w.heap.size+1]? = some (.cells #[.slice none 0 0] 38):=(d.block (w.heap.size+1) (by omega)).trans (by have h:=(MapKept.heap_alloc (w.alloc (.cells #[.slice a0 c.length cap] 38)) (.cells #[.slice none 0 0] 38)).1;rw[World.size_alloc]at h;exact h)
 have j:Hid (Below w.heap.size w i):=((Di w _).alloc (by simp) _).trans (d.mono (by omega))
 have o:Hid (D0 E=c):=m
 have q:Hid (A2 (w.heap.size+1+1) i (.slice a c.length b) E):=l
 have r:Hid (((i.setCell ⟨w.heap.size+1,0,none⟩ (.slice a c.length b))).heap[w.heap.size+1]? = some (.cells #[.slice a c.length b] 38)):=by rw[Hid,A6 g];rfl
 obtain⟨u,t⟩:=De g
 clear m l d g
 go_wp2_with fail
 obtain⟨s,-⟩:=De r.out
 exact bodyPost_ret (v:=.agg #[.slice a c.length b]) (by simp[results,Tryz.results57,go_sem,s]) rfl ⟨a,b,E,rfl,o.out,(q.out.keep (fun k g _=>A7 (by omega))).mono (by omega),j.out.setCell (p:=⟨w.heap.size+1,0,none⟩) (by simp only;omega) _⟩
theorem T9 (c:List Ae) (g1 cap1:Nat) (a0:Option Addr) (cap:Nat) (w:World) (hl:c.length<=1048576) (hS:∀ f ∈ c,Iz f) (hg:w.cell? ⟨g1,0,none⟩=some (.slice a0 c.length cap)) (hC:Ak w.heap.size w (.slice a0 c.length cap) c) :
  Calls Tryz.prog 56 #[.slice (some ⟨g1,0,none⟩) 1 cap1,.func (Fn.func 57) #[] #[]] w fun e w' => ∃ a d v E,e = .returned (.slice a 1 d)/\w'.ownsRow w.heap.size 38 1 (.slice a 1 d) 1 [v]/\D0 E=c/\A2 w.heap.size w' v E/\Below w.heap.size w w':=by
 obtain⟨i0,K,N,O,P⟩:=info_parts M9
 have z:g1 < w.heap.size:=Bv hg
 have D:Hid (∀ U:World,w.heap.size<=U.heap.size->Below w.heap.size w U->U.cell? ⟨g1,0,none⟩=some (.slice a0 c.length cap)/\Calls Tryz.prog 57 #[.agg #[.slice a0 c.length cap]] U fun e w' => ∃ a d E,e = .returned (.agg #[.slice a c.length d])/\D0 E=c/\A2 U.heap.size w' (.slice a c.length d) E/\Below U.heap.size U w'):=fun U s n=>⟨by rw[n.cell (p:=⟨g1,0,none⟩) z];exact hg,Pf c a0 cap U hl hS ((hC.below n).mono s)⟩
 clear hC hS hg
 go_enter Tryz.func56,Tryz.ntmps56
 go_wp2_with (go_at_call 92;refine(Qas 1 _ (by omega)).mono ?_;rintro e w1 ⟨ga,gc,rfl,h,u⟩)
 go_loopw [5,13] (fun t5 t13 wr => ∃ (i:Nat) (a:Option Addr) (d:Nat),i<=1/\t5 = .slice a i d/\t13 = .int .i64 (i:Int)/\Below w.heap.size w wr/\((i=0/\wr.ownsRow w.heap.size 38 1 (.slice a 0 d) 0 [])\/(i=1/\∃ v E,wr.ownsRow w.heap.size 38 1 (.slice a 1 d) 1 [v]/\D0 E=c/\A2 w.heap.size wr v E))) (fun _ t13 _=>1 - (intOf t13).toNat)
 case atStart=>exact⟨0,ga,gc,by omega,rfl,rfl,u,.inl ⟨rfl,h⟩⟩
 case round =>
  obtain⟨i,a,d,hi,rfl,rfl,g,L⟩:=hrel
  have C:=g.size
  clear h u
  rcases L with⟨rfl,m⟩|⟨rfl,v,E,s,n,W⟩
  ·have R:Hid (wr.ownsRow w.heap.size 38 1 (.slice a 0 d) 0 []):=m
   have e0:=(D.out wr C g).1
   have Y:((0:Nat):Int) < 1:=by omega
   clear m
   go_wp2_with fail
   refine(D.out _ (by simp;omega) (g.alloc C _)).2.mono ?_
   rintro e B ⟨q,r,E,rfl,X,t,j⟩
   have y:Below wr.heap.size wr B:=(Di wr _).trans (j.mono (by simp))
   have l:Below w.heap.size w B:=g.trans (y.mono C)
   have A:=l.size
   have G:Hid (A2 wr.heap.size B (.slice q c.length r) E):=t.mono (by simp)
   have HE:Hid (D0 E=c):=X
   have S:Hid (B.ownsRow w.heap.size 38 1 (.slice a 0 d) 0 []):=Ah R.out (fun k _ _ hk=>y.block k hk)
   clear X t j e0
   try simp only
   go_wp2_with (first|(at_builtin;(refine wpList_append_own _ rfl _ _ 30 rfl w.heap.size 38 i0 (.agg #[.slice none 0 0]) 1 24 Tryz.underlying30 K N O P rfl (by decide) _ _ _ rfl (S.out.alloc _) ⟨B.heap.size,0,none⟩ 1 1 [.slice q c.length r] rfl rfl (D4 _ [.slice q c.length r] _) (fun x hx=>by simp at hx;rcases hx with rfl <;> rfl) (by unfold maxLen;omega) (by omega) (by simp;omega) ?_;intro v3 Q b o _;obtain⟨T,V,M⟩:=Aq b;subst M;have J:Below w.heap.size w Q:=(l.alloc A _).grown o (by simp;omega) (Ij S.out))))
   have H:Hid (A2 w.heap.size Q (.slice q c.length r) E):=(G.out.keep (fun k s n=>Fo o n (fun e=>by have:=A3 R.out e.symm;have:=this.1.2;omega))).mono C
   have F:Hid (Q.ownsRow w.heap.size 38 1 (.slice T 1 V) 1 [.slice q c.length r]):=b
   clear b o
   go_roundw
   case rel=>exact⟨1,T,V,by omega,rfl,by go_num,J,.inr ⟨rfl,_,E,F.out,HE.out,H.out⟩⟩
   case measure=>simp[intOf]
  ·have I:Hid (wr.ownsRow w.heap.size 38 1 (.slice a 1 d) 1 [v]/\D0 E=c/\A2 w.heap.size wr v E):=⟨s,n,W⟩
   have Z:¬ ((1:Nat):Int) < 1:=by omega
   clear D s n W
   go_wp2_with fail
   go_ret
   exact⟨_,_,rfl,v,I.out.1,E,I.out.2.1,I.out.2.2,g⟩
theorem Ob (x0 x1 x2:Int) (s:List Fu) (sa:Option Addr) (sc g:Nat) (w:World) (hl:s.length<=1048576) (hx:∀ d ∈ s,d.text.size<=1048576) (hg:w.heap[g]? = some (.cells #[.int .i64 x0,.int .i64 x1,.int .i64 x2,.slice sa s.length sc,.slice none 0 0] 152))
  (hs:∀ i (hi:i < s.length),∃ g,sa=some ⟨g,0,none⟩/\g < w.heap.size/\∀ j,j < 3->w.cell? ⟨g,i * 3+j,none⟩=(Fq s[i])[j]?) :
  Calls Tryz.prog 61 #[.pointer (some ⟨g,0,none⟩)] w fun e w' => ∃ q t r u,e = .returned (.agg #[.int .i64 x0,.int .i64 x1,.int .i64 x2,.slice q s.length t,.slice r 0 u])/\w'.ownsRow w.heap.size 99 3 (.slice q s.length t) s.length (Bj s)/\w'.ownsRow w.heap.size 99 3 (.slice r 0 u) 0 []/\Below w.heap.size w w':=by
 have I:g < w.heap.size:=(Array.getElem?_eq_some_iff.1 hg).1
 have M:Hid (∀ U:World,w.heap.size<=U.heap.size->Below w.heap.size w U->Calls Tryz.prog 98 #[.slice sa s.length sc,.func (Fn.func 99) #[] #[]] U fun e w' => ∃ a c,e = .returned (.slice a s.length c)/\w'.ownsRow U.heap.size 99 3 (.slice a s.length c) s.length (Bj s)/\Below U.heap.size U w'):=fun U h1 F=>M8 s sa sc U hl hx (fun i hi=>by obtain⟨g,q1,q2,q3⟩:=hs i hi;exact⟨g,q1,by omega,fun j hj=>by rw[F.cell (p:=⟨g,i * 3+j,none⟩) q2];exact q3 j hj⟩)
 have D:Hid (∀ U:World,Calls Tryz.prog 98 #[.slice none 0 0,.func (Fn.func 99) #[] #[]] U fun e w' => ∃ a c,e = .returned (.slice a 0 c)/\w'.ownsRow U.heap.size 99 3 (.slice a 0 c) 0 []/\Below U.heap.size U w'):=fun U=>M8 [] none 0 U (by simp) (fun d hd=>by simp at hd) (fun i hi=>by simp at hi)
 obtain⟨n,Q⟩:∃ n,Hid (s.length=n):=⟨_,(rfl:s.length=_)⟩
 rw[Q.out]at hg M hl |-
 have P:Hid (w.heap[g]? = some (.cells #[.int .i64 x0,.int .i64 x1,.int .i64 x2,.slice sa n sc,.slice none 0 0] 152)):=hg
 have A:Hid (∀ U:World,Below w.heap.size w U->U.cell? ⟨g,0,none⟩=some (.int .i64 x0)/\U.cell? ⟨g,1,none⟩=some (.int .i64 x1)/\U.cell? ⟨g,2,none⟩=some (.int .i64 x2)/\U.cell? ⟨g,3,none⟩=some (.slice sa n sc)/\U.cell? ⟨g,4,none⟩=some (.slice none 0 0)):=fun U hU=>(Ch ((hU.block g I).trans P.out)).1
 clear hs hx hg
 go_enter Tryz.func61,Tryz.ntmps61
 obtain⟨V,G⟩:∃ V,w.alloc (.cells #[.int .i64 0,.int .i64 0,.int .i64 0,.slice none 0 0,.slice none 0 0] 56)=V:=⟨_,rfl⟩
 have J:V.heap.size=w.heap.size+1:=by rw[<- G];simp
 have l:Hid (Below w.heap.size w V):=by rw[Hid,<- G];exact Di w _
 have E:Hid (V.heap[w.heap.size]? = some (.cells #[.int .i64 0,.int .i64 0,.int .i64 0,.slice none 0 0,.slice none 0 0] 56)):=by rw[Hid,<- G];exact(MapKept.heap_alloc w _).1
 go_wp2_with fail
 refine wp_region_held_drew (S:=(fun W=>W.cell? ⟨g,0,none⟩=some (.int .i64 x0)/\W.cell? ⟨g,1,none⟩=some (.int .i64 x1)/\W.cell? ⟨g,2,none⟩=some (.int .i64 x2)/\W.cell? ⟨g,3,none⟩=some (.slice sa n sc)/\W.cell? ⟨g,4,none⟩=some (.slice none 0 0))) (by kernel_rfl) (A.out _ l.out.drew) (fun hHeld => ?_)
 refine Tk 0 (.pointer (some ⟨g,0,none⟩)) rfl ?_
 try simp[Act.put]
 refine Tk 1 (.pointer (some ⟨g,0,none⟩)) rfl ?_
 try simp[Act.put]
 refine Tk 2 (.pointer (some ⟨g,0,none⟩)) rfl ?_
 try simp[Act.put]
 refine Tk 3 (.int .i64 x0) rfl ?_
 try simp[Act.put]
 refine Tk 4 (.pointer (some ⟨g,0,none⟩)) rfl ?_
 try simp[Act.put]
 refine Tk 5 (.pointer (some ⟨g,0,none⟩)) rfl ?_
 try simp[Act.put]
 refine Tk 6 (.pointer (some ⟨g,1,none⟩)) rfl ?_
 try simp[Act.put]
 refine Tk 7 (.int .i64 x1) rfl ?_
 try simp[Act.put]
 refine Tk 8 (.pointer (some ⟨g,0,none⟩)) rfl ?_
 try simp[Act.put]
 refine Tk 9 (.pointer (some ⟨g,0,none⟩)) rfl ?_
 try simp[Act.put]
 refine Tk 10 (.pointer (some ⟨g,2,none⟩)) rfl ?_
 try simp[Act.put]
 refine Tk 11 (.int .i64 x2) rfl ?_
 try simp[Act.put]
 refine Tk 12 (.pointer (some ⟨g,0,none⟩)) rfl ?_
 try simp[Act.put]
 refine Tk 13 (.pointer (some ⟨g,0,none⟩)) rfl ?_
 try simp[Act.put]
 refine Tk 14 (.pointer (some ⟨g,3,none⟩)) rfl ?_
 try simp[Act.put]
 refine Tk 15 (.slice sa n sc) rfl ?_
 try simp[Act.put]
 refine Tk 17 (.pointer (some ⟨g,0,none⟩)) rfl ?_
 try simp[Act.put]
 refine Tk 18 (.pointer (some ⟨g,0,none⟩)) rfl ?_
 try simp[Act.put]
 refine Tk 19 (.pointer (some ⟨g,4,none⟩)) rfl ?_
 try simp[Act.put]
 refine Tk 20 (.pointer (some ⟨g,4,none⟩)) rfl ?_
 try simp[Act.put]
 refine Tk 21 (.slice none 0 0) rfl ?_
 try simp[Act.put]
 refine wpAnyH_ready (rs:=[16]) (by kernel_rfl) (by simp) ?_
 refine AllReadyH.cons rfl (fun KK hK => ?_) AllReadyH.nil
 go_simp
 (go_at_call 98;refine(M.out _ (by have:=l.out.size;simpa using this) l.out.drew).mono ?_;rintro e K ⟨q,t,rfl,y,H⟩;have f:Hid (Below (w.heap.size+1) V K):=(Below.refl (w.heap.size+1) V).drew.trans (H.mono (by simp[J]));have b:Hid (Below w.heap.size w K):=l.out.trans (f.out.mono (by omega)))
 go_wp2
 refine hK.out _ _ (A.out K b.out) (fun hHeld => ?_)
 clear hK
 try simp[Act.put]
 refine wpAnyH_ready (rs:=[22]) (by kernel_rfl) (by simp) ?_
 refine AllReadyH.cons rfl (fun KK hK => ?_) AllReadyH.nil
 go_simp
 (go_at_call 98;refine(D.out _).mono ?_;rintro e L ⟨r,u,rfl,z,m⟩;have o:Hid (Below w.heap.size w L):=b.out.trans (m.mono b.out.size);have B:L.heap[w.heap.size]? = some (.cells #[.int .i64 0,.int .i64 0,.int .i64 0,.slice none 0 0,.slice none 0 0] 56):=(m.block w.heap.size (by have:=f.out.size;omega)).trans ((f.out.block w.heap.size (by omega)).trans E.out);obtain⟨⟨m0,m1,m2,m3,m4⟩,l0,l1,l2,l3,l4⟩:=Ch B;obtain⟨Y,N,x,C,R,T,X,Z,d4⟩:=Od B o.out (Nat.le_refl _) (.int .i64 x0) (.int .i64 x1) (.int .i64 x2) (.slice q n t) (.slice r 0 u))
 go_wp2
 refine hK.out _ _ (A.out L o.out) (fun hHeld => ?_)
 clear hK
 try simp[Act.put]
 refine Tk 23 (.agg #[.int .i64 x0,.int .i64 x1,.int .i64 x2,.slice q n t,.slice r 0 u]) rfl ?_
 try simp[Act.put]
 refine wpAnyH_ready (rs:=[24]) (by kernel_rfl) (by simp) ?_
 refine AllReadyH.cons rfl (fun KK hK => ?_) AllReadyH.nil
 go_simp
 refine hK.out _ _ (by first|exact A.out _ x|(rw[N];exact A.out Y x)) (fun hHeld => ?_)
 clear hK
 try simp[Act.put]
 refine wpAnyH_done (by kernel_rfl) ?_ _
 try rw[N]
 go_wp2
 have aa:=f.out.size
 have O:=m.size
 exact bodyPost_ret (v:=.agg #[.int .i64 x0,.int .i64 x1,.int .i64 x2,.slice q n t,.slice r 0 u]) (by simp[results,Tryz.results61,go_sem,R,T,X,Z,d4]) rfl ⟨q,t,r,u,rfl,Bc (Ah (Ah y (fun k _ _ h=>m.block k h)) (fun k _ h1 _=>C k (by have F:V.heap.size<=k:=h1;omega))) (by have F:V.drew.heap.size=V.heap.size:=rfl;omega),Bc (Ah z (fun k h1 _ _=>C k (by omega))) (by omega),x⟩
theorem Sf (x0 x1 x2:Int) (s:List Fu) (sa:Option Addr) (sc g g1 cap1:Nat) (w:World) (hl:s.length<=1048576) (hx:∀ d ∈ s,d.text.size<=1048576) (hg1:w.cell? ⟨g1,0,none⟩=some (.pointer (some ⟨g,0,none⟩))) (hg:w.heap[g]? = some (.cells #[.int .i64 x0,.int .i64 x1,.int .i64 x2,.slice sa s.length sc,.slice none 0 0] 152))
  (hs:∀ i (R:i < s.length),∃ g,sa=some ⟨g,0,none⟩/\g < w.heap.size/\∀ j,j < 3->w.cell? ⟨g,i * 3+j,none⟩=(Fq s[i])[j]?) :
  Calls Tryz.prog 60 #[.slice (some ⟨g1,0,none⟩) 1 cap1,.func (Fn.func 61) #[] #[]] w fun e w' => ∃ a o b f c h,e = .returned (.slice a 1 o)/\w'.ownsRow w.heap.size 56 5 (.slice a 1 o) 1 [.int .i64 x0,.int .i64 x1,.int .i64 x2,.slice b s.length f,.slice c 0 h]/\w'.ownsRow w.heap.size 99 3 (.slice b s.length f) s.length (Bj s)/\w'.ownsRow w.heap.size 99 3 (.slice c 0 h) 0 []/\Below w.heap.size w w':=by
 obtain⟨i0,S,W,X,Y⟩:=info_parts Pm
 have A:g1 < w.heap.size:=Bv hg1
 have Q:g < w.heap.size:=(Array.getElem?_eq_some_iff.1 hg).1
 have H:Hid (∀ U:World,w.heap.size<=U.heap.size->Below w.heap.size w U->U.cell? ⟨g1,0,none⟩=some (.pointer (some ⟨g,0,none⟩))/\Calls Tryz.prog 61 #[.pointer (some ⟨g,0,none⟩)] U fun e w' => ∃ b f c h,e = .returned (.agg #[.int .i64 x0,.int .i64 x1,.int .i64 x2,.slice b s.length f,.slice c 0 h])/\w'.ownsRow U.heap.size 99 3 (.slice b s.length f) s.length (Bj s)/\w'.ownsRow U.heap.size 99 3 (.slice c 0 h) 0 []/\Below U.heap.size U w'):=fun U v q=>⟨by rw[q.cell (p:=⟨g1,0,none⟩) A];exact hg1,Ob x0 x1 x2 s sa sc g U hl hx ((q.block g Q).trans hg) (fun i R=>by obtain⟨g,q1,q2,q3⟩:=hs i R;exact⟨g,q1,by omega,fun j hj=>by rw[q.cell (p:=⟨g,i * 3+j,none⟩) q2];exact q3 j hj⟩)⟩
 clear hs hx hg1 hg
 go_enter Tryz.func60,Tryz.ntmps60
 go_wp2_with (go_at_call 97;refine(Ye 1 _ (by omega)).mono ?_;rintro e w1 ⟨ga,gc,rfl,n,y⟩)
 go_loopw [5,13] (fun t5 t13 wr => ∃ (i:Nat) (a:Option Addr) (o:Nat),i<=1/\t5 = .slice a i o/\t13 = .int .i64 (i:Int)/\Below w.heap.size w wr/\((i=0/\wr.ownsRow w.heap.size 56 5 (.slice a 0 o) 0 [])\/(i=1/\∃ b f c h,wr.ownsRow w.heap.size 56 5 (.slice a 1 o) 1 [.int .i64 x0,.int .i64 x1,.int .i64 x2,.slice b s.length f,.slice c 0 h]/\wr.ownsRow w.heap.size 99 3 (.slice b s.length f) s.length (Bj s)/\wr.ownsRow w.heap.size 99 3 (.slice c 0 h) 0 []))) (fun _ t13 _=>1 - (intOf t13).toNat)
 case atStart=>exact⟨0,ga,gc,by omega,rfl,rfl,y,.inl ⟨rfl,n⟩⟩
 case round =>
  obtain⟨i,a,o,R,rfl,rfl,m,T⟩:=hrel
  have D:=m.size
  clear n y
  rcases T with⟨rfl,u⟩|⟨rfl,b,f,c,h,v,q,h3⟩
  ·have J:Hid (wr.ownsRow w.heap.size 56 5 (.slice a 0 o) 0 []):=u
   have e0:=(H.out wr D m).1
   have aa:((0:Nat):Int) < 1:=by omega
   clear u
   go_wp2_with fail
   refine(H.out wr D m).2.mono ?_
   rintro e F ⟨b,f,c,h,rfl,B,C,z⟩
   have t:Below w.heap.size w F:=m.trans (z.mono D)
   have E:=t.size
   have K:Hid (F.ownsRow wr.heap.size 99 3 (.slice b s.length f) s.length (Bj s)):=B
   have N:Hid (F.ownsRow wr.heap.size 99 3 (.slice c 0 h) 0 []):=C
   have Z:Hid (F.ownsRow w.heap.size 56 5 (.slice a 0 o) 0 []):=Ah J.out (fun k _ _ hk=>z.block k hk)
   clear B C e0
   try simp only
   go_wp2_with (first|(at_builtin;(refine wpList_append_own _ rfl _ _ 31 rfl w.heap.size 56 i0 (.agg #[.int .i64 0,.int .i64 0,.int .i64 0,.slice none 0 0,.slice none 0 0]) 5 72 Tryz.underlying31 S W X Y rfl (by decide) _ _ _ rfl (Z.out.alloc _) ⟨F.heap.size,0,none⟩ 1 1 [.int .i64 x0,.int .i64 x1,.int .i64 x2,.slice b s.length f,.slice c 0 h] rfl rfl (D4 _ [.int .i64 x0,.int .i64 x1,.int .i64 x2,.slice b s.length f,.slice c 0 h] _) (fun x hx=>by simp at hx;rcases hx with rfl|rfl|rfl|rfl|rfl <;> rfl) (by unfold maxLen;omega) (by omega) (by simp;omega) ?_;intro v3 G l r _;obtain⟨a3,c3,V⟩:=Aq l;subst V;have P:Below w.heap.size w G:=(t.alloc E _).grown r (by simp;omega) (Ij Z.out))))
   have L:Hid (G.ownsRow w.heap.size 99 3 (.slice b s.length f) s.length (Bj s)):=Bc (Ah K.out (fun k _ v q=>Fo r q (fun e=>by have:=A3 J.out e.symm;have:=this.1.2;omega))) D
   have O:Hid (G.ownsRow w.heap.size 99 3 (.slice c 0 h) 0 []):=Bc (Ah N.out (fun k _ v q=>Fo r q (fun e=>by have:=A3 J.out e.symm;have:=this.1.2;omega))) D
   have I:Hid (G.ownsRow w.heap.size 56 5 (.slice a3 1 c3) 1 [.int .i64 x0,.int .i64 x1,.int .i64 x2,.slice b s.length f,.slice c 0 h]):=l
   clear l r
   go_roundw
   case rel=>exact⟨1,a3,c3,by omega,rfl,by go_num,P,.inr ⟨rfl,b,f,c,h,I.out,L.out,O.out⟩⟩
   case measure=>simp[intOf]
  ·have M:Hid (wr.ownsRow w.heap.size 56 5 (.slice a 1 o) 1 [.int .i64 x0,.int .i64 x1,.int .i64 x2,.slice b s.length f,.slice c 0 h]/\wr.ownsRow w.heap.size 99 3 (.slice b s.length f) s.length (Bj s)/\wr.ownsRow w.heap.size 99 3 (.slice c 0 h) 0 []):=⟨v,q,h3⟩
   have ab:¬ ((1:Nat):Int) < 1:=by omega
   clear H v q h3
   go_wp2_with fail
   go_ret
   exact⟨_,_,rfl,b,f,c,h,M.out.1,M.out.2.1,M.out.2.2,m⟩
theorem Sd (w:World) :
  Calls Tryz.prog 62 #[.slice none 0 0,.func (Fn.func 63) #[] #[]] w fun e w' => ∃ a c,e = .returned (.slice a 0 c)/\w'.ownsRow w.heap.size 119 2 (.slice a 0 c) 0 []/\Below w.heap.size w w':=by
 go_enter Tryz.func62,Tryz.ntmps62
 go_wp2_with (go_at_call 100;refine(Qat 0 _ (by omega)).mono ?_;rintro e h ⟨f,g,rfl,b,d⟩)
 go_loopw [5,13] (fun t5 t13 wr=>t5 = .slice f 0 g/\t13 = .int .i64 0/\wr=h) (fun _ _ _=>0)
 case atStart=>exact⟨rfl,rfl,rfl⟩
 case round =>
  obtain⟨rfl,rfl,rfl⟩:=hrel
  go_wp2_with fail
  go_ret
  exact⟨_,_,rfl,b,d⟩
theorem Qbw : (Tryz.prog.info? 115).map (fun i=>(i.zero,i.size,i.bytes))=some (some (.pointer none),1,8):=by kernel_rfl
def L2 (ty:TypeId) (g k:Nat) (x:Value) (w:World) (e:Ending) (w':World):Prop :=
 ∃ a c W,e = .returned (.tuple #[])/\w'=W.setCell ⟨g,k,none⟩ (.slice a 1 c)/\W.ownsRow w.heap.size ty 1 (.slice a 1 c) 1 [x]/\Below w.heap.size w W
theorem Qb1 (g k:Nat) (xa:Option Addr) (xn xc:Nat) (w:World) (hg:w.cell? ⟨g,k,none⟩=some (.slice none 0 0)) (hf:w.frozen? ⟨g,k,none⟩=false) :
  Calls Tryz.prog 51 #[.pointer (some ⟨g,k,none⟩),.agg #[.slice xa xn xc]] w (L2 38 g k (.slice xa xn xc) w):=by
 obtain⟨C,o,s,t,x⟩:=info_parts M9
 have d:g < w.heap.size:=Bv hg
 obtain⟨V,n⟩:∃ V,w.alloc (.cells #[.slice xa xn xc] 38)=V:=⟨_,rfl⟩
 have q:V.heap.size=w.heap.size+1:=by rw[<- n];simp
 have f:Below w.heap.size w V:=by rw[<- n];exact Di w _
 have y:V.cell? ⟨w.heap.size,0,none⟩=some (.slice xa xn xc):=(De (by rw[<- n];exact(MapKept.heap_alloc w _).1)).1
 have J:V.drew.cell? ⟨w.heap.size,0,none⟩=some (.slice xa xn xc):=y
 clear y
 have i:Hid (Below w.heap.size w V.drew):=f.drew
 have G:V.cell? ⟨g,k,none⟩=some (.slice none 0 0):=by rw[f.cell (p:=⟨g,k,none⟩) d];exact hg
 have H:V.drew.cell? ⟨g,k,none⟩=some (.slice none 0 0):=by rw[i.out.cell (p:=⟨g,k,none⟩) d];exact hg
 have I:(V.drew.alloc (.cells #[.slice xa xn xc] 38)).cell? ⟨g,k,none⟩=some (.slice none 0 0):=by rw[(i.out.alloc i.out.size _).cell (p:=⟨g,k,none⟩) d];exact hg
 go_enter Tryz.func51,Tryz.ntmps51
 go_wp2_with fail
 have a:Hid (Below w.heap.size w (V.alloc (.cells #[.slice xa xn xc] 38)).drew):=(f.alloc f.size _).drew
 go_region_law (first
  | ((refine Pc rfl (.tmp 8) (.tmp 10) 30 rfl w.heap.size 38 C (.agg #[.slice none 0 0]) 1 24 Tryz.underlying30 o s t x rfl (by decide) (.slice none 0 0) 0 [] rfl ⟨rfl,.inl ⟨rfl,rfl⟩⟩ ⟨w.heap.size+1,0,none⟩ 1 1 [.slice xa xn xc] rfl rfl (fun j u hj=>by have h:=D4 V [.slice xa xn xc] 38 j u hj;(try rw[q]at h);exact h) (fun u hu=>by simp at hu;subst hu;rfl) (by unfold maxLen;omega) (by omega) a.out.size ?_;intro F m b c;obtain⟨A,B,r⟩:=Aq b;subst r;have l:Hid (Below w.heap.size w m):=(⟨c.os.trans a.out.os,c.tape.trans a.out.tape,c.output.trans a.out.output,Nat.le_trans a.out.size c.size,fun k hk=>(c.block k (Nat.lt_of_lt_of_le hk a.out.size) (by simp[Value.ownBlock])).trans (a.out.block k hk)⟩:Below w.heap.size w m);have D:m.cell? ⟨g,k,none⟩=some (.slice none 0 0):=(by rw[l.out.cell (p:=⟨g,k,none⟩) d];exact hg);have E:m.frozen? ⟨g,k,none⟩=false:=(by rw[l.out.frozen (p:=⟨g,k,none⟩) d];exact hf))))
 all_goals
  have z:Hid (m.ownsRow w.heap.size 38 1 (.slice A 1 B) 1 [.slice xa xn xc]):=b
  clear b c
  go_wp2_with fail
  exact bodyPost_ret (v:=.tuple #[]) (by simp[results,Tryz.results51,go_sem]) rfl ⟨_,_,_,rfl,rfl,z.out,l.out⟩
theorem Qc0 (g k:Nat) (t:ByteArray) (w:World) (hg:w.cell? ⟨g,k,none⟩=some (.slice none 0 0)) (hf:w.frozen? ⟨g,k,none⟩=false) :
  Calls Tryz.prog 52 #[.pointer (some ⟨g,k,none⟩),.string t] w (L2 9 g k (.string t) w):=by
 obtain⟨A,n,q,r,s⟩:=info_parts L4
 have d:g < w.heap.size:=Bv hg
 have f:Below w.heap.size w w:=Below.refl _ _
 have i:Hid (Below w.heap.size w w.drew):=f.drew
 have E:w.cell? ⟨g,k,none⟩=some (.slice none 0 0):=by rw[f.cell (p:=⟨g,k,none⟩) d];exact hg
 have F:w.drew.cell? ⟨g,k,none⟩=some (.slice none 0 0):=by rw[i.out.cell (p:=⟨g,k,none⟩) d];exact hg
 have G:(w.drew.alloc (.cells #[.string t] 9)).cell? ⟨g,k,none⟩=some (.slice none 0 0):=by rw[(i.out.alloc i.out.size _).cell (p:=⟨g,k,none⟩) d];exact hg
 go_enter Tryz.func52,Tryz.ntmps52
 have a:Hid (Below w.heap.size w (w.alloc (.cells #[.string t] 9))):=f.alloc f.size _
 go_wp2_with (first
  | (at_builtin;(refine wpList_append_own _ rfl _ _ 25 rfl w.heap.size 9 A (.string ByteArray.empty) 1 16 Tryz.underlying25 n q r s rfl (by decide) (.slice none 0 0) 0 [] rfl ⟨rfl,.inl ⟨rfl,rfl⟩⟩ ⟨w.heap.size,0,none⟩ 1 1 [.string t] rfl rfl (fun j u hj=>by have h:=D4 w [.string t] 9 j u hj;(try rw[hsV]at h);exact h) (fun u hu=>by simp at hu;subst hu;rfl) (by unfold maxLen;omega) (by omega) a.out.size ?_;intro D m b c _;obtain⟨y,z,o⟩:=Aq b;subst o;have l:Hid (Below w.heap.size w m):=(⟨c.os.trans a.out.os,c.tape.trans a.out.tape,c.output.trans a.out.output,Nat.le_trans a.out.size c.size,fun k hk=>(c.block k (Nat.lt_of_lt_of_le hk a.out.size) (by simp[Value.ownBlock])).trans (a.out.block k hk)⟩:Below w.heap.size w m);have B:m.cell? ⟨g,k,none⟩=some (.slice none 0 0):=(by rw[l.out.cell (p:=⟨g,k,none⟩) d];exact hg);have C:m.frozen? ⟨g,k,none⟩=false:=(by rw[l.out.frozen (p:=⟨g,k,none⟩) d];exact hf))))
 all_goals
  have x:Hid (m.ownsRow w.heap.size 9 1 (.slice y 1 z) 1 [.string t]):=b
  clear b c
  go_wp2_with fail
  exact bodyPost_ret (v:=.tuple #[]) (by simp[results,Tryz.results52,go_sem]) rfl ⟨_,_,_,rfl,rfl,x.out,l.out⟩
theorem Qcz (g k:Nat) (p:Nat) (w:World) (hg:w.cell? ⟨g,k,none⟩=some (.slice none 0 0)) (hf:w.frozen? ⟨g,k,none⟩=false) :
  Calls Tryz.prog 89 #[.pointer (some ⟨g,k,none⟩),.pointer (some ⟨p,0,none⟩)] w (L2 115 g k (.pointer (some ⟨p,0,none⟩)) w):=by
 obtain⟨z,n,q,r,s⟩:=info_parts Qbw
 have d:g < w.heap.size:=Bv hg
 have f:Below w.heap.size w w:=Below.refl _ _
 have i:Hid (Below w.heap.size w w.drew):=f.drew
 have D:w.cell? ⟨g,k,none⟩=some (.slice none 0 0):=by rw[f.cell (p:=⟨g,k,none⟩) d];exact hg
 have E:w.drew.cell? ⟨g,k,none⟩=some (.slice none 0 0):=by rw[i.out.cell (p:=⟨g,k,none⟩) d];exact hg
 have F:(w.drew.alloc (.cells #[.pointer (some ⟨p,0,none⟩)] 115)).cell? ⟨g,k,none⟩=some (.slice none 0 0):=by rw[(i.out.alloc i.out.size _).cell (p:=⟨g,k,none⟩) d];exact hg
 go_enter Tryz.func89,Tryz.ntmps89
 have a:Hid (Below w.heap.size w (w.alloc (.cells #[.pointer (some ⟨p,0,none⟩)] 115))):=f.alloc f.size _
 go_wp2_with (first
  | (at_builtin;(refine wpList_append_own _ rfl _ _ 70 rfl w.heap.size 115 z (.pointer none) 1 8 Tryz.underlying70 n q r s rfl (by decide) (.slice none 0 0) 0 [] rfl ⟨rfl,.inl ⟨rfl,rfl⟩⟩ ⟨w.heap.size,0,none⟩ 1 1 [.pointer (some ⟨p,0,none⟩)] rfl rfl (fun j u hj=>by have h:=D4 w [.pointer (some ⟨p,0,none⟩)] 115 j u hj;(try rw[hsV]at h);exact h) (fun u hu=>by simp at hu;subst hu;rfl) (by unfold maxLen;omega) (by omega) a.out.size ?_;intro C m b c _;obtain⟨x,y,o⟩:=Aq b;subst o;have l:Hid (Below w.heap.size w m):=(⟨c.os.trans a.out.os,c.tape.trans a.out.tape,c.output.trans a.out.output,Nat.le_trans a.out.size c.size,fun k hk=>(c.block k (Nat.lt_of_lt_of_le hk a.out.size) (by simp[Value.ownBlock])).trans (a.out.block k hk)⟩:Below w.heap.size w m);have A:m.cell? ⟨g,k,none⟩=some (.slice none 0 0):=(by rw[l.out.cell (p:=⟨g,k,none⟩) d];exact hg);have B:m.frozen? ⟨g,k,none⟩=false:=(by rw[l.out.frozen (p:=⟨g,k,none⟩) d];exact hf))))
 all_goals
  have t:Hid (m.ownsRow w.heap.size 115 1 (.slice x 1 y) 1 [.pointer (some ⟨p,0,none⟩)]):=b
  clear b c
  go_wp2_with fail
  exact bodyPost_ret (v:=.tuple #[]) (by simp[results,Tryz.results89,go_sem]) rfl ⟨_,_,_,rfl,rfl,t.out,l.out⟩
theorem Aa {w:World} {g:Nat} {arr:Array Value} {t:TypeId} (h:w.heap[g]? = some (.cells arr t)) (k:Nat) (v:Value) (hk:arr[k]? = some v):w.cell? ⟨g,k,none⟩=some v/\w.frozen? ⟨g,k,none⟩=false:=⟨by rw[Lib.cell_of_heap h];exact hk,by simp[World.frozen?,h]⟩
theorem T8 (g:Nat) (w:World) (h1:w.cell? ⟨g,1,none⟩=some (.int .i64 0)) (h2:w.frozen? ⟨g,1,none⟩=false) :
  Calls Tryz.prog 88 #[.pointer (some ⟨g,0,none⟩)] w fun e w'=>e = .returned (.pointer none)/\w'=w.setCell ⟨g,1,none⟩ (.int .i64 1):=by
 go_enter Tryz.func88,Tryz.ntmps88
 go_wp2_with fail
 go_ret
 exact⟨rfl,rfl⟩
theorem Qdp (ns i j:Nat) (hi:i < ns) (hj:j < 3):(madeCells (Value.agg #[.int .i64 0,.int .i64 0,.string ByteArray.empty]).cells (ns * 3))[i * 3+j]? = (Fq ⟨0,0,⟨#[]⟩⟩)[j]?:=by
 have b:i * 3+j < ns * 3:=by omega
 have c:(i * 3+j) % 3=j:=by omega
 have d:(Value.agg #[.int .i64 0,.int .i64 0,.string ByteArray.empty]).cells = #[Value.int .i64 0,.int .i64 0,.string ByteArray.empty]:=rfl
 rw[d]
 unfold madeCells
 simp only[Array.getElem?_map,List.size_toArray,List.length_cons,List.length_nil]
 rw[Array.getElem?_eq_getElem (by simpa using b)]
 simp only[Array.getElem_range,Option.map_some,c]
 have a:j=0\/j=1\/j=2:=by omega
 rcases a with rfl|rfl|rfl <;> rfl
def B3 (n:Nat):List Fu:=List.replicate n ⟨0,0,⟨#[]⟩⟩
theorem Qaq (g gc cc h nf cf ns fn:Nat) (o l f s av kd nm hd:Value) (w:World) (hns:ns<=1000) (hfn:fn < nf)
  (hM:w.heap[g]? = some (.cells #[o,.int .i64 0,l,f,s,.slice (some ⟨gc,0,none⟩) 1 cc,av,.slice none 0 0,kd,nm,hd,.pointer none] 77))
  (hgc:w.cell? ⟨gc,0,none⟩=some (.slice (some ⟨h,0,none⟩) nf cf)) (hsl:w.cell? ⟨h,fn * 5+3,none⟩=some (.int .i64 (ns:Int))) (n1:gc≠g) (n2:h≠g) :
  Calls Tryz.prog 53 #[.pointer (some ⟨g,0,none⟩),.int .i64 0,.int .i64 (fn:Int),.slice none 0 0] w fun e w' => ∃ fa fc gf sg,e = .returned (.pointer none)/\w'.heap[g]? = some (.cells #[o,.int .i64 1,l,f,s,.slice (some ⟨gc,0,none⟩) 1 cc,av,.slice fa 1 fc,kd,nm,hd,.pointer none] 77)/\w'.ownsRow w.heap.size 115 1 (.slice fa 1 fc) 1 [.pointer (some ⟨gf,0,none⟩)]/\w'.heap[gf]? = some (.cells #[.int .i64 0,.int .i64 (fn:Int),.int .i64 0,.slice (some ⟨sg,0,none⟩) ns ns,.slice none 0 0] 152)/\sg < w'.heap.size/\(∀ i (hi:i < (B3 ns).length) j,j < 3->w'.cell? ⟨sg,i * 3+j,none⟩=(Fq (B3 ns)[i])[j]?)/\Au (fun k=>k=g) w w':=by
 have H:=Ls (P:=Tryz.prog) Jj Tryz.underlying54 ns (by omega) (by omega)
 obtain⟨I,t⟩:∃ m,madeCells (Value.agg #[.int .i64 0,.int .i64 0,.string ByteArray.empty]).cells (ns * 3)=m:=⟨_,rfl⟩
 rw[t]at H
 have O:=Aa hM 1 (.int .i64 0) rfl
 have r:=A6 (i:=1) (v:=.int .i64 1) hM
 obtain⟨b,a⟩:∃ b,w.setCell ⟨g,1,none⟩ (.int .i64 1)=b:=⟨_,rfl⟩
 rw[a]at r
 have d:Hid (b.heap[g]? = some (.cells #[o,.int .i64 1,l,f,s,.slice (some ⟨gc,0,none⟩) 1 cc,av,.slice none 0 0,kd,nm,hd,.pointer none] 77)):=r
 have A:b.heap.size=w.heap.size:=by rw[<- a];simp[World.setCell]
 have y5:=(Aa d.out 5 _ rfl).1
 have aa:b.cell? ⟨gc,0,none⟩=some (.slice (some ⟨h,0,none⟩) nf cf):=by rw[<- a,World.cell?_setCell_far _ _ _ _ (by simpa using n1.symm)];exact hgc
 have ab:b.cell? ⟨h,fn * 5+3,none⟩=some (.int .i64 (ns:Int)):=by rw[<- a,World.cell?_setCell_far _ _ _ _ (by simpa using n2.symm)];exact hsl
 have M:(fn:Int) < (nf:Int):=by omega
 have B:Hid (Au (fun k=>k=g) w b):=by rw[Hid,<- a];exact Au.set w g 1 _ rfl
 clear r hM hgc hsl
 have R:∀ W:World,(Builtin.copy_ #[54,54] 3 #[.slice (some ⟨w.heap.size,0,none⟩) ns ns,.slice none 0 0]).run Tryz.prog W = .ok (goInt 0) W:=fun W=>run_copy_nil (P:=Tryz.prog) W 54 54 3 99 ⟨w.heap.size,0,none⟩ ns ns Tryz.underlying54 (by kernel_rfl)
 obtain⟨F,q⟩:∃ V,b.alloc (.cells I 99)=V:=⟨_,rfl⟩
 have p:F.heap.size=w.heap.size+1:=by rw[<- q,World.size_alloc,A]
 obtain⟨x,n⟩:∃ V,F.alloc (.cells #[.int .i64 0,.int .i64 (fn:Int),.int .i64 0,.slice (some ⟨w.heap.size,0,none⟩) ns ns,.slice none 0 0] 152)=V:=⟨_,rfl⟩
 have N:x.heap.size=w.heap.size+1+1:=by rw[<- n,World.size_alloc,p]
 have y:Hid (Below b.heap.size b x):=by rw[Hid,<- n,<- q];exact(Di b _).alloc (by simp) _
 have z:Hid (x.heap[g]? = some (.cells #[o,.int .i64 1,l,f,s,.slice (some ⟨gc,0,none⟩) 1 cc,av,.slice none 0 0,kd,nm,hd,.pointer none] 77)):=(y.out.block g (Array.getElem?_eq_some_iff.1 d.out).1).trans d.out
 have E:Hid (x.heap[w.heap.size]? = some (.cells I 99)):=by rw[Hid,<- n];exact Am _ (by rw[<- q,<- A];exact(MapKept.heap_alloc b _).1)
 have D:Hid (x.heap[w.heap.size+1]? = some (.cells #[.int .i64 0,.int .i64 (fn:Int),.int .i64 0,.slice (some ⟨w.heap.size,0,none⟩) ns ns,.slice none 0 0] 152)):=by rw[Hid,<- n,<- p];exact(MapKept.heap_alloc F _).1
 have Q:=Aa z.out 7 _ rfl
 have S:g < w.heap.size:=by have:=(Array.getElem?_eq_some_iff.1 d.out).1;omega
 have C:Hid (∀ i (hi:i < (B3 ns).length) j,j < 3->I[i * 3+j]? = (Fq (B3 ns)[i])[j]?):=fun i hi j hj=>by
  have G:i < ns:=by simpa[B3]using hi
  rw[<- t]
  rw[Qdp ns i j G hj];simp[B3]
 clear t
 go_enter Tryz.func53,Tryz.ntmps53
 go_wp2_with (first
  | (go_at_call 88;refine(T8 g w O.1 O.2).mono ?_;rintro e wx ⟨rfl,rfl⟩;rw[a])
  | (go_at_call 89;refine(Qcz g 7 (w.heap.size+1) x Q.1 Q.2).mono ?_;rintro e wx ⟨K,L,J,rfl,rfl,u,c⟩))
 go_ret
 have U:=c.size
 have X:=(c.block g (by omega)).trans z.out
 have Y:=(c.block w.heap.size (by omega)).trans E.out
 have Z:=(c.block (w.heap.size+1) (by omega)).trans D.out
 have T:(J.setCell ⟨g,7,none⟩ (.slice K 1 L)).heap.size=J.heap.size:=by simp[World.setCell]
 refine⟨K,L,w.heap.size+1,w.heap.size,rfl,by rw[A6 X];rfl,Bc (Ah u (fun k _ h1 _=>A7 (by omega))) (by omega),by rw[A7 (by omega)];exact Z,by omega,fun i hi j hj => ?_, ?_⟩
 ·rw[Lib.cell_of_heap (by rw[A7 (by omega)];exact Y)]
  exact C.out i hi j hj
 ·exact(B.out.trans (Au.of_below (y.out.trans (c.mono (by omega))))).trans (Au.set _ g 7 _ rfl)
theorem Gi {w w':World} {g:Nat} (h:w'.heap[g]? = w.heap[g]?) (k:Nat):w'.cell? ⟨g,k,none⟩=w.cell? ⟨g,k,none⟩:=by simp[World.cell?,h]
theorem Wi {ty:TypeId} {g k:Nat} {x:Value} {w w':World} {e:Ending} (h:L2 ty g k x w e w') (hg:g < w.heap.size):∃ a c,e = .returned (.tuple #[])/\w'.ownsRow w.heap.size ty 1 (.slice a 1 c) 1 [x]/\Au (fun j=>j=g) w w'/\(∀ arr t,w.heap[g]? = some (.cells arr t)->w'.heap[g]? = some (.cells (arr.setIfInBounds k (.slice a 1 c)) t)):=by
 obtain⟨a,c,W,d,rfl,f,b⟩:=h
 exact⟨a,c,d,Ah f (fun j _ h5 _=>A7 (by omega)),(Au.of_below b).trans (Au.set _ g k _ rfl),fun arr t h5=>A6 ((b.block g hg).trans h5)⟩
def T7 (g:Nat) (o l f s kd nm hd:Value) (fv:Value) (arg:ByteArray) (fn ns:Nat) (w:World) (e:Ending) (w':World):Prop :=
 ∃ gc cc ga ca fa fc gf sg,e = .returned (.pointer none)/\w'.heap[g]? = some (.cells #[o,.int .i64 1,l,f,s,.slice (some ⟨gc,0,none⟩) 1 cc,.slice (some ⟨ga,0,none⟩) 1 ca,.slice fa 1 fc,kd,nm,hd,.pointer none] 77)/\w'.cell? ⟨gc,0,none⟩=some fv/\w'.cell? ⟨ga,0,none⟩=some (.string arg)/\w'.ownsRow w.heap.size 115 1 (.slice fa 1 fc) 1 [.pointer (some ⟨gf,0,none⟩)]/\w'.heap[gf]? = some (.cells #[.int .i64 0,.int .i64 (fn:Int),.int .i64 0,.slice (some ⟨sg,0,none⟩) ns ns,.slice none 0 0] 152)/\sg < w'.heap.size/\(∀ i (hi:i < (B3 ns).length) j,j < 3->w'.cell? ⟨sg,i * 3+j,none⟩=(Fq (B3 ns)[i])[j]?)/\Au (fun k=>k=g) w w'
theorem Ya (B g:Nat) (c:List Ae) (ca:Option Addr) (cap:Nat) (arg:ByteArray) (fn ns:Nat) (o l f s kd nm hd:Value) (w:World) (hcl:c.length<=1048576) (hns:ns<=1000) (hfn:fn < c.length) (hnum:Eh c E0=(fn:Int)) (hslo:c[fn].slots=(ns:Int))
  (hM:w.heap[g]? = some (.cells #[o,.int .i64 0,l,f,s,.slice none 0 0,.slice none 0 0,.slice none 0 0,kd,nm,hd,.pointer none] 77)) (hB:B<=g) (hC:Ak B w (.slice ca c.length cap) c) :
  Calls Tryz.prog 28 #[.pointer (some ⟨g,0,none⟩),.agg #[.slice ca c.length cap],.string arg] w (T7 g o l f s kd nm hd (.slice ca c.length cap) arg fn ns w):=by
 have af:g < w.heap.size:=(Array.getElem?_eq_some_iff.1 hM).1
 have HC:Hid (∀ U,Below B w U->Ak B U (.slice ca c.length cap) c):=fun U hU=>hC.below hU
 obtain⟨h,ad,W⟩:∃ h,ca=some ⟨h,0,none⟩/\h < B/\w.cell? ⟨h,fn * 5+3,none⟩=some (.int .i64 (ns:Int)):=by
  obtain⟨a,cp,e,hh⟩:=hC
  injection e with Q e2 e3
  subst Q
  obtain⟨h,pv,iv,q1,q2,q3,-⟩:=hh fn hfn
  exact⟨h,q1,q2,by rw[q3 3 (by omega)];simp[Ig,hslo]⟩
 subst ad
 obtain⟨n,HN⟩:∃ n,Hid (c.length=n):=⟨_,(rfl:c.length=_)⟩
 have N:Hid (∀ U:World,B<=U.heap.size->Below B w U->Calls Tryz.prog 54 #[.slice (some ⟨h,0,none⟩) n cap,.string ⟨#[109,97,105,110]⟩] U fun e w'=>e = .returned (.int .i64 (fn:Int))/\Below U.heap.size U w'):=fun U Y Z=>by
  have:=Kw c (some ⟨h,0,none⟩) cap E0 hcl B U Y (hC.below Z)
  rw[hnum,HN.out]at this
  exact this
 rw[HN.out]at hfn |-
 have HM:Hid (w.heap[g]? = some (.cells #[o,.int .i64 0,l,f,s,.slice none 0 0,.slice none 0 0,.slice none 0 0,kd,nm,hd,.pointer none] 77)):=hM
 clear hM hC HC
 obtain⟨V,hV⟩:∃ V,w.alloc (.cells #[.slice (some ⟨h,0,none⟩) n cap] 38)=V:=⟨_,rfl⟩
 have ao:V.heap.size=w.heap.size+1:=by rw[<- hV];simp
 have D:Hid (Below w.heap.size w V):=by rw[Hid,<- hV];exact Di w _
 have J:Hid (V.heap[w.heap.size]? = some (.cells #[.slice (some ⟨h,0,none⟩) n cap] 38)):=by rw[Hid,<- hV];exact(MapKept.heap_alloc w _).1
 have F:=(D.out.block g af).trans HM.out
 have v0:=(De J.out).1
 have al:V.drew.cell? ⟨w.heap.size,0,none⟩=some (.slice (some ⟨h,0,none⟩) n cap):=v0
 go_enter Tryz.func28,Tryz.ntmps28
 have x5:=Aa (w:=V.drew) F 5 (.slice none 0 0) rfl
 go_wp2_with fail
 go_region_with (go_at_call 51;refine(Qb1 g 5 (some ⟨h,0,none⟩) n cap V.drew x5.1 x5.2).mono ?_;rintro e G Y;obtain⟨a1,P,rfl,t,j,R⟩:=Wi Y (by show g < V.heap.size;omega))
 clear Y v0 al x5
 obtain⟨i,Q,e2⟩:=Ck t (by omega)
 subst Q
 have T:=(A3 t e2).1
 have am:V.heap.size<=i:=T.1
 have ac:Hid (G.cell? ⟨i,0,none⟩=some (.slice (some ⟨h,0,none⟩) n cap)):=Bp t e2 0 _ rfl
 have L:Hid (G.heap[g]? = some (.cells #[o,.int .i64 0,l,f,s,.slice (some ⟨i,0,none⟩) 1 P,.slice none 0 0,.slice none 0 0,kd,nm,hd,.pointer none] 77)):=R _ _ F
 have aa:Hid (Au (fun k=>k=g) V G):=⟨j.os,j.tape,j.output,j.size,j.keep⟩
 have ap:V.heap.size<=G.heap.size:=j.size
 clear t j R F
 have x6:=Aa L.out 6 (.slice none 0 0) rfl
 go_wp2_with (first|(go_at_call 52;refine(Qc0 g 6 arg G x6.1 x6.2).mono ?_;rintro e b Z;obtain⟨a2,X,rfl,u,q,S⟩:=Wi Z (by omega)))
 clear Z x6
 obtain⟨y,Q,e3⟩:=Ck u (by omega)
 subst Q
 have ae:=(A3 u e3).1
 have ab:Hid (b.cell? ⟨y,0,none⟩=some (.string arg)):=Bp u e3 0 _ rfl
 have E:Hid (b.heap[g]? = some (.cells #[o,.int .i64 0,l,f,s,.slice (some ⟨i,0,none⟩) 1 P,.slice (some ⟨y,0,none⟩) 1 X,.slice none 0 0,kd,nm,hd,.pointer none] 77)):=S _ _ L.out
 have d:Hid (Au (fun k=>k=g) V b):=aa.out.trans q
 have I:Hid (b.cell? ⟨i,0,none⟩=some (.slice (some ⟨h,0,none⟩) n cap)):=(Gi (q.keep i T.2 (by show i≠g;omega)) 0).trans ac.out
 have aq:G.heap.size<=b.heap.size:=q.size
 have K:Hid (b.heap[w.heap.size]? = some (.cells #[.slice (some ⟨h,0,none⟩) n cap] 38)):=(d.out.keep w.heap.size (by omega) (by show w.heap.size≠g;omega)).trans J.out
 have A:Hid (Below B w b):=(D.out.mono (by omega)).trans ⟨d.out.os,d.out.tape,d.out.output,d.out.size,fun k hk=>d.out.keep k (by omega) (by show k≠g;omega)⟩
 have x:Hid (b.cell? ⟨h,fn * 5+3,none⟩=some (.int .i64 (ns:Int))):=by rw[Hid,A.out.cell (p:=⟨h,fn * 5+3,none⟩) W.1];exact W.2
 clear u q S
 have y5:=(Aa (w:=b.drew) E.out 5 _ rfl).1
 have yi:=(De (w:=b.drew) K.out).1
 have an:(1:Int) - 1=0:=rfl
 go_region_with (first
  | (go_at_call 54;refine(N.out b.drew (by have:=A.out.size;have e:b.drew.heap.size=b.heap.size:=rfl;omega) A.out.drew).mono ?_;rintro e H ⟨rfl,z⟩;have m:Below b.heap.size b H:=(Below.refl b.heap.size b).drew.trans (z.mono (Nat.le_refl _));have C:Hid (Below b.heap.size b H):=m;have M:Hid (H.heap[g]? = some (.cells #[o,.int .i64 0,l,f,s,.slice (some ⟨i,0,none⟩) 1 P,.slice (some ⟨y,0,none⟩) 1 X,.slice none 0 0,kd,nm,hd,.pointer none] 77)):=(m.block g (Array.getElem?_eq_some_iff.1 E.out).1).trans E.out;have z5:=(Aa M.out 5 _ rfl).1;have v:Hid (H.cell? ⟨i,0,none⟩=some (.slice (some ⟨h,0,none⟩) n cap)):=(m.cell (p:=⟨i,0,none⟩) (by show i < _;omega)).trans I.out;have O:Hid (H.cell? ⟨h,fn * 5+3,none⟩=some (.int .i64 (ns:Int))):=(m.cell (p:=⟨h,fn * 5+3,none⟩) (Bv x.out)).trans x.out;clear z)
  | (go_at_call 53;refine(Qaq g i P h n cap ns fn o l f s (.slice (some ⟨y,0,none⟩) 1 X) kd nm hd H hns hfn M.out v.out O.out (by omega) (by omega)).mono ?_;rintro e w4 ⟨fa,fc,gf,sg,rfl,ag,ai,ah,aj,ak,r⟩))
 all_goals
  go_wp2_with fail
  go_ret
  have au:=r.size
  have ar:=C.out.size
  refine⟨i,P,y,X,fa,fc,gf,sg,rfl,ag, ?_, ?_,Bc ai (by omega),ah,aj,ak, ?_⟩
  ·exact(Gi (r.keep i (by omega) (by show i≠g;omega)) 0).trans v.out
  ·exact(Gi (r.keep y (by omega) (by show y≠g;omega)) 0).trans ((C.out.cell (p:=⟨y,0,none⟩) ae.2).trans ab.out)
  ·exact(((Au.of_below D.out).trans d.out).trans (Au.of_below C.out)).trans r
end Go.Proofs.YtfjkahdghhbpnaaGreatDoor
