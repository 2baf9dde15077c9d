import Derived.Test.YtjlaedokfbcbpaaGreatDoorKTkN
set_option maxRecDepth 100000
set_option maxHeartbeats 8000000
namespace Go.Proofs.YtjlaedokfbcbpaaGreatDoor
open Go.RowKit Proofs.Tryz
theorem Tk.nd_app (l r:List Ae):Ap (l++r)=Ap l++Ap r:=by rw[Ap,List.flatMap_append];rfl
theorem Tk.add_at (g i j:Nat):((OK g i):Addr).add j=(OK g (i+j)):=by unfold Addr.add;split <;> simp_all
theorem Tk.src_cut {A K n c g i m:Nat} {W:World} (h:As A W (.slice (some (OK g 0)) n c) K) (him:i+m<=n):∃ l:List Ae,l.length=m/\(∀ d ∈ l,Fi d)/\Jn W (some (OK g (i * 6))) m (Ap l):=by
 obtain⟨l,r,o,a⟩:=h;obtain⟨q,c4,k⟩:=B3 a;injection k with e41 e42 e43;subst e42;refine⟨(l.drop i).take m,by rw[List.length_take,List.length_drop];omega,fun d hd=>o d (List.mem_of_mem_drop (List.mem_of_mem_take hd)),fun _=>⟨_,rfl,fun j u hu => ?_⟩⟩;have b:l=l.take i++((l.drop i).take m++(l.drop i).drop m):=by rw[List.take_append_drop,List.take_append_drop]
 have f:(Ap l)[i * 6+j]? = some u:=by
  rw[b,Tk.nd_app,Tk.nd_app,List.getElem?_append_right (by rw[Jo,List.length_take];omega),Jo,List.length_take,Nat.min_eq_left OC,Nat.add_sub_cancel_left];have p:j < (Ap ((l.drop i).take m)).length:=(List.getElem?_eq_some_iff.1 hu).1;rw[List.getElem?_append_left p,hu]
 rw[Tk.add_at];exact G7 a rfl _ _ f
theorem Tk.step_nodes {V:World} {ops:Array Oper} {o:Oper} {a:Act} {K:Act->World->Prop} {Q:Exit->Act->World->Prop} {E:Prop} (hgd:o.guard=none) (s x:Operand)
  (ho:o.op = .call { callee:=.builtin .append,args := #[s,x],argTypes := #[23,23] }) {A1 K1 dn dc sn sc:Nat} {da sa:Option Addr} (h1:As A1 V (.slice da dn dc) K1) {l2:List Ae} (hl2:l2.length=sn) (q2:∀ d ∈ l2,Fi d) (hsrc:Jn V sa sn (Ap l2)) (hA:A1<=V.heap.size) (hK:K1+sn<=1000000000)
  (hs:a.eval s = .slice da dn dc) (hx:a.eval x = .slice sa sn sc)
  (h:∀ a' n' c' w',As A1 w' (.slice a' n' c') (K1+sn)->(∀ U:World,U.heap.size<=A1->Below U.heap.size U V->Below U.heap.size U w')->K (a.put o.dst (.slice a' n' c')) w') :
  if Region.wanted o (yielded ops a.tmps)=true then Oper.wp prog o a V K Q else E:=by
 have i:Region.wanted o (yielded ops a.tmps)=true:=by simp[Region.wanted,hgd]
 rw[if_pos i];obtain⟨v,g,j,l,m⟩:=info_parts K0;obtain⟨z,D,A,n⟩:=h1;obtain⟨C,c4,r⟩:=B3 n;injection r with e41 e42 e43;subst e41;subst e42;subst e43;subst hl2;obtain⟨F,B,u,c,b⟩:=Io (P:=prog) (w:=V) A1 23 o.type 62 v (.agg #[.int .i64 0,.int .i64 0,.int .i64 0,.int .i64 0,.string ⟨#[]⟩,.int .i64 0]) 6 56 underlying23 g j l m rfl OD _ _ _ n sa l2.length sc (Ap l2) (Jo l2) hsrc (Le l2) OI OC hA;obtain⟨p,q,t⟩:=B3 c;subst t;unfold Oper.wp execOp;simp only[ho,resolve,invoke,builtin,Sem.run_bind,Sem.run_pure,Result.andThen_ok,List.map_toArray,List.map_cons,List.map_nil,hs,hx,u];refine h p _ q B ⟨z++l2, ?_, ?_, ?_⟩ (fun U hU hb => ?_)
 ·rw[List.length_append];omega
 ·intro y f;rcases List.mem_append.1 f with f|f
  ·exact A y f
  ·exact q2 y f
 ·rw[List.length_append,Tk.nd_app];exact c
 ·refine⟨b.os.trans hb.os,b.tape.trans hb.tape,b.output.trans hb.output,Nat.le_trans hb.size b.size,fun k hk=>(b.block k (Nat.lt_of_lt_of_le hk hb.size) (fun e => ?_)).trans (hb.block k hk)⟩;have:=(A8 n e.symm).1.1;omega
theorem Tk.Sp.fin12 {R P:Nat} {w0 w W Z:World} {b4 b5 b8 g n c n' c':Nat} {a:Option Addr} (h:Tk.Sp R P w0 w W b4 b5 b8 g n c) (hb:Below W.heap.size W Z) (hr:As W.heap.size Z (.slice a n' c') 300000000):Tk.WPost R P 300000000 w0 w (.returned (.agg #[.slice a n' c'])) ((Z.setCell (OK b5 0) (.slice a n' c')).setCell (OK b4 0) (.slice a n' c')):=by
 have d:=h.below hb;obtain⟨f,j⟩:=Tk.set_frame (i:=0) (v:=.slice a n' c') d.dw d.fw h.lo.2.1 h.rd;obtain⟨m,o⟩:=Tk.set_frame (i:=0) (v:=.slice a n' c') f j h.lo.1 h.rd;have s:b4 < W.heap.size:=(Array.getElem?_eq_some_iff.1 h.res).1;have t:b5 < W.heap.size:=(Array.getElem?_eq_some_iff.1 h.out).1;obtain⟨l,p,q,b⟩:=hr;have r:(Z.setCell (OK b5 0) (.slice a n' c')).ownsRow w.heap.size 62 6 (.slice a n' c') l.length (Ap l):=B1 (G0 b h.fw.size) (fun k hk _ _=>by
  have:=(A8 b hk).1.1
  exact Bd OC)
 exact⟨_,_,_,rfl,⟨l,p,q,B1 r (fun k hk _ _=>by
  have:=(A8 b hk).1.1
  exact Bd OC)⟩,m,o⟩
theorem DdTkN12x69 {P:Prop} (h:P:=by
 try simp[Act.put]
 refine Tr 11 rfl fun KK hK=>?_
 obtain⟨l2,L,O,M⟩:=Tk.src_cut (i:=k+1) (m:=n - (k+1)) (b.out.below j).row OC
 refine Tk.step_nodes rfl (.tmp 339) (.tmp 344) rfl (A1:=c.heap.size) (K1:=0+k) B L O (fun h0=>by rw[<- N,if_neg OC];exact M h0) j.size OC rfl rfl ?_
 intro x A z U F H
 have o:Below c.heap.size c U:=H c ON j
 obtain⟨p6,q6,f6,f7,_,_⟩:=(b.out.below o).cells
 obtain⟨Y,I⟩:∃ Y,U.setCell (OK y 0) (.slice x A z)=Y:=⟨_,rfl⟩
 have W:Hid (Tk.WPost R (P+5) 300000000 w0 w (.returned (.agg #[.slice x A z])) (Y.setCell (OK C 0) (.slice x A z))):=(by rw[<- I];exact(b.out.mono OC).fin12 o (F.mono ON OC))
 have u:Y.heap[C]? = some (.cells #[.slice none 0 0] 25):=(by rw[<- I];exact(Bd b.out.ne1).trans (b.out.below o).res)
 have D:Y.heap[y]? = some (.cells #[.slice x A z] 25):=(by rw[<- I];exact Tk.heap_set (b.out.below o).out)
 have y4:Y.cell? (OK C 0)=some (.slice none 0 0):=(by rw[Lib.cell_of_heap u];rfl)
 have y5:Y.cell? (OK y 0)=some (.slice x A z):=(by rw[Lib.cell_of_heap D];rfl)
 have yf:Y.frozen? (OK C 0)=false:=(by simp[World.frozen?,u])
 clear u D
 refine hK.out _ _ (trivial) fun _=>?_
 clear hK
 try simp[Act.put]
 refine Tk 12 (.pointer (some (OK y 0))) ?_
 try simp[Act.put]
 refine Tr 13 rfl fun KK hK=>?_
 go_simp
 refine hK.out _ _ (trivial) fun _=>?_
 clear hK
 try simp[Act.put]
 refine wpAnyH_done OE ?_ _
 go_wp2_with fail
 exact bodyPost_ret (v:=.agg #[.slice x A z]) (by simp[results,results28,go_sem,y4]) rfl W.out
 ):P:=h
theorem DeTkN12x87 {P:Prop} (h:P:=by
 refine Tk.step_nodes rfl (.tmp 334) (.tmp 338) rfl (A1:=c.heap.size) (K1:=0) T p r (by simpa using q) d.size OC rfl rfl ?_
 intro X n5 c5 G B t
 have j:Below c.heap.size c G:=t c ON d
 obtain⟨p5,_,_,_,_,_⟩:=(b.out.below j).cells
 refine hK.out _ _ (trivial) fun _=>?_
 clear hK
 try simp[Act.put]
 refine Tr 7 rfl fun KK hK=>?_
 go_simp
 refine hK.out _ _ (trivial) fun _=>?_
 clear hK
 try simp[Act.put]
 refine wpAnyH_take (i:=10) (v:=.slice s (n - (k+1)) (f - (k+1))) rfl OE OE OE (fun _ _ _ h=>h) (Or.inl ⟨by rfl,by intro w hSw;go_simp;intro l;have:=l OC;omega⟩) OG ?_
 exact DdTkN12x69
 ):P:=h
theorem DeTkN12x107 {P:Prop} (h:P:=by
 try simp[Act.put]
 refine Tr 5 rfl fun KK hK=>?_
 obtain⟨V,p,r,q⟩:=Tk.src_cut (i:=0) (m:=k) (b.out.below d).row OC
 refine Tk.step_nodes rfl (.tmp 334) (.tmp 338) rfl (A1:=c.heap.size) (K1:=0) T p r (by simpa using q) d.size OC rfl rfl ?_
 intro X n5 c5 G B t
 have j:Below c.heap.size c G:=t c ON d
 obtain⟨p5,_,_,_,_,_⟩:=(b.out.below j).cells
 refine hK.out _ _ (trivial) fun _=>?_
 clear hK
 exact DdTkN12x69
 ):P:=h
theorem Tk.spoil_12 : Tk.Case 12:=by
 intro R P C y b8 g n f k w0 w c K b _hP ad Z _hK;intros;have E:¬ ((n:Int)=0):=OC
 have ab:((n:Int) == 0)=false:=by simpa using E
 have af:C < c.heap.size:=(Array.getElem?_eq_some_iff.1 b.out.res).1;have ac:n<=f:=Tk.Row_cap b.out.row;have aa:k<=f:=OC
 have Q:wrap64 ((k:Int)+1)=(k:Int)+1:=IntWalk.wrap64_in _ OC;have ae:IntKind.i64.wrap ((k:Int)+1)=(k:Int)+1:=(IntWalk.i64_left _).trans Q;have J:Below c.heap.size c c.drew:=(OO _).drew;have d:Below c.heap.size c (c.alloc (.cells #[] 62)).drew:=(Tk.up1 c _).drew;obtain⟨s,N⟩:∃ s,(if f=k+1 then some ((OK g 0):Addr) else some (OK g ((k+1) * 6)))=s:=⟨_,rfl⟩;have T:As c.heap.size (c.alloc (.cells #[] 62)).drew (.slice (some (OK c.heap.size 0)) 0 0) 0:=Tk.Row_below (Tk.empty_row c) (OO _).drew;obtain⟨p4,_,_,_,_,_⟩:=b.out.cells;obtain⟨pD,_,_,_,_,_⟩:=(b.out.below J).cells;obtain⟨pA,_,_,_,_,_⟩:=(b.out.below d).cells;conv at _hK=>enter [a,w'];arg 1;arg 2;whnf
 conv=>arg 2;whnf
 go_wp2_with fail;refine wp_region_held_drew (S:=(fun _=>True)) OE (trivial) fun _=>?_
 refine Tk 1 (.pointer (some (OK y 0))) ?_;refine Tk 3 (.int .i64 (k:Int)) ?_;refine Tk 6 (.pointer (some (OK y 0))) ?_;(try simp[Act.put]);refine Tk 8 (.int .i64 (k:Int)) ?_;refine Tk 9 (.int .i64 ((k:Int)+1)) ?_;(try simp[Act.put]);refine wpAnyH_ready (rs:=[0,2,7]) OE OF ?_;refine AllReadyH.cons rfl (fun KK hK => ?_) (AllReadyH.cons rfl (fun KK hK => ?_) (AllReadyH.cons rfl (fun KK hK => ?_) AllReadyH.nil))
 ·go_simp;refine hK.out _ _ (trivial) fun _=>?_
  clear hK;(try simp[Act.put]);refine wpAnyH_ready (rs:=[2,7]) OE OF ?_;refine AllReadyH.cons rfl (fun KK hK => ?_) (AllReadyH.cons rfl (fun KK hK => ?_) AllReadyH.nil)
  ·go_simp;refine hK.out _ _ (trivial) fun _=>?_
   clear hK;(try simp[Act.put]);refine Tk 4 (.slice (some (OK g 0)) k f) ?_;(try simp[Act.put]);refine wpAnyH_ready (rs:=[5,7]) OE OF ?_;refine AllReadyH.cons rfl (fun KK hK => ?_) (AllReadyH.cons rfl (fun KK hK => ?_) AllReadyH.nil)
   ·obtain⟨V,p,r,q⟩:=Tk.src_cut (i:=0) (m:=k) (b.out.below d).row OC;exact DeTkN12x87
   ·go_simp;refine hK.out _ _ (trivial) fun _=>?_
    clear hK;(try simp[Act.put]);refine wpAnyH_take (i:=10) (v:=.slice s (n - (k+1)) (f - (k+1))) rfl OE OE OE (fun _ _ _ h=>h) (Or.inl ⟨by rfl,by intro w hSw;go_simp;intro l;have:=l OC;omega⟩) OG ?_;exact DeTkN12x107
  ·go_simp;refine hK.out _ _ (trivial) fun _=>?_
   clear hK;(try simp[Act.put]);refine wpAnyH_take (i:=10) (v:=.slice s (n - (k+1)) (f - (k+1))) rfl OE OE OE (fun _ _ _ h=>h) (Or.inl ⟨by rfl,by intro w hSw;go_simp;intro l;have:=l OC;omega⟩) OG ?_;(try simp[Act.put]);refine Tr 2 rfl fun KK hK=>?_
   go_simp;refine hK.out _ _ (trivial) fun _=>?_
   clear hK;(try simp[Act.put]);refine Tk 4 (.slice (some (OK g 0)) k f) ?_;exact DeTkN12x107
 ·go_simp;refine hK.out _ _ (trivial) fun _=>?_
  clear hK;(try simp[Act.put]);refine Tk 4 (.slice (some (OK g 0)) k f) ?_;(try simp[Act.put]);refine wpAnyH_ready (rs:=[0,7]) OE OF ?_;refine AllReadyH.cons rfl (fun KK hK => ?_) (AllReadyH.cons rfl (fun KK hK => ?_) AllReadyH.nil)
  ·go_simp;refine hK.out _ _ (trivial) fun _=>?_
   clear hK;(try simp[Act.put]);refine wpAnyH_ready (rs:=[5,7]) OE OF ?_;refine AllReadyH.cons rfl (fun KK hK => ?_) (AllReadyH.cons rfl (fun KK hK => ?_) AllReadyH.nil)
   ·obtain⟨V,p,r,q⟩:=Tk.src_cut (i:=0) (m:=k) (b.out.below d).row OC;exact DeTkN12x87
   ·go_simp;refine hK.out _ _ (trivial) fun _=>?_
    clear hK;(try simp[Act.put]);refine wpAnyH_take (i:=10) (v:=.slice s (n - (k+1)) (f - (k+1))) rfl OE OE OE (fun _ _ _ h=>h) (Or.inl ⟨by rfl,by intro w hSw;go_simp;intro l;have:=l OC;omega⟩) OG ?_;exact DeTkN12x107
  ·go_simp;refine hK.out _ _ (trivial) fun _=>?_
   clear hK;(try simp[Act.put]);refine wpAnyH_take (i:=10) (v:=.slice s (n - (k+1)) (f - (k+1))) rfl OE OE OE (fun _ _ _ h=>h) (Or.inl ⟨by rfl,by intro w hSw;go_simp;intro l;have:=l OC;omega⟩) OG ?_;(try simp[Act.put]);refine Tr 0 rfl fun KK hK=>?_
   go_simp;refine hK.out _ _ (trivial) fun _=>?_
   clear hK;exact DeTkN12x107
 ·go_simp;refine hK.out _ _ (trivial) fun _=>?_
  clear hK;(try simp[Act.put]);refine wpAnyH_take (i:=10) (v:=.slice s (n - (k+1)) (f - (k+1))) rfl OE OE OE (fun _ _ _ h=>h) (Or.inl ⟨by rfl,by intro w hSw;go_simp;intro l;have:=l OC;omega⟩) OG ?_;(try simp[Act.put]);refine wpAnyH_ready (rs:=[0,2]) OE OF ?_;refine AllReadyH.cons rfl (fun KK hK => ?_) (AllReadyH.cons rfl (fun KK hK => ?_) AllReadyH.nil)
  ·go_simp;refine hK.out _ _ (trivial) fun _=>?_
   clear hK;(try simp[Act.put]);refine Tr 2 rfl fun KK hK=>?_
   go_simp;refine hK.out _ _ (trivial) fun _=>?_
   clear hK;(try simp[Act.put]);refine Tk 4 (.slice (some (OK g 0)) k f) ?_;exact DeTkN12x107
  ·go_simp;refine hK.out _ _ (trivial) fun _=>?_
   clear hK;(try simp[Act.put]);refine Tk 4 (.slice (some (OK g 0)) k f) ?_;(try simp[Act.put]);refine Tr 0 rfl fun KK hK=>?_
   go_simp;refine hK.out _ _ (trivial) fun _=>?_
   clear hK;exact DeTkN12x107
theorem DdTkN13x71 {P:Prop} (h:P:=by
 try simp[Act.put]
 refine Tr 7 rfl fun KK f=>?_
 go_simp
 refine f.out _ _ (I) fun _=>?_
 clear f
 try simp[Act.put]
 refine Tk 8 (.pointer (some (OK g (m * 6)))) ?_
 try simp[Act.put]
 refine Tk 9 (.pointer (some (OK g (m * 6+4)))) ?_
 try simp[Act.put]
 refine Tr 10 rfl fun KK f=>?_
 go_simp
 refine f.out _ _ (E) fun _=>?_
 clear f
 try simp[Act.put]
 refine wpAnyH_done OE ?_ _
 obtain⟨Y0,V⟩:∃ Y,J.setCell (OK g (m * 6+4)) (.string z)=Y:=⟨_,rfl⟩
 have N:Tk.Sp R (P+1+1+1+1) t w Y0 u s H g c o:=(by rw[<- V];exact q.out.setRow (i:=4) p OD (Tk.Fld.text r))
 obtain⟨p5,p6,p7,_,_,_⟩:=N.cells
 have y:Hid (Tk.WPost R (P+5) 300000000 t w (.returned (.agg #[.slice (some (OK g 0)) c o])) (Y0.setCell (OK u 0) (.slice (some (OK g 0)) c o))):=(N.mono OC).fin
 clear N
 go_wp2_with fail
 exact bodyPost_ret (v:=.agg #[.slice (some (OK g 0)) c o]) (by simp[results,results28,go_sem,p6]) rfl y.out
 ):P:=h
theorem Tk.spoil_13 : Tk.Case 13:=by
 intro R P u s H g c o k t w w4 K b hP am Z f;intros;have B:¬ ((c:Int)=0):=OC
 have al:((c:Int) == 0)=false:=by simpa using B
 have ap:u < w4.heap.size:=(Array.getElem?_eq_some_iff.1 b.out.res).1;conv at f=>enter [a,w'];arg 1;arg 2;whnf
 conv=>arg 2;whnf
 go_wp2_with fail;go_loopw [17] (fun ti wr => ∃ j:Int,(0<=j/\j<=(c:Int))/\ti = .int .i64 j/\wr=w4) (fun ti _=>((c:Int) - intOf ti).toNat);case atStart=>exact⟨0,by omega,rfl,rfl⟩
 case round =>
  obtain⟨j,hj,rfl,rfl⟩:=hrel;have an:wrap64 (j+1)=j+1:=IntWalk.wrap64_in _ OC;by_cases hlt:j < (c:Int)
  ·have ao:wrap64 ((k:Int)+j)=(k:Int)+j:=IntWalk.wrap64_in _ OC;obtain⟨m,ak,p⟩:∃ m:Nat,((k:Int)+j) % (c:Int)=(m:Int)/\m < c:=by obtain⟨m,h1,h2⟩:=Tk.mod_nat (show 0<=(k:Int)+j by omega) (show (0:Int) < (c:Int) by omega);exact⟨m,h1,by simpa using h2⟩
   obtain⟨o5,o6,o7,_,o9,d5,A,x0,x1,x2,x3,x4,x5⟩:=b.out.cells;clear o9 x0 x1 x2 x3 x4 x5;obtain⟨d6,aj,⟨z0,z1,z2,z3,z4,z5⟩,n⟩:=Tk.Row_cells b.out.row p;clear n;go_wp2_with fail;all_goals first|exact⟨⟨j+1,by omega,rfl,trivial⟩,by simp only[intOf];omega⟩|skip
   all_goals
    have T:D7 R (P+1+1+1) t wr.drew:=b.out.dw.below (OO _).drew;obtain⟨ac,_,_,_,_,_⟩:=(b.out.below (Tk.up1 wr (.cells #[.string ⟨#[102,48]⟩,.string ⟨#[102,49]⟩,.string ⟨#[109,97,105,110]⟩,.string ⟨#[111,116,104,101,114]⟩] 9))).cells;have Q:D7 R (P+1+1+1) t (wr.alloc (.cells #[.string ⟨#[102,48]⟩,.string ⟨#[102,49]⟩,.string ⟨#[109,97,105,110]⟩,.string ⟨#[111,116,104,101,114]⟩] 9)).drew:=b.out.dw.below (Tk.up1 wr _).drew;have aa:wr.drew.cell? (OK s 0)=some (.slice (some (OK g 0)) c o):=o5;have D:(wr.alloc (.cells #[.string ⟨#[102,48]⟩,.string ⟨#[102,49]⟩,.string ⟨#[109,97,105,110]⟩,.string ⟨#[111,116,104,101,114]⟩] 9)).drew.cell? (OK s 0)=some (.slice (some (OK g 0)) c o):=ac;refine wp_region_held_drew (S:=(fun W=>W.cell? (OK s 0)=some (.slice (some (OK g 0)) c o))) OE (aa) fun _=>?_
    refine Tk 0 (.pointer (some (OK s 0))) ?_;refine Tk 1 (.slice (some (OK g 0)) c o) ?_;refine Tk 2 (.int .i64 (m:Int)) ?_;(try simp[Act.put]);refine Tk 4 (.pointer (some (OK R 0))) ?_;(try simp[Act.put]);refine wpAnyH_ready (rs:=[3,5]) OE OF ?_;refine AllReadyH.cons rfl (fun KK f => ?_) (AllReadyH.cons rfl (fun KK f => ?_) AllReadyH.nil)
    ·go_simp;refine f.out _ _ (D) fun _=>?_
     clear f;(try simp[Act.put]);refine Tr 5 rfl fun KK f=>?_
     go_simp;go_at_call 26;refine(Kl 4 Q OC OD OD).mono ?_;rintro e J ⟨x,rfl,hx,l,d⟩;have G:Hid (Tk.Sp R (P+1+1+1+1) t w J u s H g c o):=b.out.draw l ((Ak.of_below (Tk.up1 wr _).drew).trans d);have q:=G;obtain⟨z,hz,r⟩:=Tk.tab_str (M:=100) (d.blk (U:=(wr.alloc (.cells #[.string ⟨#[102,48]⟩,.string ⟨#[102,49]⟩,.string ⟨#[109,97,105,110]⟩,.string ⟨#[111,116,104,101,114]⟩] 9)).drew) (World.alloc_heap_new wr (.cells #[.string ⟨#[102,48]⟩,.string ⟨#[102,49]⟩,.string ⟨#[109,97,105,110]⟩,.string ⟨#[111,116,104,101,114]⟩] 9)) OD) OD x (by have O:x < 4:=OC;simpa using O);obtain⟨d8,X,⟨_,_,_,_,y0,_⟩,n⟩:=Tk.Row_cells q.out.row p;have f5:=n (m * 6+4);obtain⟨I,_,_,_,_,_⟩:=q.out.cells;obtain⟨E,_,_,_,_,_⟩:=(q.out.setRow (i:=4) (v:=.string z) p OD (Tk.Fld.text r)).cells;clear n;clear l d;go_wp2;refine f.out _ _ (I) fun _=>?_
     clear f;(try simp[Act.put]);refine Tk 6 (.pointer (some (OK wr.heap.size x))) ?_;exact DdTkN13x71
    ·go_simp;go_at_call 26;refine(Kl 4 T OC OD OD).mono ?_;rintro e F ⟨x,rfl,hx,l,d⟩;have G:Hid (Tk.Sp R (P+1+1+1+1) t w F u s H g c o):=b.out.draw l ((Ak.of_below (OO _).drew).trans d);obtain⟨z,hz,r⟩:=Tk.tab_str (M:=100) (World.alloc_heap_new F (.cells #[.string ⟨#[102,48]⟩,.string ⟨#[102,49]⟩,.string ⟨#[109,97,105,110]⟩,.string ⟨#[111,116,104,101,114]⟩] 9)) OD x (by have O:x < 4:=OC;simpa using O);obtain⟨J,C⟩:∃ W,F.alloc (.cells #[.string ⟨#[102,48]⟩,.string ⟨#[102,49]⟩,.string ⟨#[109,97,105,110]⟩,.string ⟨#[111,116,104,101,114]⟩] 9)=W:=⟨_,rfl⟩;have q:Hid (Tk.Sp R (P+1+1+1+1) t w J u s H g c o):=(by rw[<- C];exact G.out.below (Tk.up1 F _));rw[C]at hz;obtain⟨ab,_,_,_,_,_⟩:=G.out.cells;obtain⟨d8,X,⟨_,_,_,_,y0,_⟩,n⟩:=Tk.Row_cells q.out.row p;have f5:=n (m * 6+4);obtain⟨I,_,_,_,_,_⟩:=q.out.cells;obtain⟨E,_,_,_,_,_⟩:=(q.out.setRow (i:=4) (v:=.string z) p OD (Tk.Fld.text r)).cells;clear n;clear l d;go_wp2;refine f.out _ _ (ab) fun _=>?_
     clear f;(try simp[Act.put]);refine Tr 3 rfl fun KK f=>?_
     go_simp;refine f.out _ _ (I) fun _=>?_
     clear f;(try simp[Act.put]);refine Tk 6 (.pointer (some (OK F.heap.size x))) ?_;exact DdTkN13x71
  ·obtain⟨o5,o6,o7,o8,o9,d5,A,x0,x1,x2,x3,x4,x5⟩:=b.out.cells;clear o9 o8;obtain⟨Y1,Y2,Y3,Y4,Y5,Y6,_,_,_,_,_,_,ad,ae,af,ag,ah,ai,z0,z1,z2,z3,z4,z5,g0,g1,g2,g3,g4,g5,q⟩:=b.out.six Z A;obtain⟨p5,p6,p7,_,_,_⟩:=q.cells;have L:Hid (Tk.WPost R (P+5) 300000000 t w (.returned (.agg #[.slice (some (OK g 0)) c o])) (Y6.setCell (OK u 0) (.slice (some (OK g 0)) c o))):=(q.mono OC).fin;clear q;go_wp2_with fail;exact bodyPost_ret (v:=.agg #[.slice (some (OK g 0)) c o]) (by simp[results,results28,go_sem,p6]) rfl L.out
end Go.Proofs.YtjlaedokfbcbpaaGreatDoor
