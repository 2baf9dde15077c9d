import Derived.Test.YtjlaedokfbcbpaaGreatDoorKTkF
set_option maxRecDepth 100000
set_option maxHeartbeats 8000000
namespace Go.Proofs.YtjlaedokfbcbpaaGreatDoor
open Go.RowKit Proofs.Tryz
theorem DeGenUx316 {P:Prop} (h:P:=by
 go_wp2
 refine hK.out _ _ (⟨x0,x1⟩) (fun hHeld => ?_)
 clear hK
 try simp[Act.put]
 refine Tk 9 (.slice H J I) ?_
 try simp[Act.put]
 refine Tk 10 (.int .i64 1) ?_
 try simp[Act.put]
 refine wpAnyH_done OE ?_ _
 go_wp2_with fail
 exact bodyPost_ret (v:=.tuple #[.slice H J I,.int .i64 _]) (by simp[results,results130,go_sem];try rfl) rfl ⟨H,J,I,_,_,_,_,_,rfl,by decide,y.mono OC OC,z.mono OC,r,p⟩
 ):P:=h
theorem DdGenUx12 {P:Prop} (h:P:=by
 have bb:Hid (F6 B g R 1):=L7 B g R 1
 have ad:Hid (F6 B g R 2):=L7 B g R 2
 have aa:Hid (F6 B g R 3):=L7 B g R 3
 have e1:Bm 1=500:=rfl
 have e2:Bm 2=2500:=rfl
 have e3:Bm 3=12500:=rfl
 have be:3 * Bm 1+1<=Bm 3:=OC
 have ae:Bm 2<=Bm 3:=OC
 have K:Bm 3<=300000000:=OC
 have bf:1+Bm 3<=1000000000:=OC
 have b0:P<=1000000000:=OC
 have b2:=h.bd.2.1
 have bh:=h.nbd.1
 have a9:g < w.heap.size:=(Array.getElem?_eq_some_iff.1 h.box).1
 obtain⟨na,nc,rfl⟩:=B3 h.names
 have h0:=h
 clear h
 obtain⟨q,HQ⟩:∃ q,Hid (D.length=q):=⟨_,(rfl:D.length=_)⟩
 rw[HQ.out]at h0 bh
 obtain⟨q1,bc⟩:∃ q,Hid (D.length+1=q):=⟨_,(rfl:D.length+1=_)⟩
 have g0:=h0.cells.1
 go_enter func130,ntmps130
 go_wp2_with (first
  | (go_at_call 26;refine(Ln h0 18 OD OD b0).mono ?_;rintro e L ⟨k,rfl,hk,f,c⟩;clear h0;have c0:=f.cells.1;have c1:=f.cells.2.1;have c4:=f.cells.2.2.2.2.1;have a8:=Nat.lt_of_lt_of_le a9 c.size;first|(guard_hyp a7:d<=0;rcases Qgf q Q hk with⟨rfl,j,U⟩|⟨rfl,j,U⟩|⟨rfl,j,U⟩|⟨rfl,j,m3⟩|⟨rfl,j,N⟩|⟨rfl,j,m3⟩|⟨rfl,j,N⟩|⟨rfl,j,m5⟩|⟨rfl,j,m5⟩|⟨rfl,j,X⟩|⟨rfl,j,X⟩|⟨rfl,j,Y⟩|⟨rfl,j,Y⟩|⟨rfl,j,Z⟩|⟨rfl,j,m3⟩|⟨rfl,j,N⟩|⟨rfl,j,m3⟩|⟨rfl,j,N⟩|⟨rfl,j,m5⟩|⟨rfl,j,m5⟩|⟨rfl,j,X⟩|⟨rfl,j,X⟩|⟨rfl,j,Y⟩|⟨rfl,j,Y⟩)|(rcases Qge q Q hk with⟨rfl,j,U⟩|⟨rfl,j,U⟩|⟨rfl,j,U⟩|⟨rfl,j,m3⟩|⟨rfl,j,N⟩|⟨rfl,j,m3⟩|⟨rfl,j,N⟩|⟨rfl,j,m5⟩|⟨rfl,j,m5⟩|⟨rfl,j,X⟩|⟨rfl,j,X⟩|⟨rfl,j,Y⟩|⟨rfl,j,Y⟩|⟨rfl,j,Z⟩|⟨rfl,j,ac⟩|⟨rfl,j,ac⟩|⟨rfl,j,ac⟩|⟨rfl,j,ac⟩|⟨rfl,j,al⟩|⟨rfl,j,N⟩|⟨rfl,j,al⟩|⟨rfl,j,N⟩|⟨rfl,j,al⟩|⟨rfl,j,N⟩))
  | (go_at_call 60;have _m:=U;refine(K3 f OC).mono ?_;rintro e E ⟨t,rfl,ht,f,a⟩;have c:=c.trans a.w)
  | (go_at_call 101;have _m:=X;have ar:=ab;refine(aa.out _ _ _ _ _ _ _ _ _ _ _ f OC).mono ?_;rintro e wx ⟨ax,nx,cx,G,rfl,o,f,a⟩;have ab:=ar.fr a;have c:=c.trans a.w)
  | (go_at_call 101;have _m:=U;refine(aa.out _ _ _ _ _ _ _ _ _ _ _ f OC).mono ?_;rintro e wx ⟨ax,nx,cx,G,rfl,o,f,a⟩;have c:=c.trans a.w)
  | (go_at_call 101;have _m:=m5;refine(aa.out _ _ _ _ _ _ _ _ _ _ _ f OC).mono ?_;rintro e wx ⟨ax,nx,cx,G,rfl,o,f,a⟩;have c:=c.trans a.w)
  | (go_at_call 101;have _m:=N;refine(ad.out _ _ _ _ _ _ _ _ _ _ _ f OC).mono ?_;rintro e wx ⟨ax,nx,cx,G,rfl,o,f,a⟩;have o:=o.mono ON ae;have c:=c.trans a.w)
  | (go_at_call 101;have _m:=Y;refine(ad.out _ _ _ _ _ _ _ _ _ _ _ f OC).mono ?_;rintro e wx ⟨ax,nx,cx,G,rfl,o,f,a⟩;have o:=o.mono ON ae;have c:=c.trans a.w)
  | (go_at_call 101;have _m:=Z;refine(ad.out _ _ _ _ _ _ _ _ _ _ _ f OC).mono ?_;rintro e wx ⟨ax,nx,cx,G,rfl,o,f,a⟩;have o:=o.mono ON ae;have c:=c.trans a.w)
  | (go_at_call 159;refine(Ou f OC).mono ?_;rintro e w4 ⟨x,rfl,hx,f,a⟩;have o:=o.fw a;have c:=c.trans a;have c1:=f.cells.2.1;obtain⟨V,hV⟩:∃ V,w4.alloc (.cells #[.string x,.int .i64 t] 162)=V:=⟨_,rfl⟩)
  | (at_builtin;refine Rw rfl _ _ rfl f x t hx (Xc ht) OC hV rfl rfl ?_;intro a2 c5 w5 ai f a;obtain⟨ai,bn⟩:=ai;have o:=o.fw a;have c:=c.trans a;rw[bc.out]at f c o |-;obtain⟨W5,ap⟩:∃ W,w5.setCell (OK g 1) (.slice a2 q1 c5)=W:=⟨_,rfl⟩;rw[ap]at f c o;clear hV)
  | (go_at_call 54;have _m:=U;refine(D9 ⟨10,0,0,0,x,0⟩ (L1 (Nat.le_trans hx OD)) o K).mono ?_;rintro e O ⟨H,J,I,rfl,y,l⟩;have z:=f.below l;have C:=c.size;have p:=c.trans (Ak.of_below l);have r:=Yy D (x,t))
  | (go_at_call 54;have _m:=X;refine(M4 ⟨18,0,0,0,⟨#[]⟩,0⟩ Bh ab o bf).mono ?_;rintro e O ⟨H,J,I,rfl,y,l⟩;have z:=f.below l;have C:=c.size;have p:=c.trans (Ak.of_below l);have r:=Nat.le_refl D.length)
  | (go_at_call 54;have _m:=N;refine(D9 ⟨_,0,0,0,⟨#[]⟩,0⟩ Bh o K).mono ?_;rintro e O ⟨H,J,I,rfl,y,l⟩;have z:=f.below l;have C:=c.size;have p:=c.trans (Ak.of_below l);have r:=Nat.le_refl D.length)
  | (go_at_call 54;have _m:=m5;refine(D9 ⟨_,0,0,0,⟨#[]⟩,0⟩ Bh o K).mono ?_;rintro e O ⟨H,J,I,rfl,y,l⟩;have z:=f.below l;have C:=c.size;have p:=c.trans (Ak.of_below l);have r:=Nat.le_refl D.length)
  | (go_at_call 54;have _m:=Y;refine(D9 ⟨_,0,0,0,⟨#[]⟩,0⟩ Bh o K).mono ?_;rintro e O ⟨H,J,I,rfl,y,l⟩;have z:=f.below l;have C:=c.size;have p:=c.trans (Ak.of_below l);have r:=Nat.le_refl D.length)
  | (go_at_call 54;have _m:=Z;refine(D9 ⟨_,0,0,0,⟨#[]⟩,0⟩ Bh o K).mono ?_;rintro e O ⟨H,J,I,rfl,y,l⟩;have z:=f.below l;have C:=c.size;have p:=c.trans (Ak.of_below l);have r:=Nat.le_refl D.length)
  | (go_at_call 26;have _m:=X;refine(Bn (f.below (OP L _)) 5 OD OD OC).mono ?_;rintro e E ⟨v,rfl,hv,f,a⟩;have a0:=Qgh hv;obtain⟨t,ht,au⟩:=Y7 (M:=5) a OD OD v a0;have c:=(c.alloc _).trans a.w)
  | (go_at_call 52;refine(D8 t (Nat.le_trans au OD) _).mono ?_;rintro e w3 ⟨a3,n3,c3,rfl,ab,ah⟩;have f:=f.below ah;have c:=c.trans (Ak.of_below ah))
  | (go_at_call 26;have _m:=Y;refine(Ln f _ OD OD OC).mono ?_;rintro e E ⟨v2,rfl,ay,f,a⟩;have c:=c.trans a;have c0:=f.cells.1;have bq:=Qk5 ay OD)
  | (go_at_call 102;refine(L6 f OC).mono ?_;rintro e O ⟨H,J,I,am,rfl,y,z,a⟩;have C:=c.size;have p:=c.trans a;have r:=Nat.le_refl D.length)
  | (go_at_call 160;refine(Qbw bb f OC ty).mono ?_;rintro e w5 ⟨a5,n5,c5,ok,s5,rfl,aq,aj,a⟩;have f:=aj.mono (Wb ok);clear aj;have o:=aq.mono ON be;have c:=c.trans a.w;cases ok)
  | (go_at_call 161;refine(Yw HC.out HD.out f OC).mono ?_;rintro e O ⟨H,J,I,a6,a4,af,am,rfl,y,z,r,a⟩;have C:=c.size;have p:=c.trans a)
  | (go_at_call 162;refine(Yz HL HD.out HM.out hm1 f OC).mono ?_;rintro e O ⟨H,J,I,a6,a4,af,am,rfl,y,z,r,a⟩;have C:=c.size;have p:=c.trans a))
 all_goals first
  | exact bodyPost_ret (v:=.tuple #[.slice H J I,.int .i64 _]) (by simp[results,results130,go_sem];try rfl) rfl ⟨H,J,I,_,_,_,_,_,rfl,by decide,y.mono OC OC,z.mono OC,r,p⟩
  | exact bodyPost_ret (v:=.tuple #[.slice _ _ _,.int .i64 1]) (by simp[results,results130,go_sem];try rfl) rfl ⟨_,_,_,_,_,_,_,_,rfl,by decide,(Fj _ ⟨14+v2,0,0,0,⟨#[]⟩,0⟩ Bh).mono c.size OC,(f.below (OP _ _)).mono OC,Nat.le_refl _,c.alloc _⟩
  | skip
 any_goals
  have _m:=m3
  have bi:0 < q:=OC
  obtain⟨b,rfl,_,_⟩:=Rt f.names HQ.out 0 bi
  have bh:∀ k,(Value.slice (some (OK b 0)) q nc).ownBlock=some k->k≠L.heap.size:=fun k hk=>Nat.ne_of_lt (A8 f.names hk).1.2
  refine wp_region_held_drew (S:=(fun W=>(W.cell? (OK g 0)=some (.pointer (some (OK R 0)))/\W.cell? (OK g 1)=some (.slice (some (OK b 0)) q nc))/\∀ i (hi:i < D.length),W.cell? (OK b (i * 2))=some (.string D[i].1)/\W.cell? (OK b (i * 2+1))=some (.int .i64 D[i].2))) OE (W8 (f.below ((OO L).drew)) HQ.out) (fun hHeld => ?_)
  refine wpAnyH_take (i:=0) (v:=.pointer (some (OK g 0))) rfl OE OE OE (fun _ _ _ h=>h) (Or.inl ⟨by rfl,by intro w hSw;have s0:=hSw.1.1;have s1:=hSw.1.2;clear hSw;go_simp⟩) OG ?_
  try simp[Act.put]
  refine wpAnyH_take (i:=1) (v:=.pointer (some (OK g 0))) rfl OE OE OE (fun _ _ _ h=>h) (Or.inl ⟨by rfl,by intro w hSw;have s0:=hSw.1.1;have s1:=hSw.1.2;clear hSw;go_simp⟩) OG ?_
  try simp[Act.put]
  refine wpAnyH_take (i:=2) (v:=.pointer (some (OK g 1))) rfl OE OE OE (fun _ _ _ h=>h) (Or.inl ⟨by rfl,by intro w hSw;have s0:=hSw.1.1;have s1:=hSw.1.2;clear hSw;go_simp⟩) OG ?_
  try simp[Act.put]
  refine wpAnyH_take (i:=3) (v:=.slice (some (OK b 0)) q nc) rfl OE OE OE (fun _ _ _ h=>h) (Or.inl ⟨by rfl,by intro w hSw;have s0:=hSw.1.1;have s1:=hSw.1.2;clear hSw;go_simp⟩) OG ?_
  try simp[Act.put]
  refine wpAnyH_take (i:=4) (v:=.pointer (some (OK g 0))) rfl OE OE OE (fun _ _ _ h=>h) (Or.inl ⟨by rfl,by intro w hSw;have s0:=hSw.1.1;have s1:=hSw.1.2;clear hSw;go_simp⟩) OG ?_
  try simp[Act.put]
  refine wpAnyH_take (i:=5) (v:=.pointer (some (OK g 0))) rfl OE OE OE (fun _ _ _ h=>h) (Or.inl ⟨by rfl,by intro w hSw;have s0:=hSw.1.1;have s1:=hSw.1.2;clear hSw;go_simp⟩) OG ?_
  try simp[Act.put]
  refine wpAnyH_take (i:=6) (v:=.pointer (some (OK g 0))) rfl OE OE OE (fun _ _ _ h=>h) (Or.inl ⟨by rfl,by intro w hSw;have s0:=hSw.1.1;have s1:=hSw.1.2;clear hSw;go_simp⟩) OG ?_
  try simp[Act.put]
  refine wpAnyH_take (i:=7) (v:=.pointer (some (OK R 0))) rfl OE OE OE (fun _ _ _ h=>h) (Or.inl ⟨by rfl,by intro w hSw;have s0:=hSw.1.1;have s1:=hSw.1.2;clear hSw;go_simp⟩) OG ?_
  try simp[Act.put]
  refine wpAnyH_take (i:=8) (v:=.pointer (some (OK g 0))) rfl OE OE OE (fun _ _ _ h=>h) (Or.inl ⟨by rfl,by intro w hSw;have s0:=hSw.1.1;have s1:=hSw.1.2;clear hSw;go_simp⟩) OG ?_
  try simp[Act.put]
  refine wpAnyH_take (i:=9) (v:=.pointer (some (OK g 0))) rfl OE OE OE (fun _ _ _ h=>h) (Or.inl ⟨by rfl,by intro w hSw;have s0:=hSw.1.1;have s1:=hSw.1.2;clear hSw;go_simp⟩) OG ?_
  try simp[Act.put]
  refine wpAnyH_take (i:=10) (v:=.pointer (some (OK g 1))) rfl OE OE OE (fun _ _ _ h=>h) (Or.inl ⟨by rfl,by intro w hSw;have s0:=hSw.1.1;have s1:=hSw.1.2;clear hSw;go_simp⟩) OG ?_
  try simp[Act.put]
  refine wpAnyH_take (i:=11) (v:=.slice (some (OK b 0)) q nc) rfl OE OE OE (fun _ _ _ h=>h) (Or.inl ⟨by rfl,by intro w hSw;have s0:=hSw.1.1;have s1:=hSw.1.2;clear hSw;go_simp⟩) OG ?_
  try simp[Act.put]
  refine wpAnyH_take (i:=12) (v:=.int .i64 (q:Int)) rfl OE OE OE (fun _ _ _ h=>h) (Or.inl ⟨by rfl,by intro w hSw;have s0:=hSw.1.1;have s1:=hSw.1.2;clear hSw;go_simp⟩) OG ?_
  try simp[Act.put]
  have ao:=f.below ((OO L).drew)
  have an:=c.drew
  have bx:g < L.drew.heap.size:=a8
  refine wpAnyH_ready (rs:=[13,16]) OE OF ?_
  refine AllReadyH.cons rfl (fun KK hK => ?_) (AllReadyH.cons rfl (fun KK hK => ?_) AllReadyH.nil)
  ·go_simp
   refine(Xa ao q OC OC).mono ?_
   rintro e E ⟨u,rfl,hu,_,f,a⟩
   have bl:=hu bi
   have aw:u < D.length:=by rw[HQ.out];exact bl
   have bv:(u:Int) < (q:Int):=OC
   have c:=an.trans a.w
   go_wp2
   refine hK.out _ _ (W8 f HQ.out) (fun hHeld => ?_)
   clear hK
   try simp[Act.put]
   refine wpAnyH_take (i:=14) (v:=.pointer (some (OK b (u * 2)))) rfl OE OE OE (fun _ _ _ h=>h) (Or.inl ⟨by rfl,by intro w hSw;clear hSw;go_simp⟩) OG ?_
   try simp[Act.put]
   refine wpAnyH_take (i:=15) (v:=.agg #[.string D[u].1,.int .i64 D[u].2]) rfl OE OE OE (fun _ _ _ h=>h) (Or.inl ⟨by rfl,by intro w hSw;have s2:=hSw.2 u aw;clear hSw;go_simp⟩) OG ?_
   try simp[Act.put]
   obtain⟨G,ak⟩:∃ s,D[u].1=s:=⟨_,rfl⟩
   obtain⟨tx,av⟩:∃ s,D[u].2=s:=⟨_,rfl⟩
   have bk:G.size<=100:=by rw[<- ak];exact Nat.le_trans (f.nbd.2 D[u] (List.getElem_mem aw)).1 OD
   rw[ak,av]
   refine Tr 16 rfl fun KK hK=>?_
   go_simp
   refine hK.out _ _ (Qiv hHeld) (fun hHeld => ?_)
   clear hK
   try simp[Act.put]
   refine Tr 17 rfl fun KK hK=>?_
   go_simp
   refine hK.out _ _ (W8 (f.below (OP E _)) HQ.out) (fun hHeld => ?_)
   clear hK
   try simp[Act.put]
   refine wpAnyH_done OE ?_ _
   obtain⟨V,hV⟩:∃ V,E.alloc (.cells #[.string G,.int .i64 tx] 162)=V:=⟨_,rfl⟩
   have A:V.heap[E.heap.size]? = some (.cells #[.string G,.int .i64 tx] 162):=by rw[<- hV];exact World.alloc_heap_new E _
   have bm:Below E.heap.size E V:=Cb hV
   have x0:V.cell? (OK E.heap.size 0)=some (.string G):=by rw[Lib.cell_of_heap A];rfl
   have x1:V.cell? (OK E.heap.size 1)=some (.int .i64 tx):=by rw[Lib.cell_of_heap A];rfl
   have f:=f.below bm
   have c:=c.trans (Ak.of_below bm)
   rw[hV]
   clear hHeld
   go_wp2_with fail
   refine wp_region_held_drew (S:=(fun W=>W.cell? (OK E.heap.size 0)=some (.string G)/\W.cell? (OK E.heap.size 1)=some (.int .i64 tx))) OE (⟨x0,x1⟩) (fun hHeld => ?_)
   refine Tk 0 (.pointer (some (OK E.heap.size 0))) ?_
   try simp[Act.put]
   refine Tk 1 (.string G) ?_
   try simp[Act.put]
   refine Tk 2 (.agg #[.int .i64 11,.int .i64 0,.int .i64 0,.int .i64 0,.string G,.int .i64 0]) ?_
   try simp[Act.put]
   refine Tk 3 (.pointer (some (OK g 0))) ?_
   try simp[Act.put]
   refine Tk 4 (.pointer (some (OK E.heap.size 1))) ?_
   try simp[Act.put]
   refine Tk 5 (.int .i64 tx) ?_
   try simp[Act.put]
   have ao:=f.below ((OO V).drew)
   have an:=c.drew
   refine Tr 6 rfl fun KK hK=>?_
   go_simp
   refine(aa.out _ V.drew _ _ _ _ _ _ _ _ tx ao OC).mono ?_
   rintro e wx ⟨ax,nx,cx,sz,rfl,o,f,a⟩
   have A:=a.blk (b:=E.heap.size) A OD
   have x0:wx.cell? (OK E.heap.size 0)=some (.string G):=by rw[Lib.cell_of_heap A];rfl
   have x1:wx.cell? (OK E.heap.size 1)=some (.int .i64 tx):=by rw[Lib.cell_of_heap A];rfl
   have c:=an.trans a.w
   go_wp2
   refine hK.out _ _ (⟨x0,x1⟩) (fun hHeld => ?_)
   clear hK
   try simp[Act.put]
   refine Tr 7 rfl fun KK hK=>?_
   go_simp
   refine hK.out _ _ (⟨Ge x0,Ge x1⟩) (fun hHeld => ?_)
   clear hK
   try simp[Act.put]
   refine Tr 8 rfl fun KK hK=>?_
   go_simp
   refine(D9 ⟨11,0,0,0,G,0⟩ (L1 bk) o K).mono ?_
   rintro e O ⟨H,J,I,rfl,y,l⟩
   have z:=f.below l
   have C:=c.size
   have p:=c.trans (Ak.of_below l)
   have r:=Nat.le_refl D.length
   have A:=(l.block _ (Array.getElem?_eq_some_iff.1 A).1).trans A
   have x0:O.cell? (OK E.heap.size 0)=some (.string G):=by rw[Lib.cell_of_heap A];rfl
   have x1:O.cell? (OK E.heap.size 1)=some (.int .i64 tx):=by rw[Lib.cell_of_heap A];rfl
   exact DeGenUx316
  ·go_simp
   refine hK.out _ _ (Qiv hHeld) (fun hHeld => ?_)
   clear hK
   try simp[Act.put]
   obtain⟨V0,T⟩:∃ V,(L.alloc (.cells #[.string ⟨#[]⟩,.int .i64 0] 162)).drew=V:=⟨_,rfl⟩
   rw[T]at hHeld |-
   have ag:Below L.heap.size L V0:=by rw[<- T];exact(OP L _).drew
   have a1:V0.heap[L.heap.size]? = some (.cells #[.string ⟨#[]⟩,.int .i64 0] 162):=by rw[<- T];exact World.alloc_heap_new L _
   have bu:=f.below ag
   have bs:=c.trans (Ak.of_below ag)
   refine Tr 13 rfl fun KK hK=>?_
   go_simp
   refine(Xa bu q OC OC).mono ?_
   rintro e E ⟨u,rfl,hu,_,f,a⟩
   have bl:=hu bi
   have aw:u < D.length:=by rw[HQ.out];exact bl
   have bv:(u:Int) < (q:Int):=OC
   have A:=a.blk a1 OD
   have c:=bs.trans a.w
   go_wp2
   refine hK.out _ _ (W8 f HQ.out) (fun hHeld => ?_)
   clear hK
   try simp[Act.put]
   refine wpAnyH_take (i:=14) (v:=.pointer (some (OK b (u * 2)))) rfl OE OE OE (fun _ _ _ h=>h) (Or.inl ⟨by rfl,by intro w hSw;clear hSw;go_simp⟩) OG ?_
   try simp[Act.put]
   refine wpAnyH_take (i:=15) (v:=.agg #[.string D[u].1,.int .i64 D[u].2]) rfl OE OE OE (fun _ _ _ h=>h) (Or.inl ⟨by rfl,by intro w hSw;have s2:=hSw.2 u aw;clear hSw;go_simp⟩) OG ?_
   try simp[Act.put]
   obtain⟨G,ak⟩:∃ s,D[u].1=s:=⟨_,rfl⟩
   obtain⟨tx,av⟩:∃ s,D[u].2=s:=⟨_,rfl⟩
   have bk:G.size<=100:=by rw[<- ak];exact Nat.le_trans (f.nbd.2 D[u] (List.getElem_mem aw)).1 OD
   rw[ak,av]
   have y0:E.cell? (OK L.heap.size 0)=some (.string ⟨#[]⟩):=by rw[Lib.cell_of_heap A];rfl
   have y1:E.cell? (OK L.heap.size 1)=some (.int .i64 0):=by rw[Lib.cell_of_heap A];rfl
   have z0:E.frozen? (OK L.heap.size 0)=false:=by simp[World.frozen?,A]
   have z1:E.frozen? (OK L.heap.size 1)=false:=by simp[World.frozen?,A]
   refine Tr 17 rfl fun KK hK=>?_
   go_simp
   obtain⟨bj,bo,ba⟩:=f.loc A bh a8 G tx
   refine hK.out _ _ (W8 bj HQ.out) (fun hHeld => ?_)
   clear hK
   try simp[Act.put]
   refine wpAnyH_done OE ?_ _
   obtain⟨V,hV⟩:∃ V,(E.setCell (OK L.heap.size 0) (.string G)).setCell (OK L.heap.size 1) (.int .i64 tx)=V:=⟨_,rfl⟩
   rw[hV]at bj bo ba |-
   have x0:V.cell? (OK L.heap.size 0)=some (.string G):=by rw[Lib.cell_of_heap ba];rfl
   have x1:V.cell? (OK L.heap.size 1)=some (.int .i64 tx):=by rw[Lib.cell_of_heap ba];rfl
   have A:=ba
   have f:=bj
   have c:=c.trans bo
   clear hHeld y0 y1 z0 z1
   go_wp2_with fail
   refine wp_region_held_drew (S:=(fun W=>W.cell? (OK L.heap.size 0)=some (.string G)/\W.cell? (OK L.heap.size 1)=some (.int .i64 tx))) OE (⟨x0,x1⟩) (fun hHeld => ?_)
   refine Tk 0 (.pointer (some (OK L.heap.size 0))) ?_
   try simp[Act.put]
   refine Tk 1 (.string G) ?_
   try simp[Act.put]
   refine Tk 2 (.agg #[.int .i64 11,.int .i64 0,.int .i64 0,.int .i64 0,.string G,.int .i64 0]) ?_
   try simp[Act.put]
   refine Tk 3 (.pointer (some (OK g 0))) ?_
   try simp[Act.put]
   refine Tk 4 (.pointer (some (OK L.heap.size 1))) ?_
   try simp[Act.put]
   refine Tk 5 (.int .i64 tx) ?_
   try simp[Act.put]
   have ao:=f.below ((OO V).drew)
   have an:=c.drew
   refine Tr 6 rfl fun KK hK=>?_
   go_simp
   refine(aa.out _ V.drew _ _ _ _ _ _ _ _ tx ao OC).mono ?_
   rintro e wx ⟨ax,nx,cx,sz,rfl,o,f,a⟩
   have A:=a.blk (b:=L.heap.size) A OD
   have x0:wx.cell? (OK L.heap.size 0)=some (.string G):=by rw[Lib.cell_of_heap A];rfl
   have x1:wx.cell? (OK L.heap.size 1)=some (.int .i64 tx):=by rw[Lib.cell_of_heap A];rfl
   have c:=an.trans a.w
   go_wp2
   refine hK.out _ _ (⟨x0,x1⟩) (fun hHeld => ?_)
   clear hK
   try simp[Act.put]
   refine Tr 7 rfl fun KK hK=>?_
   go_simp
   refine hK.out _ _ (⟨Ge x0,Ge x1⟩) (fun hHeld => ?_)
   clear hK
   try simp[Act.put]
   refine Tr 8 rfl fun KK hK=>?_
   go_simp
   refine(D9 ⟨11,0,0,0,G,0⟩ (L1 bk) o K).mono ?_
   rintro e O ⟨H,J,I,rfl,y,l⟩
   have z:=f.below l
   have C:=c.size
   have p:=c.trans (Ak.of_below l)
   have r:=Nat.le_refl D.length
   have A:=(l.block _ (Array.getElem?_eq_some_iff.1 A).1).trans A
   have x0:O.cell? (OK L.heap.size 0)=some (.string G):=by rw[Lib.cell_of_heap A];rfl
   have x1:O.cell? (OK L.heap.size 1)=some (.int .i64 tx):=by rw[Lib.cell_of_heap A];rfl
   exact DeGenUx316
 any_goals
  have _m:=Z
  refine wp_region_held_drew (S:=(fun W=>W.cell? (OK g 0)=some (.pointer (some (OK R 0))))) OE (c0) (fun hHeld => ?_)
  refine Tk 0 (.pointer (some (OK g 0))) ?_
  try simp[Act.put]
  refine Tk 3 (.pointer (some (OK g 0))) ?_
  try simp[Act.put]
  refine Tk 4 (.pointer (some (OK g 0))) ?_
  try simp[Act.put]
  refine Tk 5 (.pointer (some (OK g 0))) ?_
  try simp[Act.put]
  refine Tk 6 (.pointer (some (OK R 0))) ?_
  try simp[Act.put]
  have ao:=f.below ((OO L).drew)
  have an:=c.drew
  refine Tr 1 rfl fun KK hK=>?_
  go_simp
  refine(K3 ao OC).mono ?_
  rintro e E ⟨t,rfl,ht,f,a⟩
  have c:=an.trans a.w
  have c2:=f.cells.1
  have b1:g < E.heap.size:=Nat.lt_of_lt_of_le a9 c.size
  go_wp2
  refine hK.out _ _ (c2) (fun hHeld => ?_)
  clear hK
  try simp[Act.put]
  refine wpAnyH_ready (rs:=[2,7]) OE OF ?_
  refine AllReadyH.cons rfl (fun KK hK => ?_) (AllReadyH.cons rfl (fun KK hK => ?_) AllReadyH.nil)
  ·go_simp
   refine hK.out _ _ (Ge c2) (fun hHeld => ?_)
   clear hK
   try simp[Act.put]
   obtain⟨V0,T⟩:∃ V,E.alloc (.cells #[.int .i64 0,.int .i64 t] 3)=V:=⟨_,rfl⟩
   rw[T]at hHeld |-
   have ag:Below E.heap.size E V0:=Cb T
   have a1:V0.heap[E.heap.size]? = some (.cells #[.int .i64 0,.int .i64 t] 3):=by rw[<- T];exact World.alloc_heap_new E _
   have f:=f.below ag
   have c:=c.trans (Ak.of_below ag)
   refine Tr 7 rfl fun KK hK=>?_
   go_simp
   refine(Bn f 2 OD OD OC).mono ?_
   rintro e w3 ⟨v,rfl,hv,f,a⟩
   have A:=a.blk a1 OD
   obtain⟨ty,br⟩:=Qig A hv
   have c:=c.trans a.w
   have c4:=f.cells.1
   go_wp2
   refine hK.out _ _ (c4) (fun hHeld => ?_)
   clear hK
   try simp[Act.put]
   refine Tk 8 (.pointer (some (OK E.heap.size v))) ?_
   try simp[Act.put]
   refine Tr 9 rfl fun KK hK=>?_
   go_simp
   refine hK.out _ _ (c4) (fun hHeld => ?_)
   clear hK
   try simp[Act.put]
   refine Tk 10 (.int .i64 ty) ?_
   try simp[Act.put]
   refine wpAnyH_done OE ?_ _
   clear hHeld c0 c1
   try rw[T]
   go_wp2_with (first
      | (go_at_call 26;refine(Ln h0 18 OD OD b0).mono ?_;rintro e L ⟨k,rfl,hk,f,c⟩;clear h0;have c0:=f.cells.1;have c1:=f.cells.2.1;have c4:=f.cells.2.2.2.2.1;have a8:=Nat.lt_of_lt_of_le a9 c.size;first|(guard_hyp a7:d<=0;rcases Qgf q Q hk with⟨rfl,j,U⟩|⟨rfl,j,U⟩|⟨rfl,j,U⟩|⟨rfl,j,m3⟩|⟨rfl,j,N⟩|⟨rfl,j,m3⟩|⟨rfl,j,N⟩|⟨rfl,j,m5⟩|⟨rfl,j,m5⟩|⟨rfl,j,X⟩|⟨rfl,j,X⟩|⟨rfl,j,Y⟩|⟨rfl,j,Y⟩|⟨rfl,j,Z⟩|⟨rfl,j,m3⟩|⟨rfl,j,N⟩|⟨rfl,j,m3⟩|⟨rfl,j,N⟩|⟨rfl,j,m5⟩|⟨rfl,j,m5⟩|⟨rfl,j,X⟩|⟨rfl,j,X⟩|⟨rfl,j,Y⟩|⟨rfl,j,Y⟩)|(rcases Qge q Q hk with⟨rfl,j,U⟩|⟨rfl,j,U⟩|⟨rfl,j,U⟩|⟨rfl,j,m3⟩|⟨rfl,j,N⟩|⟨rfl,j,m3⟩|⟨rfl,j,N⟩|⟨rfl,j,m5⟩|⟨rfl,j,m5⟩|⟨rfl,j,X⟩|⟨rfl,j,X⟩|⟨rfl,j,Y⟩|⟨rfl,j,Y⟩|⟨rfl,j,Z⟩|⟨rfl,j,ac⟩|⟨rfl,j,ac⟩|⟨rfl,j,ac⟩|⟨rfl,j,ac⟩|⟨rfl,j,al⟩|⟨rfl,j,N⟩|⟨rfl,j,al⟩|⟨rfl,j,N⟩|⟨rfl,j,al⟩|⟨rfl,j,N⟩))
      | (go_at_call 60;have _m:=U;refine(K3 f OC).mono ?_;rintro e E ⟨t,rfl,ht,f,a⟩;have c:=c.trans a.w)
      | (go_at_call 101;have _m:=X;have ar:=ab;refine(aa.out _ _ _ _ _ _ _ _ _ _ _ f OC).mono ?_;rintro e wx ⟨ax,nx,cx,G,rfl,o,f,a⟩;have ab:=ar.fr a;have c:=c.trans a.w)
      | (go_at_call 101;have _m:=U;refine(aa.out _ _ _ _ _ _ _ _ _ _ _ f OC).mono ?_;rintro e wx ⟨ax,nx,cx,G,rfl,o,f,a⟩;have c:=c.trans a.w)
      | (go_at_call 101;have _m:=m5;refine(aa.out _ _ _ _ _ _ _ _ _ _ _ f OC).mono ?_;rintro e wx ⟨ax,nx,cx,G,rfl,o,f,a⟩;have c:=c.trans a.w)
      | (go_at_call 101;have _m:=N;refine(ad.out _ _ _ _ _ _ _ _ _ _ _ f OC).mono ?_;rintro e wx ⟨ax,nx,cx,G,rfl,o,f,a⟩;have o:=o.mono ON ae;have c:=c.trans a.w)
      | (go_at_call 101;have _m:=Y;refine(ad.out _ _ _ _ _ _ _ _ _ _ _ f OC).mono ?_;rintro e wx ⟨ax,nx,cx,G,rfl,o,f,a⟩;have o:=o.mono ON ae;have c:=c.trans a.w)
      | (go_at_call 101;have _m:=Z;refine(ad.out _ _ _ _ _ _ _ _ _ _ _ f OC).mono ?_;rintro e wx ⟨ax,nx,cx,G,rfl,o,f,a⟩;have o:=o.mono ON ae;have c:=c.trans a.w)
      | (go_at_call 159;refine(Ou f OC).mono ?_;rintro e w4 ⟨x,rfl,hx,f,a⟩;have o:=o.fw a;have c:=c.trans a;have c1:=f.cells.2.1;obtain⟨V,hV⟩:∃ V,w4.alloc (.cells #[.string x,.int .i64 t] 162)=V:=⟨_,rfl⟩)
      | (at_builtin;refine Rw rfl _ _ rfl f x t hx (Xc ht) OC hV rfl rfl ?_;intro a2 c5 w5 ai f a;obtain⟨ai,bn⟩:=ai;have o:=o.fw a;have c:=c.trans a;rw[bc.out]at f c o |-;obtain⟨W5,ap⟩:∃ W,w5.setCell (OK g 1) (.slice a2 q1 c5)=W:=⟨_,rfl⟩;rw[ap]at f c o;clear hV)
      | (go_at_call 54;have _m:=U;refine(D9 ⟨10,0,0,0,x,0⟩ (L1 (Nat.le_trans hx OD)) o K).mono ?_;rintro e O ⟨H,J,I,rfl,y,l⟩;have z:=f.below l;have C:=c.size;have p:=c.trans (Ak.of_below l);have r:=Yy D (x,t))
      | (go_at_call 54;have _m:=X;refine(M4 ⟨18,0,0,0,⟨#[]⟩,0⟩ Bh ab o bf).mono ?_;rintro e O ⟨H,J,I,rfl,y,l⟩;have z:=f.below l;have C:=c.size;have p:=c.trans (Ak.of_below l);have r:=Nat.le_refl D.length)
      | (go_at_call 54;have _m:=N;refine(D9 ⟨_,0,0,0,⟨#[]⟩,0⟩ Bh o K).mono ?_;rintro e O ⟨H,J,I,rfl,y,l⟩;have z:=f.below l;have C:=c.size;have p:=c.trans (Ak.of_below l);have r:=Nat.le_refl D.length)
      | (go_at_call 54;have _m:=m5;refine(D9 ⟨_,0,0,0,⟨#[]⟩,0⟩ Bh o K).mono ?_;rintro e O ⟨H,J,I,rfl,y,l⟩;have z:=f.below l;have C:=c.size;have p:=c.trans (Ak.of_below l);have r:=Nat.le_refl D.length)
      | (go_at_call 54;have _m:=Y;refine(D9 ⟨_,0,0,0,⟨#[]⟩,0⟩ Bh o K).mono ?_;rintro e O ⟨H,J,I,rfl,y,l⟩;have z:=f.below l;have C:=c.size;have p:=c.trans (Ak.of_below l);have r:=Nat.le_refl D.length)
      | (go_at_call 54;have _m:=Z;refine(D9 ⟨_,0,0,0,⟨#[]⟩,0⟩ Bh o K).mono ?_;rintro e O ⟨H,J,I,rfl,y,l⟩;have z:=f.below l;have C:=c.size;have p:=c.trans (Ak.of_below l);have r:=Nat.le_refl D.length)
      | (go_at_call 26;have _m:=X;refine(Bn (f.below (OP L _)) 5 OD OD OC).mono ?_;rintro e E ⟨v,rfl,hv,f,a⟩;have a0:=Qgh hv;obtain⟨t,ht,au⟩:=Y7 (M:=5) a OD OD v a0;have c:=(c.alloc _).trans a.w)
      | (go_at_call 52;refine(D8 t (Nat.le_trans au OD) _).mono ?_;rintro e w3 ⟨a3,n3,c3,rfl,ab,ah⟩;have f:=f.below ah;have c:=c.trans (Ak.of_below ah))
      | (go_at_call 26;have _m:=Y;refine(Ln f _ OD OD OC).mono ?_;rintro e E ⟨v2,rfl,ay,f,a⟩;have c:=c.trans a;have c0:=f.cells.1;have bq:=Qk5 ay OD)
      | (go_at_call 102;refine(L6 f OC).mono ?_;rintro e O ⟨H,J,I,am,rfl,y,z,a⟩;have C:=c.size;have p:=c.trans a;have r:=Nat.le_refl D.length)
      | (go_at_call 160;refine(Qbw bb f OC ty).mono ?_;rintro e w5 ⟨a5,n5,c5,ok,s5,rfl,aq,aj,a⟩;have f:=aj.mono (Wb ok);clear aj;have o:=aq.mono ON be;have c:=c.trans a.w;cases ok)
      | (go_at_call 161;refine(Yw HC.out HD.out f OC).mono ?_;rintro e O ⟨H,J,I,a6,a4,af,am,rfl,y,z,r,a⟩;have C:=c.size;have p:=c.trans a)
      | (go_at_call 162;refine(Yz HL HD.out HM.out hm1 f OC).mono ?_;rintro e O ⟨H,J,I,a6,a4,af,am,rfl,y,z,r,a⟩;have C:=c.size;have p:=c.trans a))
   all_goals exact bodyPost_ret (v:=.tuple #[.slice H J I,.int .i64 _]) (by simp[results,results130,go_sem];try rfl) rfl ⟨H,J,I,_,_,_,_,_,rfl,by decide,y.mono OC OC,z.mono OC,r,p⟩
  ·go_simp
   refine(Bn f 2 OD OD OC).mono ?_
   rintro e w3 ⟨v,rfl,hv,f,a⟩
   have c:=c.trans a.w
   have c3:=f.cells.1
   go_wp2
   refine hK.out _ _ (c3) (fun hHeld => ?_)
   clear hK
   try simp[Act.put]
   refine Tr 2 rfl fun KK hK=>?_
   go_simp
   refine hK.out _ _ (Ge c3) (fun hHeld => ?_)
   clear hK
   try simp[Act.put]
   obtain⟨V0,T⟩:∃ V,w3.alloc (.cells #[.int .i64 0,.int .i64 t] 3)=V:=⟨_,rfl⟩
   rw[T]at hHeld |-
   have ag:Below w3.heap.size w3 V0:=Cb T
   have A:V0.heap[w3.heap.size]? = some (.cells #[.int .i64 0,.int .i64 t] 3):=by rw[<- T];exact World.alloc_heap_new w3 _
   have f:=f.below ag
   have c:=c.trans (Ak.of_below ag)
   obtain⟨ty,br⟩:=Qig A hv
   have c4:=f.cells.1
   refine Tk 8 (.pointer (some (OK w3.heap.size v))) ?_
   try simp[Act.put]
   refine Tr 9 rfl fun KK hK=>?_
   go_simp
   refine hK.out _ _ (c4) (fun hHeld => ?_)
   clear hK
   try simp[Act.put]
   refine Tk 10 (.int .i64 ty) ?_
   try simp[Act.put]
   refine wpAnyH_done OE ?_ _
   clear hHeld c0 c1
   try rw[T]
   go_wp2_with (first
      | (go_at_call 26;refine(Ln h0 18 OD OD b0).mono ?_;rintro e L ⟨k,rfl,hk,f,c⟩;clear h0;have c0:=f.cells.1;have c1:=f.cells.2.1;have c4:=f.cells.2.2.2.2.1;have a8:=Nat.lt_of_lt_of_le a9 c.size;first|(guard_hyp a7:d<=0;rcases Qgf q Q hk with⟨rfl,j,U⟩|⟨rfl,j,U⟩|⟨rfl,j,U⟩|⟨rfl,j,m3⟩|⟨rfl,j,N⟩|⟨rfl,j,m3⟩|⟨rfl,j,N⟩|⟨rfl,j,m5⟩|⟨rfl,j,m5⟩|⟨rfl,j,X⟩|⟨rfl,j,X⟩|⟨rfl,j,Y⟩|⟨rfl,j,Y⟩|⟨rfl,j,Z⟩|⟨rfl,j,m3⟩|⟨rfl,j,N⟩|⟨rfl,j,m3⟩|⟨rfl,j,N⟩|⟨rfl,j,m5⟩|⟨rfl,j,m5⟩|⟨rfl,j,X⟩|⟨rfl,j,X⟩|⟨rfl,j,Y⟩|⟨rfl,j,Y⟩)|(rcases Qge q Q hk with⟨rfl,j,U⟩|⟨rfl,j,U⟩|⟨rfl,j,U⟩|⟨rfl,j,m3⟩|⟨rfl,j,N⟩|⟨rfl,j,m3⟩|⟨rfl,j,N⟩|⟨rfl,j,m5⟩|⟨rfl,j,m5⟩|⟨rfl,j,X⟩|⟨rfl,j,X⟩|⟨rfl,j,Y⟩|⟨rfl,j,Y⟩|⟨rfl,j,Z⟩|⟨rfl,j,ac⟩|⟨rfl,j,ac⟩|⟨rfl,j,ac⟩|⟨rfl,j,ac⟩|⟨rfl,j,al⟩|⟨rfl,j,N⟩|⟨rfl,j,al⟩|⟨rfl,j,N⟩|⟨rfl,j,al⟩|⟨rfl,j,N⟩))
      | (go_at_call 60;have _m:=U;refine(K3 f OC).mono ?_;rintro e E ⟨t,rfl,ht,f,a⟩;have c:=c.trans a.w)
      | (go_at_call 101;have _m:=X;have ar:=ab;refine(aa.out _ _ _ _ _ _ _ _ _ _ _ f OC).mono ?_;rintro e wx ⟨ax,nx,cx,G,rfl,o,f,a⟩;have ab:=ar.fr a;have c:=c.trans a.w)
      | (go_at_call 101;have _m:=U;refine(aa.out _ _ _ _ _ _ _ _ _ _ _ f OC).mono ?_;rintro e wx ⟨ax,nx,cx,G,rfl,o,f,a⟩;have c:=c.trans a.w)
      | (go_at_call 101;have _m:=m5;refine(aa.out _ _ _ _ _ _ _ _ _ _ _ f OC).mono ?_;rintro e wx ⟨ax,nx,cx,G,rfl,o,f,a⟩;have c:=c.trans a.w)
      | (go_at_call 101;have _m:=N;refine(ad.out _ _ _ _ _ _ _ _ _ _ _ f OC).mono ?_;rintro e wx ⟨ax,nx,cx,G,rfl,o,f,a⟩;have o:=o.mono ON ae;have c:=c.trans a.w)
      | (go_at_call 101;have _m:=Y;refine(ad.out _ _ _ _ _ _ _ _ _ _ _ f OC).mono ?_;rintro e wx ⟨ax,nx,cx,G,rfl,o,f,a⟩;have o:=o.mono ON ae;have c:=c.trans a.w)
      | (go_at_call 101;have _m:=Z;refine(ad.out _ _ _ _ _ _ _ _ _ _ _ f OC).mono ?_;rintro e wx ⟨ax,nx,cx,G,rfl,o,f,a⟩;have o:=o.mono ON ae;have c:=c.trans a.w)
      | (go_at_call 159;refine(Ou f OC).mono ?_;rintro e w4 ⟨x,rfl,hx,f,a⟩;have o:=o.fw a;have c:=c.trans a;have c1:=f.cells.2.1;obtain⟨V,hV⟩:∃ V,w4.alloc (.cells #[.string x,.int .i64 t] 162)=V:=⟨_,rfl⟩)
      | (at_builtin;refine Rw rfl _ _ rfl f x t hx (Xc ht) OC hV rfl rfl ?_;intro a2 c5 w5 ai f a;obtain⟨ai,bn⟩:=ai;have o:=o.fw a;have c:=c.trans a;rw[bc.out]at f c o |-;obtain⟨W5,ap⟩:∃ W,w5.setCell (OK g 1) (.slice a2 q1 c5)=W:=⟨_,rfl⟩;rw[ap]at f c o;clear hV)
      | (go_at_call 54;have _m:=U;refine(D9 ⟨10,0,0,0,x,0⟩ (L1 (Nat.le_trans hx OD)) o K).mono ?_;rintro e O ⟨H,J,I,rfl,y,l⟩;have z:=f.below l;have C:=c.size;have p:=c.trans (Ak.of_below l);have r:=Yy D (x,t))
      | (go_at_call 54;have _m:=X;refine(M4 ⟨18,0,0,0,⟨#[]⟩,0⟩ Bh ab o bf).mono ?_;rintro e O ⟨H,J,I,rfl,y,l⟩;have z:=f.below l;have C:=c.size;have p:=c.trans (Ak.of_below l);have r:=Nat.le_refl D.length)
      | (go_at_call 54;have _m:=N;refine(D9 ⟨_,0,0,0,⟨#[]⟩,0⟩ Bh o K).mono ?_;rintro e O ⟨H,J,I,rfl,y,l⟩;have z:=f.below l;have C:=c.size;have p:=c.trans (Ak.of_below l);have r:=Nat.le_refl D.length)
      | (go_at_call 54;have _m:=m5;refine(D9 ⟨_,0,0,0,⟨#[]⟩,0⟩ Bh o K).mono ?_;rintro e O ⟨H,J,I,rfl,y,l⟩;have z:=f.below l;have C:=c.size;have p:=c.trans (Ak.of_below l);have r:=Nat.le_refl D.length)
      | (go_at_call 54;have _m:=Y;refine(D9 ⟨_,0,0,0,⟨#[]⟩,0⟩ Bh o K).mono ?_;rintro e O ⟨H,J,I,rfl,y,l⟩;have z:=f.below l;have C:=c.size;have p:=c.trans (Ak.of_below l);have r:=Nat.le_refl D.length)
      | (go_at_call 54;have _m:=Z;refine(D9 ⟨_,0,0,0,⟨#[]⟩,0⟩ Bh o K).mono ?_;rintro e O ⟨H,J,I,rfl,y,l⟩;have z:=f.below l;have C:=c.size;have p:=c.trans (Ak.of_below l);have r:=Nat.le_refl D.length)
      | (go_at_call 26;have _m:=X;refine(Bn (f.below (OP L _)) 5 OD OD OC).mono ?_;rintro e E ⟨v,rfl,hv,f,a⟩;have a0:=Qgh hv;obtain⟨t,ht,au⟩:=Y7 (M:=5) a OD OD v a0;have c:=(c.alloc _).trans a.w)
      | (go_at_call 52;refine(D8 t (Nat.le_trans au OD) _).mono ?_;rintro e w3 ⟨a3,n3,c3,rfl,ab,ah⟩;have f:=f.below ah;have c:=c.trans (Ak.of_below ah))
      | (go_at_call 26;have _m:=Y;refine(Ln f _ OD OD OC).mono ?_;rintro e E ⟨v2,rfl,ay,f,a⟩;have c:=c.trans a;have c0:=f.cells.1;have bq:=Qk5 ay OD)
      | (go_at_call 102;refine(L6 f OC).mono ?_;rintro e O ⟨H,J,I,am,rfl,y,z,a⟩;have C:=c.size;have p:=c.trans a;have r:=Nat.le_refl D.length)
      | (go_at_call 160;refine(Qbw bb f OC ty).mono ?_;rintro e w5 ⟨a5,n5,c5,ok,s5,rfl,aq,aj,a⟩;have f:=aj.mono (Wb ok);clear aj;have o:=aq.mono ON be;have c:=c.trans a.w;cases ok)
      | (go_at_call 161;refine(Yw HC.out HD.out f OC).mono ?_;rintro e O ⟨H,J,I,a6,a4,af,am,rfl,y,z,r,a⟩;have C:=c.size;have p:=c.trans a)
      | (go_at_call 162;refine(Yz HL HD.out HM.out hm1 f OC).mono ?_;rintro e O ⟨H,J,I,a6,a4,af,am,rfl,y,z,r,a⟩;have C:=c.size;have p:=c.trans a))
   all_goals exact bodyPost_ret (v:=.tuple #[.slice H J I,.int .i64 _]) (by simp[results,results130,go_sem];try rfl) rfl ⟨H,J,I,_,_,_,_,_,rfl,by decide,y.mono OC OC,z.mono OC,r,p⟩
 ):P:=h
theorem Qgl (B g R:Nat):Ut B g R 0:=by
 intro d hd bg P w nv D fv F bw Q bd size h hP;have a7:d<=0:=OC
 have bt:=Kk 0;clear bg;exact DdGenUx12
end Go.Proofs.YtjlaedokfbcbpaaGreatDoor
