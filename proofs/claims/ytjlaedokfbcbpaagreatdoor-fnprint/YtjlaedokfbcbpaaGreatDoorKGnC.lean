import Derived.Test.YtjlaedokfbcbpaaGreatDoorKGnB
import Derived.Test.YtjlaedokfbcbpaaGreatDoorKGenX
set_option maxRecDepth 100000
set_option maxHeartbeats 8000000
namespace Go.Proofs.YtjlaedokfbcbpaaGreatDoor
open Go.RowKit Proofs.Tryz
theorem DdGnCx1077 {P:Prop} (h:P:=by
 have bq:(w9.setCell (OK w.heap.size 0) (.slice a9 n9 c9)).cell? (OK w.heap.size 0)=some (.slice a9 n9 c9):=by rw[Lib.cell_of_heap (Ha hT)];rfl
 exact bodyPost_ret (v:=.agg #[.slice a9 n9 c9]) (by simp[results,results29,go_sem,bq]) rfl (Tu ad ac (bl.out.trans am) hT b4)
 ):P:=h
theorem DdGnCx300 {P:Prop} (h:P:=by
 refine hK.out _ _ (⟨l0,l1,l2⟩) (fun hHeld => ?_)
 clear hK
 try simp[Act.put]
 refine Tr 7 rfl fun KK hK=>?_
 refine Qb4 rfl _ _ rfl ph ck x (pv) ps r ⟨hx,Qk3 bt,ei,dw⟩ b5 (G0 dv em) b7 rfl rfl ?_
 intro a7 c7 w7 cp aw b6
 obtain⟨y7,z7⟩:=cp
 have U:=(b6 C.heap.size (Array.getElem?_eq_some_iff.1 ab).1 (fun e=>Nat.lt_irrefl _ (df.out.1 _ e))).trans ab
 have m0:w7.cell? (OK C.heap.size 0)=some (.string x):=by rw[Lib.cell_of_heap U];rfl
 have m1:w7.cell? (OK C.heap.size 1)=some (pv):=by rw[Lib.cell_of_heap U];rfl
 have m2:w7.cell? (OK C.heap.size 2)=some (.int .i64 r):=by rw[Lib.cell_of_heap U];rfl
 have O:=(Bd (w:=w7) (i:=2) (v:=.slice a7 (F.length+1) c7) (Nat.ne_of_gt dp)).trans U
 obtain⟨V8,ai⟩:∃ V,w7.setCell (OK g 2) (.slice a7 (F.length+1) c7)=V:=⟨_,rfl⟩
 rw[ai]at aw O
 have o0:V8.cell? (OK C.heap.size 0)=some (.string x):=by rw[Lib.cell_of_heap O];rfl
 have o1:V8.cell? (OK C.heap.size 1)=some (pv):=by rw[Lib.cell_of_heap O];rfl
 have o2:V8.cell? (OK C.heap.size 2)=some (.int .i64 r):=by rw[Lib.cell_of_heap O];rfl
 refine hK.out _ _ (⟨m0,m1,m2⟩) (fun hHeld => ?_)
 clear hK
 try simp[Act.put]
 refine Tk 8 (.pointer (some (OK g 0))) ?_
 try simp[Act.put]
 refine Tk 9 (.pointer (some (OK g 2))) ?_
 try simp[Act.put]
 refine Tr 10 rfl fun KK hK=>?_
 go_simp
 try rw[ai]
 refine hK.out _ _ (⟨o0,o1,o2⟩) (fun hHeld => ?_)
 clear hK
 try simp[Act.put]
 refine wpAnyH_done OE ?_ _
 clear hHeld y7 z7 m0 m1 m2 o0 o1 o2 l0 l1 l2 l3 s0 s1 s2 c2 ci hV ai
 go_wp2_with fail
 go_roundw
 case rel=>exact⟨j+1,_,F++[⟨x,pv,ps,r⟩],Qgd l hjn,rfl,by rw[Pg];exact Qon l cc.out,by rw[Pg];exact aw.mono (Qou bt)⟩
 case measure=>simp[intOf];omega
 ):P:=h
theorem DdGnCx145 {P:Prop} (h:P:=by
 refine hK.out _ _ (trivial) (fun hHeld => ?_)
 clear hK
 try simp[Act.put]
 refine Tr 5 rfl fun KK hK=>?_
 refine Qix rfl _ _ rfl cv eh t2 d5 di rfl rfl ?_
 intro a7 c7 w7 eg ee
 obtain⟨aw,d6,dt,y7,z7⟩:=d7.fpar df.out dp ak cv eg ee
 obtain⟨V8,ai⟩:∃ V,w7.setCell (OK C.heap.size 1) (.slice a7 (ps.length+1) c7)=V:=⟨_,rfl⟩
 rw[ai]at aw d6 dt
 refine hK.out _ _ (trivial) (fun hHeld => ?_)
 clear hK
 try simp[Act.put]
 refine Tk 6 (.pointer (some (OK C.heap.size 1))) ?_
 try simp[Act.put]
 refine Tr 7 rfl fun KK hK=>?_
 go_simp
 try rw[ai]
 refine hK.out _ _ (trivial) (fun hHeld => ?_)
 clear hK
 try simp[Act.put]
 refine wpAnyH_done OE ?_ _
 clear hHeld y7 z7 y6 y5 yd ax ai ak an b8
 go_wp2_with fail
 go_roundw
 case rel=>exact⟨kk - 1,.slice a7 (ps.length+1) c7,ps++[t2],Qoq cs hlt,rfl,Qm1 cs hlt bt,Qm5 dw dx,d6,by rw[Pg];exact dt,by rw[Pg];exact aw.mono (Qow _ _)⟩
 case measure=>simp[intOf];omega
 ):P:=h
theorem DeGnCx238 {P:Prop} (h:P:=by
 go_roundw
 case rel=>exact⟨j+1,a6,n6,c6,_,_,_,_,_,_,Qgd l hjn,rfl,rfl,by rw[<- Qip M2 M3 j l.1 hja];exact bu,by rw[<- Qip M2 M3 j l.1 hja,<- Nat.add_assoc];exact bv,bs⟩
 case measure=>simp[intOf];omega
 ):P:=h
theorem DeGnCx213 {P:Prop} (h:P:=by
 go_roundw
 case rel=>exact⟨j+1,a6,n6,c6,_,_,_,_,_,_,Qgd l hjn,rfl,rfl,by rw[<- Qih M2 M3 j l.1];exact bu,by rw[<- Qih M2 M3 j l.1,<- Nat.add_assoc,<- Nat.add_assoc];exact bv,bs⟩
 case measure=>simp[intOf];omega
 ):P:=h
theorem DdGnCx459 {P:Prop} (h:P:=by
  refine hK.out _ _ (⟨l0,l1,l2⟩) (fun hHeld => ?_)
  clear hK
  try simp[Act.put]
  refine Tr 7 rfl fun KK hK=>?_
  refine Qb4 rfl _ _ rfl ph ck ⟨#[109,97,105,110]⟩ (.slice none 0 0) [] 2 ⟨by decide,by decide,Qb5,by simp⟩ b5 (⟨rfl,.inl ⟨rfl,rfl⟩⟩) b7 rfl rfl ?_
  intro a7 c7 w7 cp aw b6
  obtain⟨y7,z7⟩:=cp
  have U:=(b6 bm (Array.getElem?_eq_some_iff.1 ab).1 (fun e=>Nat.lt_irrefl _ (d8.out.1 _ e))).trans ab
  have m0:w7.cell? (OK bm 0)=some (.string ⟨#[109,97,105,110]⟩):=by rw[Lib.cell_of_heap U];rfl
  have m1:w7.cell? (OK bm 1)=some (.slice none 0 0):=by rw[Lib.cell_of_heap U];rfl
  have m2:w7.cell? (OK bm 2)=some (.int .i64 2):=by rw[Lib.cell_of_heap U];rfl
  have O:=(Bd (w:=w7) (i:=2) (v:=.slice a7 (F.length+1) c7) (Nat.ne_of_gt ef)).trans U
  obtain⟨V8,ai⟩:∃ V,w7.setCell (OK g 2) (.slice a7 (F.length+1) c7)=V:=⟨_,rfl⟩
  rw[ai]at aw O
  have o0:V8.cell? (OK bm 0)=some (.string ⟨#[109,97,105,110]⟩):=by rw[Lib.cell_of_heap O];rfl
  have o1:V8.cell? (OK bm 1)=some (.slice none 0 0):=by rw[Lib.cell_of_heap O];rfl
  have o2:V8.cell? (OK bm 2)=some (.int .i64 2):=by rw[Lib.cell_of_heap O];rfl
  refine hK.out _ _ (⟨m0,m1,m2⟩) (fun hHeld => ?_)
  clear hK
  try simp[Act.put]
  refine Tk 8 (.pointer (some (OK g 0))) ?_
  try simp[Act.put]
  refine Tk 9 (.pointer (some (OK g 2))) ?_
  try simp[Act.put]
  refine Tr 10 rfl fun KK hK=>?_
  go_simp
  try rw[ai]
  refine hK.out _ _ (⟨o0,o1,o2⟩) (fun hHeld => ?_)
  clear hK
  try simp[Act.put]
  refine wpAnyH_done OE ?_ _
  clear hHeld y7 z7 m0 m1 m2 o0 o1 o2 l0 l1 l2 l3 s0 s1 s2 c2 ci hV ai
  have ph:=aw
  have bw:=O
  clear aw O ab U b6 b5 b7
  generalize F++[(⟨⟨#[109,97,105,110]⟩,.slice none 0 0,[],2⟩:Ca)]=F2 at ph bk
  generalize (Value.slice a7 (F.length+1) c7)=fv2 at ph
  obtain⟨fa,fc,rfl⟩:=B3 ph.row
  obtain⟨fl,ae⟩:∃ q,Hid (F2.length=q):=⟨_,(rfl:F2.length=_)⟩
  rw[ae.out]at bk
  obtain⟨Vo,aj⟩:∃ V,V8.alloc (.cells #[] 62)=V:=⟨_,rfl⟩
  have cf:Hid (As V8.heap.size Vo (.slice (some (OK V8.heap.size 0)) 0 0) 0):=by rw[Hid,<- aj];exact Mg V8
  have bf:=ph.below (Cb aj)
  have ch:Hid (V8.heap[bm]? = some (.cells #[.string ⟨#[109,97,105,110]⟩,.slice none 0 0,.int .i64 2] 133)):=bw
  have af:g < V8.heap.size:=(Array.getElem?_eq_some_iff.1 ph.st.box).1
  have bn:Hid (Ak R V0 V8):=ph.fw
  have bx:w.heap.size<=V8.heap.size:=Nat.le_trans bl.out.size ph.fw.size
  have cw:V8.heap.size<=Vo.heap.size:=(Cb aj).size
  have cd:Hid (Ak R V8 Vo):=Ak.of_below (Cb aj)
  rw[ae.out]at bf
  have s0:B0:=trivial
  try rw[aj]
  clear bw ph
  go_wp2_with (first
      | (go_at_call 26;have _t:=s0;clear s0;refine(Tt bf.st (n+1) dr ds bD).mono ?_;rintro e w2 ⟨f,rfl,ec,ay,ag⟩;have ce:Hid (As V8.heap.size w2 (.slice (some (OK V8.heap.size 0)) 0 0) 0):=cf.out.fr ag;have cg:=ay;have cb:Hid (Ak R V8 w2):=cd.out.trans ag.w;have el:=Nat.le_trans cw ag.size;clear bf ag ay))
  go_loopw [11,13] (fun o i wr => ∃ (j:Int) (oa:Option Addr) (on oc:Nat) (nv:Value) (nl:List (ByteArray × Int)) (bz al ah sz:Int),(0<=j/\j<=n)/\i = .int .i64 j/\o = .slice oa on oc/\As V8.heap.size wr (.slice oa on oc) (Jg M2 M3 f j)/\Aw R g R (PB+Jg M2 M3 f j) wr nv nl (.slice fa fl fc) F2 bz al ah sz/\Ak R V8 wr) (fun _ i _=>(n - intOf i).toNat)
  case atStart=>exact⟨0,_,_,_,_,_,_,_,_,_,⟨by decide,z.1⟩,rfl,rfl,ce.out.mono ON (Nat.zero_le _),cg.mono (Qio cm _ _ _ _),cb.out⟩
  case round =>
    obtain⟨j,oa,on,oc,nv,nl,bz,al,ah,sz,l,rfl,rfl,au,hs,hf⟩:=hrel
    have hz:=hf.size
    have bd:=hf.blk ch.out OD
    have d0:wr.cell? (OK bm 0)=some (.string ⟨#[109,97,105,110]⟩):=by rw[Lib.cell_of_heap bd];rfl
    have d1:wr.cell? (OK bm 1)=some (.slice none 0 0):=by rw[Lib.cell_of_heap bd];rfl
    have d2:wr.cell? (OK bm 2)=some (.int .i64 2):=by rw[Lib.cell_of_heap bd];rfl
    have c2:=hs.cells.2.2.1
    have bF:=Yx (a:=f) T c d l z
    have bK:=Q6 (a:=f) c d l z
    by_cases hjn:j < n
    · have dz:=Qgn l z
      have cq:j < (fl:Int):=Qml l bk hjn
      obtain⟨k,hk⟩:∃ k,j.toNat=k:=⟨_,rfl⟩
      have ar:k < fl:=Qmn l cq hk
      have cr:k < F2.length:=by rw[ae.out];exact ar
      obtain⟨fb,rfl,-,-,-⟩:=L0 hs.fns.row ae.out k ar
      obtain⟨E,bc⟩:∃ s,F2[k]=s:=⟨_,rfl⟩
      have A:E ∈ F2:=by rw[<- bc];exact List.getElem_mem cr
      by_cases hja:j=f
      · have a0:=W7 (a:=f) T c d ap.out l z
        have a2:=Q6 (a:=f) c d l z
        have a1:=Qii (a:=f) T c d ao.out l z
        have X:=Qik (a:=f) c d l z
        subst hja
        have u0:B0:=trivial
        go_wp2_with (first
            | (go_at_call 61;have _t:=u0;clear u0;refine(L8 R g R 3 bh 3 OD rfl ⟨#[109,97,105,110]⟩ (.slice none 0 0) [] 2 hs ⟨rfl,.inl ⟨rfl,rfl⟩⟩ OD OD Qb5 OF a0).mono ?_;rintro e C ⟨a3,n3,c3,cz,cx,bo,dc,rfl,Z,G,y⟩;rw[ap.out]at Z G;have u1:B0:=trivial)
            | (at_builtin
               have _t:=u1
               clear u1
               refine C8 rfl _ _ rfl rfl rfl (au.fw y) Z (Nat.le_trans hz y.size) a2 ?_
               intro a4 n4 c4 w4 bb H K
               have u:=K _ _ _ _ _ _ _ _ _ _ _ _ af G
               have Y:=H R V8 ON (hf.trans y)
               have be:=Y.size
               have c2:=u.cells.2.2.1
               obtain⟨cj,e',q0,q1,q2⟩:=L0 u.fns.row ae.out k ar
               injection e' with e';injection e' with e';subst e'
               rw[bc]at q0 q1 q2
               clear K H G Z y d0 d1 d2
               have u2:B0:=trivial)
            | (go_at_call 61;have _t:=u2;clear u2;refine(L8 R g R 2 bg 2 OD rfl E.name E.pv E.params E.result u (u.fns.par E A) (u.fns.bd.2 E A).1 (u.fns.bd.2 E A).2.1 (u.fns.bd.2 E A).2.2.1 (u.fns.bd.2 E A).2.2.2 a1).mono ?_;rintro e w5 ⟨a5,n5,c5,c0,cy,bp,dd,rfl,aa,D,m⟩;rw[ao.out]at aa D;have u3:B0:=trivial)
            | (at_builtin;have _t:=u3;clear u3;refine C8 rfl _ _ rfl rfl rfl (bb.fw m) aa (Nat.le_trans be m.size) X ?_;intro a6 n6 c6 w6 bu I L;have bv:=L _ _ _ _ _ _ _ _ _ _ _ _ af D;have bs:=I R V8 ON (Y.trans m);clear L I D aa m q0 q1 q2 c2))
        exact DeGnCx213
      · have a1:=Qij (a:=f) T c d ao.out l z
        have X:=Qil (a:=f) c d l z
        obtain⟨cj,e',q0,q1,q2⟩:=L0 hs.fns.row ae.out k ar
        injection e' with e';injection e' with e';subst e'
        rw[bc]at q0 q1 q2
        have u2:B0:=trivial
        go_wp2_with (first
            | (go_at_call 61;have _t:=u2;clear u2;refine(L8 R g R 2 bg 2 OD rfl E.name E.pv E.params E.result hs (hs.fns.par E A) (hs.fns.bd.2 E A).1 (hs.fns.bd.2 E A).2.1 (hs.fns.bd.2 E A).2.2.1 (hs.fns.bd.2 E A).2.2.2 a1).mono ?_;rintro e w5 ⟨a5,n5,c5,c0,cy,bp,dd,rfl,aa,D,m⟩;rw[ao.out]at aa D;have u3:B0:=trivial)
            | (at_builtin;have _t:=u3;clear u3;refine C8 rfl _ _ rfl rfl rfl (au.fw m) aa (Nat.le_trans hz m.size) X ?_;intro a6 n6 c6 w6 bu I L;have bv:=L _ _ _ _ _ _ _ _ _ _ _ _ af D;have bs:=I R V8 ON (hf.trans m);clear L I D aa m q0 q1 q2 c2))
        exact DeGnCx238
    · obtain rfl:=Qoo l hjn
      by_cases hna:j=f
      · subst hna
        have a0:=W7 (a:=j) T c d ap.out l z
        have a2:=Q6 (a:=j) c d l z
        have X:=Qim (a:=j) c d l z
        have bQ:=Qiq c d l z
        have bR:=Qis bi c d l z
        have x0:B0:=trivial
        go_wp2_with (first
            | (go_at_call 61;have _t:=x0;clear x0;refine(L8 R g R 3 bh 3 OD rfl ⟨#[109,97,105,110]⟩ (.slice none 0 0) [] 2 hs ⟨rfl,.inl ⟨rfl,rfl⟩⟩ OD OD Qb5 OF a0).mono ?_;rintro e C ⟨a3,n3,c3,cz,cx,bo,dc,rfl,Z,G,y⟩;rw[ap.out]at Z G;have x1:B0:=trivial)
            | (at_builtin;have _t:=x1;clear x1;refine C8 rfl _ _ rfl rfl rfl (au.fw y) Z (Nat.le_trans hz y.size) a2 ?_;intro a4 n4 c4 w4 bb H K;have u:=K _ _ _ _ _ _ _ _ _ _ _ _ af G;have Y:=H R V8 ON (hf.trans y);have be:=Y.size;clear K H G Z y d0 d1 d2 c2;have x2:B0:=trivial)
            | (at_builtin;have _t:=x2;clear x2;refine C8 rfl _ _ rfl rfl rfl (bb.fw (Ak.of_below (B:=R) (Dg w4 _))) (Fj w4 ⟨24,0,0,0,⟨#[]⟩,_⟩ Bh) (Nat.le_trans be (Dg w4 _).size) X ?_;intro a9 n9 c9 w9 ac J N;have ad:=N _ _ _ _ _ _ _ _ _ _ _ _ af (u.below (Dg w4 _));have ba:=J R V8 ON (Y.trans (Ak.of_below (Dg w4 _)));have am:=bn.out.trans ba;have hT:=am.blk b3.out OD;have y9:w9.cell? (OK w.heap.size 0)=some (.slice none 0 0):=(by rw[Lib.cell_of_heap hT];rfl);have z9:w9.frozen? (OK w.heap.size 0)=false:=(by simp[World.frozen?,hT]);have ac:=ac.mono bx bQ;have ad:=ad.mono bR;clear N J))
        have bq:(w9.setCell (OK w.heap.size 0) (.slice a9 n9 c9)).cell? (OK w.heap.size 0)=some (.slice a9 n9 c9):=by rw[Lib.cell_of_heap (Ha hT)];rfl
        exact bodyPost_ret (v:=.agg #[.slice a9 n9 c9]) (by simp[results,results29,go_sem,bq]) rfl (Tu ad ac (bl.out.trans am) hT b4)
      · have X:=Qin (a:=f) c d l z
        have bQ:=Qir (a:=f) c d l z
        have bR:=Qit (a:=f) bi c d l z
        have x2:B0:=trivial
        go_wp2_with (first
            | (at_builtin;have _t:=x2;clear x2;refine C8 rfl _ _ rfl rfl rfl (au.fw (Ak.of_below (B:=R) (Dg wr _))) (Fj wr ⟨24,0,0,0,⟨#[]⟩,_⟩ Bh) (Nat.le_trans hz (Dg wr _).size) X ?_;intro a9 n9 c9 w9 ac J N;have ad:=N _ _ _ _ _ _ _ _ _ _ _ _ af (hs.below (Dg wr _));have ba:=J R V8 ON (hf.trans (Ak.of_below (Dg wr _)));have am:=bn.out.trans ba;have hT:=am.blk b3.out OD;have y9:w9.cell? (OK w.heap.size 0)=some (.slice none 0 0):=(by rw[Lib.cell_of_heap hT];rfl);have z9:w9.frozen? (OK w.heap.size 0)=false:=(by simp[World.frozen?,hT]);have ac:=ac.mono bx bQ;have ad:=ad.mono bR;clear N J))
        have bq:(w9.setCell (OK w.heap.size 0) (.slice a9 n9 c9)).cell? (OK w.heap.size 0)=some (.slice a9 n9 c9):=by rw[Lib.cell_of_heap (Ha hT)];rfl
        exact bodyPost_ret (v:=.agg #[.slice a9 n9 c9]) (by simp[results,results29,go_sem,bq]) rfl (Tu ad ac (bl.out.trans am) hT b4)
  ):P:=h
theorem DeGnCx438 {P:Prop} (h:P:=by
 refine hK.out _ _ (trivial) (fun hHeld => ?_)
 clear hK
 try simp[Act.put]
 refine Tr 4 rfl fun KK hK=>?_
 go_simp
 try rw[ax]
 exact DdGnCx145
 ):P:=h
theorem Qb1 {R p P:Nat} {w:World} (hr:Dn w R p) (hp:p<=P) (hP:P<=300000000) (size:Int) (hsz:0<=size/\size<=P) :
    Calls prog 29 #[.pointer (some (OK R 0)),.int .i64 size] w (Z7 R P w):=by
  have b4:=hr.lt;obtain⟨V0,dj⟩:∃ V,w.alloc (.cells #[.slice none 0 0] 25)=V:=⟨_,rfl⟩;have br:=Cb dj;have b3:Hid (V0.heap[w.heap.size]? = some (.cells #[.slice none 0 0] 25)):=by rw[Hid,<- dj];exact World.alloc_heap_new w _
  obtain⟨V1,dk⟩:∃ V,V0.alloc (.cells #[.pointer (some (OK R 0)),.slice none 0 0,.slice none 0 0,.int .i64 0,.int .i64 0,.int .i64 0,.int .i64 size] 131)=V:=⟨_,rfl⟩;have av:=Aw.new (B:=R) (hr.below br) hp ON size OC dk;obtain⟨g,HG⟩:∃ g,Hid (V0.heap.size=g):=⟨_,(rfl:V0.heap.size=_)⟩;rw[HG.out]at av;have eq:w.heap.size<=g:=by rw[<- HG.out];exact br.size
  have h0:Jl R g R P V0 V1 (.slice none 0 0) [] size:=⟨av,⟨rfl,.inl ⟨rfl,rfl⟩⟩,by simp,Ak.of_below (Cb dk),Nat.lt_of_lt_of_le b4 br.size,Nat.le_of_eq HG.out⟩;have bl:Hid (Ak R w V0):=Ak.of_below br;have eo:=HG.out;clear av br;have b1:P<=1000000000:=OC
  have b2:P+1<=900000000:=OC
  have t0:B0:=trivial;go_enter func29,ntmps29;go_wp2_with (first
    | (go_at_call 26;have _t:=t0;clear t0;refine(Tt h0.st 4 OD OD b1).mono ?_;rintro e Q ⟨n,rfl,z,av,bj⟩;have d9:Hid (Jl R g R (P+1) V0 Q (.slice none 0 0) [] size):=h0.fr av bj;clear h0 av bj))
  go_loopw [7] (fun i wr => ∃ (j:Int) (fv:Value) (F:List Ca),(0<=j/\j<=n)/\i = .int .i64 j/\F.length=j.toNat/\Jl R g R (P+1+20 * F.length) V0 wr fv F size) (fun i _=>(n - intOf i).toNat);case atStart=>exact⟨0,_,[],⟨by decide,z.1⟩,rfl,rfl,d9.out⟩
  case round =>
    obtain⟨j,fv,F,l,rfl,cl,ph⟩:=hrel;have aq:=Qok l z cl;have cc:Hid (F.length=j.toNat):=cl;clear cl;by_cases hjn:j < n
    · have dz:=Qgn l z;have en:=Qm0 l z cc.out hjn;have bA:=Qqd (P:=P) hP aq;have bB:=Qqe (P:=P) hP aq;have bC:=Qqf (P:=P) hP aq;have ck:F.length<=4:=Nat.le_trans aq OD;have k2:=Qom l z;have r0:B0:=trivial;go_wp2_with (first
    | (go_at_call 59;have _t:=r0;clear r0;refine(M1 j l.1 k2 wr).mono ?_;rintro e Q ⟨t,rfl,ht,dm⟩;have dq:=Qmo ht;have ct:=Qmp ht;obtain⟨x,d3⟩:∃ x,(⟨#[102]⟩:ByteArray)++t=x:=⟨_,rfl⟩;have hx:=Qfg d3 rfl ht;have c1:=ph.below dm;clear ph dm;have r1:B0:=trivial)
    | (go_at_call 60;have _t:=r1;clear r1;refine(K3 c1.st bA).mono ?_;rintro e w2 ⟨ty,rfl,ej,ay,ag⟩;have c8:=(c1.fr ay ag).below (Dg w2 (.cells #[.int .i64 0,.int .i64 2,.int .i64 ty] 3));clear c1 ay ag;have r2:B0:=trivial)
    | (go_at_call 26;have _t:=r2;clear r2;refine(Bn c8.st 3 OD OD bB).mono ?_;rintro e C ⟨v,rfl,hv,G,y⟩;obtain⟨r,ed,ei⟩:=Qol (y.blk (World.alloc_heap_new w2 _) OD) ej hv;have az:=c8.fr G y;have df:Hid (Qie C.heap.size fv F):=az.lt;have dp:g < C.heap.size:=(Array.getElem?_eq_some_iff.1 az.st.box).1;obtain⟨V3,cn⟩:∃ V,C.alloc (.cells #[.string x,.slice none 0 0,.int .i64 r] 133)=V:=⟨_,rfl⟩;have dn:=Cb cn;have d4:V3.heap[C.heap.size]? = some (.cells #[.string x,.slice none 0 0,.int .i64 r] 133):=(by rw[<- cn];exact World.alloc_heap_new C _);have em:V0.heap.size<=C.heap.size:=az.fw.size;have az:=az.below dn;clear c8 G y dn;have r3:B0:=trivial)
    | (go_at_call 26;have _t:=r3;clear r3;refine(Tt az.st 3 OD OD bC).mono ?_;rintro e w4 ⟨k0,rfl,ep,u,Y⟩;have eb:Hid (Jl R g R _ V0 w4 fv F size):=az.fr u Y;have ea:Hid (w4.heap[C.heap.size]? = some (.cells #[.string x,.slice none 0 0,.int .i64 r] 133)):=Y.blk d4 OD;clear az u Y d4 ed dq ct d3 cn))
      go_loopw [9] (fun k wr => ∃ (kk:Int) (pv:Value) (ps:List Int),(0<=kk/\kk<=2)/\k = .int .i64 kk/\ps.length+kk.toNat<=2/\(∀ t ∈ ps,Hs t)/\wr.heap[C.heap.size]? = some (.cells #[.string x,pv,.int .i64 r] 133)/\wr.ownsRow C.heap.size 3 1 pv ps.length (Gf ps)/\Jl R g R (P+1+20 * F.length+6+2 * ps.length) V0 wr fv F size) (fun k _=>(intOf k).toNat);case atStart=>exact⟨k0,_,[],by omega,rfl,by simp;omega,by simp,ea.out,⟨rfl,.inl ⟨rfl,rfl⟩⟩,eb.out.mono OF⟩
      case round =>
        obtain⟨kk,pv,ps,cs,rfl,bt,dw,ab,dv,ph⟩:=hrel;by_cases hlt:0 < kk
        · have eh:=Qm4 bt;have bT:=Qqi (P:=P) hP aq bt;have er:=Qp3 cs hlt;go_wp2_with fail;refine wp_region_held_drew (S:=(fun _=>True)) OE (trivial) (fun hHeld => ?_);refine Tk 0 (.pointer (some (OK C.heap.size 1))) ?_;refine Tk 2 (.pointer (some (OK g 0))) ?_;(try simp[Act.put]);have b8:wr.drew.heap[C.heap.size]? = some (.cells #[.string x,pv,.int .i64 r] 133):=ab;have b9:=ph.below ((OO wr).drew);have du:=(Bg.of_below (B:=R) ((OO wr).drew)).row dv OD;have yd:wr.drew.cell? (OK C.heap.size 1)=some pv:=(by rw[Lib.cell_of_heap b8];rfl);refine wpAnyH_ready (rs:=[1,3]) OE OF ?_;refine AllReadyH.cons rfl (fun KK hK => ?_) (AllReadyH.cons rfl (fun KK hK => ?_) AllReadyH.nil)
          · go_simp;refine hK.out _ _ (trivial) (fun hHeld => ?_);clear hK;(try simp[Act.put]);refine Tr 3 rfl fun KK hK=>?_
            go_simp;refine(K3 b9.st bT).mono ?_;rintro e w5 ⟨t2,rfl,dx,D,m⟩;have da:=b9.fr D m;have an:=m.blk b8 OD;have cu:=m.row du OD;have y5:w5.cell? (OK C.heap.size 1)=some pv:=(by rw[Lib.cell_of_heap an];rfl);obtain⟨V6,ax⟩:∃ V,w5.alloc (.cells #[.int .i64 t2] 3)=V:=⟨_,rfl⟩;have a8:=Cb ax;have d7:=da.below a8;have ak:=(Bg.of_below (B:=R) a8).blk an OD;have cv:=(Bg.of_below (B:=R) a8).row cu OD;have d5:V6.heap[w5.heap.size]? = some (.cells #[.int .i64 t2] 3):=(by rw[<- ax];exact World.alloc_heap_new w5 _);have y6:V6.cell? (OK C.heap.size 1)=some pv:=(by rw[Lib.cell_of_heap ak];rfl);have di:C.heap.size<=V6.heap.size:=Nat.le_of_lt (Array.getElem?_eq_some_iff.1 ak).1;go_wp2;exact DeGnCx438
          · go_simp;refine(K3 b9.st bT).mono ?_;rintro e w5 ⟨t2,rfl,dx,D,m⟩;have da:=b9.fr D m;have an:=m.blk b8 OD;have cu:=m.row du OD;have y5:w5.cell? (OK C.heap.size 1)=some pv:=(by rw[Lib.cell_of_heap an];rfl);obtain⟨V6,ax⟩:∃ V,w5.alloc (.cells #[.int .i64 t2] 3)=V:=⟨_,rfl⟩;have a8:=Cb ax;have d7:=da.below a8;have ak:=(Bg.of_below (B:=R) a8).blk an OD;have cv:=(Bg.of_below (B:=R) a8).row cu OD;have d5:V6.heap[w5.heap.size]? = some (.cells #[.int .i64 t2] 3):=(by rw[<- ax];exact World.alloc_heap_new w5 _);have y6:V6.cell? (OK C.heap.size 1)=some pv:=(by rw[Lib.cell_of_heap ak];rfl);have di:C.heap.size<=V6.heap.size:=Nat.le_of_lt (Array.getElem?_eq_some_iff.1 ak).1;go_wp2;refine hK.out _ _ (trivial) (fun hHeld => ?_);clear hK;(try simp[Act.put]);refine wpAnyH_ready (rs:=[1,4]) OE OF ?_;refine AllReadyH.cons rfl (fun KK hK => ?_) (AllReadyH.cons rfl (fun KK hK => ?_) AllReadyH.nil)
            · go_simp;exact DeGnCx438
            · go_simp;try rw[ax]
              refine hK.out _ _ (trivial) (fun hHeld => ?_);clear hK;(try simp[Act.put]);refine Tr 1 rfl fun KK hK=>?_
              go_simp;exact DdGnCx145
        · go_wp2_with fail;have s0:wr.cell? (OK C.heap.size 0)=some (.string x):=(by rw[Lib.cell_of_heap ab];rfl);have s1:wr.cell? (OK C.heap.size 1)=some (pv):=(by rw[Lib.cell_of_heap ab];rfl);have s2:wr.cell? (OK C.heap.size 2)=some (.int .i64 r):=(by rw[Lib.cell_of_heap ab];rfl);have c2:=ph.st.cells.2.2.1;have ci:wr.drew.cell? (OK g 2)=some fv:=c2;refine wp_region_held_drew (S:=(fun W=>W.cell? (OK C.heap.size 0)=some (.string x)/\W.cell? (OK C.heap.size 1)=some (pv)/\W.cell? (OK C.heap.size 2)=some (.int .i64 r))) OE (⟨s0,s1,s2⟩) (fun hHeld => ?_);refine Tk 0 (.pointer (some (OK g 0))) ?_;refine Tk 1 (.pointer (some (OK g 0))) ?_;refine Tk 2 (.pointer (some (OK g 0))) ?_;(try simp[Act.put]);refine Tk 3 (.pointer (some (OK g 2))) ?_;refine Tk 5 (.agg #[.string x,pv,.int .i64 r]) ?_;(try simp[Act.put]);obtain⟨V,hV⟩:∃ V,(wr.alloc (.cells #[.string x,pv,.int .i64 r] 133)).drew=V:=⟨_,rfl⟩;have b5:Below wr.heap.size wr V:=(by rw[<- hV];exact(OP wr _).drew);have b7:V.heap[wr.heap.size]? = some (.cells #[.string x,pv,.int .i64 r] 133):=(by rw[<- hV];exact World.alloc_heap_new wr _);have l0:V.cell? (OK C.heap.size 0)=some (.string x):=(by rw[<- hV];exact Ge s0);have l1:V.cell? (OK C.heap.size 1)=some (pv):=(by rw[<- hV];exact Ge s1);have l2:V.cell? (OK C.heap.size 2)=some (.int .i64 r):=(by rw[<- hV];exact Ge s2);have l3:V.cell? (OK g 2)=some fv:=(by rw[<- hV];exact Ge c2);refine wpAnyH_ready (rs:=[4,6]) OE OF ?_;refine AllReadyH.cons rfl (fun KK hK => ?_) (AllReadyH.cons rfl (fun KK hK => ?_) AllReadyH.nil)
          · go_simp;refine hK.out _ _ (hHeld) (fun hHeld => ?_);clear hK;(try simp[Act.put]);refine Tr 6 rfl fun KK hK=>?_
            go_simp;try rw[hV]
            exact DdGnCx300
          · go_simp;try rw[hV]
            refine hK.out _ _ (⟨l0,l1,l2⟩) (fun hHeld => ?_);clear hK;(try simp[Act.put]);refine Tr 4 rfl fun KK hK=>?_
            go_simp;exact DdGnCx300
    · have de:Hid (F.length=n.toNat):=Qqa l z hjn cc.out;obtain⟨bm,co⟩:∃ b,wr.heap.size=b:=⟨_,rfl⟩;obtain⟨Vm,dl⟩:∃ V,wr.alloc (.cells #[.string ⟨#[109,97,105,110]⟩,.slice none 0 0,.int .i64 2] 133)=V:=⟨_,rfl⟩;have ca:Vm.heap[bm]? = some (.cells #[.string ⟨#[109,97,105,110]⟩,.slice none 0 0,.int .i64 2] 133):=(by rw[<- dl,<- co];exact World.alloc_heap_new wr _);have d8:Hid (Qie bm fv F):=(by rw[Hid,<- co];exact ph.lt);have ef:g < bm:=(by rw[<- co];exact(Array.getElem?_eq_some_iff.1 ph.st.box).1);have db:=ph.below (Cb dl);have bE:=Qqg (P:=P) hP aq;have ck:F.length<=4:=Nat.le_trans aq OD;have bh:Hid (Ij R g R 3):=Qfk R g R 3 OD;have bg:Hid (Ij R g R 2):=Qfk R g R 2 OD;obtain⟨M2,ao⟩:∃ M,Hid (7 * Cj 2=M):=⟨_,(rfl:7 * Cj 2=_)⟩;obtain⟨M3,ap⟩:∃ M,Hid (7 * Cj 3=M):=⟨_,(rfl:7 * Cj 3=_)⟩;have c:=Qor ao.out;have d:=Qos ap.out;obtain⟨PB,b0⟩:∃ q,Hid (P+100=q):=⟨_,(rfl:P+100=_)⟩;have cm:=Qov b0.out aq;have T:=Qm2 b0.out hP;have dh:=b0.out;have bi:PB<=P+100:=Nat.le_of_eq b0.out.symm;have dr:=Qqb z;have ds:=Qqc z;have es:=Qp4 z;have bD:=Qqh (P:=P) hP aq;clear dh;obtain⟨P1,dg⟩:∃ q,Hid (P+1+20 * F.length+1=q):=⟨_,(rfl:P+1+20 * F.length+1=_)⟩;rw[dg.out]at cm bD;have e0:B0:=trivial;clear ph;go_wp2_with (first
    | (go_at_call 26;have _t:=e0;clear e0;refine(Tt db.st 6 OD OD bE).mono ?_;rintro e Q ⟨v6,rfl,ek,av,bj⟩;have ph:=db.fr av bj;rw[dg.out]at ph;have ab:=bj.blk ca OD;clear db av bj ca;have dy:=Qqw ek;rcases dy with rfl|dy))
      · have bk:n.toNat<=(F++[(⟨⟨#[109,97,105,110]⟩,.slice none 0 0,[],2⟩:Ca)]).length:=(by rw[Pg,de.out];exact Nat.le_succ _);have s0:Q.cell? (OK bm 0)=some (.string ⟨#[109,97,105,110]⟩):=(by rw[Lib.cell_of_heap ab];rfl);have s1:Q.cell? (OK bm 1)=some (.slice none 0 0):=(by rw[Lib.cell_of_heap ab];rfl);have s2:Q.cell? (OK bm 2)=some (.int .i64 2):=(by rw[Lib.cell_of_heap ab];rfl);have c2:=ph.st.cells.2.2.1;have ci:Q.drew.cell? (OK g 2)=some fv:=c2;refine wp_region_held_drew (S:=(fun W=>W.cell? (OK bm 0)=some (.string ⟨#[109,97,105,110]⟩)/\W.cell? (OK bm 1)=some (.slice none 0 0)/\W.cell? (OK bm 2)=some (.int .i64 2))) OE (⟨s0,s1,s2⟩) (fun hHeld => ?_);refine Tk 0 (.pointer (some (OK g 0))) ?_;refine Tk 1 (.pointer (some (OK g 0))) ?_;refine Tk 2 (.pointer (some (OK g 0))) ?_;(try simp[Act.put]);refine Tk 3 (.pointer (some (OK g 2))) ?_;refine Tk 5 (.agg #[.string ⟨#[109,97,105,110]⟩,.slice none 0 0,.int .i64 2]) ?_;(try simp[Act.put]);obtain⟨V,hV⟩:∃ V,(Q.alloc (.cells #[.string ⟨#[109,97,105,110]⟩,.slice none 0 0,.int .i64 2] 133)).drew=V:=⟨_,rfl⟩;have b5:Below Q.heap.size Q V:=(by rw[<- hV];exact(OP Q _).drew);have b7:V.heap[Q.heap.size]? = some (.cells #[.string ⟨#[109,97,105,110]⟩,.slice none 0 0,.int .i64 2] 133):=(by rw[<- hV];exact World.alloc_heap_new Q _);have l0:V.cell? (OK bm 0)=some (.string ⟨#[109,97,105,110]⟩):=(by rw[<- hV];exact Ge s0);have l1:V.cell? (OK bm 1)=some (.slice none 0 0):=(by rw[<- hV];exact Ge s1);have l2:V.cell? (OK bm 2)=some (.int .i64 2):=(by rw[<- hV];exact Ge s2);have l3:V.cell? (OK g 2)=some fv:=(by rw[<- hV];exact Ge c2);refine wpAnyH_ready (rs:=[4,6]) OE OF ?_;refine AllReadyH.cons rfl (fun KK hK => ?_) (AllReadyH.cons rfl (fun KK hK => ?_) AllReadyH.nil)
        · go_simp;refine hK.out _ _ (hHeld) (fun hHeld => ?_);clear hK;(try simp[Act.put]);refine Tr 6 rfl fun KK hK=>?_
          go_simp;try rw[hV]
          exact DdGnCx459
        · go_simp;try rw[hV]
          refine hK.out _ _ (⟨l0,l1,l2⟩) (fun hHeld => ?_);clear hK;(try simp[Act.put]);refine Tr 4 rfl fun KK hK=>?_
          go_simp;exact DdGnCx459
      · have bk:n.toNat<=F.length:=Nat.le_of_eq de.out.symm;have bw:=ab;clear ab;obtain⟨fa,fc,rfl⟩:=B3 ph.row;obtain⟨fl,ae⟩:∃ q,Hid (F.length=q):=⟨_,(rfl:F.length=_)⟩;rw[ae.out]at bk;obtain⟨Vo,aj⟩:∃ V,Q.alloc (.cells #[] 62)=V:=⟨_,rfl⟩;have cf:Hid (As Q.heap.size Vo (.slice (some (OK Q.heap.size 0)) 0 0) 0):=(by rw[Hid,<- aj];exact Mg Q);have bf:=ph.below (Cb aj);have ch:Hid (Q.heap[bm]? = some (.cells #[.string ⟨#[109,97,105,110]⟩,.slice none 0 0,.int .i64 2] 133)):=bw;have af:g < Q.heap.size:=(Array.getElem?_eq_some_iff.1 ph.st.box).1;have bn:Hid (Ak R V0 Q):=ph.fw;have bx:w.heap.size<=Q.heap.size:=Nat.le_trans bl.out.size ph.fw.size;have cw:Q.heap.size<=Vo.heap.size:=(Cb aj).size;have cd:Hid (Ak R Q Vo):=Ak.of_below (Cb aj);rw[ae.out]at bf;have s0:B0:=trivial;try rw[aj]
        clear bw ph;go_wp2_with (first
            | (go_at_call 26;have _t:=s0;clear s0;refine(Tt bf.st (n+1) dr ds bD).mono ?_;rintro e w2 ⟨f,rfl,ec,ay,ag⟩;have ce:Hid (As Q.heap.size w2 (.slice (some (OK Q.heap.size 0)) 0 0) 0):=cf.out.fr ag;have cg:=ay;have cb:Hid (Ak R Q w2):=cd.out.trans ag.w;have el:=Nat.le_trans cw ag.size;clear bf ag ay))
        go_loopw [11,13] (fun o i wr => ∃ (j:Int) (oa:Option Addr) (on oc:Nat) (nv:Value) (nl:List (ByteArray × Int)) (bz al ah sz:Int),(0<=j/\j<=n)/\i = .int .i64 j/\o = .slice oa on oc/\As Q.heap.size wr (.slice oa on oc) (Jg M2 M3 f j)/\Aw R g R (PB+Jg M2 M3 f j) wr nv nl (.slice fa fl fc) F bz al ah sz/\Ak R Q wr) (fun _ i _=>(n - intOf i).toNat);case atStart=>exact⟨0,_,_,_,_,_,_,_,_,_,⟨by decide,z.1⟩,rfl,rfl,ce.out.mono ON (Nat.zero_le _),cg.mono (Qio cm _ _ _ _),cb.out⟩
        case round =>
          obtain⟨j,oa,on,oc,nv,nl,bz,al,ah,sz,l,rfl,rfl,au,hs,hf⟩:=hrel;have hz:=hf.size;have bd:=hf.blk ch.out OD;have d0:wr.cell? (OK bm 0)=some (.string ⟨#[109,97,105,110]⟩):=(by rw[Lib.cell_of_heap bd];rfl);have d1:wr.cell? (OK bm 1)=some (.slice none 0 0):=(by rw[Lib.cell_of_heap bd];rfl);have d2:wr.cell? (OK bm 2)=some (.int .i64 2):=(by rw[Lib.cell_of_heap bd];rfl);have c2:=hs.cells.2.2.1;have bF:=Yx (a:=f) T c d l z;have bK:=Q6 (a:=f) c d l z;by_cases hjn:j < n
          · have dz:=Qgn l z;have cq:j < (fl:Int):=Qml l bk hjn;obtain⟨k,hk⟩:∃ k,j.toNat=k:=⟨_,rfl⟩;have ar:k < fl:=Qmn l cq hk;have cr:k < F.length:=(by rw[ae.out];exact ar);obtain⟨fb,rfl,-,-,-⟩:=L0 hs.fns.row ae.out k ar;obtain⟨E,bc⟩:∃ s,F[k]=s:=⟨_,rfl⟩;have A:E ∈ F:=(by rw[<- bc];exact List.getElem_mem cr);by_cases hja:j=f
            · have a0:=W7 (a:=f) T c d ap.out l z;have a2:=Q6 (a:=f) c d l z;have a1:=Qii (a:=f) T c d ao.out l z;have X:=Qik (a:=f) c d l z;subst hja;have u0:B0:=trivial;go_wp2_with (first
                  | (go_at_call 61;have _t:=u0;clear u0;refine(L8 R g R 3 bh 3 OD rfl ⟨#[109,97,105,110]⟩ (.slice none 0 0) [] 2 hs ⟨rfl,.inl ⟨rfl,rfl⟩⟩ OD OD Qb5 OF a0).mono ?_;rintro e C ⟨a3,n3,c3,cz,cx,bo,dc,rfl,Z,G,y⟩;rw[ap.out]at Z G;have u1:B0:=trivial)
                  | (at_builtin
                     have _t:=u1
                     clear u1
                     refine C8 rfl _ _ rfl rfl rfl (au.fw y) Z (Nat.le_trans hz y.size) a2 ?_
                     intro a4 n4 c4 w4 bb H K
                     have u:=K _ _ _ _ _ _ _ _ _ _ _ _ af G
                     have Y:=H R Q ON (hf.trans y)
                     have be:=Y.size
                     have c2:=u.cells.2.2.1
                     obtain⟨cj,e',q0,q1,q2⟩:=L0 u.fns.row ae.out k ar
                     injection e' with e';injection e' with e';subst e'
                     rw[bc]at q0 q1 q2
                     clear K H G Z y d0 d1 d2
                     have u2:B0:=trivial)
                  | (go_at_call 61;have _t:=u2;clear u2;refine(L8 R g R 2 bg 2 OD rfl E.name E.pv E.params E.result u (u.fns.par E A) (u.fns.bd.2 E A).1 (u.fns.bd.2 E A).2.1 (u.fns.bd.2 E A).2.2.1 (u.fns.bd.2 E A).2.2.2 a1).mono ?_;rintro e w5 ⟨a5,n5,c5,c0,cy,bp,dd,rfl,aa,D,m⟩;rw[ao.out]at aa D;have u3:B0:=trivial)
                  | (at_builtin;have _t:=u3;clear u3;refine C8 rfl _ _ rfl rfl rfl (bb.fw m) aa (Nat.le_trans be m.size) X ?_;intro a6 n6 c6 w6 bu I L;have bv:=L _ _ _ _ _ _ _ _ _ _ _ _ af D;have bs:=I R Q ON (Y.trans m);clear L I D aa m q0 q1 q2 c2))
              exact DeGnCx213
            · have a1:=Qij (a:=f) T c d ao.out l z;have X:=Qil (a:=f) c d l z;obtain⟨cj,e',q0,q1,q2⟩:=L0 hs.fns.row ae.out k ar;injection e' with e';injection e' with e';subst e'
              rw[bc]at q0 q1 q2;have u2:B0:=trivial;go_wp2_with (first
                  | (go_at_call 61;have _t:=u2;clear u2;refine(L8 R g R 2 bg 2 OD rfl E.name E.pv E.params E.result hs (hs.fns.par E A) (hs.fns.bd.2 E A).1 (hs.fns.bd.2 E A).2.1 (hs.fns.bd.2 E A).2.2.1 (hs.fns.bd.2 E A).2.2.2 a1).mono ?_;rintro e w5 ⟨a5,n5,c5,c0,cy,bp,dd,rfl,aa,D,m⟩;rw[ao.out]at aa D;have u3:B0:=trivial)
                  | (at_builtin;have _t:=u3;clear u3;refine C8 rfl _ _ rfl rfl rfl (au.fw m) aa (Nat.le_trans hz m.size) X ?_;intro a6 n6 c6 w6 bu I L;have bv:=L _ _ _ _ _ _ _ _ _ _ _ _ af D;have bs:=I R Q ON (hf.trans m);clear L I D aa m q0 q1 q2 c2))
              exact DeGnCx238
          · obtain rfl:=Qoo l hjn;by_cases hna:j=f
            · subst hna;have a0:=W7 (a:=j) T c d ap.out l z;have a2:=Q6 (a:=j) c d l z;have X:=Qim (a:=j) c d l z;have bQ:=Qiq c d l z;have bR:=Qis bi c d l z;have x0:B0:=trivial;go_wp2_with (first
                  | (go_at_call 61;have _t:=x0;clear x0;refine(L8 R g R 3 bh 3 OD rfl ⟨#[109,97,105,110]⟩ (.slice none 0 0) [] 2 hs ⟨rfl,.inl ⟨rfl,rfl⟩⟩ OD OD Qb5 OF a0).mono ?_;rintro e C ⟨a3,n3,c3,cz,cx,bo,dc,rfl,Z,G,y⟩;rw[ap.out]at Z G;have x1:B0:=trivial)
                  | (at_builtin;have _t:=x1;clear x1;refine C8 rfl _ _ rfl rfl rfl (au.fw y) Z (Nat.le_trans hz y.size) a2 ?_;intro a4 n4 c4 w4 bb H K;have u:=K _ _ _ _ _ _ _ _ _ _ _ _ af G;have Y:=H R Q ON (hf.trans y);have be:=Y.size;clear K H G Z y d0 d1 d2 c2;have x2:B0:=trivial)
                  | (at_builtin;have _t:=x2;clear x2;refine C8 rfl _ _ rfl rfl rfl (bb.fw (Ak.of_below (B:=R) (Dg w4 _))) (Fj w4 ⟨24,0,0,0,⟨#[]⟩,_⟩ Bh) (Nat.le_trans be (Dg w4 _).size) X ?_;intro a9 n9 c9 w9 ac J N;have ad:=N _ _ _ _ _ _ _ _ _ _ _ _ af (u.below (Dg w4 _));have ba:=J R Q ON (Y.trans (Ak.of_below (Dg w4 _)));have am:=bn.out.trans ba;have hT:=am.blk b3.out OD;have y9:w9.cell? (OK w.heap.size 0)=some (.slice none 0 0):=(by rw[Lib.cell_of_heap hT];rfl);have z9:w9.frozen? (OK w.heap.size 0)=false:=(by simp[World.frozen?,hT]);have ac:=ac.mono bx bQ;have ad:=ad.mono bR;clear N J))
              exact DdGnCx1077
            · have X:=Qin (a:=f) c d l z;have bQ:=Qir (a:=f) c d l z;have bR:=Qit (a:=f) bi c d l z;have x2:B0:=trivial;go_wp2_with (first
                  | (at_builtin;have _t:=x2;clear x2;refine C8 rfl _ _ rfl rfl rfl (au.fw (Ak.of_below (B:=R) (Dg wr _))) (Fj wr ⟨24,0,0,0,⟨#[]⟩,_⟩ Bh) (Nat.le_trans hz (Dg wr _).size) X ?_;intro a9 n9 c9 w9 ac J N;have ad:=N _ _ _ _ _ _ _ _ _ _ _ _ af (hs.below (Dg wr _));have ba:=J R Q ON (hf.trans (Ak.of_below (Dg wr _)));have am:=bn.out.trans ba;have hT:=am.blk b3.out OD;have y9:w9.cell? (OK w.heap.size 0)=some (.slice none 0 0):=(by rw[Lib.cell_of_heap hT];rfl);have z9:w9.frozen? (OK w.heap.size 0)=false:=(by simp[World.frozen?,hT]);have ac:=ac.mono bx bQ;have ad:=ad.mono bR;clear N J))
              exact DdGnCx1077
end Go.Proofs.YtjlaedokfbcbpaaGreatDoor
