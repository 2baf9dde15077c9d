import Derived.Test.YtfjkahdghhbpnaaGreatDoorKTk
import Derived.Test.YtfjkahdghhbpnaaGreatDoorKStRa
import Derived.Test.YtfjkahdghhbpnaaGreatDoorKStP
set_option maxRecDepth 100000
set_option maxHeartbeats 4000000
namespace Go.Proofs.YtfjkahdghhbpnaaGreatDoor
open Go.RowKit
def It (ca:Option Addr) (n cc:Nat) (arg:ByteArray) (oa:Option Addr) (no oc B:Nat) (v16 v17 v20 v21 v24 v25 v5:Value):Act:=⟨#[.agg #[.slice ca n cc],.agg #[.string arg,.slice oa no oc],.pointer (some ⟨B,0,none⟩),.pointer (some ⟨B+1,0,none⟩),.pointer (some ⟨B+1+1,0,none⟩),v5,.agg #[.slice ca n cc],.bool true,.bool false,.bool false,.agg #[.string arg,.slice oa no oc],.bool true,.bool false,.bool false,undef,.agg #[.slice ca n cc],v16,v17,.pointer (some ⟨B+1,0,none⟩),.string arg,v20,v21,.pointer (some ⟨B+1,1,none⟩),.slice oa no oc,v24,v25,undef,undef,undef,undef,undef,undef,undef,undef,undef],[]⟩
def Qd6 (c:List Ae) (n no:Nat) (arg:ByteArray) (outs:List ByteArray) (w2:World) (A:Value->Value->Value->Value->Value->Value->Value->Act) (S:World->Prop) (L:Nat->Bool) (a:Act) (W:World):Prop := ∃ v16 v17 v20 v21 v24 v25 v5,a=A v16 v17 v20 v21 v24 v25 v5/\S W/\Fs c n no arg outs w2 L W v16 v17 v20 v21 v24 v25 v5
def Ki (ca:Option Addr) (n cc:Nat) (arg:ByteArray) (oa:Option Addr) (no oc B g5 y17:Nat) (v16 v20 v21 v24 v25 v29 v30 v31 v32 v33:Value):Act:=⟨#[.agg #[.slice ca n cc],.agg #[.string arg,.slice oa no oc],.pointer (some ⟨B,0,none⟩),.pointer (some ⟨B+1,0,none⟩),.pointer (some ⟨B+1+1,0,none⟩),.pointer (some ⟨g5,0,none⟩),.agg #[.slice ca n cc],.bool true,.bool false,.bool false,.agg #[.string arg,.slice oa no oc],.bool true,.bool false,.bool false,undef,.agg #[.slice ca n cc],v16,.slice (some ⟨y17,0,none⟩) 1 1,.pointer (some ⟨B+1,0,none⟩),.string arg,v20,v21,.pointer (some ⟨B+1,1,none⟩),.slice oa no oc,v24,v25,.pointer (some ⟨g5,0,none⟩),.slice (some ⟨y17,0,none⟩) 1 1,.agg #[.slice ca n cc],v29,v30,v31,v32,v33,undef],[]⟩
def Qd7 (fn ns g5:Nat) (v17 v20 v24:Value) (W3:World) (A:Value->Value->Value->Value->Value->Act) (S:World->Prop) (L:Nat->Bool) (a:Act) (U:World):Prop := ∃ v29 v30 v31 v32 v33,a=A v29 v30 v31 v32 v33/\S U/\Gt fn ns g5 v17 v20 v24 W3 L U v29 v30 v31 v32 v33
theorem Qj (c:List Ae) (ca:Option Addr) (cc:Nat) (arg:ByteArray) (outs:List ByteArray) (oa:Option Addr) (oc:Nat) (hcl:c.length<=1048576) (hpl:∀ k (hk:k < c.length),c[k].params.length<=1048576/\c[k].ins.length<=1048576) (harg:arg.size<=1048576) (hol:outs.length<=1048576) (hox:∀ d ∈ outs,d.size<=1048576)
  (w:World) (hC:Ak w.heap.size w (.slice ca c.length cc) c) (ho:Cx w (.slice oa outs.length oc) outs) :
  Calls Tryz.prog 6 #[.agg #[.slice ca c.length cc],.agg #[.string arg,.slice oa outs.length oc]] w (Qa c arg outs w):=by
 obtain⟨i0,ct,cu,cv,cw⟩:=info_parts L4
 have bj:Hid (∀ U:World,w.heap.size<=U.heap.size->Below w.heap.size w U->Calls Tryz.prog 19 #[.agg #[.slice ca c.length cc]] U fun e w'=>(∃ r,e = .returned (.bool (decide (r.1=0)))/\Bt c r)/\Below U.heap.size U w'):=fun U h1 h2=>Qda c ca cc hcl hpl U ((hC.below h2).mono h1)
 have bo:Hid (∀ U:World,Below w.heap.size w U->Calls Tryz.prog 20 #[.agg #[.string arg,.slice oa outs.length oc]] U fun e w'=>e = .returned (.bool (E9 arg outs))/\Below U.heap.size U w'):=fun U h2=>Qak arg outs (.slice oa outs.length oc) U harg hol hox (ho.below h2)
 have bg:Hid (∀ U:World,w.heap.size<=U.heap.size->Below w.heap.size w U->Calls Tryz.prog 21 #[.agg #[.slice ca c.length cc]] U fun e w' => ∃ a cp,e = .returned (.agg #[.slice a c.length cp])/\∃ E,D0 E=c/\A2 U.heap.size w' (.slice a c.length cp) E/\Below U.heap.size U w'):=fun U h1 h2=>Qar c ca cc hcl (fun f hf=>by obtain⟨k,hk,rfl⟩:=List.getElem_of_mem hf;exact hpl k hk) U ((hC.below h2).mono h1)
 have bv:Hid (∀ (r:Int × Int × Int) (U:World),Bt c r->r.1=0->Below w.heap.size w U->w.heap.size<=U.heap.size->Calls Tryz.prog 23 #[.agg #[.slice ca c.length cc]] U fun e w'=>e = .returned (.int .i64 (Ft c:Int))/\Below U.heap.size U w'):=fun r U ha hr h2 h1=>Qax c r ha hr w.heap.size (.slice ca c.length cc) hcl U h1 (hC.below h2)
 have bn:Hid (∀ U:World,Below w.heap.size w U->P9 U oa outs.length (Be outs)):=fun U h2=>Qb3 (ho.below h2)
 clear hC ho hpl hox
 obtain⟨n,bw⟩:∃ n,Hid (c.length=n):=⟨_,(rfl:c.length=_)⟩
 obtain⟨no,ai⟩:∃ n,Hid (outs.length=n):=⟨_,(rfl:outs.length=_)⟩
 rw[bw.out]at bj bg bv |-
 rw[ai.out]at bo bn |-
 obtain⟨V1,bp⟩:∃ V,w.alloc (.cells #[.slice ca n cc] 38)=V:=⟨_,rfl⟩
 obtain⟨V2,a5⟩:∃ V,V1.alloc (.cells #[.string arg,.slice oa no oc] 40)=V:=⟨_,rfl⟩
 obtain⟨V3,ak⟩:∃ V,V2.alloc (.cells #[.slice none 0 0,.slice none 0 0,.slice none 0 0,.slice none 0 0,.int .i64 0,.int .i64 0,.int .i64 0,.string ⟨#[]⟩,.string ⟨#[]⟩,.bool false,.int .i64 0,.string ⟨#[]⟩,.slice none 0 0,.slice none 0 0] 34)=V:=⟨_,rfl⟩
 have b6:V1.heap.size=w.heap.size+1:=by rw[<- bp];simp
 have b7:V2.heap.size=w.heap.size+1+1:=by rw[<- a5,World.size_alloc,b6]
 have dh:V3.heap.size=w.heap.size+1+1+1:=by rw[<- ak,World.size_alloc,b7]
 have bs:Hid (Below w.heap.size w V3):=by rw[Hid,<- ak,<- a5,<- bp];exact((Di w _).alloc (by simp) _).alloc (by simp;omega) _
 have bx:Hid (V3.heap[w.heap.size]? = some (.cells #[.slice ca n cc] 38)):=by rw[Hid,<- ak];exact Am _ (by rw[<- a5];exact Am _ (by rw[<- bp];exact(MapKept.heap_alloc w _).1))
 have cm:Hid (V3.heap[w.heap.size+1]? = some (.cells #[.string arg,.slice oa no oc] 40)):=by rw[Hid,<- ak];exact Am _ (by rw[<- a5,<- b6];exact(MapKept.heap_alloc V1 _).1)
 have cn:Hid (V3.heap[w.heap.size+1+1]? = some (.cells #[.slice none 0 0,.slice none 0 0,.slice none 0 0,.slice none 0 0,.int .i64 0,.int .i64 0,.int .i64 0,.string ⟨#[]⟩,.string ⟨#[]⟩,.bool false,.int .i64 0,.string ⟨#[]⟩,.slice none 0 0,.slice none 0 0] 34)):=by rw[Hid,<- ak,<- b7];exact(MapKept.heap_alloc V2 _).1
 have k0:=(De bx.out).1
 go_enter Tryz.func6,Tryz.ntmps6
 go_wp2_with fail
 refine(bj.out V3 (by omega) bs.out).mono ?_
 rintro e w1 ⟨⟨r,rfl,a7⟩,aa⟩
 have HA:Hid (Bt c r):=a7
 have di:=aa.size
 have bd:Hid (Below w.heap.size w w1):=bs.out.trans (aa.mono (by omega))
 have bu:Hid (w1.heap[w.heap.size]? = some (.cells #[.slice ca n cc] 38)):=(aa.block w.heap.size (by omega)).trans bx.out
 have a3:Hid (w1.heap[w.heap.size+1]? = some (.cells #[.string arg,.slice oa no oc] 40)):=(aa.block (w.heap.size+1) (by omega)).trans cm.out
 have A:Hid (w1.heap[w.heap.size+1+1]? = some (.cells #[.slice none 0 0,.slice none 0 0,.slice none 0 0,.slice none 0 0,.int .i64 0,.int .i64 0,.int .i64 0,.string ⟨#[]⟩,.string ⟨#[]⟩,.bool false,.int .i64 0,.string ⟨#[]⟩,.slice none 0 0,.slice none 0 0] 34)):=(aa.block (w.heap.size+1+1) (by omega)).trans cn.out
 clear a7 aa k0
 obtain⟨b,bl⟩:∃ b,Hid (decide (r.1=0)=b):=⟨_,(rfl:decide (r.1=0)=_)⟩
 rw[bl.out]
 cases b with
 | false =>
  have m0:=Aa A.out 0 _ rfl
  have m1:=Aa A.out 1 _ rfl
  have m2:=Aa A.out 2 _ rfl
  have m3:=Aa A.out 3 _ rfl
  have m4:=Aa A.out 4 _ rfl
  have m5:=Aa A.out 5 _ rfl
  have m6:=Aa A.out 6 _ rfl
  have m7:=Aa A.out 7 _ rfl
  have m8:=Aa A.out 8 _ rfl
  have m9:=Aa A.out 9 _ rfl
  have ad:=Aa A.out 10 _ rfl
  have ae:=Aa A.out 11 _ rfl
  have af:=Aa A.out 12 _ rfl
  have ag:=Aa A.out 13 _ rfl
  go_wp2_with fail
  obtain⟨Y,hY,P,ay,j⟩:=El A.out bd.out (by omega) (.slice none 0 0) (.slice none 0 0) (.slice none 0 0) (.slice none 0 0) (.int .i64 0) (.int .i64 0) (.int .i64 0) (.string ⟨#[]⟩) (.string ⟨#[]⟩) (.bool false) (.int .i64 0) (.string ⟨#[]⟩) (.slice none 0 0) (.slice none 0 0)
  try rw[hY]
  clear m0 m1 m2 m3 m4 m5 m6 m7 m8 m9 ad ae af ag hY
  have al:=Aa j 0 _ rfl
  have am:=Aa j 1 _ rfl
  have an:=Aa j 2 _ rfl
  have ao:=Aa j 3 _ rfl
  have ap:=Aa j 4 _ rfl
  have aq:=Aa j 5 _ rfl
  have ar:=Aa j 6 _ rfl
  have au:=Aa j 7 _ rfl
  have av:=Aa j 8 _ rfl
  have aw:=Aa j 9 _ rfl
  have Q:=Aa j 10 _ rfl
  have R:=Aa j 11 _ rfl
  have T:=Aa j 12 _ rfl
  have X:=Aa j 13 _ rfl
  exact bodyPost_ret (v:=I0) (by simp[results,Tryz.results6,go_sem,I0,al.1,am.1,an.1,ao.1,ap.1,aq.1,ar.1,au.1,av.1,aw.1,Q.1,R.1,T.1,X.1]) rfl ⟨r,HA.out,P,.inl ⟨fun h=>absurd h.1 (of_decide_eq_false bl.out),rfl⟩⟩
 | true =>
  have hr:r.1=0:=of_decide_eq_true bl.out
  have bm:Hid (r.1=0):=hr
  clear hr
  have j0:=(Aa a3.out 0 _ rfl).1
  have j1:=(Aa a3.out 1 _ rfl).1
  go_wp2_with fail
  refine(bo.out w1 bd.out).mono ?_
  rintro e Z ⟨rfl,ab⟩
  have dj:=ab.size
  have be:Hid (Below w.heap.size w Z):=bd.out.trans (ab.mono (by omega))
  have bf:Hid (Z.heap[w.heap.size]? = some (.cells #[.slice ca n cc] 38)):=(ab.block w.heap.size (by omega)).trans bu.out
  have bh:Hid (Z.heap[w.heap.size+1]? = some (.cells #[.string arg,.slice oa no oc] 40)):=(ab.block (w.heap.size+1) (by omega)).trans a3.out
  have B:Hid (Z.heap[w.heap.size+1+1]? = some (.cells #[.slice none 0 0,.slice none 0 0,.slice none 0 0,.slice none 0 0,.int .i64 0,.int .i64 0,.int .i64 0,.string ⟨#[]⟩,.string ⟨#[]⟩,.bool false,.int .i64 0,.string ⟨#[]⟩,.slice none 0 0,.slice none 0 0] 34)):=(ab.block (w.heap.size+1+1) (by omega)).trans A.out
  clear ab j0 j1 bu a3 A
  obtain⟨b,bi⟩:∃ b,Hid (E9 arg outs=b):=⟨_,(rfl:E9 arg outs=_)⟩
  rw[bi.out]
  cases b with
  | false =>
   have m0:=Aa B.out 0 _ rfl
   have m1:=Aa B.out 1 _ rfl
   have m2:=Aa B.out 2 _ rfl
   have m3:=Aa B.out 3 _ rfl
   have m4:=Aa B.out 4 _ rfl
   have m5:=Aa B.out 5 _ rfl
   have m6:=Aa B.out 6 _ rfl
   have m7:=Aa B.out 7 _ rfl
   have m8:=Aa B.out 8 _ rfl
   have m9:=Aa B.out 9 _ rfl
   have ad:=Aa B.out 10 _ rfl
   have ae:=Aa B.out 11 _ rfl
   have af:=Aa B.out 12 _ rfl
   have ag:=Aa B.out 13 _ rfl
   go_wp2_with fail
   obtain⟨Y,hY,P,ay,j⟩:=El B.out be.out (by omega) (.slice none 0 0) (.slice none 0 0) (.slice none 0 0) (.slice none 0 0) (.int .i64 0) (.int .i64 0) (.int .i64 0) (.string ⟨#[]⟩) (.string ⟨#[]⟩) (.bool false) (.int .i64 0) (.string ⟨#[]⟩) (.slice none 0 0) (.slice none 0 0)
   try rw[hY]
   clear m0 m1 m2 m3 m4 m5 m6 m7 m8 m9 ad ae af ag hY
   have al:=Aa j 0 _ rfl
   have am:=Aa j 1 _ rfl
   have an:=Aa j 2 _ rfl
   have ao:=Aa j 3 _ rfl
   have ap:=Aa j 4 _ rfl
   have aq:=Aa j 5 _ rfl
   have ar:=Aa j 6 _ rfl
   have au:=Aa j 7 _ rfl
   have av:=Aa j 8 _ rfl
   have aw:=Aa j 9 _ rfl
   have Q:=Aa j 10 _ rfl
   have R:=Aa j 11 _ rfl
   have T:=Aa j 12 _ rfl
   have X:=Aa j 13 _ rfl
   exact bodyPost_ret (v:=I0) (by simp[results,Tryz.results6,go_sem,I0,al.1,am.1,an.1,ao.1,ap.1,aq.1,ar.1,au.1,av.1,aw.1,Q.1,R.1,T.1,X.1]) rfl ⟨r,HA.out,P,.inl ⟨fun h=>by rw[bi.out]at h;exact absurd h.2 (by simp),rfl⟩⟩
  | true =>
   have a0:Z.cell? ⟨w.heap.size,0,none⟩=some (.slice ca n cc):=(De bf.out).1
   have a1:=(Aa bh.out 0 _ rfl).1
   have a2:=(Aa bh.out 1 _ rfl).1
   go_wp2_with fail
   refine wp_region_held_drew (S:=(fun W=>W.cell? ⟨w.heap.size,0,none⟩=some (.slice ca n cc)/\W.cell? ⟨w.heap.size+1,0,none⟩=some (.string arg)/\W.cell? ⟨w.heap.size+1,1,none⟩=some (.slice oa no oc))) (by kernel_rfl) (⟨a0,a1,a2⟩) (fun hHeld => ?_)
   refine Tk 0 (.agg #[.slice ca n cc]) rfl ?_
   try simp[Act.put]
   refine Tk 3 (.pointer (some ⟨w.heap.size+1,0,none⟩)) rfl ?_
   try simp[Act.put]
   refine Tk 4 (.string arg) rfl ?_
   try simp[Act.put]
   refine Tk 7 (.pointer (some ⟨w.heap.size+1,1,none⟩)) rfl ?_
   try simp[Act.put]
   refine Tk 8 (.slice oa no oc) rfl ?_
   try simp[Act.put]
   have dg:Z.heap.size<=Z.drew.heap.size:=Nat.le_refl _
   have G:Hid (∀ W,Below Z.heap.size Z W->W.cell? ⟨w.heap.size,0,none⟩=some (.slice ca n cc)/\W.cell? ⟨w.heap.size+1,0,none⟩=some (.string arg)/\W.cell? ⟨w.heap.size+1,1,none⟩=some (.slice oa no oc)):=fun W hW=>⟨(hW.cell (p:=⟨w.heap.size,0,none⟩) (Bv a0)).trans a0,(hW.cell (p:=⟨w.heap.size+1,0,none⟩) (Bv a1)).trans a1,(hW.cell (p:=⟨w.heap.size+1,1,none⟩) (Bv a2)).trans a2⟩
   refine Kz (I:=Qd6 c n no arg outs Z (It ca n cc arg oa no oc w.heap.size) (fun W=>W.cell? ⟨w.heap.size,0,none⟩=some (.slice ca n cc)/\W.cell? ⟨w.heap.size+1,0,none⟩=some (.string arg)/\W.cell? ⟨w.heap.size+1,1,none⟩=some (.slice oa no oc))) (by kernel_rfl) (fun L a W h=>by obtain⟨_,_,_,_,_,_,_,_,hs,_⟩:=h;exact hs) ?step ?done _ _ _ _ (by rfl) (by decide) ⟨undef,undef,undef,undef,undef,undef,undef,rfl,hHeld, ?start⟩
   case start=>exact⟨⟨rfl,rfl,rfl,rfl,rfl⟩,(Below.refl _ _).drew,(fun q=>nomatch q),(fun q=>nomatch q),(fun q=>nomatch q),(fun q=>nomatch q),(fun q=>nomatch q),(fun q=>nomatch q),(fun q=>nomatch q),(fun q=>nomatch q),(fun q=>nomatch q),(fun q=>nomatch q),(fun q=>nomatch q),(fun q=>nomatch q),(fun q=>nomatch q)⟩
   case step =>
    clear hHeld a0 a1 a2
    intro L i o D m s a W hI K' hK
    obtain⟨b8,c2,c3,b9,c4,cb,v5,rfl,hS,l⟩:=hI
    have O:Below w.heap.size w W:=be.out.trans (l.bel.mono (by omega))
    have hi:i < 13:=(Array.getElem?_eq_some_iff.1 D).1
    obtain⟨rfl⟩|rfl|rfl|rfl|rfl|rfl|rfl|rfl|rfl|rfl|rfl|rfl|rfl:i=0\/i=1\/i=2\/i=3\/i=4\/i=5\/i=6\/i=7\/i=8\/i=9\/i=10\/i=11\/i=12:=by omega
    ·exact Ey m l.lo.1
    ·obtain rfl:=Option.some.inj D
     unfold It
     go_simp
     refine(bg.out W (by have:=l.bel.size;omega) O).mono ?_
     rintro e W' ⟨x,cp,rfl,E,hE,hO,N⟩
     try go_wp2
     exact hK.out _ _ ⟨_,_,_,_,_,_,_,rfl,G.out _ (l.bel.trans (N.mono l.bel.size)),(l.keep N).do1 hE (hO.mono l.bel.size)⟩
    ·obtain rfl:=Option.some.inj D
     obtain⟨x,cp,E,rfl,hE,hO⟩:=l.f1 (s ⟨1,.data⟩ (by simp) rfl)
     unfold It
     go_simp
     exact hK.out _ _ ⟨_,_,_,_,_,_,_,rfl,G.out _ (l.bel.alloc l.bel.size _),(l.keep (Di W _)).do2 m hE (hO.below (Di W _)) (Ue W _ l.bel.size _ _)⟩
    ·exact Ey m l.lo.2.1
    ·exact Ey m l.lo.2.2.1
    ·obtain rfl:=Option.some.inj D
     unfold It
     go_simp
     exact hK.out _ _ ⟨_,_,_,_,_,_,_,rfl,G.out _ (l.bel.alloc l.bel.size _),l.do5 m⟩
    ·obtain rfl:=Option.some.inj D
     unfold It
     go_simp
     exact hK.out _ _ ⟨_,_,_,_,_,_,_,rfl,G.out _ (l.bel.alloc l.bel.size _),l.do6 m⟩
    ·exact Ey m l.lo.2.2.2.1
    ·exact Ey m l.lo.2.2.2.2
    ·obtain rfl:=Option.some.inj D
     have h6:=s ⟨6,.data⟩ (by simp) rfl
     obtain⟨x1,dc,co,c1⟩:=l.f6 h6 m
     have df:=l
     subst co
     unfold It
     refine Sk rfl _ _ 25 rfl Z.heap.size 9 i0 (.string ByteArray.empty) 1 16 Tryz.underlying25 ct cu cv cw rfl (by decide) _ 0 [] rfl c1 oa no oc rfl (Be outs) (by simp[Be,ai.out]) (bn.out W O) (fun u hu=>by simp[Be]at hu;obtain⟨d,-,rfl⟩:=hu;rfl) (by unfold maxLen;rw[<- ai.out];omega) (by rw[<- ai.out];omega) l.bel.size ?_
     intro v' W' a6 b2 a8
     simp only[Nat.zero_add,List.nil_append]at a6
     obtain⟨x2,dd,rfl⟩:=Aq a6
     exact hK.out _ _ ⟨_,_,_,_,_,_,_,rfl,G.out _ (l.do9 h6 m a6 b2 a8).bel,l.do9 h6 m a6 b2 a8⟩
    ·obtain rfl:=Option.some.inj D
     have h2:=s ⟨2,.data⟩ (by simp) rfl
     have h5:=s ⟨5,.data⟩ (by simp) rfl
     have h9:=s ⟨9,.data⟩ (by simp) rfl
     obtain⟨t,ah,M,cd,rfl,-,-,-⟩:=l.f2 h2
     obtain⟨K,rfl,-⟩:=l.f5 h5
     obtain⟨J,H,rfl,-⟩:=l.f9 h9
     unfold It
     go_simp
     exact hK.out _ _ ⟨_,_,_,_,_,_,_,rfl,hS,l.do10 h2 h5 h9⟩
    ·obtain rfl:=Option.some.inj D
     unfold It
     go_simp
     exact hK.out _ _ ⟨_,_,_,_,_,_,_,rfl,G.out _ (l.bel.alloc l.bel.size _),l.do11 m⟩
    ·obtain rfl:=Option.some.inj D
     have aj:=s ⟨10,.data⟩ (by simp) rfl
     have bz:=s ⟨11,.data⟩ (by simp) rfl
     obtain⟨g5,rfl,b3,y⟩:=l.f11 bz m
     obtain rfl:=l.f10 aj
     obtain⟨t,ah,M,cd,rfl,-,-,-⟩:=l.f2 (l.d10 aj).1
     obtain⟨K,rfl,-⟩:=l.f5 (l.d10 aj).2.1
     obtain⟨J,H,rfl,-⟩:=l.f9 (l.d10 aj).2.2
     have m0:=Aa y 0 _ rfl
     have m1:=Aa y 1 _ rfl
     have m2:=Aa y 2 _ rfl
     have m3:=Aa y 3 _ rfl
     have m4:=Aa y 4 _ rfl
     have m5:=Aa y 5 _ rfl
     have m6:=Aa y 6 _ rfl
     have m7:=Aa y 7 _ rfl
     have m8:=Aa y 8 _ rfl
     have m9:=Aa y 9 _ rfl
     have ad:=Aa y 10 _ rfl
     have ae:=Aa y 11 _ rfl
     have af:=Aa y 12 _ rfl
     have ag:=Aa y 13 _ rfl
     unfold It Po
     go_simp
     obtain⟨Y,hY,P,ay,j⟩:=El y l.bel b3 (.slice (some ⟨t,0,none⟩) 1 1) (.slice (some ⟨K,0,none⟩) 1 1) (.slice J no H) (.slice none 0 0) (.int .i64 1) (.int .i64 0) (.int .i64 0) (.string ⟨#[]⟩) (.string ⟨#[]⟩) (.bool false) (.int .i64 0) (.string ⟨#[]⟩) (.slice none 0 0) (.slice none 0 0)
     try rw[hY]
     exact hK.out _ _ ⟨_,_,_,_,_,_,_,rfl,G.out _ P,l.do12 aj bz m rfl P ay j⟩
   case done =>
    clear hHeld a0 a1 a2
    intro L hL a W hI
    obtain⟨b8,c2,c3,b9,c4,cb,v5,rfl,-,l⟩:=hI
    obtain⟨t,ah,M,E,rfl,ba,hE,b1⟩:=l.f2 (hL 2 (by decide))
    obtain⟨K,rfl,bb⟩:=l.f5 (hL 5 (by decide))
    obtain⟨J,H,rfl,bc⟩:=l.f9 (hL 9 (by decide))
    obtain⟨g5,rfl,b3,y⟩:=l.f12 (hL 12 (by decide))
    have b4:=l.n9 (hL 9 (by decide)) (hL 5 (by decide))
    have O:=l.bel
    have bt:Hid (Below w.heap.size w W):=be.out.trans (O.mono (by omega))
    have dl:=O.size
    have ch:Hid (W.heap[w.heap.size]? = some (.cells #[.slice ca n cc] 38)):=(O.block w.heap.size (by omega)).trans bf.out
    have cl:Hid (W.heap[w.heap.size+1+1]? = some (.cells #[.slice none 0 0,.slice none 0 0,.slice none 0 0,.slice none 0 0,.int .i64 0,.int .i64 0,.int .i64 0,.string ⟨#[]⟩,.string ⟨#[]⟩,.bool false,.int .i64 0,.string ⟨#[]⟩,.slice none 0 0,.slice none 0 0] 34)):=(O.block (w.heap.size+1+1) (by omega)).trans B.out
    have a4:Hid (W.heap[g5]? = some (.cells (Po (.slice (some ⟨t,0,none⟩) 1 1) (.slice (some ⟨K,0,none⟩) 1 1) (.slice J no H) (.slice none 0 0)) 34)):=y
    have br:Hid (W.ownsRow Z.heap.size 38 1 (.slice (some ⟨t,0,none⟩) 1 1) 1 [.slice ah n M]):=ba
    have ce:Hid (W.ownsRow Z.heap.size 9 1 (.slice (some ⟨K,0,none⟩) 1 1) 1 (Be [arg])):=bb
    have cf:Hid (W.ownsRow Z.heap.size 9 1 (.slice J no H) no (Be outs)):=bc
    have ck:Hid (∀ k,(Value.slice (some ⟨K,0,none⟩) 1 1).ownBlock=some k->(Value.slice J no H).ownBlock≠some k):=b4
    have bk:Hid (D0 E=c/\A2 Z.heap.size W (.slice ah n M) E):=⟨hE,b1⟩
    have ci:Hid (∀ (U:World) (ea:Option Addr),Below W.heap.size W U->Calls Tryz.prog 22 #[.slice (some ⟨t,0,none⟩) 1 1,.int .i64 0,.int .i64 (Ft c:Int),.slice ea 0 0] U fun e w' => ∃ a cp,e = .returned (.agg #[.int .i64 0,.int .i64 (Ft c:Int),.int .i64 0,.slice a (Gd c) cp,.slice none 0 0])/\w'.ownsRow U.heap.size 99 3 (.slice a (Gd c) cp) (Gd c) (Bj (B3 (Gd c)))/\Below U.heap.size U w'):=by
     intro U ea hU
     obtain⟨hf,h1,h2,h3,-⟩:=Ik HA.out bm.out
     obtain⟨cq,cr⟩:=bk.out
     have de:E.length=c.length:=by rw[<- cq,Gq]
     obtain⟨gh,db,e,bq⟩:=Vx (cr.below hU) (Ft c) (by omega)
     injection e with e1 e2 e3
     subst e1
     have a9:W.cell? ⟨t,0,none⟩=some (.slice (some ⟨gh,0,none⟩) n M):=Bp br.out (g:=t) rfl 0 _ rfl
     refine Yd t 1 gh n M (Gd c) (Ft c) ea U (by omega) (by rw[<- bw.out];exact hf) ((hU.cell (p:=⟨t,0,none⟩) (Bv a9)).trans a9) ?_
     rw[bq]
     have e4:E[Ft c].f=c[Ft c]:=by
      have:=Qan E (Ft c) (by rw[Gq];omega)
      rw[<- this];congr 1
     rw[e4,h2]
    have k0:W.cell? ⟨w.heap.size,0,none⟩=some (.slice ca n cc):=(De ch.out).1
    have k1:W.cell? ⟨g5,0,none⟩=some (.slice (some ⟨t,0,none⟩) 1 1):=(Aa y 0 _ rfl).1
    clear ba bb bc b4 hE b1 l y hL O bg G bn bj bo bf bh B
    unfold It
    go_wp2_with fail
    refine wp_region_held_drew (S:=(fun U=>U.cell? ⟨w.heap.size,0,none⟩=some (.slice ca n cc)/\U.cell? ⟨g5,0,none⟩=some (.slice (some ⟨t,0,none⟩) 1 1))) (by kernel_rfl) (⟨k0,k1⟩) (fun hHeld => ?_)
    refine Tk 0 (.pointer (some ⟨g5,0,none⟩)) rfl ?_
    try simp[Act.put]
    refine Tk 1 (.slice (some ⟨t,0,none⟩) 1 1) rfl ?_
    try simp[Act.put]
    refine Tk 2 (.agg #[.slice ca n cc]) rfl ?_
    try simp[Act.put]
    have G:Hid (∀ U,Below W.heap.size W U->U.cell? ⟨w.heap.size,0,none⟩=some (.slice ca n cc)/\U.cell? ⟨g5,0,none⟩=some (.slice (some ⟨t,0,none⟩) 1 1)):=fun U hU=>⟨(hU.cell (p:=⟨w.heap.size,0,none⟩) (Bv k0)).trans k0,(hU.cell (p:=⟨g5,0,none⟩) (Bv k1)).trans k1⟩
    refine Kz (I:=Qd7 (Ft c) (Gd c) g5 (.slice (some ⟨t,0,none⟩) 1 1) (.slice (some ⟨K,0,none⟩) 1 1) (.slice J no H) W (Ki ca n cc arg oa no oc w.heap.size g5 t b8 (.slice (some ⟨K,0,none⟩) 1 1) b9 (.slice J no H) cb) (fun U=>U.cell? ⟨w.heap.size,0,none⟩=some (.slice ca n cc)/\U.cell? ⟨g5,0,none⟩=some (.slice (some ⟨t,0,none⟩) 1 1))) (by kernel_rfl) (fun L a U h=>by obtain⟨_,_,_,_,_,_,hs,_⟩:=h;exact hs) ?step4 ?done4 _ _ _ _ (by rfl) (by decide) ⟨undef,undef,undef,undef,undef,rfl,hHeld, ?start4⟩
    case start4=>exact⟨⟨rfl,rfl,rfl⟩,(fun q=>nomatch q),fun _=>(Below.refl _ _).drew,(fun q=>nomatch q),(fun q=>nomatch q),(fun q=>nomatch q),(fun q=>nomatch q),(fun q=>nomatch q),(fun q=>nomatch q)⟩
    case step4 =>
     clear hHeld k0 k1
     intro L i o D m s a U hI K' hK
     obtain⟨c5,c6,c7,c8,c9,rfl,hS,l⟩:=hI
     have hi:i < 9:=(Array.getElem?_eq_some_iff.1 D).1
     obtain rfl|rfl|rfl|rfl|rfl|rfl|rfl|rfl|rfl:i=0\/i=1\/i=2\/i=3\/i=4\/i=5\/i=6\/i=7\/i=8:=by omega
     ·exact Ey m l.lo.1
     ·exact Ey m l.lo.2.1
     ·exact Ey m l.lo.2.2
     ·obtain rfl:=Option.some.inj D
      have h8:=l.n8 (.inl m)
      have z:=l.bel h8
      unfold Ki
      go_simp
      refine(bv.out r U HA.out bm.out (bt.out.trans (z.mono (by omega))) (by have:=z.size;omega)).mono ?_
      rintro e U' ⟨rfl,N⟩
      try go_wp2
      exact hK.out _ _ ⟨_,_,_,_,_,rfl,G.out _ (z.trans (N.mono z.size)),(l.keep h8 N).do3 m⟩
     ·obtain rfl:=Option.some.inj D
      have h8:=l.n8 (.inr (.inl m))
      have z:=l.bel h8
      unfold Ki
      go_simp
      exact hK.out _ _ ⟨_,_,_,_,_,rfl,G.out _ (z.alloc z.size _),(l.keep h8 (Di U _)).do4 m _⟩
     ·obtain rfl:=Option.some.inj D
      have h8:=l.n8 (.inr (.inr (.inl m)))
      have z:=l.bel h8
      obtain rfl:=l.f3 (s ⟨3,.data⟩ (by simp) rfl)
      obtain⟨xe,rfl⟩:=l.f4 (s ⟨4,.data⟩ (by simp) rfl)
      unfold Ki
      go_simp
      refine(ci.out U xe z).mono ?_
      rintro e U' ⟨x,cp,rfl,ac,N⟩
      try go_wp2
      exact hK.out _ _ ⟨_,_,_,_,_,rfl,G.out _ (z.trans (N.mono z.size)),(l.keep h8 N).do5 m (Bc ac z.size)⟩
     ·obtain rfl:=Option.some.inj D
      have h8:=l.n8 (.inr (.inr (.inr m)))
      have z:=l.bel h8
      obtain⟨x,cp,rfl,ac⟩:=l.f5 (s ⟨5,.data⟩ (by simp) rfl)
      unfold Ki Ua
      go_simp
      exact hK.out _ _ ⟨_,_,_,_,_,rfl,G.out _ (z.alloc z.size _),(l.keep h8 (Di U _)).do6 m (Qay U _ z.size _ _ _ _ _ _) (Ah ac (fun k _ _ hl=>(Di U _).block k hl))⟩
     ·obtain rfl:=Option.some.inj D
      unfold Ki
      go_simp
      exact hK.out _ _ ⟨_,_,_,_,_,rfl,hS,l.do7⟩
     ·obtain rfl:=Option.some.inj D
      have z:=l.bel m
      have h6:=s ⟨6,.data⟩ (by simp) rfl
      obtain rfl:=l.f7 (s ⟨7,.data⟩ (by simp) rfl)
      have h5:=s ⟨5,.chain⟩ (by simp) rfl
      have h3:=s ⟨3,.phase⟩ (by simp) rfl
      have h4:=s ⟨4,.phase⟩ (by simp) rfl
      obtain⟨gf,x,cp,rfl,-,-⟩:=l.f6 h6
      have C:=(z.block g5 (Array.getElem?_eq_some_iff.1 a4.out).1).trans a4.out
      have m3:=Aa C 3 _ rfl
      have b0:=l.do8 m ⟨h3,h4,h5,h6⟩ a4.out
      unfold Ki
      go_simp
      refine hK.out _ _ ⟨_,_,_,_,_,rfl,⟨?_, ?_⟩,b0⟩
      ·rw[World.cell?_setCell_other _ _ _ _ (fun e=>by injection e with e _ _;omega)];exact hS.1
      ·exact(Aa (b0.f8 rfl).2 0 _ rfl).1
    case done4 =>
     clear hHeld k0 k1
     intro L hL a U hI
     obtain⟨c5,c6,c7,c8,c9,rfl,-,l⟩:=hI
     obtain⟨gf,xs,cs,rfl,b5,ac⟩:=l.f6 (hL 6 (by decide))
     obtain⟨ax,C⟩:=l.f8 (hL 8 (by decide))
     clear l hL
     have az:Ny 34 W U:=fun k hk hc=>ax.keep k hk (fun e=>by subst e;exact hc _ a4.out)
     have dk:=ax.size
     have cg:Hid (Below w.heap.size w U):=bt.out.trans (ax.below (by omega) (fun k hk=>by show ¬ k=g5;omega))
     have F:Hid (U.heap[w.heap.size+1+1]? = some (.cells #[.slice none 0 0,.slice none 0 0,.slice none 0 0,.slice none 0 0,.int .i64 0,.int .i64 0,.int .i64 0,.string ⟨#[]⟩,.string ⟨#[]⟩,.bool false,.int .i64 0,.string ⟨#[]⟩,.slice none 0 0,.slice none 0 0] 34)):=(ax.keep (w.heap.size+1+1) (by omega) (by show ¬ w.heap.size+1+1=g5;omega)).trans cl.out
     have cj:Hid (Fx Z.heap.size U (.slice (some ⟨t,0,none⟩) 1 1) (.slice ah n M) (.slice (some ⟨K,0,none⟩) 1 1) (.slice J no H) (.slice (some ⟨gf,0,none⟩) 1 1) (.slice xs (Gd c) cs) (.slice none 0 0) (.slice none 0 0) (.slice none 0 0) E arg outs (Ft c) (Gd c)) :=
      ⟨az.row br.out (by decide),az.own bk.out.2 (by decide) (by decide) (by decide),az.row ce.out (by decide),by rw[ai.out];exact az.row cf.out (by decide),ck.out,Bc b5 (by omega),Bc ac (by omega),⟨rfl,.inl ⟨rfl,rfl⟩⟩,⟨rfl,.inl ⟨rfl,rfl⟩⟩,⟨rfl,.inl ⟨rfl,rfl⟩⟩⟩
     have da:Hid (w.heap.size+1+1≠g5):=by show w.heap.size+1+1≠g5;omega
     clear b5 ac ax az
     unfold Po at C
     have m0:=Aa F.out 0 _ rfl
     have m1:=Aa F.out 1 _ rfl
     have m2:=Aa F.out 2 _ rfl
     have m3:=Aa F.out 3 _ rfl
     have m4:=Aa F.out 4 _ rfl
     have m5:=Aa F.out 5 _ rfl
     have m6:=Aa F.out 6 _ rfl
     have m7:=Aa F.out 7 _ rfl
     have m8:=Aa F.out 8 _ rfl
     have m9:=Aa F.out 9 _ rfl
     have ad:=Aa F.out 10 _ rfl
     have ae:=Aa F.out 11 _ rfl
     have af:=Aa F.out 12 _ rfl
     have ag:=Aa F.out 13 _ rfl
     have n0:=Aa C 0 _ rfl
     have n1:=Aa C 1 _ rfl
     have n2:=Aa C 2 _ rfl
     have n3:=Aa C 3 _ rfl
     have n4:=Aa C 4 _ rfl
     have n5:=Aa C 5 _ rfl
     have n6:=Aa C 6 _ rfl
     have n7:=Aa C 7 _ rfl
     have n8:=Aa C 8 _ rfl
     have n9:=Aa C 9 _ rfl
     have cx:=Aa C 10 _ rfl
     have cy:=Aa C 11 _ rfl
     have cz:=Aa C 12 _ rfl
     have c0:=Aa C 13 _ rfl
     unfold Ki
     go_wp2_with fail
     obtain⟨Y,hY,P,ay,j⟩:=El F.out cg.out (by omega) (.slice (some ⟨t,0,none⟩) 1 1) (.slice (some ⟨K,0,none⟩) 1 1) (.slice J no H) (.slice (some ⟨gf,0,none⟩) 1 1) (.int .i64 1) (.int .i64 0) (.int .i64 0) (.string ⟨#[]⟩) (.string ⟨#[]⟩) (.bool false) (.int .i64 0) (.string ⟨#[]⟩) (.slice none 0 0) (.slice none 0 0)
     try rw[hY]
     clear m0 n0 m1 n1 m2 n2 m3 n3 m4 n4 m5 n5 m6 n6 m7 n7 m8 n8 m9 n9 ad cx ae cy af cz ag c0 hY
     have al:=Aa j 0 _ rfl
     have am:=Aa j 1 _ rfl
     have an:=Aa j 2 _ rfl
     have ao:=Aa j 3 _ rfl
     have ap:=Aa j 4 _ rfl
     have aq:=Aa j 5 _ rfl
     have ar:=Aa j 6 _ rfl
     have au:=Aa j 7 _ rfl
     have av:=Aa j 8 _ rfl
     have aw:=Aa j 9 _ rfl
     have Q:=Aa j 10 _ rfl
     have R:=Aa j 11 _ rfl
     have T:=Aa j 12 _ rfl
     have X:=Aa j 13 _ rfl
     exact bodyPost_ret (v:=Kk (.slice (some ⟨t,0,none⟩) 1 1) (.slice (some ⟨K,0,none⟩) 1 1) (.slice J no H) (.slice (some ⟨gf,0,none⟩) 1 1) (.slice none 0 0) (.slice none 0 0)) (by simp[results,Tryz.results6,go_sem,Kk,al.1,am.1,an.1,ao.1,ap.1,aq.1,ar.1,au.1,av.1,aw.1,Q.1,R.1,T.1,X.1]) rfl ⟨r,HA.out,P,.inr ⟨bm.out,bi.out,_,.slice ah n M,_,_,_,_,_,_,_,E,rfl,bk.out.1,(cj.out.keep (fun k h1 h2=>ay k (by omega))).mono (by omega)⟩⟩
end Go.Proofs.YtfjkahdghhbpnaaGreatDoor
