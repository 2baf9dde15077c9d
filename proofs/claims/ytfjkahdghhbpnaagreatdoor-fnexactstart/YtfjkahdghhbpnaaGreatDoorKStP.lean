import Derived.Test.YtfjkahdghhbpnaaGreatDoorKTk
import Derived.Test.YtfjkahdghhbpnaaGreatDoorKStL
set_option maxRecDepth 100000
set_option maxHeartbeats 4000000
namespace Go.Proofs.YtfjkahdghhbpnaaGreatDoor
open Go.RowKit
structure Ru (w:World) (ca:Option Addr) (n cc:Nat) (a:Option Addr) (i cp:Nat) (E:List B0) (U:World):Prop where
 arg:U.heap[w.heap.size]? = some (.cells #[.slice ca n cc] 38)
 res:U.heap[w.heap.size+1]? = some (.cells #[.slice none 0 0] 38)
 out:U.heap[w.heap.size+1+1]? = some (.cells #[.slice a i cp] 38)
 own:A2 (w.heap.size+3) U (.slice a i cp) E
 bel:Below w.heap.size w U
 siz:w.heap.size+3<=U.heap.size
theorem Ru.keep {w:World} {ca:Option Addr} {n cc:Nat} {a:Option Addr} {i cp:Nat} {E:List B0} {U U':World} (h:Ru w ca n cc a i cp E U) (hb:Below U.heap.size U U'):Ru w ca n cc a i cp E U':=by
 have hs:=h.siz
 exact⟨(hb.block _ (by omega)).trans h.arg,(hb.block _ (by omega)).trans h.res,(hb.block _ (by omega)).trans h.out,h.own.below hb,h.bel.trans (hb.mono (by omega)),Nat.le_trans hs hb.size⟩
theorem Qar (c:List Ae) (ca:Option Addr) (cc:Nat) (hcl:c.length<=1048576) (hpl:∀ f ∈ c,f.params.length<=1048576/\f.ins.length<=1048576) (w:World) (hC:Ak w.heap.size w (.slice ca c.length cc) c) :
  Calls Tryz.prog 21 #[.agg #[.slice ca c.length cc]] w fun e w' => ∃ a C,e = .returned (.agg #[.slice a c.length C])/\∃ E,D0 E=c/\A2 w.heap.size w' (.slice a c.length C) E/\Below w.heap.size w w':=by
 obtain⟨i0,bf,bp,bq,br⟩:=Gy
 obtain⟨j0,bh,bm,bn,bo⟩:=info_parts Oi
 obtain⟨k0,bi,bk,af,ag⟩:=info_parts Qg
 have HC:Hid (∀ k (hk:k < c.length),∃ g pv iv,ca=some ⟨g,0,none⟩/\g < w.heap.size/\(∀ j,j < 5->w.cell? ⟨g,k * 5+j,none⟩=(Ig c[k] pv iv)[j]?)/\Ab w.heap.size w pv c[k].params/\Ba w.heap.size w iv c[k].ins):=by
  obtain⟨a,C,e,h⟩:=hC
  injection e with e1 e2 e3
  subst e1
  exact h
 have bb:Hid (∀ f ∈ c,f.params.length<=1048576/\f.ins.length<=1048576):=hpl
 clear hC hpl
 obtain⟨n,HN⟩:∃ n,Hid (c.length=n):=⟨_,(rfl:c.length=_)⟩
 rw[HN.out]at hcl |-
 obtain⟨V1,Q⟩:∃ V,w.alloc (.cells #[.slice ca n cc] 38)=V:=⟨_,rfl⟩
 obtain⟨V2,K⟩:∃ V,V1.alloc (.cells #[.slice none 0 0] 38)=V:=⟨_,rfl⟩
 have a0:V1.heap.size=w.heap.size+1:=by rw[<- Q];simp
 have a4:V2.heap.size=w.heap.size+1+1:=by rw[<- K,World.size_alloc,a0]
 go_enter Tryz.func21,Tryz.ntmps21
 go_wp2_with fail
 obtain⟨V3,y⟩:∃ V,V2.alloc (.cells #[.slice none 0 0] 38)=V:=⟨_,rfl⟩
 rw[y]
 have bx:V3.heap.size=w.heap.size+1+1+1:=by rw[<- y,World.size_alloc,a4]
 have HV:Hid (Ru w ca n cc none 0 0 [] V3):=by
  refine⟨?_, ?_, ?_,A2.nil _ _, ?_,by omega⟩
  ·rw[<- y];exact Am _ (by rw[<- K];exact Am _ (by rw[<- Q];exact(MapKept.heap_alloc w _).1))
  ·rw[<- y];exact Am _ (by rw[<- K,<- a0];exact(MapKept.heap_alloc V1 _).1)
  ·rw[<- y,<- a4];exact(MapKept.heap_alloc V2 _).1
  ·rw[<- y,<- K,<- Q];exact((Di w _).alloc (by simp) _).alloc (by simp;omega) _
 clear Q K y
 go_loopw [4] (fun t wr => ∃ (i:Nat) (a:Option Addr) (C:Nat) (E:List B0),i<=n/\t = .int .i64 (i:Int)/\D0 E=c.take i/\Ru w ca n cc a i C E wr) (fun t _=>n - (intOf t).toNat)
 case atStart=>exact⟨0,none,0,[],by omega,rfl,rfl,HV.out⟩
 case round =>
  obtain⟨i,a,C,E,hi,rfl,hE,J⟩:=hrel
  have s:Hid (Ru w ca n cc a i C E wr):=J
  have HE:Hid (D0 E=c.take i):=hE
  have ap:E.length=i:=by rw[<- Gq,hE,List.length_take,HN.out];omega
  have x0:=(De J.arg).1
  have bz:=J.siz
  have ad:=J.bel
  clear J hE HV
  by_cases hlt:i < n
  ·have ax:(i:Int) < (n:Int):=by omega
   have ae:i < c.length:=by rw[HN.out];exact hlt
   obtain⟨g2,pv,iv,rfl,r,kc,hp,hq⟩:=HC.out i ae
   have hA:∀ j,j < 5->wr.cell? ⟨g2,i * 5+j,none⟩=(Ig c[i] pv iv)[j]?:=fun j hj=>by rw[ad.cell (p:=⟨g2,i * 5+j,none⟩) r,kc j hj]
   have a6:=bb.out _ (List.getElem_mem ae)
   have al:Hid (c.take (i+1)=c.take i++[c[i]]):=by rw[Hid,List.take_add_one,List.getElem?_eq_getElem ae];rfl
   obtain⟨⟨N,b,O,P,l⟩,HF⟩:∃ f,Hid (c[i]=f):=⟨_,(rfl:c[i]=_)⟩
   rw[HF.out]at hA a6 al hp hq
   simp only at a6 hp hq
   have bc:Hid (∀ U,Below w.heap.size w U->Ab w.heap.size U pv b):=fun U hU=>hp.below hU
   have bd:Hid (∀ U,Below w.heap.size w U->Ba w.heap.size U iv l):=fun U hU=>hq.below hU
   obtain⟨ah,ai,az,-⟩:=hp
   obtain⟨T,W,aw,-⟩:=hq
   subst az
   subst aw
   have e0:=hA 0 (by omega);have e1:=hA 1 (by omega);have e2:=hA 2 (by omega);have e3:=hA 3 (by omega);have e4:=hA 4 (by omega)
   simp only[Ig,List.getElem?_cons_zero,List.getElem?_cons_succ,Nat.add_zero]at e0 e1 e2 e3 e4
   clear hA kc HC HF
   obtain⟨W1,ac⟩:∃ V,wr.alloc (.cells #[.string N,.slice ah b.length ai,.int .i64 O,.int .i64 P,.slice T l.length W] 97)=V:=⟨_,rfl⟩
   obtain⟨W2,R⟩:∃ V,W1.alloc (.cells #[] 3)=V:=⟨_,rfl⟩
   have aa:W1.heap.size=wr.heap.size+1:=by rw[<- ac];simp
   have bs:W2.heap.size=wr.heap.size+1+1:=by rw[<- R,World.size_alloc,aa]
   have am:Hid (W2.heap[wr.heap.size]? = some (.cells #[.string N,.slice ah b.length ai,.int .i64 O,.int .i64 P,.slice T l.length W] 97)):=by rw[Hid,<- R];exact Am _ (by rw[<- ac];exact(MapKept.heap_alloc wr _).1)
   have F:Hid (Below wr.heap.size wr W2):=by rw[Hid,<- R,<- ac];exact(Di wr _).alloc (by simp) _
   have a9:Hid (W2.ownsRow (wr.heap.size+1) 3 1 (.slice (some ⟨wr.heap.size+1,0,none⟩) 0 0) 0 (Al [])):=by rw[Hid,<- R,<- aa];exact Gh W1 W1.heap.size (Nat.le_refl _) 3
   have au:Below w.heap.size w W2:=ad.trans (F.out.mono (by omega))
   have y1:=(Ch am.out).1.2.1
   go_wp2_with (first
    | (at_builtin;(refine Bk rfl _ _ 90 rfl (wr.heap.size+1) 3 i0 (.int .i64 0) Tryz.underlying90 bf bp bq br rfl (.slice (some ⟨wr.heap.size+1,0,none⟩) 0 0) 0 [] rfl a9.out w.heap.size (.slice ah b.length ai) rfl b (bc.out W2 au) (by omega) (by omega) ?_;intro v1 w3 o z;rw[Nat.zero_add,List.nil_append]at o;obtain⟨H,I,af⟩:=Aq o;subst af;have b0:=z.size;have q0:=(z.block wr.heap.size (by omega) (by simp[Value.ownBlock])).trans am.out;have b3:=(Ch q0).1.2.1;have bv:=(Ch q0).2.2.1;have aq:Below wr.heap.size wr w3:=⟨z.os.trans F.out.os,z.tape.trans F.out.tape,z.output.trans F.out.output,by omega,fun k hk=>(z.block k (by omega) (by simp[Value.ownBlock];omega)).trans (F.out.block k hk)⟩;obtain⟨M,S⟩:∃ V,w3.setCell ⟨wr.heap.size,1,none⟩ (.slice H b.length I)=V:=⟨_,rfl⟩;have a5:M.heap.size=w3.heap.size:=(by rw[<- S];simp[World.setCell]);obtain⟨X2,D⟩:∃ V,M.alloc (.cells #[] 140)=V:=⟨_,rfl⟩;have bt:X2.heap.size=M.heap.size+1:=(by rw[<- D];simp);have an:Hid (X2.heap[wr.heap.size]? = some (.cells #[.string N,.slice H b.length I,.int .i64 O,.int .i64 P,.slice T l.length W] 97)):=(by rw[Hid,<- D];exact Am _ (by rw[<- S,A6 q0];rfl));have G:Hid (Below wr.heap.size wr X2):=(by rw[Hid,<- D,<- S];exact(aq.setCell (p:=⟨wr.heap.size,1,none⟩) (Nat.le_refl _) _).alloc (by simp[World.setCell];omega) _);have ak:Hid (X2.ownsRow (wr.heap.size+1) 3 1 (.slice H b.length I) b.length (Al b)):=(by rw[Hid,<- D];exact(Ah o (fun k _ h1 _=>by rw[<- S];exact A7 (by omega))).alloc _);have ba:Hid (X2.ownsRow (wr.heap.size+1) 140 4 (.slice (some ⟨w3.heap.size,0,none⟩) 0 0) 0 []):=(by rw[Hid,<- D,<- a5];exact⟨rfl,.inr ⟨M.heap.size,0,#[],rfl,by omega,(MapKept.heap_alloc M _).1,by omega,by unfold maxLen;omega,rfl,rfl⟩⟩);have av:Below w.heap.size w X2:=ad.trans (G.out.mono (by omega));have y4:=(Ch an.out).1.2.2.2.2;clear o z q0 aq))
    | (at_builtin;(refine Le rfl _ _ 95 rfl (wr.heap.size+1) 140 j0 (.agg #[.int .i64 0,.int .i64 0,.int .i64 0,.string ByteArray.empty]) 4 40 Tryz.underlying95 bh bm bn bo rfl (by decide) (.slice (some ⟨w3.heap.size,0,none⟩) 0 0) 0 [] rfl ba.out T l.length W rfl (Bm l) (Jg l) (Qbx (bd.out X2 av)) (Yg l) (by unfold maxLen;omega) (by omega) (by omega) ?_;intro v2 w4 q r;rw[Nat.zero_add,List.nil_append]at q;obtain⟨a2,c2,ag⟩:=Aq q;subst ag;have b1:=r.size;have m:∀ k,k < M.heap.size->w4.heap[k]? = X2.heap[k]?:=(fun k hk=>r.block k (by omega) (by simp[Value.ownBlock];omega));have s0:=(m wr.heap.size (by omega)).trans an.out;have b4:=(Ch s0).1.2.2.2.2;have bw:=(Ch s0).2.2.2.2.2;have ar:Below wr.heap.size wr w4:=⟨r.os.trans G.out.os,r.tape.trans G.out.tape,r.output.trans G.out.output,by omega,fun k hk=>(m k (by omega)).trans (G.out.block k hk)⟩;obtain⟨Z,hZ⟩:∃ V,w4.setCell ⟨wr.heap.size,4,none⟩ (.slice a2 l.length c2)=V:=⟨_,rfl⟩;have bj:Z.heap.size=w4.heap.size:=(by rw[<- hZ];simp[World.setCell]);have be:Hid (Z.heap[wr.heap.size]? = some (.cells #[.string N,.slice H b.length I,.int .i64 O,.int .i64 P,.slice a2 l.length c2] 97)):=(by rw[Hid,<- hZ,A6 s0];rfl);have a7:Hid (Below wr.heap.size wr Z):=(by rw[Hid,<- hZ];exact ar.setCell (p:=⟨wr.heap.size,4,none⟩) (Nat.le_refl _) _);have ay:∀ k,(Value.slice H b.length I).ownBlock=some k->k < M.heap.size:=(fun k hk=>by have h1:=(A3 ak.out hk);obtain⟨bu,h2⟩:=h1.2;have h3:k≠M.heap.size:=(fun e=>by subst e;rw[<- D,(MapKept.heap_alloc M _).1]at h2;injection h2 with h2;injection h2 with _ h2;exact absurd h2 (by decide));have:=h1.1.2;omega);have Y:Hid (Z.ownsRow (wr.heap.size+1) 3 1 (.slice H b.length I) b.length (Al b)):=Ah (Ah ak.out (fun k hk _ _=>m k (ay k hk))) (fun k _ h1 _=>by rw[<- hZ];exact A7 (by omega));have X:Hid (Z.ownsRow (wr.heap.size+1) 140 4 (.slice a2 l.length c2) l.length (Bm l)):=Ah q (fun k _ h1 _=>by rw[<- hZ];exact A7 (by omega));have d:Hid (Ru w (some ⟨g2,0,none⟩) n cc a i C E Z):=s.out.keep a7.out;obtain⟨⟨d0,d1,d2,d3,d4⟩,-⟩:=Ch be.out;have o0:=(De d.out.out).1;have ab:Hid (Z.ownsRow (w.heap.size+3) 97 5 (.slice a i C) i (E4 E)):=(by have h:=d.out.own.row;rw[ap]at h;exact h);clear q r s0 ar m ay))
    | (at_builtin;(refine wpList_append_own _ rfl _ _ 36 rfl (w.heap.size+3) 97 k0 (.agg #[.string ByteArray.empty,.slice none 0 0,.int .i64 0,.int .i64 0,.slice none 0 0]) 5 80 Tryz.underlying36 bi bk af ag rfl (by decide) _ _ _ rfl (ab.out.alloc _) ⟨w4.heap.size,0,none⟩ 1 1 [.string N,.slice H b.length I,.int .i64 O,.int .i64 P,.slice a2 l.length c2] rfl rfl (fun j u hj=>by have h:=D4 Z [.string N,.slice H b.length I,.int .i64 O,.int .i64 P,.slice a2 l.length c2] 97 j u hj;rw[bj]at h;exact h) (fun x hx=>by simp at hx;rcases hx with rfl|rfl|rfl|rfl|rfl <;> rfl) (by unfold maxLen;omega) (by omega) (by simp;omega) ?_;intro v3 w5 B A _;have ao:A2 (w.heap.size+3) w5 v3 (E++[⟨⟨N,b,O,P,l⟩,.slice H b.length I,.slice a2 l.length c2⟩]):=d.out.own.add Y.out X.out (by omega) (fun e he k hk=>Nat.lt_succ_of_lt (s.out.own.lt e he k hk)) (by rw[ap];exact B) A;obtain⟨a3,c3,bl⟩:=Aq B;subst bl;have L:∀ k,k < w.heap.size+3->w5.heap[k]? = Z.heap[k]?:=(fun k hk=>Fo A (by omega) (fun e=>by have:=(A3 ab.out e.symm).1.1;omega));have t0:=(L (w.heap.size+1+1) (by omega)).trans d.out.out;obtain⟨u1,u2⟩:=De t0)))
   have b2:Z.heap.size<=w5.heap.size:=Nat.le_trans (by simp) A.size
   have aj:Hid (Ru w (some ⟨g2,0,none⟩) n cc a3 (i+1) c3 (E++[⟨⟨N,b,O,P,l⟩,.slice H b.length I,.slice a2 l.length c2⟩]) (w5.setCell ⟨w.heap.size+1+1,0,none⟩ (.slice a3 (i+1) c3))):=by
    refine⟨?_, ?_, ?_,ao.keep (fun k h1 _=>A7 (by omega)), ?_, ?_⟩
    ·rw[A7 (by omega)];exact(L _ (by omega)).trans d.out.arg
    ·rw[A7 (by omega)];exact(L _ (by omega)).trans d.out.res
    ·rw[A6 t0];rfl
    ·refine Below.setCell ?_ (p:=⟨w.heap.size+1+1,0,none⟩) (by simp only;omega) _
     exact d.out.bel.trans ⟨A.os,A.tape,A.output,by have:=d.out.siz;omega,fun k hk=>L k (by omega)⟩
    ·have e:(w5.setCell ⟨w.heap.size+1+1,0,none⟩ (.slice a3 (i+1) c3)).heap.size=w5.heap.size:=by simp[World.setCell]
     have:=d.out.siz
     omega
   have a8:Hid (D0 (E++[⟨⟨N,b,O,P,l⟩,.slice H b.length I,.slice a2 l.length c2⟩])=c.take (i+1)):=by rw[Hid,al.out,Wg,HE.out];rfl
   clear ao B A L t0 d ab Y X
   go_roundw
   case rel=>exact⟨i+1,a3,c3,_,by omega,by go_num,a8.out,aj.out⟩
   case measure=>simp[intOf];omega
  ·have ax:¬ (i:Int) < (n:Int):=by omega
   have bg:i=n:=by omega
   subst bg
   have HT:Hid (D0 E=c):=by rw[Hid,HE.out];exact List.take_of_length_le (by rw[HN.out];omega)
   obtain⟨o0,-⟩:=De s.out.out
   obtain⟨r0,g0⟩:=De s.out.res
   have HR:Hid ((wr.setCell ⟨w.heap.size+1,0,none⟩ (.slice a i C)).heap[w.heap.size+1]? = some (.cells #[.slice a i C] 38)):=by rw[Hid,A6 s.out.res];rfl
   clear HC
   go_wp2_with fail
   obtain⟨d0,-⟩:=De HR.out
   exact bodyPost_ret (v:=.agg #[.slice a i C]) (by simp[results,Tryz.results21,go_sem,d0]) rfl ⟨a,C,rfl,E,HT.out,(s.out.own.keep (fun k h1 _=>A7 (by omega))).mono (by omega),s.out.bel.setCell (p:=⟨w.heap.size+1,0,none⟩) (by simp only;omega) _⟩
theorem Qaw (B:Nat) (c:List Ae) (cv:Value) (hcl:c.length<=1048576) (w:World) (hB:B<=w.heap.size) (hC:Ak B w cv c) :
  Calls Tryz.prog 23 #[.agg #[cv]] w fun e w'=>(∃ m:Int,e = .returned (.int .i64 m)/\((m < 0/\c.any Bb=false)\/∃ (j:Nat) (k:j < c.length),m=(j:Int)/\Bb c[j]=true))/\Below w.heap.size w w':=by
 obtain⟨a,d,rfl,o⟩:=hC
 have G:Hid (∀ i (F:i < c.length),∃ g A C,a=some ⟨g,0,none⟩/\g < B/\w.cell? ⟨g,i * 5,none⟩=some (.string c[i].name)/\w.cell? ⟨g,i * 5+1,none⟩=some (.slice A c[i].params.length C)/\w.cell? ⟨g,i * 5+2,none⟩=some (.int .i64 c[i].result)):=fun i F=>by
  obtain⟨g,H,A,C,R,S,q,I,r,s,u,_⟩:=Ak.fn ⟨a,d,rfl,o⟩ i F
  injection q with e1
  exact⟨g,A,C,e1,I,r,s,u⟩
 clear o
 obtain⟨Z,E⟩:∃ Z,w.alloc (.cells #[.slice a c.length d] 38)=Z:=⟨_,rfl⟩
 have n:Below w.heap.size w Z:=by rw[<- E];exact(Below.refl _ w).alloc (Nat.le_refl _) _
 have N:Z.heap.size=w.heap.size+1:=by rw[<- E];exact World.size_alloc _ _
 have P:Z.cell? ⟨w.heap.size,0,none⟩=some (.slice a c.length d):=by rw[<- E];exact Bq w _ _ 0 _ rfl
 go_enter Tryz.func23,Tryz.ntmps23
 go_wp2_with fail
 go_loopw [3] (fun t w2 => ∃ i:Nat,i<=c.length/\t = .int .i64 (i:Int)/\Below Z.heap.size Z w2/\∀ j (k:j < c.length),j < i->Bb c[j]=false) (fun t _=>c.length - (intOf t).toNat)
 case atStart=>exact⟨0,by omega,rfl,Below.refl _ _,fun j k h=>by omega⟩
 case round =>
  obtain⟨i,F,rfl,q,z⟩:=hrel
  have b:Below w.heap.size w wr:=n.trans (q.mono n.size)
  have Q:wr.cell? ⟨w.heap.size,0,none⟩=some (.slice a c.length d):=(q.cell (p:=⟨w.heap.size,0,none⟩) (by show w.heap.size < _;omega)).trans P
  by_cases hlt:i < c.length
  ·obtain⟨g,A,C,rfl,I,r,s,u⟩:=G.out i hlt
   have K:=(b.cell (p:=⟨g,i * 5,none⟩) (by show g < _;omega)).trans r
   have L:=(b.cell (p:=⟨g,i * 5+1,none⟩) (by show g < _;omega)).trans s
   have M:=(b.cell (p:=⟨g,i * 5+2,none⟩) (by show g < _;omega)).trans u
   obtain⟨f,v⟩:∃ f,c[i]=f:=⟨_,rfl⟩
   rw[v]at K L M
   have D:Hid (Bb f=false->∀ j (k:j < c.length),j < i+1->Bb c[j]=false):=fun hm j k h=>by
    by_cases e:j=i
    ·subst e;rw[v];exact hm
    ·exact z j k (by omega)
   have l:Hid (Bb f=true->(((i:Int) < 0/\c.any Bb=false)\/∃ (j:Nat) (k:j < c.length),(i:Int)=(j:Int)/\Bb c[j]=true)):=fun hm => .inr ⟨i,hlt,rfl,by rw[v];exact hm⟩
   clear r s u z v G
   go_wp2_with fail
   all_goals first
    | (refine⟨⟨i+1,by omega,by go_num,q,D.out (by first|(simp[Bb, *];done)|(have y := ‹(f.result == 2)=false›;simp at y;simp[Bb,y];done))⟩,by simp[intOf];omega⟩)
    | (go_ret;exact⟨⟨(i:Int),rfl,l.out (by have y := ‹(f.result == 2)=true›;simp at y;simp[Bb, *])⟩,b⟩)
  ·have J:Hid (((-1:Int) < 0/\c.any Bb=false)\/∃ (j:Nat) (k:j < c.length),(-1:Int)=(j:Int)/\Bb c[j]=true):=by
    refine .inl ⟨by omega, ?_⟩
    rw[List.any_eq_false]
    intro x O
    obtain⟨j,k,rfl⟩:=List.mem_iff_getElem.1 O
    rw[z j k (by omega)];simp
   clear z
   go_wp2_with fail
   go_ret
   exact⟨⟨-1,rfl,J.out⟩,b⟩
theorem Qax (c:List Ae) (r:Int × Int × Int) (ha:Bt c r) (hr:r.1=0) (B:Nat) (cv:Value) (hcl:c.length<=1048576) (w:World) (hB:B<=w.heap.size) (hC:Ak B w cv c) :
  Calls Tryz.prog 23 #[.agg #[cv]] w fun e w'=>e = .returned (.int .i64 (Ft c:Int))/\Below w.heap.size w w':=by
 refine(Qaw B c cv hcl w hB hC).mono ?_
 rintro e w' ⟨⟨m,rfl,h⟩,f⟩
 obtain⟨o,i,k,l,d⟩:=Ik ha hr
 rcases h with⟨n,b⟩|⟨j,g,rfl,b⟩
 ·exfalso
  have a:(B6 c).1=0:=by
   by_cases a:(B6 c).1=0
   ·exact a
   ·unfold Bt at ha
    rw[if_pos a]at ha
    rw[ha]at hr
    exact absurd hr a
  unfold B6 at a
  split at a
  ·simp at a
  ·split at a
   ·simp at a
   ·split at a
    ·simp at a
    ·split at a
     ·rename_i h7;rw[b]at h7;simp at h7
     ·simp at a
 ·rw[d j g b];exact⟨rfl,f⟩
structure M7 (w:World) (fn gf:Nat) (a:Option Addr) (i cp:Nat) (U:World):Prop where
 res:U.heap[w.heap.size]? = some (.cells #[.int .i64 0,.int .i64 0,.int .i64 0,.slice none 0 0,.slice none 0 0] 56)
 frm:U.heap[gf]? = some (.cells #[.int .i64 0,.int .i64 (fn:Int),.int .i64 0,.slice a i cp,.slice none 0 0] 56)
 lo:w.heap.size+1<=gf
 slo:U.ownsRow w.heap.size 99 3 (.slice a i cp) i (Bj (B3 i))
 bel:Below w.heap.size w U
theorem M7.drew {w:World} {fn gf:Nat} {a:Option Addr} {i cp:Nat} {U:World} (h:M7 w fn gf a i cp U):M7 w fn gf a i cp U.drew:=⟨h.res,h.frm,h.lo,Ah h.slo (fun _ _ _ _=>rfl),h.bel.drew⟩
theorem M7.ne {w:World} {fn gf:Nat} {a:Option Addr} {i cp:Nat} {U:World} (h:M7 w fn gf a i cp U):some w.heap.size≠(Value.slice a i cp).ownBlock/\some gf≠(Value.slice a i cp).ownBlock:=by
 refine⟨fun e => ?_,fun e => ?_⟩
 ·obtain⟨c,b⟩:=(A3 h.slo e.symm).2
  rw[h.res]at b;injection b with b;injection b with _ b;exact absurd b (by decide)
 ·obtain⟨c,b⟩:=(A3 h.slo e.symm).2
  rw[h.frm]at b;injection b with b;injection b with _ b;exact absurd b (by decide)
def Pn (ns gf:Nat) (w:World):Nat:=match w.cell? ⟨gf,3,none⟩ with
 | some (.slice _ i _)=>ns - i
 | _=>0
theorem Uc {ns gf:Nat} {w:World} {a:Option Addr} {i cp:Nat} (h:w.cell? ⟨gf,3,none⟩=some (.slice a i cp)):Pn ns gf w=ns - i:=by unfold Pn;rw[h]
theorem Vy (i:Nat):Bj (B3 i)++[.int .i64 0,.int .i64 0,.string ⟨#[]⟩]=Bj (B3 (i+1)):=by
 have e:B3 (i+1)=B3 i++[⟨0,0,⟨#[]⟩⟩]:=by simp[B3,List.replicate_succ']
 rw[e,Nc];rfl
theorem Yd (gc cc h nf cf ns fn:Nat) (ea:Option Addr) (w:World) (hns:ns<=1000) (hfn:fn < nf) (hgc:w.cell? ⟨gc,0,none⟩=some (.slice (some ⟨h,0,none⟩) nf cf)) (hsl:w.cell? ⟨h,fn * 5+3,none⟩=some (.int .i64 (ns:Int))) :
  Calls Tryz.prog 22 #[.slice (some ⟨gc,0,none⟩) 1 cc,.int .i64 0,.int .i64 (fn:Int),.slice ea 0 0] w fun e w' => ∃ a l,e = .returned (.agg #[.int .i64 0,.int .i64 (fn:Int),.int .i64 0,.slice a ns l,.slice none 0 0])/\w'.ownsRow w.heap.size 99 3 (.slice a ns l) ns (Bj (B3 ns))/\Below w.heap.size w w':=by
 obtain⟨i0,J,M,N,O⟩:=info_parts Jj
 have T:Hid (∀ U,Below w.heap.size w U->U.cell? ⟨gc,0,none⟩=some (.slice (some ⟨h,0,none⟩) nf cf)/\U.cell? ⟨h,fn * 5+3,none⟩=some (.int .i64 (ns:Int))):=fun U A=>⟨(A.cell (p:=⟨gc,0,none⟩) (Bv hgc)).trans hgc,(A.cell (p:=⟨h,fn * 5+3,none⟩) (Bv hsl)).trans hsl⟩
 have ah:(fn:Int) < (nf:Int):=by omega
 clear hgc hsl
 go_enter Tryz.func22,Tryz.ntmps22
 go_wp2_with (first
  | (at_builtin;(refine Le rfl _ _ 54 rfl w.heap.size 99 i0 (.agg #[.int .i64 0,.int .i64 0,.string ByteArray.empty]) 3 32 Tryz.underlying54 J M N O rfl (by decide) (.slice (some ⟨w.heap.size+1,0,none⟩) 0 0) 0 [] rfl ⟨rfl,.inr ⟨w.heap.size+1,0,#[],rfl,by omega,by (have I:=(MapKept.heap_alloc (w.alloc (.cells #[.int .i64 0,.int .i64 0,.int .i64 0,.slice none 0 0,.slice none 0 0] 56)) (.cells #[] 99)).1;rw[World.size_alloc]at I;exact I),by omega,by unfold maxLen;omega,rfl,rfl⟩⟩ ea 0 0 rfl [] rfl (fun h0=>by omega) (fun u hu=>by simp at hu) (by unfold maxLen;omega) (by omega) (by simp;omega) ?_;intro v1 D d m;obtain⟨Z,c1,af⟩:=Aq d;subst af)))
 simp only[Nat.add_zero,List.append_nil]at d
 try simp only[Nat.add_zero]
 have P:=m.size
 simp only[World.size_alloc]at P
 have L:D.heap[w.heap.size]? = some (.cells #[.int .i64 0,.int .i64 0,.int .i64 0,.slice none 0 0,.slice none 0 0] 56):=(m.block w.heap.size (by simp;omega) (by simp[Value.ownBlock])).trans (Am _ (MapKept.heap_alloc w _).1)
 have G:Below w.heap.size w D:=by
  have q:Below w.heap.size w ((w.alloc (.cells #[.int .i64 0,.int .i64 0,.int .i64 0,.slice none 0 0,.slice none 0 0] 56)).alloc (.cells #[] 99)):=(Di w _).alloc (by simp) _
  exact⟨m.os.trans q.os,m.tape.trans q.tape,m.output.trans q.output,by omega,fun k hk=>(m.block k (by simp;omega) (by simp[Value.ownBlock];omega)).trans (q.block k hk)⟩
 obtain⟨W,C⟩:∃ V,D.alloc (.cells #[.int .i64 0,.int .i64 (fn:Int),.int .i64 0,.slice Z 0 c1,.slice none 0 0] 56)=V:=⟨_,rfl⟩
 rw[C]
 obtain⟨f,y⟩:∃ g,Hid (D.heap.size=g):=⟨_,(rfl:D.heap.size=_)⟩
 have HV:Hid (M7 w fn f Z 0 c1 W):=by
  refine⟨?_, ?_,by rw[<- y.out];omega, ?_, ?_⟩
  ·rw[<- C];exact Am _ L
  ·rw[<- C,<- y.out];exact(MapKept.heap_alloc D _).1
  ·rw[<- C];exact d.alloc _
  ·rw[<- C];exact G.alloc (by omega) _
 rw[y.out]
 clear C d m L G P
 go_loopw [16] (fun _ wr => ∃ (i:Nat) (a:Option Addr) (l:Nat),i<=ns/\M7 w fn f a i l wr) (fun _ wr=>Pn ns f wr)
 case atStart=>exact⟨0,Z,c1,by omega,HV.out⟩
 case round =>
  obtain⟨i,a,l,hi,o⟩:=hrel
  have z:Hid (M7 w fn f a i l wr):=o
  have x3:=(Ch o.frm).1.2.2.2.1
  have n:wr.drew.cell? ⟨f,3,none⟩=some (.slice a i l):=x3
  obtain⟨z1,z2⟩:=T.out wr o.bel
  have s:wr.drew.cell? ⟨gc,0,none⟩=some (.slice (some ⟨h,0,none⟩) nf cf):=z1
  have t:wr.drew.cell? ⟨h,fn * 5+3,none⟩=some (.int .i64 (ns:Int)):=z2
  clear o HV
  by_cases hlt:i < ns
  ·have K:(i:Int) < (ns:Int):=by omega
   have b:Hid (M7 w fn f a i l wr.drew):=z.out.drew
   have ak:=z.out.bel.size
   go_wp2_with fail
   refine wp_region_held_drew (S:=(fun W=>W.cell? ⟨f,3,none⟩=some (.slice a i l)/\W.cell? ⟨gc,0,none⟩=some (.slice (some ⟨h,0,none⟩) nf cf)/\W.cell? ⟨h,fn * 5+3,none⟩=some (.int .i64 (ns:Int)))) (by kernel_rfl) (⟨n,s,t⟩) (fun hHeld => ?_)
   refine Tk 0 (.pointer (some ⟨f,3,none⟩)) rfl ?_
   try simp[Act.put]
   refine Tk 1 (.slice a i l) rfl ?_
   try simp[Act.put]
   refine Tk 2 (.int .i64 (i:Int)) rfl ?_
   try simp[Act.put]
   refine Tk 3 (.slice (some ⟨gc,0,none⟩) 1 cc) rfl ?_
   try simp[Act.put]
   refine Tk 4 (.int .i64 0) rfl ?_
   try simp[Act.put]
   refine Tk 5 (.pointer (some ⟨gc,0,none⟩)) rfl ?_
   try simp[Act.put]
   refine Tk 6 (.pointer (some ⟨gc,0,none⟩)) rfl ?_
   try simp[Act.put]
   refine Tk 7 (.slice (some ⟨h,0,none⟩) nf cf) rfl ?_
   try simp[Act.put]
   refine Tk 8 (.int .i64 (fn:Int)) rfl ?_
   try simp[Act.put]
   refine Tk 9 (.pointer (some ⟨h,fn * 5,none⟩)) rfl ?_
   try simp[Act.put]
   refine Tk 10 (.pointer (some ⟨h,fn * 5+3,none⟩)) rfl ?_
   try simp[Act.put]
   refine Tk 11 (.int .i64 (ns:Int)) rfl ?_
   try simp[Act.put]
   refine Tk 12 (.bool true) rfl ?_
   try simp[Act.put]
   refine wpAnyH_done (by kernel_rfl) ?_ _
   obtain⟨U,A⟩:∃ U,wr.drew=U:=⟨_,rfl⟩
   have ae:U.heap.size=wr.heap.size:=by rw[<- A];rfl
   rw[A]at b n |-
   clear s t z1 z2
   go_wp2_with (first|(at_builtin;(refine wpList_append_own _ rfl _ _ 54 rfl w.heap.size 99 i0 (.agg #[.int .i64 0,.int .i64 0,.string ByteArray.empty]) 3 32 Tryz.underlying54 J M N O rfl (by decide) _ _ _ rfl (b.out.slo.alloc _) ⟨wr.heap.size,0,none⟩ 1 1 [.int .i64 0,.int .i64 0,.string ⟨#[]⟩] rfl rfl (fun j u hj=>by have I:=D4 U [.int .i64 0,.int .i64 0,.string ⟨#[]⟩] 99 j u hj;rw[ae]at I;exact I) (fun x hx=>by simp at hx;rcases hx with rfl|rfl|rfl <;> rfl) (by unfold maxLen;omega) (by omega) (by simp;omega) ?_;intro v3 w5 c r _;rw[Vy]at c;obtain⟨R,F,ag⟩:=Aq c;subst ag;have Q:=(Fo r (Array.getElem?_eq_some_iff.1 b.out.frm).1 b.out.ne.2).trans b.out.frm;have u1:=(Ch Q).1.2.2.2.1;have u2:=(Ch Q).2.2.2.2.1)))
   have H:Below w.heap.size w w5:=(b.out.bel.alloc b.out.bel.size _).grown r (by simp;omega) (Ij b.out.slo)
   have E:Hid (M7 w fn f R (i+1) F (w5.setCell ⟨f,3,none⟩ (.slice R (i+1) F))):=by
    have ad:=b.out.lo
    refine⟨?_, ?_,ad, ?_, ?_⟩
    ·rw[A7 (by omega)];exact(Fo r (Array.getElem?_eq_some_iff.1 b.out.res).1 b.out.ne.1).trans b.out.res
    ·rw[A6 Q];rfl
    ·refine Ah c (fun k hk _ _=>A7 (fun e => ?_))
     subst e
     obtain⟨aj,B⟩:=(A3 c hk).2
     rw[Q]at B;injection B with B;injection B with _ B;exact absurd B (by decide)
    ·exact H.setCell (p:=⟨f,3,none⟩) (by simp only;omega) _
   have HL:Hid (Pn ns f (w5.setCell ⟨f,3,none⟩ (.slice R (i+1) F))=ns - (i+1)):=Uc (Ch E.out.frm).1.2.2.2.1
   have X:Hid (Pn ns f wr=ns - i):=Uc x3
   clear c r Q H
   go_roundw
   case rel=>exact⟨i+1,R,F,by omega,E.out⟩
   case measure=>rw[HL.out,X.out];omega
  ·have K:¬ (i:Int) < (ns:Int):=by omega
   have ab:i=ns:=by omega
   subst ab
   have b:Hid (M7 w fn f a i l wr.drew):=z.out.drew
   go_wp2_with fail
   refine wp_region_held_drew (S:=(fun W=>W.cell? ⟨f,3,none⟩=some (.slice a i l)/\W.cell? ⟨gc,0,none⟩=some (.slice (some ⟨h,0,none⟩) nf cf)/\W.cell? ⟨h,fn * 5+3,none⟩=some (.int .i64 (i:Int)))) (by kernel_rfl) (⟨n,s,t⟩) (fun hHeld => ?_)
   refine Tk 0 (.pointer (some ⟨f,3,none⟩)) rfl ?_
   try simp[Act.put]
   refine Tk 1 (.slice a i l) rfl ?_
   try simp[Act.put]
   refine Tk 2 (.int .i64 (i:Int)) rfl ?_
   try simp[Act.put]
   refine Tk 3 (.slice (some ⟨gc,0,none⟩) 1 cc) rfl ?_
   try simp[Act.put]
   refine Tk 4 (.int .i64 0) rfl ?_
   try simp[Act.put]
   refine Tk 5 (.pointer (some ⟨gc,0,none⟩)) rfl ?_
   try simp[Act.put]
   refine Tk 6 (.pointer (some ⟨gc,0,none⟩)) rfl ?_
   try simp[Act.put]
   refine Tk 7 (.slice (some ⟨h,0,none⟩) nf cf) rfl ?_
   try simp[Act.put]
   refine Tk 8 (.int .i64 (fn:Int)) rfl ?_
   try simp[Act.put]
   refine Tk 9 (.pointer (some ⟨h,fn * 5,none⟩)) rfl ?_
   try simp[Act.put]
   refine Tk 10 (.pointer (some ⟨h,fn * 5+3,none⟩)) rfl ?_
   try simp[Act.put]
   refine Tk 11 (.int .i64 (i:Int)) rfl ?_
   try simp[Act.put]
   refine Tk 12 (.bool false) rfl ?_
   try simp[Act.put]
   refine wpAnyH_done (by kernel_rfl) ?_ _
   obtain⟨U,A⟩:∃ U,wr.drew=U:=⟨_,rfl⟩
   rw[A]at b n |-
   obtain⟨⟨c0,ai,c2,F,c4⟩,g0,g1,g2,g3,g4⟩:=Ch b.out.frm
   obtain⟨⟨m0,m1,m2,m3,m4⟩,l0,l1,l2,l3,l4⟩:=Ch b.out.res
   clear s t z1 z2 x3 n
   go_wp2_with fail
   obtain⟨Y,hY,aa,ac,d0,d1,d2,d3,d4⟩:=Od b.out.res b.out.bel (Nat.le_refl _) (.int .i64 0) (.int .i64 (fn:Int)) (.int .i64 0) (.slice a i l) (.slice none 0 0)
   try rw[hY]
   exact bodyPost_ret (v:=.agg #[.int .i64 0,.int .i64 (fn:Int),.int .i64 0,.slice a i l,.slice none 0 0]) (by simp[results,Tryz.results22,go_sem,d0,d1,d2,d3,d4]) rfl ⟨a,l,rfl,Ah b.out.slo (fun k hk _ _=>ac k (fun e=>by subst e;exact b.out.ne.1 hk.symm)),aa⟩
end Go.Proofs.YtfjkahdghhbpnaaGreatDoor
