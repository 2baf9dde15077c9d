import Derived.Test.YtfjkahdghhbpnaaGreatDoorKCdW
set_option maxRecDepth 100000
set_option maxHeartbeats 4000000
namespace Go.Proofs.YtfjkahdghhbpnaaGreatDoor
open Go.RowKit
theorem Bg.form {B:Nat} {W:World} {v:Value}:∀ {sh:Ap},Bg B W v sh->∃ st a n c a' n' c',v = .agg #[.int .i64 st,.slice a n c,.slice a' n' c']
 | .none,h=>⟨0,none,0,0,none,0,0,h⟩
 | .clash,h=>⟨2,none,0,0,none,0,0,h⟩
 | .known _ _,h=>by
  obtain⟨f,g,b,d,e,_⟩:=h
  exact⟨1,f,_,g,b,_,d,e⟩
theorem Ng {W:World} {B n O:Nat} {v:Value} {xs:List Value} {cur:Array Value} {fr:Nat × Nat} (h:W.ownsRow B 3 1 v n xs) (ho:W.heap[O]? = some (.cells cur 132 fr)):v.ownBlock≠some O:=fun e=>by
 obtain⟨_,b,c,a⟩:=Dd.own h (Nat.le_refl _) O e
 rw[ho]at a
 injection a with a;injection a with _ a;exact absurd a (by decide)
structure If (D:World) (O:Nat) (s:List Int) (v1:Value) (W:World):Prop where
 since:Below D.heap.size D W
 le:D.heap.size<=O
 out:W.heap[O]? = some (.cells #[.int .i64 1,v1,.slice none 0 0] 132)
 own:W.ownsRow D.heap.size 3 1 v1 s.length (Al s)
theorem If.lt {D:World} {O:Nat} {s:List Int} {v1:Value} {W:World} (h:If D O s v1 W):O < W.heap.size:=(Array.getElem?_eq_some_iff.1 h.out).1
theorem If.new {D:World} {s:List Int} {v1:Value} {W:World} (h:Below D.heap.size D W) (hown:W.ownsRow D.heap.size 3 1 v1 s.length (Al s)):If D W.heap.size s v1 (W.alloc (.cells #[.int .i64 1,v1,.slice none 0 0] 132)) :=
 ⟨Ac h _,h.size,Ag _ _,hown.alloc _⟩
theorem If.set2 {D:World} {O:Nat} {s:List Int} {v1:Value} {W:World} (h:If D O s v1 W):If D O s v1 (W.setCell ⟨O,2,none⟩ (.slice none 0 0)) :=
 ⟨h.since.setCell (p:=⟨O,2,none⟩) h.le _,h.le,(heap_setCell_same W O 2 _ _ _ h.out).trans rfl,ownsRow_setCell_other (a:=⟨O,2,none⟩) h.own (Ng h.own h.out) _⟩
theorem If.o {D:World} {O:Nat} {s:List Int} {v1:Value} {W:World} (h:If D O s v1 W):(W.cell? ⟨O,0,none⟩=some (.int .i64 1)/\W.cell? ⟨O,1,none⟩=some v1/\W.cell? ⟨O,2,none⟩=some (.slice none 0 0))/\W.frozen? ⟨O,0,none⟩=false/\W.frozen? ⟨O,1,none⟩=false/\W.frozen? ⟨O,2,none⟩=false:=by
 refine⟨⟨?_, ?_, ?_⟩, ?_, ?_, ?_⟩
 ·rw[Lib.cell_of_heap h.out];rfl
 ·rw[Lib.cell_of_heap h.out];rfl
 ·rw[Lib.cell_of_heap h.out];rfl
 all_goals simp[World.frozen?,h.out]
theorem If.more {D:World} {O:Nat} {s:List Int} {v1 v':Value} {W w3:World} {o:Obj} {z:Int} (h:If D O s v1 W) (hgrow:(W.alloc o).grownBy w3 v1.ownBlock) (hown:w3.ownsRow D.heap.size 3 1 v' (s.length+[z].length) (Al (s++[z]))):If D O (s++[z]) v' (w3.setCell ⟨O,1,none⟩ v'):=by
 have c:=Ng h.own h.out
 have d:=G6 o h.out rfl hgrow c
 have b:w3.ownsRow D.heap.size 3 1 v' (s++[z]).length (Al (s++[z])):=by rw[List.length_append];exact hown
 refine⟨?_,h.le,(heap_setCell_same w3 O 1 _ _ v' d).trans rfl,ownsRow_setCell_other (a:=⟨O,1,none⟩) b (Ng b d) _⟩
 exact(Dq (Ac h.since o) hgrow (Nat.le_trans h.since.size (by simp)) (fun k hk=>B5 h.own hk)).setCell (p:=⟨O,1,none⟩) h.le _
def Mu (W:World) (O:Nat):Nat:=match W.cell? ⟨O,1,none⟩ with
 | some (.slice _ n _)=>n
 | _=>0
def In (c:List Ae) (f:Ae) (w:World) (e:Ending) (w':World):Prop :=
 ∃ g X,e = .returned (.slice (some ⟨g,0,none⟩) f.ins.length f.ins.length)/\C1 g w' X/\Fc c f X/\(∀ u,Hp (Ao X u))/\Below w.heap.size w w'
theorem Tryz.infoShape : (Tryz.prog.info? 132).map (fun i=>(i.zero,i.size,i.bytes))=some (some (.agg #[.int .i64 0,.slice none 0 0,.slice none 0 0]),3,56):=by kernel_rfl
theorem Ve : ∃ i,Tryz.prog.info? 132=some i/\i.zero=some (.agg #[.int .i64 0,.slice none 0 0,.slice none 0 0])/\i.size=3/\i.bytes=56:=by
 have h:=Tryz.infoShape
 cases hi:Tryz.prog.info? 132 with
 | none=>rw[hi]at h;simp at h
 | some i=>rw[hi]at h;simp at h;exact⟨i,rfl,h.1,h.2.1,h.2.2⟩
theorem Vf (c:List Ae) (fk:Nat) (hfk:fk < c.length) (f:Ae) (hf:c[fk]=f) (ca:Option Addr) (cc:Nat) (hcl:c.length<=60) (hfn:Bw c fk f=true) (hpl:∀ g ∈ c,g.params.length<=8) (hok:∀ i (h:i < f.ins.length),At c f f.ins[i]=true) (w:World) (hC:Ak w.heap.size w (.slice ca c.length cc) c) :
  Calls Tryz.prog 76 #[.agg #[.slice ca c.length cc],.int .i64 (fk:Int)] w (In c f w):=by
 obtain⟨b1,b2,b3,b4,b5,b6,-,-,-⟩:=Fk hfn
 obtain⟨gc,bf,pa,pc,ia,ic,ev,ce,d0,d1,d2,d3,d4,hP,hI⟩:=hC.fn fk hfk
 injection ev with ev1 ev2 ev3
 subst ev1 ev3
 rw[hf]at d0 d1 d2 d3 d4 hP hI
 obtain⟨gi,rfl⟩:∃ gi,ia=some ⟨gi,0,none⟩:=by
  obtain⟨a',cp,e,h⟩:=hI
  injection e with e1
  subst e1
  obtain⟨g,h1,_⟩:=h 0 (by omega)
  exact⟨g,h1⟩
 have HC:Hid (Ak w.heap.size w (.slice (some ⟨gc,0,none⟩) c.length cc) c):=hC
 have HP:Hid (Ab w.heap.size w (.slice pa f.params.length pc) f.params):=hP
 have HI:Hid (Ba w.heap.size w (.slice (some ⟨gi,0,none⟩) f.ins.length ic) f.ins):=hI
 clear hC hP hI hf ev2
 obtain⟨Y1,cv⟩:∃ Y,w.alloc (.cells #[.slice (some ⟨gc,0,none⟩) c.length cc] 38)=Y:=⟨_,rfl⟩
 have bn:Below w.heap.size w Y1:=by rw[<- cv];exact A5 w _
 have ea:Y1.heap.size=w.heap.size+1:=by rw[<- cv];exact World.size_alloc _ _
 have cl:Y1.heap[w.heap.size]? = some (.cells #[.slice (some ⟨gc,0,none⟩) c.length cc] 38):=by rw[<- cv];exact Ag w _
 have dy:Y1.cell? ⟨w.heap.size,0,none⟩=some (.slice (some ⟨gc,0,none⟩) c.length cc):=by rw[Lib.cell_of_heap cl];rfl
 have e0:=(bn.cell (p:=⟨gc,fk * 5,none⟩) ce).trans d0
 have e1:=(bn.cell (p:=⟨gc,fk * 5+1,none⟩) ce).trans d1
 have e2:=(bn.cell (p:=⟨gc,fk * 5+2,none⟩) ce).trans d2
 have e3:=(bn.cell (p:=⟨gc,fk * 5+3,none⟩) ce).trans d3
 have e4:=(bn.cell (p:=⟨gc,fk * 5+4,none⟩) ce).trans d4
 obtain⟨Y2,b7⟩:∃ Y,Y1.alloc (.cells #[.string f.name,.slice pa f.params.length pc,.int .i64 f.result,.int .i64 f.slots,.slice (some ⟨gi,0,none⟩) f.ins.length ic] 97)=Y:=⟨_,rfl⟩
 have b8:Below w.heap.size w Y2:=by rw[<- b7];exact Ac bn _
 have dc:Y2.heap.size=w.heap.size+2:=by rw[<- b7,World.size_alloc];omega
 have cz:Y2.heap[w.heap.size]? = some (.cells #[.slice (some ⟨gc,0,none⟩) c.length cc] 38):=by rw[<- b7];exact Am _ cl
 have bj:Y2.heap[w.heap.size+1]? = some (.cells #[.string f.name,.slice pa f.params.length pc,.int .i64 f.result,.int .i64 f.slots,.slice (some ⟨gi,0,none⟩) f.ins.length ic] 97):=by rw[<- b7,<- ea];exact Ag _ _
 have q1:Y2.cell? ⟨w.heap.size+1,1,none⟩=some (.slice pa f.params.length pc):=by rw[Lib.cell_of_heap bj];rfl
 have q3:Y2.cell? ⟨w.heap.size+1,3,none⟩=some (.int .i64 f.slots):=by rw[Lib.cell_of_heap bj];rfl
 have q4:Y2.cell? ⟨w.heap.size+1,4,none⟩=some (.slice (some ⟨gi,0,none⟩) f.ins.length ic):=by rw[Lib.cell_of_heap bj];rfl
 have eq:(fk:Int) < (c.length:Int):=by omega
 clear d0 d1 d2 d3 d4 cl
 obtain⟨i0,db,de,df,dg⟩:=Gy
 obtain⟨i3,d8,eb,ec,ed⟩:=Ve
 go_enter Tryz.func76,Tryz.ntmps76
 go_wp2_with (first
  | (at_make;refine wpList_make_full _ rfl _ _ 129 rfl (w.heap.size+2) 132 i3 (.agg #[.int .i64 0,.slice none 0 0,.slice none 0 0]) 3 Tryz.underlying129 d8 eb ec .i64 .i64 _ _ f.ins.length rfl rfl rfl rfl (by rw[ed];omega) (by unfold maxLen;omega) (Nat.le_of_eq dc.symm) ?_;intro w0 cj bq;have bs:=(show Below Y2.heap.size Y2 w0 from Dq (Below.refl _ Y2) bq (Nat.le_refl _) (fun k hk e=>by cases e));obtain⟨V1,c9⟩:∃ V,w0.alloc (.cells #[] 3)=V:=⟨_,rfl⟩;have aw:=(show Below w0.heap.size w0 V1 from(by rw[<- c9];exact A5 w0 _));have u1:=((bs.trans (aw.mono bs.size)).cell (p:=⟨w.heap.size+1,1,none⟩) (by show w.heap.size+1 < _;omega)).trans q1;have c5:=(show Hid (V1.ownsRow w0.heap.size 3 1 (.slice (some ⟨w0.heap.size,0,none⟩) 0 0) 0 (Al [])) from(by rw[Hid,<- c9];exact Gh w0 _ (Nat.le_refl _) _));have ds:=(show Hid (Ab w.heap.size V1 (.slice pa f.params.length pc) f.params) from HP.out.below (b8.trans ((bs.trans (aw.mono bs.size)).mono b8.size))))
  | (at_builtin;refine Bk rfl _ _ 90 rfl w0.heap.size 3 i0 (.int .i64 0) Tryz.underlying90 db de df dg rfl (.slice (some ⟨w0.heap.size,0,none⟩) 0 0) 0 [] rfl c5.out w.heap.size (.slice pa f.params.length pc) rfl f.params ds.out (by omega) aw.size ?_;intro v1 w9 a4 d7;rw[Nat.zero_add,List.nil_append]at a4;obtain⟨a1,bx,eo⟩:=Aq a4;subst eo;have d6:=Dq aw d7 aw.size (fun g hg=>B5 c5.out hg);obtain⟨V2,d5⟩:∃ V,w9.alloc (.cells #[.int .i64 1,.slice a1 f.params.length bx,.slice none 0 0] 132)=V:=⟨_,rfl⟩;have c7:=(show If w0 w9.heap.size f.params (.slice a1 f.params.length bx) V2 from(by rw[<- d5];exact If.new d6 a4));obtain⟨⟨t0,t1,t2⟩,k0,k1,k2⟩:=c7.o))
 obtain⟨ei,b0⟩:∃ V,V2.setCell ⟨w9.heap.size,2,none⟩ (.slice none 0 0)=V:=⟨_,rfl⟩
 have dp:Hid (If w0 w9.heap.size f.params (.slice a1 f.params.length bx) ei):=by rw[Hid,<- b0];exact c7.set2
 have du:Hid (C1 (w.heap.size+2) w0 (List.replicate f.ins.length .none)):=by
  have h:=cj
  rw[dc]at h
  exact C1.made h
 have c0:Hid (Below Y2.heap.size Y2 w0):=bs
 have c6:Hid (Y2.heap[w.heap.size]? = some (.cells #[.slice (some ⟨gc,0,none⟩) c.length cc] 38)/\Y2.heap[w.heap.size+1]? = some (.cells #[.string f.name,.slice pa f.params.length pc,.int .i64 f.result,.int .i64 f.slots,.slice (some ⟨gi,0,none⟩) f.ins.length ic] 97)):=⟨cz,bj⟩
 rw[b0]
 clear cj bq a4 d7 d6 c7 t0 t1 t2 k0 k1 k2 d5 b0 c9 aw u1 c5 ds cz bj e0 e1 e2 e3 e4 q1 dy bs
 go_loopw [] (fun wr => ∃ (j:Nat) (v1:Value),f.params.length+j<=f.slots.toNat/\If w0 w9.heap.size (f.params++List.replicate j 0) v1 wr) (fun wr=>f.slots.toNat - Mu wr w9.heap.size)
 case atStart=>exact⟨0,_,by omega,by simpa using dp.out⟩
 case round =>
  obtain⟨j,v1,hj,hF⟩:=hrel
  have HF:Hid (If w0 w9.heap.size (f.params++List.replicate j 0) v1 wr):=hF
  have HL:Hid ((f.params++List.replicate j (0:Int)).length=f.params.length+j):=by rw[Hid,List.length_append,List.length_replicate]
  obtain⟨a2,ap,rfl⟩:∃ a bf,v1 = .slice a (f.params.length+j) bf:=by
   obtain⟨a,bf,h⟩:=Aq hF.own
   exact⟨a,bf,by rw[h,HL.out]⟩
  obtain⟨⟨t0,t1,t2⟩,k0,k1,k2⟩:=hF.o
  have cb:=(show Below Y2.heap.size Y2 wr from c0.out.trans (hF.since.mono c0.out.size))
  have r3:=(cb.cell (p:=⟨w.heap.size+1,3,none⟩) (by show w.heap.size+1 < _;omega)).trans q3
  have cx:Mu wr w9.heap.size=f.params.length+j:=by unfold Mu;rw[t1]
  have dr:Hid (w9.heap.size < wr.heap.size):=hF.lt
  clear hF
  by_cases hlt:((f.params.length+j:Nat):Int) < f.slots
  ·have e8:∀ o:Obj,(wr.alloc o).cell? ⟨w9.heap.size,1,none⟩=some (.slice a2 (f.params.length+j) ap):=fun o=>(((Below.refl _ wr).alloc (Nat.le_refl _) o).cell (p:=⟨w9.heap.size,1,none⟩) dr.out).trans t1
   go_wp2_with (first|(at_builtin;refine Bk rfl _ _ 90 rfl w0.heap.size 3 i0 (.int .i64 0) Tryz.underlying90 db de df dg rfl (.slice a2 (f.params.length+j) ap) (f.params++List.replicate j 0).length (f.params++List.replicate j 0) rfl (HF.out.own.alloc _) (wr.heap.size+1) _ rfl [0] (Ab.new wr [0] 3 1) (by rw[HL.out];simp only[List.length_cons,List.length_nil];omega) (Nat.le_trans HF.out.since.size (by simp)) ?_;intro v' w3 bp ay;obtain⟨a3,dz,ep⟩:∃ a bf,v' = .slice a (f.params.length+j+1) bf:=(by obtain⟨a,bf,h⟩:=Aq bp;exact⟨a,bf,by rw[h,HL.out];rfl⟩);subst ep;have b9:=G6 _ HF.out.out rfl ay (Ng HF.out.own HF.out.out);have es:=(show w3.cell? ⟨w9.heap.size,1,none⟩=some (.slice a2 (f.params.length+j) ap) from(by rw[Lib.cell_of_heap b9];rfl));have et:=(show w3.frozen? ⟨w9.heap.size,1,none⟩=false from(by simp[World.frozen?,b9]))))
   go_roundw
   case rel =>
    have h:=HF.out.more ay bp
    rw[List.append_assoc]at h
    have e:List.replicate j (0:Int)++[0]=List.replicate (j+1) 0:=by rw[List.replicate_succ']
    rw[e]at h
    exact⟨j+1,_,by omega,h⟩
   case measure =>
    have h:=(HF.out.more ay bp).o.1.2.1
    rw[cx]
    have h2:Mu (w3.setCell ⟨w9.heap.size,1,none⟩ (.slice a3 (f.params.length+j+1) dz)) w9.heap.size=f.params.length+j+1:=by
     unfold Mu;rw[h]
    rw[h2]
    omega
  ·have dd:f.params++List.replicate j (0:Int)=B8 f:=by
    unfold B8
    have:j=f.slots.toNat - f.params.length:=by omega
    rw[this]
   have dv:Hid (If w0 w9.heap.size (B8 f) (.slice a2 (f.params.length+j) ap) wr):=by rw[Hid,<- dd];exact HF.out
   have c2:Hid (f.params.length+j=(B8 f).length):=by rw[Hid,<- dd];exact HL.out.symm
   have br:Hid (C1 (w.heap.size+2) wr (List.replicate f.ins.length .none)):=du.out.below HF.out.since
   obtain⟨n,HN⟩:∃ n,Hid (f.ins.length=n):=⟨_,(rfl:f.ins.length=_)⟩
   have ej:=br.out.froz 0;have ek:=br.out.froz 1;have el:=br.out.froz 2
   obtain⟨l,ey,e7,ez,eu,ex,ew,g0,g1,g2,-⟩:=br.out.each 0 (by rw[List.length_replicate];omega)
   simp only[Nat.zero_mul,Nat.zero_add]at g0 g1 g2
   have em:(0:Int) < (f.ins.length:Int):=by omega
   clear dd
   go_wp2_with fail
   obtain⟨W1,da⟩:∃ W,(((wr.setCell ⟨w.heap.size+2,0,none⟩ (.int .i64 1)).setCell ⟨w.heap.size+2,1,none⟩ (.slice a2 (f.params.length+j) ap)).setCell ⟨w.heap.size+2,2,none⟩ (.slice none 0 0))=W:=⟨_,rfl⟩
   have dw:Hid (Hg w #[.slice (some ⟨gc,0,none⟩) c.length cc] #[.string f.name,.slice pa f.params.length pc,.int .i64 f.result,.int .i64 f.slots,.slice (some ⟨gi,0,none⟩) f.ins.length ic] ((List.replicate f.ins.length Ap.none).set 0 (.known (B8 f) [])) W1):=by
    have h0:Hg w #[.slice (some ⟨gc,0,none⟩) c.length cc] #[.string f.name,.slice pa f.params.length pc,.int .i64 f.result,.int .i64 f.slots,.slice (some ⟨gi,0,none⟩) f.ins.length ic] (List.replicate f.ins.length Ap.none) wr:=⟨b8.trans (cb.mono b8.size),(cb.block _ (by omega)).trans c6.out.1,(cb.block _ (by omega)).trans c6.out.2,br.out⟩
    have en:Bg wr.heap.size wr (Ai 1 (.slice a2 (f.params.length+j) ap) (.slice none 0 0)) (.known (B8 f) []):=by
     rw[c2.out]
     have ho:=dv.out.own
     rw[c2.out]at ho
     exact⟨a2,ap,none,0,rfl,Nat.le_refl _,.inl ⟨rfl,rfl⟩,Ab.own ho (Nat.le_refl _),⟨none,0,rfl,fun i hi=>by simp at hi⟩,Dd.own ho (Nat.le_refl _),Dd.nil _ _⟩
    have h:=h0.store 0 (by rw[List.length_replicate];omega) en
    unfold Ek at h
    simp only[Nat.zero_mul,Nat.zero_add]at h
    rw[da]at h
    exact h
   have dt:Hid (Hf (Ce c f) ((List.replicate f.ins.length Ap.none).set 0 (.known (B8 f) [])) ((List.replicate f.ins.length Ap.none).set 0 (.known (B8 f) [])) false 0):=Hf.begin (Ce c f) (by show 0 < f.ins.length;omega) (Nat.zero_le 600)
   rw[da]
   clear da dv c2 br ej ek el g0 g1 g2 em HF HL dr t0 t1 t2 k0 k1 k2 r3 cx cb dp du c0 c6 bn b8 ea dc cv b7 q3 q4 hj hlt HN db de df dg d8 eb ec ed
   go_loopw [8] (fun ta wz => ∃ (X:List Ap) (ag:Bool),ta = .bool ag/\Hg w #[.slice (some ⟨gc,0,none⟩) c.length cc] #[.string f.name,.slice pa f.params.length pc,.int .i64 f.result,.int .i64 f.slots,.slice (some ⟨gi,0,none⟩) f.ins.length ic] X wz/\Hf (Ce c f) X X false 0/\(ag=false->I1 (Ce c f) X)) (fun ta wz=>match ta with|.bool true=>1+((Ce c f).n * ((Ce c f).m+2) - H7 (Ce c f).m (Classical.epsilon (fun Y=>C1 (w.heap.size+2) wz Y)))|_=>0)
   case atStart=>exact⟨_,true,rfl,dw.out,dt.out,fun e=>by simp at e⟩
   case round =>
    obtain⟨X,ag,rfl,bm,bg,c8⟩:=hrel
    cases ag with
    | false =>
     have ee:Hid (I1 (Ce c f) X):=c8 rfl
     clear c8
     go_wp2_with fail
     go_ret
     exact⟨w.heap.size+2,X,rfl,bm.shs,⟨bg.low,ee.out⟩,bg.stk,bm.since⟩
    | true =>
     have dx:Hid (Hg w #[.slice (some ⟨gc,0,none⟩) c.length cc] #[.string f.name,.slice pa f.params.length pc,.int .i64 f.result,.int .i64 f.slots,.slice (some ⟨gi,0,none⟩) f.ins.length ic] X wr):=bm
     have eg:Hid (Hf (Ce c f) X X false 0):=bg
     clear bm bg c8 dw dt
     go_wp2_with fail
     go_loopw [8,9] (fun ta ti wy => ∃ (X2:List Ap) (ag:Bool) (i:Nat),i<=f.ins.length/\ta = .bool ag/\ti = .int .i64 (i:Int)/\Hg w #[.slice (some ⟨gc,0,none⟩) c.length cc] #[.string f.name,.slice pa f.params.length pc,.int .i64 f.result,.int .i64 f.slots,.slice (some ⟨gi,0,none⟩) f.ins.length ic] X2 wy/\Hf (Ce c f) X X2 ag i) (fun _ ti _=>f.ins.length - (intOf ti).toNat)
     case atStart=>exact⟨X,false,0,by omega,rfl,rfl,dx.out,eg.out⟩
     case round =>
      obtain⟨X2,ag,i,hi,rfl,rfl,bm,bg⟩:=hrel
      have ak:Hid (Hg w #[.slice (some ⟨gc,0,none⟩) c.length cc] #[.string f.name,.slice pa f.params.length pc,.int .i64 f.result,.int .i64 f.slots,.slice (some ⟨gi,0,none⟩) f.ins.length ic] X2 wr):=bm
      have av:Hid (Hf (Ce c f) X X2 ag i):=bg
      have eh:Hid (X2.length=f.ins.length):=bg.low.size
      clear bm bg
      by_cases hlt:i < f.ins.length
      ·have d9:(i:Int) < (f.ins.length:Int):=by omega
       obtain⟨st,sa,sl,sc,ka,kl,kc,g0,g1,g2,al⟩:∃ st sa sl sc ka kl kc,wr.cell? ⟨w.heap.size+2,i * 3,none⟩=some (.int .i64 st)/\wr.cell? ⟨w.heap.size+2,i * 3+1,none⟩=some (.slice sa sl sc)/\wr.cell? ⟨w.heap.size+2,i * 3+2,none⟩=some (.slice ka kl kc)/\Hid (Bg wr.heap.size wr (Ai st (.slice sa sl sc) (.slice ka kl kc)) (Ao X2 i)):=by
        have bi:i < X2.length:=by rw[eh.out];exact hlt
        have h:=ak.out.shs.each i bi
        rw[<- Hr bi]at h
        exact h
       by_cases hst:st=0
       ·subst hst
        have ef:Hid (Ao X2 i = .none):=al.out.state.1.1 rfl
        go_wp2_with fail
        go_roundw
        case rel=>exact⟨X2,ag,i+1,by omega,rfl,by go_num,ak.out,av.out.none ef.out⟩
        case measure=>simp[intOf];omega
       ·have cy:(st == 0)=false:=by simp[hst]
        have c4:Hid (Ao X2 i ≠ .none):=fun e=>hst (al.out.state.1.2 e)
        clear hst
        have D:Hid (∀ W,Below wr.heap.size wr W->W.cell? ⟨w.heap.size,0,none⟩=some (.slice (some ⟨gc,0,none⟩) c.length cc)/\(W.cell? ⟨w.heap.size+1,0,none⟩=some (.string f.name)/\W.cell? ⟨w.heap.size+1,1,none⟩=some (.slice pa f.params.length pc)/\W.cell? ⟨w.heap.size+1,2,none⟩=some (.int .i64 f.result)/\W.cell? ⟨w.heap.size+1,3,none⟩=some (.int .i64 f.slots)/\W.cell? ⟨w.heap.size+1,4,none⟩=some (.slice (some ⟨gi,0,none⟩) f.ins.length ic))/\W.cell? ⟨w.heap.size+2,i * 3,none⟩=some (.int .i64 st)/\W.cell? ⟨w.heap.size+2,i * 3+1,none⟩=some (.slice sa sl sc)/\W.cell? ⟨w.heap.size+2,i * 3+2,none⟩=some (.slice ka kl kc)):=fun W hW=>by
         have h:=ak.out.below hW
         have hl:=ak.out.shs.lt
         refine⟨by rw[Lib.cell_of_heap h.cod];rfl,⟨by rw[Lib.cell_of_heap h.fnb];rfl,by rw[Lib.cell_of_heap h.fnb];rfl,by rw[Lib.cell_of_heap h.fnb];rfl,by rw[Lib.cell_of_heap h.fnb];rfl,by rw[Lib.cell_of_heap h.fnb];rfl⟩,(hW.cell (p:=⟨w.heap.size+2,i * 3,none⟩) hl).trans g0,(hW.cell (p:=⟨w.heap.size+2,i * 3+1,none⟩) hl).trans g1,(hW.cell (p:=⟨w.heap.size+2,i * 3+2,none⟩) hl).trans g2⟩
        obtain⟨b,ct⟩:∃ b,Hid (Cm c f i (Ao X2 i)=b):=⟨_,(rfl:Cm c f i (Ao X2 i)=_)⟩
        have c1:Hid (∀ W,Below wr.heap.size wr W->Calls Tryz.prog 77 #[.agg #[.slice (some ⟨gc,0,none⟩) c.length cc],.agg #[.string f.name,.slice pa f.params.length pc,.int .i64 f.result,.int .i64 f.slots,.slice (some ⟨gi,0,none⟩) f.ins.length ic],.int .i64 (i:Int),.agg #[.int .i64 st,.slice sa sl sc,.slice ka kl kc]] W fun e w'=>(∃ v,e = .returned v/\Bg w'.heap.size w' v b)/\Below W.heap.size W w'):=fun W hW=>by
         have h:=ak.out.below hW
         have cw:=h.since
         have hb:=No c f i hlt (some ⟨gc,0,none⟩) (some ⟨gi,0,none⟩) cc ic (.slice pa f.params.length pc) (Ai st (.slice sa sl sc) (.slice ka kl kc)) (Ao X2 i) hcl (by omega) b1 b2 hpl (hok i hlt) (by rw[<- E5 f b6];exact av.out.low.lens i) (av.out.stk i) W (Ak.mono (HC.out.below cw) cw.size) (Ba.mono (HI.out.below cw) cw.size) ((al.out.below hW).mono hW.size)
         rw[ct.out]at hb
         exact hb
        have bu:Hid (∀ W,Below w.heap.size w W->W.cell? ⟨gi,i * 4,none⟩=some (.int .i64 f.ins[i].op)/\W.cell? ⟨gi,i * 4+1,none⟩=some (.int .i64 f.ins[i].a)/\W.cell? ⟨gi,i * 4+2,none⟩=some (.int .i64 f.ins[i].n)/\W.cell? ⟨gi,i * 4+3,none⟩=some (.string f.ins[i].text)):=fun W hW=>by
         obtain⟨a',cp,e,h⟩:=HI.out.below hW
         injection e with e1
         subst e1
         obtain⟨g,h1,_,h2⟩:=h i hlt
         injection h1 with h1;injection h1 with h1
         subst h1
         exact⟨h2 0 (by omega),h2 1 (by omega),h2 2 (by omega),h2 3 (by omega)⟩
        have bh:=Ku (hok i hlt)
        obtain⟨ix,dq⟩:∃ x,Hid (f.ins[i]=x):=⟨_,(rfl:f.ins[i]=_)⟩
        have c3:Hid ((Ce c f).goes i=A8 ix i):=by
         show A8 (f.ins.getD i H6) i=_
         rw[List.getD_eq_getElem?_getD,List.getElem?_eq_getElem hlt,<- dq.out];rfl
        rw[dq.out]at bu bh
        obtain⟨H,am⟩:∃ g,Hid (A8 ix i=g):=⟨_,(rfl:A8 ix i=_)⟩
        have er:H.length<=2:=by rw[<- am.out];exact Mn ix i
        have cu:Hid (Jo (Ce c f) X X2 ag i b H 0):=by
         have h:=Jo.start av.out hlt c4.out (by show Hp (Cm c f i (Ao X2 i));exact Um c f i _)
         rw[c3.out,am.out]at h
         have e:(Ce c f).left i (Ao X2 i)=b:=ct.out
         rw[e]at h
         exact h
        go_wp2_with fail
        obtain⟨l0,⟨l1,l2,l3,l4,l5⟩,l6,l7,l8⟩:=D.out wr (Below.refl _ _)
        go_region_held3 (fun W=>W.cell? ⟨w.heap.size,0,none⟩=some (.slice (some ⟨gc,0,none⟩) c.length cc)/\(W.cell? ⟨w.heap.size+1,0,none⟩=some (.string f.name)/\W.cell? ⟨w.heap.size+1,1,none⟩=some (.slice pa f.params.length pc)/\W.cell? ⟨w.heap.size+1,2,none⟩=some (.int .i64 f.result)/\W.cell? ⟨w.heap.size+1,3,none⟩=some (.int .i64 f.slots)/\W.cell? ⟨w.heap.size+1,4,none⟩=some (.slice (some ⟨gi,0,none⟩) f.ins.length ic))/\W.cell? ⟨w.heap.size+2,i * 3,none⟩=some (.int .i64 st)/\W.cell? ⟨w.heap.size+2,i * 3+1,none⟩=some (.slice sa sl sc)/\W.cell? ⟨w.heap.size+2,i * 3+2,none⟩=some (.slice ka kl kc)) (first|exact D.out _ (Below.refl _ _)|exact D.out _ (A5 _ _)|exact D.out _ q|exact D.out _ (Ac q _)|exact D.out _ (((q.setCell (p:=⟨wr.heap.size,0,none⟩) (Nat.le_refl _) _).setCell (p:=⟨wr.heap.size,1,none⟩) (Nat.le_refl _) _).setCell (p:=⟨wr.heap.size,2,none⟩) (Nat.le_refl _) _)|exact D.out _ (by repeat (first|exact Below.refl _ _|apply Below.drew|(refine Below.alloc ?_ (by simp) _)))) (first|(go_at_call 77;refine(c1.out _ (by repeat (first|exact Below.refl _ _|apply Below.drew|(refine Below.alloc ?_ (by simp) _)))).mono ?_;rintro e P ⟨⟨v,rfl,hv⟩,ai⟩;obtain⟨l,R,T,S,U,yn,Z,ck⟩:=hv.form;subst ck;have q:=(show Below wr.heap.size wr P from Below.trans (by repeat (first|exact Below.refl _ _|apply Below.drew|(refine Below.alloc ?_ (by simp) _))) (ai.mono (by simp)));try (have B:=(show P.heap[wr.heap.size]? = some (.cells #[.int .i64 0,.slice none 0 0,.slice none 0 0] 132) from(ai.block _ (by simp)).trans (Ag wr _));have cq:=(show P.cell? ⟨wr.heap.size,0,none⟩=some (.int .i64 0) from(by rw[Lib.cell_of_heap B];rfl));have cr:=(show P.cell? ⟨wr.heap.size,1,none⟩=some (.slice none 0 0) from(by rw[Lib.cell_of_heap B];rfl));have cs:=(show P.cell? ⟨wr.heap.size,2,none⟩=some (.slice none 0 0) from(by rw[Lib.cell_of_heap B];rfl));have cm:=(show P.frozen? ⟨wr.heap.size,0,none⟩=false from(by simp[World.frozen?,B]));have cn:=(show P.frozen? ⟨wr.heap.size,1,none⟩=false from(by simp[World.frozen?,B]));have co:=(show P.frozen? ⟨wr.heap.size,2,none⟩=false from(by simp[World.frozen?,B])))))
        ·obtain⟨Os,ax⟩:∃ O,O=P.heap.size:=⟨_,rfl⟩
         obtain⟨W2,aq⟩:∃ W,P.alloc (.cells #[.int .i64 l,.slice R T S,.slice U yn Z] 132)=W:=⟨_,rfl⟩
         have bl:Hid (W2.heap[Os]? = some (.cells #[.int .i64 l,.slice R T S,.slice U yn Z] 132)):=by rw[Hid,<- aq,ax];exact Ag _ _
         have ad:Hid (Hg w #[.slice (some ⟨gc,0,none⟩) c.length cc] #[.string f.name,.slice pa f.params.length pc,.int .i64 f.result,.int .i64 f.slots,.slice (some ⟨gi,0,none⟩) f.ins.length ic] X2 W2):=by rw[Hid,<- aq];exact(ak.out.below q).alloc _
         have bw:Hid (Bg W2.heap.size W2 (.agg #[.int .i64 l,.slice R T S,.slice U yn Z]) b):=by rw[Hid,<- aq];exact(hv.below (A5 P _)).mono (A5 P _).size
         have bv:Hid (w.heap.size+2 < Os):=by rw[Hid,ax];exact(ak.out.below q).shs.lt
         rw[aq,<- ax]
         clear aq ax hv ai q
         clear D c1 l0 l1 l2 l3 l4 l5 l6 l7 l8 g0 g1 g2 al ak av cy c4 ct
         have q4:W2.cell? ⟨w.heap.size+1,4,none⟩=some (.slice (some ⟨gi,0,none⟩) f.ins.length ic):=by rw[Lib.cell_of_heap ad.out.fnb];rfl
         obtain⟨v0,v1,v2,v3⟩:=bu.out W2 ad.out.since
         go_wp2_with (first|(go_at_call 110;refine(Q7 ix i (by omega) (fun h=>(bh h).1) W2).mono ?_;rintro e w8 ⟨gn,cg,rfl,bo,ar,cd⟩))
         obtain⟨Q,aj⟩:∃ O,Hid (O=W2.heap.size+1):=⟨_,(rfl:_=W2.heap.size+1)⟩
         have ae:gn=H.length:=by
          obtain⟨_,_,e,_⟩:=bo
          injection e with _ e _
          rw[e,am.out];simp[Co]
         subst ae
         have bt:Hid (∀ j (hj:j < H.length),Q < w8.heap.size/\w8.cell? ⟨Q,j,none⟩=some (.int .i64 ((H[j]:Nat):Int))):=fun j hj=>by
          obtain⟨_,_,e,hc⟩:=bo
          injection e with e1 _ _
          subst e1
          obtain⟨g,o,e2,h3,h4⟩:=hc j (by rw[am.out];simpa[Co]using hj)
          injection e2 with e2;injection e2 with e5 e6
          subst e5 e6
          rw[Nat.zero_add]at h4
          refine⟨by rw[aj.out];exact h3,by rw[aj.out,h4];simp[Co,am.out]⟩
         rw[<- aj.out]
         obtain⟨go,bd⟩:∃ go,Hid (Ga w #[.slice (some ⟨gc,0,none⟩) c.length cc] #[.string f.name,.slice pa f.params.length pc,.int .i64 f.result,.int .i64 f.slots,.slice (some ⟨gi,0,none⟩) f.ins.length ic] (Ce c f) X X2 ag i b H 0 Os Q (.cells #[.int .i64 l,.slice R T S,.slice U yn Z] 132) go (.agg #[.int .i64 l,.slice R T S,.slice U yn Z]) w8):=⟨_,ad.out.below ar,cu.out,(ar.block _ (Array.getElem?_eq_some_iff.1 bl.out).1).trans bl.out,Array.getElem?_eq_getElem (by rw[aj.out];exact cd),(bw.out.below ar).mono ar.size⟩
         have be:Hid (w.heap.size+2 < Q):=by rw[Hid,aj.out];have:=ad.out.shs.lt;omega
         have aa:Hid (∀ W:World,W.heap[Q]? = some go->∀ j (hj:j < H.length),W.cell? ⟨Q,j,none⟩=some (.int .i64 ((H[j]:Nat):Int))):=fun W hW j hj=>(World.cell?_of_block (a:=⟨Q,j,none⟩) (hW.trans bd.out.og.symm)).trans (bt.out j hj).2
         have bc:Hid ((Ce c f).goes i=H):=c3.out.trans am.out
         clear bo ar cd bt aj ad bl bw cu v0 v1 v2 v3 q4 bu bh am
         go_loopw [8,12] (fun ta tk wx => ∃ (L:List Ap) (G:Bool) (k:Nat),k<=H.length/\ta = .bool G/\tk = .int .i64 (k:Int)/\Ga w #[.slice (some ⟨gc,0,none⟩) c.length cc] #[.string f.name,.slice pa f.params.length pc,.int .i64 f.result,.int .i64 f.slots,.slice (some ⟨gi,0,none⟩) f.ins.length ic] (Ce c f) X L G i b H k Os Q (.cells #[.int .i64 l,.slice R T S,.slice U yn Z] 132) go (.agg #[.int .i64 l,.slice R T S,.slice U yn Z]) wx) (fun _ tk _=>H.length - (intOf tk).toNat)
         case atStart=>exact⟨X2,ag,0,by omega,rfl,rfl,bd.out⟩
         case round =>
          obtain⟨L,G,k,hk,rfl,rfl,bz⟩:=hrel
          have C:Hid (Ga w #[.slice (some ⟨gc,0,none⟩) c.length cc] #[.string f.name,.slice pa f.params.length pc,.int .i64 f.result,.int .i64 f.slots,.slice (some ⟨gi,0,none⟩) f.ins.length ic] (Ce c f) X L G i b H k Os Q (.cells #[.int .i64 l,.slice R T S,.slice U yn Z] 132) go (.agg #[.int .i64 l,.slice R T S,.slice U yn Z]) wr):=bz
          clear bz
          by_cases hkl:k < H.length
          ·have ci:(k:Int) < (H.length:Int):=by omega
           have d0:=aa.out wr C.out.og k hkl
           obtain⟨d,E⟩:∃ g,Hid (H[k]=g):=⟨_,(rfl:H[k]=_)⟩
           rw[E.out]at d0
           by_cases ae:d < f.ins.length
           ·have cf:(d:Int) < (f.ins.length:Int):=by omega
            have ao:Hid (L.length=f.ins.length):=C.out.rk.rd.low.size
            obtain⟨bb,a8,ba,a9,a5,a7,a6,g0,g1,g2,al⟩:∃ st sa sl sc ka kl kc,wr.cell? ⟨w.heap.size+2,d * 3,none⟩=some (.int .i64 st)/\wr.cell? ⟨w.heap.size+2,d * 3+1,none⟩=some (.slice sa sl sc)/\wr.cell? ⟨w.heap.size+2,d * 3+2,none⟩=some (.slice ka kl kc)/\Hid (Bg wr.heap.size wr (Ai st (.slice sa sl sc) (.slice ka kl kc)) (Ao L d)):=by
             have bi:d < L.length:=by rw[ao.out];exact ae
             have h:=C.out.sl.shs.each d bi
             rw[<- Hr bi]at h
             exact h
            have D:Hid (∀ W,Below wr.heap.size wr W->W.cell? ⟨Q,k,none⟩=some (.int .i64 (d:Int))/\(W.cell? ⟨w.heap.size+2,d * 3,none⟩=some (.int .i64 bb)/\W.cell? ⟨w.heap.size+2,d * 3+1,none⟩=some (.slice a8 ba a9)/\W.cell? ⟨w.heap.size+2,d * 3+2,none⟩=some (.slice a5 a7 a6))/\W.cell? ⟨Os,0,none⟩=some (.int .i64 l)/\W.cell? ⟨Os,1,none⟩=some (.slice R T S)/\W.cell? ⟨Os,2,none⟩=some (.slice U yn Z)):=fun W hW=>by
             have h:=C.out.below hW
             have hl:=C.out.sl.shs.lt
             refine⟨by rw[<- E.out];exact aa.out W h.og k hkl,⟨(hW.cell (p:=⟨w.heap.size+2,d * 3,none⟩) hl).trans g0,(hW.cell (p:=⟨w.heap.size+2,d * 3+1,none⟩) hl).trans g1,(hW.cell (p:=⟨w.heap.size+2,d * 3+2,none⟩) hl).trans g2⟩,by rw[Lib.cell_of_heap h.os];rfl,by rw[Lib.cell_of_heap h.os];rfl,by rw[Lib.cell_of_heap h.os];rfl⟩
            obtain⟨jn,af⟩:∃ j,Hid (Bd (Ao L d) b=j):=⟨_,(rfl:Bd (Ao L d) b=_)⟩
            obtain⟨ch,bk⟩:∃ c,Hid (decide (Bd (Ao L d) b≠Ao L d)=c):=⟨_,rfl⟩
            have HJ:Hid (∀ W,Below wr.heap.size wr W->Calls Tryz.prog 111 #[.agg #[.int .i64 bb,.slice a8 ba a9,.slice a5 a7 a6],.agg #[.int .i64 l,.slice R T S,.slice U yn Z]] W fun e w'=>(∃ v,e = .returned (.tuple #[v,.bool ch])/\Bg w'.heap.size w' v jn)/\Below W.heap.size W w'):=fun W hW=>by
             have h:=C.out.below hW
             have hj:=Q8 (Ce c f).m (by show (B8 f).length<=200;rw[E5 f b6];omega) (Ao L d) b (Ai bb (.slice a8 ba a9) (.slice a5 a7 a6)) (.agg #[.int .i64 l,.slice R T S,.slice U yn Z]) (h.rk.rd.low.lens d) h.rk.blen (h.rk.rd.stk d) h.rk.bstk W ((al.out.below hW).mono hW.size) h.sb
             rw[bk.out,af.out]at hj
             exact hj
            go_wp2_with fail
            obtain⟨l0,⟨l1,l2,l3⟩,l4,l5,l6⟩:=D.out wr (Below.refl _ _)
            go_region_held3 (fun W=>W.cell? ⟨Q,k,none⟩=some (.int .i64 (d:Int))/\(W.cell? ⟨w.heap.size+2,d * 3,none⟩=some (.int .i64 bb)/\W.cell? ⟨w.heap.size+2,d * 3+1,none⟩=some (.slice a8 ba a9)/\W.cell? ⟨w.heap.size+2,d * 3+2,none⟩=some (.slice a5 a7 a6))/\W.cell? ⟨Os,0,none⟩=some (.int .i64 l)/\W.cell? ⟨Os,1,none⟩=some (.slice R T S)/\W.cell? ⟨Os,2,none⟩=some (.slice U yn Z)) (first|exact D.out _ (Below.refl _ _)|exact D.out _ (A5 _ _)|exact D.out _ q|exact D.out _ (Ac q _)|exact D.out _ (((q.setCell (p:=⟨wr.heap.size,0,none⟩) (Nat.le_refl _) _).setCell (p:=⟨wr.heap.size,1,none⟩) (Nat.le_refl _) _).setCell (p:=⟨wr.heap.size,2,none⟩) (Nat.le_refl _) _)|exact D.out _ (by repeat (first|exact Below.refl _ _|apply Below.drew|(refine Below.alloc ?_ (by simp) _)))) (first|(go_at_call 111;refine(HJ.out _ (by repeat (first|exact Below.refl _ _|apply Below.drew|(refine Below.alloc ?_ (by simp) _)))).mono ?_;rintro e P ⟨⟨v,rfl,hv⟩,ai⟩;obtain⟨A,r,t,s,u,z,y,ck⟩:=hv.form;subst ck;have q:=(show Below wr.heap.size wr P from Below.trans (by repeat (first|exact Below.refl _ _|apply Below.drew|(refine Below.alloc ?_ (by simp) _))) (ai.mono (by simp)));try (have B:=(show P.heap[wr.heap.size]? = some (.cells #[.int .i64 0,.slice none 0 0,.slice none 0 0] 132) from(ai.block _ (by simp)).trans (Ag wr _));have cq:=(show P.cell? ⟨wr.heap.size,0,none⟩=some (.int .i64 0) from(by rw[Lib.cell_of_heap B];rfl));have cr:=(show P.cell? ⟨wr.heap.size,1,none⟩=some (.slice none 0 0) from(by rw[Lib.cell_of_heap B];rfl));have cs:=(show P.cell? ⟨wr.heap.size,2,none⟩=some (.slice none 0 0) from(by rw[Lib.cell_of_heap B];rfl));have cm:=(show P.frozen? ⟨wr.heap.size,0,none⟩=false from(by simp[World.frozen?,B]));have cn:=(show P.frozen? ⟨wr.heap.size,1,none⟩=false from(by simp[World.frozen?,B]));have co:=(show P.frozen? ⟨wr.heap.size,2,none⟩=false from(by simp[World.frozen?,B])))))
            ·obtain⟨F,ac⟩:∃ O,O=P.heap.size:=⟨_,rfl⟩
             obtain⟨W4,M⟩:∃ W,P.alloc (.cells #[.int .i64 A,.slice r t s,.slice u z y] 132)=W:=⟨_,rfl⟩
             have ab:Hid (W4.heap[F]? = some (.cells #[.int .i64 A,.slice r t s,.slice u z y] 132)):=by rw[Hid,<- M,ac];exact Ag _ _
             have m:Hid (Ga w #[.slice (some ⟨gc,0,none⟩) c.length cc] #[.string f.name,.slice pa f.params.length pc,.int .i64 f.result,.int .i64 f.slots,.slice (some ⟨gi,0,none⟩) f.ins.length ic] (Ce c f) X L G i b H k Os Q (.cells #[.int .i64 l,.slice R T S,.slice U yn Z] 132) go (.agg #[.int .i64 l,.slice R T S,.slice U yn Z]) W4):=by rw[Hid,<- M];exact(C.out.below q).below (A5 P _)
             have an:Hid (Bg W4.heap.size W4 (Ai A (.slice r t s) (.slice u z y)) jn):=by rw[Hid,<- M];exact(hv.below (A5 P _)).mono (A5 P _).size
             have K:Hid (F≠w.heap.size+2):=by rw[Hid,ac];have:=(C.out.below q).sl.shs.lt;omega
             rw[M,<- ac]
             clear M ac hv ai q
             clear D HJ l0 l1 l2 l3 l4 l5 l6 g0 g1 g2 al d0
             obtain⟨W5,ah⟩:∃ W,(((W4.setCell ⟨w.heap.size+2,d * 3,none⟩ (.int .i64 A)).setCell ⟨w.heap.size+2,d * 3+1,none⟩ (.slice r t s)).setCell ⟨w.heap.size+2,d * 3+2,none⟩ (.slice u z y))=W:=⟨_,rfl⟩
             have I:Hid (Ga w #[.slice (some ⟨gc,0,none⟩) c.length cc] #[.string f.name,.slice pa f.params.length pc,.int .i64 f.result,.int .i64 f.slots,.slice (some ⟨gi,0,none⟩) f.ins.length ic] (Ce c f) X (L.set d jn) (G || ch) i b H (k+1) Os Q (.cells #[.int .i64 l,.slice R T S,.slice U yn Z] 132) go (.agg #[.int .i64 l,.slice R T S,.slice U yn Z]) W5):=by
              have h:=m.out.step hkl (by show H[k] < f.ins.length;rw[E.out];exact ae) bv.out be.out (by rw[E.out,af.out];exact an.out)
              simp only[E.out,af.out]at h
              rw[show decide (jn≠Ao L d)=ch from(by rw[<- af.out];exact bk.out)]at h
              unfold Ek at h
              rw[ah]at h
              exact h
             have J:Hid (W5.heap[F]? = some (.cells #[.int .i64 A,.slice r t s,.slice u z y] 132)):=by
              rw[Hid,<- ah,Below.heap_setCell _ _ _ _ (by exact K.out),Below.heap_setCell _ _ _ _ (by exact K.out),Below.heap_setCell _ _ _ _ (by exact K.out)]
              exact ab.out
             have m0:W4.cell? ⟨Q,k,none⟩=some (.int .i64 (d:Int)):=by rw[<- E.out];exact aa.out W4 m.out.og k hkl
             have m1:W4.cell? ⟨F,0,none⟩=some (.int .i64 A):=by rw[Lib.cell_of_heap ab.out];rfl
             have m2:W4.cell? ⟨F,1,none⟩=some (.slice r t s):=by rw[Lib.cell_of_heap ab.out];rfl
             have m3:W4.cell? ⟨F,2,none⟩=some (.slice u z y):=by rw[Lib.cell_of_heap ab.out];rfl
             have n0:W5.cell? ⟨Q,k,none⟩=some (.int .i64 (d:Int)):=by rw[<- E.out];exact aa.out W5 I.out.og k hkl
             have n1:W5.cell? ⟨F,0,none⟩=some (.int .i64 A):=by rw[Lib.cell_of_heap J.out];rfl
             have n2:W5.cell? ⟨F,1,none⟩=some (.slice r t s):=by rw[Lib.cell_of_heap J.out];rfl
             have n3:W5.cell? ⟨F,2,none⟩=some (.slice u z y):=by rw[Lib.cell_of_heap J.out];rfl
             obtain⟨dn,dk,dm,dl,dh,dj,di,g0,g1,g2,-⟩:=m.out.sl.shs.each d (by rw[ao.out];exact ae)
             have y0:=m.out.sl.shs.froz (d * 3);have y1:=m.out.sl.shs.froz (d * 3+1);have y2:=m.out.sl.shs.froz (d * 3+2)
             go_wp2_with fail
             go_region_held3 (fun W=>W.cell? ⟨Q,k,none⟩=some (.int .i64 (d:Int))/\W.cell? ⟨F,0,none⟩=some (.int .i64 A)/\W.cell? ⟨F,1,none⟩=some (.slice r t s)/\W.cell? ⟨F,2,none⟩=some (.slice u z y)) (first|exact⟨m0,m1,m2,m3⟩|exact⟨n0,n1,n2,n3⟩|(rw[ah];exact⟨n0,n1,n2,n3⟩)) (fail)
             cases G with
             | true =>
              go_wp2_with fail
              go_roundw
              case rel=>exact⟨L.set d jn,true,k+1,by omega,rfl,by go_num,I.out.below (Below.refl _ W5).drew⟩
              case measure=>simp[intOf];omega
             | false =>
              go_wp2_with fail
              go_roundw
              case rel=>exact⟨L.set d jn,ch,k+1,by omega,rfl,by go_num,I.out.below (Below.refl _ W5).drew⟩
              case measure=>simp[intOf];omega
            ·obtain⟨F,ac⟩:∃ O,O=wr.heap.size:=⟨_,rfl⟩
             obtain⟨W4,M⟩:∃ W,(((P.setCell ⟨wr.heap.size,0,none⟩ (.int .i64 A)).setCell ⟨wr.heap.size,1,none⟩ (.slice r t s)).setCell ⟨wr.heap.size,2,none⟩ (.slice u z y))=W:=⟨_,rfl⟩
             have h1:=heap_setCell_same P wr.heap.size 0 _ _ (.int .i64 A) B
             have h2:=heap_setCell_same _ wr.heap.size 1 _ _ (.slice r t s) h1
             have h3:=heap_setCell_same _ wr.heap.size 2 _ _ (.slice u z y) h2
             have ab:Hid (W4.heap[F]? = some (.cells #[.int .i64 A,.slice r t s,.slice u z y] 132)):=by rw[Hid,<- M,ac];exact h3
             have N:w.heap.size+2 < wr.heap.size:=C.out.sl.shs.lt
             have a0:wr.heap.size≠Os:=fun e=>by have:=(Array.getElem?_eq_some_iff.1 C.out.os).1;omega
             have az:wr.heap.size≠Q:=fun e=>by have:=(Array.getElem?_eq_some_iff.1 C.out.og).1;omega
             have m:Hid (Ga w #[.slice (some ⟨gc,0,none⟩) c.length cc] #[.string f.name,.slice pa f.params.length pc,.int .i64 f.result,.int .i64 f.slots,.slice (some ⟨gi,0,none⟩) f.ins.length ic] (Ce c f) X L G i b H k Os Q (.cells #[.int .i64 l,.slice R T S,.slice U yn Z] 132) go (.agg #[.int .i64 l,.slice R T S,.slice U yn Z]) W4):=by
              rw[Hid,<- M]
              exact(((C.out.below q).set wr.heap.size 0 _ N a0 az ⟨_,B⟩).set wr.heap.size 1 _ N a0 az ⟨_,h1⟩).set wr.heap.size 2 _ N a0 az ⟨_,h2⟩
             have an:Hid (Bg W4.heap.size W4 (Ai A (.slice r t s) (.slice u z y)) jn):=by
              rw[Hid,<- M]
              refine(show Bg _ _ (Ai A (.slice r t s) (.slice u z y)) _ from hv).keep (by simp) (fun st'' sv'' kv'' e k hk => ?_)
              obtain⟨_,rfl,rfl⟩:=D2 e
              have au:k≠wr.heap.size:=Bg.off B (show Bg _ _ (Ai A (.slice r t s) (.slice u z y)) _ from hv) k hk
              rw[Below.heap_setCell _ _ _ _ (by exact au),Below.heap_setCell _ _ _ _ (by exact au),Below.heap_setCell _ _ _ _ (by exact au)]
             have K:Hid (F≠w.heap.size+2):=by rw[Hid,ac];omega
             rw[M,<- ac]
             clear M ac hv ai q h1 h2 h3 B cq cr cs cm cn co N a0 az
             clear D HJ l0 l1 l2 l3 l4 l5 l6 g0 g1 g2 al d0
             obtain⟨W5,ah⟩:∃ W,(((W4.setCell ⟨w.heap.size+2,d * 3,none⟩ (.int .i64 A)).setCell ⟨w.heap.size+2,d * 3+1,none⟩ (.slice r t s)).setCell ⟨w.heap.size+2,d * 3+2,none⟩ (.slice u z y))=W:=⟨_,rfl⟩
             have I:Hid (Ga w #[.slice (some ⟨gc,0,none⟩) c.length cc] #[.string f.name,.slice pa f.params.length pc,.int .i64 f.result,.int .i64 f.slots,.slice (some ⟨gi,0,none⟩) f.ins.length ic] (Ce c f) X (L.set d jn) (G || ch) i b H (k+1) Os Q (.cells #[.int .i64 l,.slice R T S,.slice U yn Z] 132) go (.agg #[.int .i64 l,.slice R T S,.slice U yn Z]) W5):=by
              have h:=m.out.step hkl (by show H[k] < f.ins.length;rw[E.out];exact ae) bv.out be.out (by rw[E.out,af.out];exact an.out)
              simp only[E.out,af.out]at h
              rw[show decide (jn≠Ao L d)=ch from(by rw[<- af.out];exact bk.out)]at h
              unfold Ek at h
              rw[ah]at h
              exact h
             have J:Hid (W5.heap[F]? = some (.cells #[.int .i64 A,.slice r t s,.slice u z y] 132)):=by
              rw[Hid,<- ah,Below.heap_setCell _ _ _ _ (by exact K.out),Below.heap_setCell _ _ _ _ (by exact K.out),Below.heap_setCell _ _ _ _ (by exact K.out)]
              exact ab.out
             have m0:W4.cell? ⟨Q,k,none⟩=some (.int .i64 (d:Int)):=by rw[<- E.out];exact aa.out W4 m.out.og k hkl
             have m1:W4.cell? ⟨F,0,none⟩=some (.int .i64 A):=by rw[Lib.cell_of_heap ab.out];rfl
             have m2:W4.cell? ⟨F,1,none⟩=some (.slice r t s):=by rw[Lib.cell_of_heap ab.out];rfl
             have m3:W4.cell? ⟨F,2,none⟩=some (.slice u z y):=by rw[Lib.cell_of_heap ab.out];rfl
             have n0:W5.cell? ⟨Q,k,none⟩=some (.int .i64 (d:Int)):=by rw[<- E.out];exact aa.out W5 I.out.og k hkl
             have n1:W5.cell? ⟨F,0,none⟩=some (.int .i64 A):=by rw[Lib.cell_of_heap J.out];rfl
             have n2:W5.cell? ⟨F,1,none⟩=some (.slice r t s):=by rw[Lib.cell_of_heap J.out];rfl
             have n3:W5.cell? ⟨F,2,none⟩=some (.slice u z y):=by rw[Lib.cell_of_heap J.out];rfl
             obtain⟨dn,dk,dm,dl,dh,dj,di,g0,g1,g2,-⟩:=m.out.sl.shs.each d (by rw[ao.out];exact ae)
             have y0:=m.out.sl.shs.froz (d * 3);have y1:=m.out.sl.shs.froz (d * 3+1);have y2:=m.out.sl.shs.froz (d * 3+2)
             go_wp2_with fail
             go_region_held3 (fun W=>W.cell? ⟨Q,k,none⟩=some (.int .i64 (d:Int))/\W.cell? ⟨F,0,none⟩=some (.int .i64 A)/\W.cell? ⟨F,1,none⟩=some (.slice r t s)/\W.cell? ⟨F,2,none⟩=some (.slice u z y)) (first|exact⟨m0,m1,m2,m3⟩|exact⟨n0,n1,n2,n3⟩|(rw[ah];exact⟨n0,n1,n2,n3⟩)) (fail)
             cases G with
             | true =>
              go_wp2_with fail
              go_roundw
              case rel=>exact⟨L.set d jn,true,k+1,by omega,rfl,by go_num,I.out.below (Below.refl _ W5).drew⟩
              case measure=>simp[intOf];omega
             | false =>
              go_wp2_with fail
              go_roundw
              case rel=>exact⟨L.set d jn,ch,k+1,by omega,rfl,by go_num,I.out.below (Below.refl _ W5).drew⟩
              case measure=>simp[intOf];omega
           ·have cf:¬ (d:Int) < (f.ins.length:Int):=by omega
            go_wp2_with fail
            go_roundw
            case rel=>exact⟨L,G,k+1,by omega,rfl,by go_num,C.out.skip hkl (by show ¬ H[k] < f.ins.length;rw[E.out];exact ae)⟩
            case measure=>simp[intOf];omega
          ·have ci:¬ (k:Int) < (H.length:Int):=by omega
           go_wp2_with fail
           go_roundw
           case rel=>exact⟨L,G,i+1,by omega,rfl,by go_num,C.out.sl,Jo.done (k:=k) (by have h:=C.out.rk;rw[<- bc.out]at h;exact h) (by rw[bc.out];omega)⟩
           case measure=>simp[intOf];omega
        ·obtain⟨Os,ax⟩:∃ O,O=wr.heap.size:=⟨_,rfl⟩
         obtain⟨W2,aq⟩:∃ W,(((P.setCell ⟨wr.heap.size,0,none⟩ (.int .i64 l)).setCell ⟨wr.heap.size,1,none⟩ (.slice R T S)).setCell ⟨wr.heap.size,2,none⟩ (.slice U yn Z))=W:=⟨_,rfl⟩
         have h1:=heap_setCell_same P wr.heap.size 0 _ _ (.int .i64 l) B
         have h2:=heap_setCell_same _ wr.heap.size 1 _ _ (.slice R T S) h1
         have h3:=heap_setCell_same _ wr.heap.size 2 _ _ (.slice U yn Z) h2
         have bl:Hid (W2.heap[Os]? = some (.cells #[.int .i64 l,.slice R T S,.slice U yn Z] 132)):=by rw[Hid,<- aq,ax];exact h3
         have N:w.heap.size+2 < wr.heap.size:=ak.out.shs.lt
         have ad:Hid (Hg w #[.slice (some ⟨gc,0,none⟩) c.length cc] #[.string f.name,.slice pa f.params.length pc,.int .i64 f.result,.int .i64 f.slots,.slice (some ⟨gi,0,none⟩) f.ins.length ic] X2 W2):=by
          rw[Hid,<- aq]
          exact(((ak.out.below q).set wr.heap.size 0 _ N ⟨_,B⟩).set wr.heap.size 1 _ N ⟨_,h1⟩).set wr.heap.size 2 _ N ⟨_,h2⟩
         have bw:Hid (Bg W2.heap.size W2 (.agg #[.int .i64 l,.slice R T S,.slice U yn Z]) b):=by
          rw[Hid,<- aq]
          refine hv.keep (by simp) (fun st'' sv'' kv'' e k hk => ?_)
          obtain⟨_,rfl,rfl⟩:=D2 (show Ai l (.slice R T S) (.slice U yn Z)=_ from e)
          have au:k≠wr.heap.size:=Bg.off B (show Bg _ _ (Ai l (.slice R T S) (.slice U yn Z)) _ from hv) k hk
          rw[Below.heap_setCell _ _ _ _ (by exact au),Below.heap_setCell _ _ _ _ (by exact au),Below.heap_setCell _ _ _ _ (by exact au)]
         have bv:Hid (w.heap.size+2 < Os):=by rw[Hid,ax];exact N
         rw[aq,<- ax]
         clear aq ax hv ai q h1 h2 h3 B cq cr cs cm cn co N
         clear D c1 l0 l1 l2 l3 l4 l5 l6 l7 l8 g0 g1 g2 al ak av cy c4 ct
         have q4:W2.cell? ⟨w.heap.size+1,4,none⟩=some (.slice (some ⟨gi,0,none⟩) f.ins.length ic):=by rw[Lib.cell_of_heap ad.out.fnb];rfl
         obtain⟨v0,v1,v2,v3⟩:=bu.out W2 ad.out.since
         go_wp2_with (first|(go_at_call 110;refine(Q7 ix i (by omega) (fun h=>(bh h).1) W2).mono ?_;rintro e w8 ⟨gn,cg,rfl,bo,ar,cd⟩))
         obtain⟨Q,aj⟩:∃ O,Hid (O=W2.heap.size+1):=⟨_,(rfl:_=W2.heap.size+1)⟩
         have ae:gn=H.length:=by
          obtain⟨_,_,e,_⟩:=bo
          injection e with _ e _
          rw[e,am.out];simp[Co]
         subst ae
         have bt:Hid (∀ j (hj:j < H.length),Q < w8.heap.size/\w8.cell? ⟨Q,j,none⟩=some (.int .i64 ((H[j]:Nat):Int))):=fun j hj=>by
          obtain⟨_,_,e,hc⟩:=bo
          injection e with e1 _ _
          subst e1
          obtain⟨g,o,e2,h3,h4⟩:=hc j (by rw[am.out];simpa[Co]using hj)
          injection e2 with e2;injection e2 with e5 e6
          subst e5 e6
          rw[Nat.zero_add]at h4
          refine⟨by rw[aj.out];exact h3,by rw[aj.out,h4];simp[Co,am.out]⟩
         rw[<- aj.out]
         obtain⟨go,bd⟩:∃ go,Hid (Ga w #[.slice (some ⟨gc,0,none⟩) c.length cc] #[.string f.name,.slice pa f.params.length pc,.int .i64 f.result,.int .i64 f.slots,.slice (some ⟨gi,0,none⟩) f.ins.length ic] (Ce c f) X X2 ag i b H 0 Os Q (.cells #[.int .i64 l,.slice R T S,.slice U yn Z] 132) go (.agg #[.int .i64 l,.slice R T S,.slice U yn Z]) w8):=⟨_,ad.out.below ar,cu.out,(ar.block _ (Array.getElem?_eq_some_iff.1 bl.out).1).trans bl.out,Array.getElem?_eq_getElem (by rw[aj.out];exact cd),(bw.out.below ar).mono ar.size⟩
         have be:Hid (w.heap.size+2 < Q):=by rw[Hid,aj.out];have:=ad.out.shs.lt;omega
         have aa:Hid (∀ W:World,W.heap[Q]? = some go->∀ j (hj:j < H.length),W.cell? ⟨Q,j,none⟩=some (.int .i64 ((H[j]:Nat):Int))):=fun W hW j hj=>(World.cell?_of_block (a:=⟨Q,j,none⟩) (hW.trans bd.out.og.symm)).trans (bt.out j hj).2
         have bc:Hid ((Ce c f).goes i=H):=c3.out.trans am.out
         clear bo ar cd bt aj ad bl bw cu v0 v1 v2 v3 q4 bu bh am
         go_loopw [8,12] (fun ta tk wx => ∃ (L:List Ap) (G:Bool) (k:Nat),k<=H.length/\ta = .bool G/\tk = .int .i64 (k:Int)/\Ga w #[.slice (some ⟨gc,0,none⟩) c.length cc] #[.string f.name,.slice pa f.params.length pc,.int .i64 f.result,.int .i64 f.slots,.slice (some ⟨gi,0,none⟩) f.ins.length ic] (Ce c f) X L G i b H k Os Q (.cells #[.int .i64 l,.slice R T S,.slice U yn Z] 132) go (.agg #[.int .i64 l,.slice R T S,.slice U yn Z]) wx) (fun _ tk _=>H.length - (intOf tk).toNat)
         case atStart=>exact⟨X2,ag,0,by omega,rfl,rfl,bd.out⟩
         case round =>
          obtain⟨L,G,k,hk,rfl,rfl,bz⟩:=hrel
          have C:Hid (Ga w #[.slice (some ⟨gc,0,none⟩) c.length cc] #[.string f.name,.slice pa f.params.length pc,.int .i64 f.result,.int .i64 f.slots,.slice (some ⟨gi,0,none⟩) f.ins.length ic] (Ce c f) X L G i b H k Os Q (.cells #[.int .i64 l,.slice R T S,.slice U yn Z] 132) go (.agg #[.int .i64 l,.slice R T S,.slice U yn Z]) wr):=bz
          clear bz
          by_cases hkl:k < H.length
          ·have ci:(k:Int) < (H.length:Int):=by omega
           have d0:=aa.out wr C.out.og k hkl
           obtain⟨d,E⟩:∃ g,Hid (H[k]=g):=⟨_,(rfl:H[k]=_)⟩
           rw[E.out]at d0
           by_cases ae:d < f.ins.length
           ·have cf:(d:Int) < (f.ins.length:Int):=by omega
            have ao:Hid (L.length=f.ins.length):=C.out.rk.rd.low.size
            obtain⟨bb,a8,ba,a9,a5,a7,a6,g0,g1,g2,al⟩:∃ st sa sl sc ka kl kc,wr.cell? ⟨w.heap.size+2,d * 3,none⟩=some (.int .i64 st)/\wr.cell? ⟨w.heap.size+2,d * 3+1,none⟩=some (.slice sa sl sc)/\wr.cell? ⟨w.heap.size+2,d * 3+2,none⟩=some (.slice ka kl kc)/\Hid (Bg wr.heap.size wr (Ai st (.slice sa sl sc) (.slice ka kl kc)) (Ao L d)):=by
             have bi:d < L.length:=by rw[ao.out];exact ae
             have h:=C.out.sl.shs.each d bi
             rw[<- Hr bi]at h
             exact h
            have D:Hid (∀ W,Below wr.heap.size wr W->W.cell? ⟨Q,k,none⟩=some (.int .i64 (d:Int))/\(W.cell? ⟨w.heap.size+2,d * 3,none⟩=some (.int .i64 bb)/\W.cell? ⟨w.heap.size+2,d * 3+1,none⟩=some (.slice a8 ba a9)/\W.cell? ⟨w.heap.size+2,d * 3+2,none⟩=some (.slice a5 a7 a6))/\W.cell? ⟨Os,0,none⟩=some (.int .i64 l)/\W.cell? ⟨Os,1,none⟩=some (.slice R T S)/\W.cell? ⟨Os,2,none⟩=some (.slice U yn Z)):=fun W hW=>by
             have h:=C.out.below hW
             have hl:=C.out.sl.shs.lt
             refine⟨by rw[<- E.out];exact aa.out W h.og k hkl,⟨(hW.cell (p:=⟨w.heap.size+2,d * 3,none⟩) hl).trans g0,(hW.cell (p:=⟨w.heap.size+2,d * 3+1,none⟩) hl).trans g1,(hW.cell (p:=⟨w.heap.size+2,d * 3+2,none⟩) hl).trans g2⟩,by rw[Lib.cell_of_heap h.os];rfl,by rw[Lib.cell_of_heap h.os];rfl,by rw[Lib.cell_of_heap h.os];rfl⟩
            obtain⟨jn,af⟩:∃ j,Hid (Bd (Ao L d) b=j):=⟨_,(rfl:Bd (Ao L d) b=_)⟩
            obtain⟨ch,bk⟩:∃ c,Hid (decide (Bd (Ao L d) b≠Ao L d)=c):=⟨_,rfl⟩
            have HJ:Hid (∀ W,Below wr.heap.size wr W->Calls Tryz.prog 111 #[.agg #[.int .i64 bb,.slice a8 ba a9,.slice a5 a7 a6],.agg #[.int .i64 l,.slice R T S,.slice U yn Z]] W fun e w'=>(∃ v,e = .returned (.tuple #[v,.bool ch])/\Bg w'.heap.size w' v jn)/\Below W.heap.size W w'):=fun W hW=>by
             have h:=C.out.below hW
             have hj:=Q8 (Ce c f).m (by show (B8 f).length<=200;rw[E5 f b6];omega) (Ao L d) b (Ai bb (.slice a8 ba a9) (.slice a5 a7 a6)) (.agg #[.int .i64 l,.slice R T S,.slice U yn Z]) (h.rk.rd.low.lens d) h.rk.blen (h.rk.rd.stk d) h.rk.bstk W ((al.out.below hW).mono hW.size) h.sb
             rw[bk.out,af.out]at hj
             exact hj
            go_wp2_with fail
            obtain⟨l0,⟨l1,l2,l3⟩,l4,l5,l6⟩:=D.out wr (Below.refl _ _)
            go_region_held3 (fun W=>W.cell? ⟨Q,k,none⟩=some (.int .i64 (d:Int))/\(W.cell? ⟨w.heap.size+2,d * 3,none⟩=some (.int .i64 bb)/\W.cell? ⟨w.heap.size+2,d * 3+1,none⟩=some (.slice a8 ba a9)/\W.cell? ⟨w.heap.size+2,d * 3+2,none⟩=some (.slice a5 a7 a6))/\W.cell? ⟨Os,0,none⟩=some (.int .i64 l)/\W.cell? ⟨Os,1,none⟩=some (.slice R T S)/\W.cell? ⟨Os,2,none⟩=some (.slice U yn Z)) (first|exact D.out _ (Below.refl _ _)|exact D.out _ (A5 _ _)|exact D.out _ q|exact D.out _ (Ac q _)|exact D.out _ (((q.setCell (p:=⟨wr.heap.size,0,none⟩) (Nat.le_refl _) _).setCell (p:=⟨wr.heap.size,1,none⟩) (Nat.le_refl _) _).setCell (p:=⟨wr.heap.size,2,none⟩) (Nat.le_refl _) _)|exact D.out _ (by repeat (first|exact Below.refl _ _|apply Below.drew|(refine Below.alloc ?_ (by simp) _)))) (first|(go_at_call 111;refine(HJ.out _ (by repeat (first|exact Below.refl _ _|apply Below.drew|(refine Below.alloc ?_ (by simp) _)))).mono ?_;rintro e P ⟨⟨v,rfl,hv⟩,ai⟩;obtain⟨A,r,t,s,u,z,y,ck⟩:=hv.form;subst ck;have q:=(show Below wr.heap.size wr P from Below.trans (by repeat (first|exact Below.refl _ _|apply Below.drew|(refine Below.alloc ?_ (by simp) _))) (ai.mono (by simp)));try (have B:=(show P.heap[wr.heap.size]? = some (.cells #[.int .i64 0,.slice none 0 0,.slice none 0 0] 132) from(ai.block _ (by simp)).trans (Ag wr _));have cq:=(show P.cell? ⟨wr.heap.size,0,none⟩=some (.int .i64 0) from(by rw[Lib.cell_of_heap B];rfl));have cr:=(show P.cell? ⟨wr.heap.size,1,none⟩=some (.slice none 0 0) from(by rw[Lib.cell_of_heap B];rfl));have cs:=(show P.cell? ⟨wr.heap.size,2,none⟩=some (.slice none 0 0) from(by rw[Lib.cell_of_heap B];rfl));have cm:=(show P.frozen? ⟨wr.heap.size,0,none⟩=false from(by simp[World.frozen?,B]));have cn:=(show P.frozen? ⟨wr.heap.size,1,none⟩=false from(by simp[World.frozen?,B]));have co:=(show P.frozen? ⟨wr.heap.size,2,none⟩=false from(by simp[World.frozen?,B])))))
            ·obtain⟨F,ac⟩:∃ O,O=P.heap.size:=⟨_,rfl⟩
             obtain⟨W4,M⟩:∃ W,P.alloc (.cells #[.int .i64 A,.slice r t s,.slice u z y] 132)=W:=⟨_,rfl⟩
             have ab:Hid (W4.heap[F]? = some (.cells #[.int .i64 A,.slice r t s,.slice u z y] 132)):=by rw[Hid,<- M,ac];exact Ag _ _
             have m:Hid (Ga w #[.slice (some ⟨gc,0,none⟩) c.length cc] #[.string f.name,.slice pa f.params.length pc,.int .i64 f.result,.int .i64 f.slots,.slice (some ⟨gi,0,none⟩) f.ins.length ic] (Ce c f) X L G i b H k Os Q (.cells #[.int .i64 l,.slice R T S,.slice U yn Z] 132) go (.agg #[.int .i64 l,.slice R T S,.slice U yn Z]) W4):=by rw[Hid,<- M];exact(C.out.below q).below (A5 P _)
             have an:Hid (Bg W4.heap.size W4 (Ai A (.slice r t s) (.slice u z y)) jn):=by rw[Hid,<- M];exact(hv.below (A5 P _)).mono (A5 P _).size
             have K:Hid (F≠w.heap.size+2):=by rw[Hid,ac];have:=(C.out.below q).sl.shs.lt;omega
             rw[M,<- ac]
             clear M ac hv ai q
             clear D HJ l0 l1 l2 l3 l4 l5 l6 g0 g1 g2 al d0
             obtain⟨W5,ah⟩:∃ W,(((W4.setCell ⟨w.heap.size+2,d * 3,none⟩ (.int .i64 A)).setCell ⟨w.heap.size+2,d * 3+1,none⟩ (.slice r t s)).setCell ⟨w.heap.size+2,d * 3+2,none⟩ (.slice u z y))=W:=⟨_,rfl⟩
             have I:Hid (Ga w #[.slice (some ⟨gc,0,none⟩) c.length cc] #[.string f.name,.slice pa f.params.length pc,.int .i64 f.result,.int .i64 f.slots,.slice (some ⟨gi,0,none⟩) f.ins.length ic] (Ce c f) X (L.set d jn) (G || ch) i b H (k+1) Os Q (.cells #[.int .i64 l,.slice R T S,.slice U yn Z] 132) go (.agg #[.int .i64 l,.slice R T S,.slice U yn Z]) W5):=by
              have h:=m.out.step hkl (by show H[k] < f.ins.length;rw[E.out];exact ae) bv.out be.out (by rw[E.out,af.out];exact an.out)
              simp only[E.out,af.out]at h
              rw[show decide (jn≠Ao L d)=ch from(by rw[<- af.out];exact bk.out)]at h
              unfold Ek at h
              rw[ah]at h
              exact h
             have J:Hid (W5.heap[F]? = some (.cells #[.int .i64 A,.slice r t s,.slice u z y] 132)):=by
              rw[Hid,<- ah,Below.heap_setCell _ _ _ _ (by exact K.out),Below.heap_setCell _ _ _ _ (by exact K.out),Below.heap_setCell _ _ _ _ (by exact K.out)]
              exact ab.out
             have m0:W4.cell? ⟨Q,k,none⟩=some (.int .i64 (d:Int)):=by rw[<- E.out];exact aa.out W4 m.out.og k hkl
             have m1:W4.cell? ⟨F,0,none⟩=some (.int .i64 A):=by rw[Lib.cell_of_heap ab.out];rfl
             have m2:W4.cell? ⟨F,1,none⟩=some (.slice r t s):=by rw[Lib.cell_of_heap ab.out];rfl
             have m3:W4.cell? ⟨F,2,none⟩=some (.slice u z y):=by rw[Lib.cell_of_heap ab.out];rfl
             have n0:W5.cell? ⟨Q,k,none⟩=some (.int .i64 (d:Int)):=by rw[<- E.out];exact aa.out W5 I.out.og k hkl
             have n1:W5.cell? ⟨F,0,none⟩=some (.int .i64 A):=by rw[Lib.cell_of_heap J.out];rfl
             have n2:W5.cell? ⟨F,1,none⟩=some (.slice r t s):=by rw[Lib.cell_of_heap J.out];rfl
             have n3:W5.cell? ⟨F,2,none⟩=some (.slice u z y):=by rw[Lib.cell_of_heap J.out];rfl
             obtain⟨dn,dk,dm,dl,dh,dj,di,g0,g1,g2,-⟩:=m.out.sl.shs.each d (by rw[ao.out];exact ae)
             have y0:=m.out.sl.shs.froz (d * 3);have y1:=m.out.sl.shs.froz (d * 3+1);have y2:=m.out.sl.shs.froz (d * 3+2)
             go_wp2_with fail
             go_region_held3 (fun W=>W.cell? ⟨Q,k,none⟩=some (.int .i64 (d:Int))/\W.cell? ⟨F,0,none⟩=some (.int .i64 A)/\W.cell? ⟨F,1,none⟩=some (.slice r t s)/\W.cell? ⟨F,2,none⟩=some (.slice u z y)) (first|exact⟨m0,m1,m2,m3⟩|exact⟨n0,n1,n2,n3⟩|(rw[ah];exact⟨n0,n1,n2,n3⟩)) (fail)
             cases G with
             | true =>
              go_wp2_with fail
              go_roundw
              case rel=>exact⟨L.set d jn,true,k+1,by omega,rfl,by go_num,I.out.below (Below.refl _ W5).drew⟩
              case measure=>simp[intOf];omega
             | false =>
              go_wp2_with fail
              go_roundw
              case rel=>exact⟨L.set d jn,ch,k+1,by omega,rfl,by go_num,I.out.below (Below.refl _ W5).drew⟩
              case measure=>simp[intOf];omega
            ·obtain⟨F,ac⟩:∃ O,O=wr.heap.size:=⟨_,rfl⟩
             obtain⟨W4,M⟩:∃ W,(((P.setCell ⟨wr.heap.size,0,none⟩ (.int .i64 A)).setCell ⟨wr.heap.size,1,none⟩ (.slice r t s)).setCell ⟨wr.heap.size,2,none⟩ (.slice u z y))=W:=⟨_,rfl⟩
             have h1:=heap_setCell_same P wr.heap.size 0 _ _ (.int .i64 A) B
             have h2:=heap_setCell_same _ wr.heap.size 1 _ _ (.slice r t s) h1
             have h3:=heap_setCell_same _ wr.heap.size 2 _ _ (.slice u z y) h2
             have ab:Hid (W4.heap[F]? = some (.cells #[.int .i64 A,.slice r t s,.slice u z y] 132)):=by rw[Hid,<- M,ac];exact h3
             have N:w.heap.size+2 < wr.heap.size:=C.out.sl.shs.lt
             have a0:wr.heap.size≠Os:=fun e=>by have:=(Array.getElem?_eq_some_iff.1 C.out.os).1;omega
             have az:wr.heap.size≠Q:=fun e=>by have:=(Array.getElem?_eq_some_iff.1 C.out.og).1;omega
             have m:Hid (Ga w #[.slice (some ⟨gc,0,none⟩) c.length cc] #[.string f.name,.slice pa f.params.length pc,.int .i64 f.result,.int .i64 f.slots,.slice (some ⟨gi,0,none⟩) f.ins.length ic] (Ce c f) X L G i b H k Os Q (.cells #[.int .i64 l,.slice R T S,.slice U yn Z] 132) go (.agg #[.int .i64 l,.slice R T S,.slice U yn Z]) W4):=by
              rw[Hid,<- M]
              exact(((C.out.below q).set wr.heap.size 0 _ N a0 az ⟨_,B⟩).set wr.heap.size 1 _ N a0 az ⟨_,h1⟩).set wr.heap.size 2 _ N a0 az ⟨_,h2⟩
             have an:Hid (Bg W4.heap.size W4 (Ai A (.slice r t s) (.slice u z y)) jn):=by
              rw[Hid,<- M]
              refine(show Bg _ _ (Ai A (.slice r t s) (.slice u z y)) _ from hv).keep (by simp) (fun st'' sv'' kv'' e k hk => ?_)
              obtain⟨_,rfl,rfl⟩:=D2 e
              have au:k≠wr.heap.size:=Bg.off B (show Bg _ _ (Ai A (.slice r t s) (.slice u z y)) _ from hv) k hk
              rw[Below.heap_setCell _ _ _ _ (by exact au),Below.heap_setCell _ _ _ _ (by exact au),Below.heap_setCell _ _ _ _ (by exact au)]
             have K:Hid (F≠w.heap.size+2):=by rw[Hid,ac];omega
             rw[M,<- ac]
             clear M ac hv ai q h1 h2 h3 B cq cr cs cm cn co N a0 az
             clear D HJ l0 l1 l2 l3 l4 l5 l6 g0 g1 g2 al d0
             obtain⟨W5,ah⟩:∃ W,(((W4.setCell ⟨w.heap.size+2,d * 3,none⟩ (.int .i64 A)).setCell ⟨w.heap.size+2,d * 3+1,none⟩ (.slice r t s)).setCell ⟨w.heap.size+2,d * 3+2,none⟩ (.slice u z y))=W:=⟨_,rfl⟩
             have I:Hid (Ga w #[.slice (some ⟨gc,0,none⟩) c.length cc] #[.string f.name,.slice pa f.params.length pc,.int .i64 f.result,.int .i64 f.slots,.slice (some ⟨gi,0,none⟩) f.ins.length ic] (Ce c f) X (L.set d jn) (G || ch) i b H (k+1) Os Q (.cells #[.int .i64 l,.slice R T S,.slice U yn Z] 132) go (.agg #[.int .i64 l,.slice R T S,.slice U yn Z]) W5):=by
              have h:=m.out.step hkl (by show H[k] < f.ins.length;rw[E.out];exact ae) bv.out be.out (by rw[E.out,af.out];exact an.out)
              simp only[E.out,af.out]at h
              rw[show decide (jn≠Ao L d)=ch from(by rw[<- af.out];exact bk.out)]at h
              unfold Ek at h
              rw[ah]at h
              exact h
             have J:Hid (W5.heap[F]? = some (.cells #[.int .i64 A,.slice r t s,.slice u z y] 132)):=by
              rw[Hid,<- ah,Below.heap_setCell _ _ _ _ (by exact K.out),Below.heap_setCell _ _ _ _ (by exact K.out),Below.heap_setCell _ _ _ _ (by exact K.out)]
              exact ab.out
             have m0:W4.cell? ⟨Q,k,none⟩=some (.int .i64 (d:Int)):=by rw[<- E.out];exact aa.out W4 m.out.og k hkl
             have m1:W4.cell? ⟨F,0,none⟩=some (.int .i64 A):=by rw[Lib.cell_of_heap ab.out];rfl
             have m2:W4.cell? ⟨F,1,none⟩=some (.slice r t s):=by rw[Lib.cell_of_heap ab.out];rfl
             have m3:W4.cell? ⟨F,2,none⟩=some (.slice u z y):=by rw[Lib.cell_of_heap ab.out];rfl
             have n0:W5.cell? ⟨Q,k,none⟩=some (.int .i64 (d:Int)):=by rw[<- E.out];exact aa.out W5 I.out.og k hkl
             have n1:W5.cell? ⟨F,0,none⟩=some (.int .i64 A):=by rw[Lib.cell_of_heap J.out];rfl
             have n2:W5.cell? ⟨F,1,none⟩=some (.slice r t s):=by rw[Lib.cell_of_heap J.out];rfl
             have n3:W5.cell? ⟨F,2,none⟩=some (.slice u z y):=by rw[Lib.cell_of_heap J.out];rfl
             obtain⟨dn,dk,dm,dl,dh,dj,di,g0,g1,g2,-⟩:=m.out.sl.shs.each d (by rw[ao.out];exact ae)
             have y0:=m.out.sl.shs.froz (d * 3);have y1:=m.out.sl.shs.froz (d * 3+1);have y2:=m.out.sl.shs.froz (d * 3+2)
             go_wp2_with fail
             go_region_held3 (fun W=>W.cell? ⟨Q,k,none⟩=some (.int .i64 (d:Int))/\W.cell? ⟨F,0,none⟩=some (.int .i64 A)/\W.cell? ⟨F,1,none⟩=some (.slice r t s)/\W.cell? ⟨F,2,none⟩=some (.slice u z y)) (first|exact⟨m0,m1,m2,m3⟩|exact⟨n0,n1,n2,n3⟩|(rw[ah];exact⟨n0,n1,n2,n3⟩)) (fail)
             cases G with
             | true =>
              go_wp2_with fail
              go_roundw
              case rel=>exact⟨L.set d jn,true,k+1,by omega,rfl,by go_num,I.out.below (Below.refl _ W5).drew⟩
              case measure=>simp[intOf];omega
             | false =>
              go_wp2_with fail
              go_roundw
              case rel=>exact⟨L.set d jn,ch,k+1,by omega,rfl,by go_num,I.out.below (Below.refl _ W5).drew⟩
              case measure=>simp[intOf];omega
           ·have cf:¬ (d:Int) < (f.ins.length:Int):=by omega
            go_wp2_with fail
            go_roundw
            case rel=>exact⟨L,G,k+1,by omega,rfl,by go_num,C.out.skip hkl (by show ¬ H[k] < f.ins.length;rw[E.out];exact ae)⟩
            case measure=>simp[intOf];omega
          ·have ci:¬ (k:Int) < (H.length:Int):=by omega
           go_wp2_with fail
           go_roundw
           case rel=>exact⟨L,G,i+1,by omega,rfl,by go_num,C.out.sl,Jo.done (k:=k) (by have h:=C.out.rk;rw[<- bc.out]at h;exact h) (by rw[bc.out];omega)⟩
           case measure=>simp[intOf];omega
      ·have HE:Hid (i=f.ins.length):=(by omega:i=f.ins.length)
       have d9:¬ (i:Int) < (f.ins.length:Int):=by omega
       go_wp2_with fail
       go_roundw
       case rel =>
        refine⟨X2,ag,rfl,ak.out,av.out.again,fun e => ?_⟩
        have h:=av.out
        rw[e]at h
        exact h.fix (by show f.ins.length<=i;rw[HE.out];exact Nat.le_refl _)
       case measure =>
        rw[dx.out.shs.eps,ak.out.shs.eps]
        cases ag with
        | false=>simp only;omega
        | true =>
         have h1:=av.out.more rfl
         have h2:=av.out.top
         simp only
         omega
end Go.Proofs.YtfjkahdghhbpnaaGreatDoor
