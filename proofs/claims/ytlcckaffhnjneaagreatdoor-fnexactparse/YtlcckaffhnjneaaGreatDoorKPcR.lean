import Derived.Test.YtlcckaffhnjneaaGreatDoorKPcQ
set_option maxRecDepth 100000
set_option maxHeartbeats 2000000
namespace Go.Proofs.YtlcckaffhnjneaaGreatDoor
open Go.RowKit
variable {ts:List (Mill.Piece × Nat)} {g:Nat} {a:Option Addr} {c E i j:Nat} {w W W2:World}
def Pa.AnsI (ts:List (Mill.Piece × Nat)) (g:Nat) (a:Option Addr) (c E:Nat) (r:Except Nat (List Mill.Tr × Nat)) (w:World) (e:Ending) (w':World):Prop:=match r with
 | .ok p => ∃ v0 v1 v2,e = .returned (.agg #[v0,v1,v2])∧Pa.Rb w.heap.size w' (Pa.br 12 0 0 [] p.1) (.iface 151 (.agg #[v0,v1,v2]))∧Pa.Pt ts g a c E p.2 w w'
 | .error k=>e=Pa.pan ts E k∧Pa.Fr g w w'
def Pa.IfIs (ts:List (Mill.Piece × Nat)) (g:Nat) (a:Option Addr) (c E n:Nat):Prop := ∀ (i:Nat) (w:World) (r:Except Nat (List Mill.Tr × Nat)),Pa.ifr ts n i=some r→Pa.Tb g w→Pa.P ts g a c E i w →
 Calls Tryz.prog 119 #[.pointer (some ⟨g,0,none⟩)] w (Pa.AnsI ts g a c E r w)
structure Pa.Iw (ts:List (Mill.Piece × Nat)) (g:Nat) (a:Option Addr) (c E:Nat) (w:World) (b:Nat) (p:Nat) (W:World) (t:Mill.Tr) (u:Value) (l:List Mill.Tr) (S o:Value):Prop where
 T:Pa.Pt ts g a c E p w W
 res:W.heap[w.heap.size]? = some (.cells #[.nilIface,.slice none 0 0,.nilIface] 151)
 var:W.heap[b]? = some (.cells #[u,S,o] 151)
 gw:g < w.heap.size
 bw:w.heap.size < b
 R1:Mill.Rep (fun x=>w.heap.size < x∧x < b) W t u
 R2:Mill.Rep (fun x=>w.heap.size < x∧x < b) W (Pa.br 21 0 0 [] l) (.iface 77 (.agg #[S]))
variable {b p p2:Nat} {t:Mill.Tr} {u S o v0 v1 v2:Value} {l:List Mill.Tr}
theorem Pa.Iw.to (h:Pa.Iw ts g a c E w b p W t u l S o) (hT:Pa.Pt ts g a c E p2 W W2):Pa.Iw ts g a c E w b p2 W2 t u l S o:=by
 have hg:=h.gw
 have hb:=h.bw
 have h1:=(Array.getElem?_eq_some_iff.1 h.res).1
 have h2:=(Array.getElem?_eq_some_iff.1 h.var).1
 have hk:∀ x,w.heap.size < x∧x < b→W2.heap[x]? = W.heap[x]?:=fun x hx=>hT.2.keep _ (by omega) (by omega)
 exact ⟨h.T.to hT,(hT.2.keep _ h1 (by omega)).trans h.res,(hT.2.keep _ h2 (by omega)).trans h.var,hg,hb,Mill.Rep.below (fun _ h=>h) hk _ _ h.R1,Mill.Rep.below (fun _ h=>h) hk _ _ h.R2⟩
theorem Pa.Iw.cells (h:Pa.Iw ts g a c E w b p W t u l S o):(W.cell? ⟨w.heap.size,0,none⟩=some .nilIface∧W.cell? ⟨w.heap.size,1,none⟩=some (.slice none 0 0)∧W.cell? ⟨w.heap.size,2,none⟩=some .nilIface)∧(W.cell? ⟨b,0,none⟩=some u∧W.cell? ⟨b,1,none⟩=some S∧W.cell? ⟨b,2,none⟩=some o)∧(∀ k,W.frozen? ⟨w.heap.size,k,none⟩=false)∧∀ k,W.frozen? ⟨b,k,none⟩=false:=by
 have h1:=h.res
 have h2:=h.var
 refine ⟨⟨?_, ?_, ?_⟩,⟨?_, ?_, ?_⟩,fun k => ?_,fun k => ?_⟩
 ·rw [Lib.cell_of_heap h1];rfl
 ·rw [Lib.cell_of_heap h1];rfl
 ·rw [Lib.cell_of_heap h1];rfl
 ·rw [Lib.cell_of_heap h2];rfl
 ·rw [Lib.cell_of_heap h2];rfl
 ·rw [Lib.cell_of_heap h2];rfl
 ·simp [World.frozen?,h1]
 ·simp [World.frozen?,h2]
theorem Pa.Rb.setC {B k:Nat} {t:Mill.Tr} {x:Value} (h:Pa.Rb B W t x) (hk:k < B) (o:Nat) (v:Value):Pa.Rb B (W.setCell ⟨k,o,none⟩ v) t x :=
 Mill.Rep.below (fun y hy=>⟨hy.1,by simpa [World.setCell] using hy.2⟩) (fun y hy=>Below.heap_setCell _ _ _ _ (by simp only;omega)) _ _ h
theorem Pa.Iw.store (h:Pa.Iw ts g a c E w b p W t u l S o) (v:Value):Pa.Iw ts g a c E w b p (W.setCell ⟨b,2,none⟩ v) t u l S v:=by
 have hg:=h.gw
 have hb:=h.bw
 have hP:=h.T.1
 have hF:=h.T.2
 have h1:=(Array.getElem?_eq_some_iff.1 h.res).1
 have hk:∀ k,k≠b→(W.setCell ⟨b,2,none⟩ v).heap[k]? = W.heap[k]?:=fun k hk=>Below.heap_setCell _ _ _ _ hk
 refine ⟨⟨⟨(hk _ (by omega)).trans hP.blk,hP.tks.keep fun j hj=>hk _ (by omega),hP.le,hP.len,hP.cap⟩,⟨hF.os,hF.tape,hF.output,by simpa [World.setCell] using hF.size,fun j hj hjg=>(hk _ (by omega)).trans (hF.keep j hj hjg)⟩⟩,(hk _ (by omega)).trans h.res, ?_,hg,hb,Mill.Rep.below (fun _ h=>h) (fun x hx=>hk x (by omega)) _ _ h.R1,Mill.Rep.below (fun _ h=>h) (fun x hx=>hk x (by omega)) _ _ h.R2⟩
 simp [World.setCell,Array.getElem?_modify,h.var]
theorem Pa.set3 {W:World} {n:Nat} {x0 x1 x2 v0 v1 v2:Value} (r0:W.cell? ⟨n,0,none⟩=some x0) (r1:W.cell? ⟨n,1,none⟩=some x1) (r2:W.cell? ⟨n,2,none⟩=some x2) :
  (((W.setCell ⟨n,0,none⟩ v0).setCell ⟨n,1,none⟩ v1).setCell ⟨n,2,none⟩ v2).cell? ⟨n,0,none⟩=some v0∧(((W.setCell ⟨n,0,none⟩ v0).setCell ⟨n,1,none⟩ v1).setCell ⟨n,2,none⟩ v2).cell? ⟨n,1,none⟩=some v1∧(((W.setCell ⟨n,0,none⟩ v0).setCell ⟨n,1,none⟩ v1).setCell ⟨n,2,none⟩ v2).cell? ⟨n,2,none⟩=some v2:=by
 obtain ⟨y0,y1⟩:=Pa.set2 (v0:=v0) (v1:=v1) r0 r1
 refine ⟨?_, ?_, ?_⟩
 ·rw [World.cell?_setCell_other _ _ _ _ (by simp)];exact y0
 ·rw [World.cell?_setCell_other _ _ _ _ (by simp)];exact y1
 ·exact World.cell?_setCell_same _ _ _ (by rw [World.cell?_setCell_other _ _ _ _ (by simp),World.cell?_setCell_other _ _ _ _ (by simp)];exact r2)
theorem Pa.keep3 {W:World} {n:Nat} {v0 v1 v2:Value} (k:Nat) (hk:k≠n):(((W.setCell ⟨n,0,none⟩ v0).setCell ⟨n,1,none⟩ v1).setCell ⟨n,2,none⟩ v2).heap[k]? = W.heap[k]? :=
 (Below.heap_setCell _ _ _ _ hk).trans ((Below.heap_setCell _ _ _ _ hk).trans (Below.heap_setCell _ _ _ _ hk))
theorem Pa.Iw.ret {B:Nat} (h:Pa.Iw ts g a c E w b p W t u l S o):Pa.Rb w.heap.size (((W.setCell ⟨w.heap.size,0,none⟩ v0).setCell ⟨w.heap.size,1,none⟩ v1).setCell ⟨w.heap.size,2,none⟩ v2) t u∧Pa.Rb w.heap.size (((W.setCell ⟨w.heap.size,0,none⟩ v0).setCell ⟨w.heap.size,1,none⟩ v1).setCell ⟨w.heap.size,2,none⟩ v2) (Pa.br 21 0 0 [] l) (.iface 77 (.agg #[S]))∧Pa.Pt ts g a c E p w (((W.setCell ⟨w.heap.size,0,none⟩ v0).setCell ⟨w.heap.size,1,none⟩ v1).setCell ⟨w.heap.size,2,none⟩ v2)∧(∀ t2 x2,b < B→Pa.Rb B W t2 x2→Pa.Rb w.heap.size (((W.setCell ⟨w.heap.size,0,none⟩ v0).setCell ⟨w.heap.size,1,none⟩ v1).setCell ⟨w.heap.size,2,none⟩ v2) t2 x2):=by
 have hg:=h.gw
 have hb:=h.bw
 have hP:=h.T.1
 have hF:=h.T.2
 have h2:=(Array.getElem?_eq_some_iff.1 h.var).1
 have hs:(((W.setCell ⟨w.heap.size,0,none⟩ v0).setCell ⟨w.heap.size,1,none⟩ v1).setCell ⟨w.heap.size,2,none⟩ v2).heap.size=W.heap.size:=by simp [World.setCell]
 have hk:=@Pa.keep3 W w.heap.size v0 v1 v2
 refine ⟨Mill.Rep.below (fun x hx=>⟨by omega,by omega⟩) (fun x hx=>hk x (by omega)) _ _ h.R1,Mill.Rep.below (fun x hx=>⟨by omega,by omega⟩) (fun x hx=>hk x (by omega)) _ _ h.R2,⟨⟨(hk _ (by omega)).trans hP.blk,hP.tks.keep fun j hj=>hk _ (by omega),hP.le,hP.len,hP.cap⟩,⟨hF.os,hF.tape,hF.output,by rw [hs];exact hF.size,fun j hj hjg=>(hk _ (by omega)).trans (hF.keep j hj hjg)⟩⟩,fun t2 x2 hB hR=>Mill.Rep.below (fun x hx=>⟨by omega,by omega⟩) (fun x hx=>hk x (by omega)) _ _ hR⟩
theorem Pa.Iw.start {V:World} (hR:V.heap[w.heap.size]? = some (.cells #[.nilIface,.slice none 0 0,.nilIface] 151)) (hT:Pa.Pt ts g a c E p w V) (hg:g < w.heap.size) (R1:Pa.Rb (w.heap.size+1) V t u) (R2:Pa.Rb (w.heap.size+1) V (Pa.br 21 0 0 [] l) (.iface 77 (.agg #[S]))):Pa.Iw ts g a c E w V.heap.size p (V.alloc (.cells #[u,S,.nilIface] 151)) t u l S .nilIface:=by
 have hb:Below V.heap.size V (V.alloc (.cells #[u,S,.nilIface] 151)):=(Below.refl _ _).alloc (Nat.le_refl _) _
 have h1:=(Array.getElem?_eq_some_iff.1 hR).1
 exact ⟨hT.to ⟨hT.1.below hb,Pa.Fr.of_below hb⟩,(hb.block _ h1).trans hR,heap_alloc_new _ _,hg,h1,Mill.Rep.below (fun x hx=>⟨by omega,by omega⟩) (fun x hx=>hb.block _ (by omega)) _ _ R1,Mill.Rep.below (fun x hx=>⟨by omega,by omega⟩) (fun x hx=>hb.block _ (by omega)) _ _ R2⟩
theorem Pa.res_if (hP:Pa.P ts g a c E p w):∃ V,w.alloc (.cells #[.nilIface,.slice none 0 0,.nilIface] 151)=V∧V.heap[w.heap.size]? = some (.cells #[.nilIface,.slice none 0 0,.nilIface] 151)∧Pa.Pt ts g a c E p w V∧w.heap.size+1=V.heap.size :=
 ⟨_,rfl,heap_alloc_new _ _,⟨hP.below ((Below.refl _ _).alloc (Nat.le_refl _) _),Pa.Fr.of_below ((Below.refl _ _).alloc (Nat.le_refl _) _)⟩,by simp⟩
theorem Pa.rb_if2' {B:Nat} {v:Value} (h:Pa.Rb B W t v) (h2:Pa.Rb B W (Pa.br 21 0 0 [] l) (.iface 77 (.agg #[S]))):Pa.Rb B W (Pa.br 12 0 0 [] [t,Pa.br 21 0 0 [] l]) (.iface 151 (.agg #[v,S,.nilIface])) :=
 Pa.rb_mk ⟨12,0,0,0,Mill.ba [],2⟩ [t,Pa.br 21 0 0 [] l] [v,.iface 77 (.agg #[S])] _ (by simp) (by simp) (.inl ⟨v,S,rfl,rfl⟩) (Pa.rbs_two h h2) (by simp)
theorem Pa.rb_if3' {B:Nat} {v:Value} {u:Mill.Tr} {ty:TypeId} {y:Value} (h:Pa.Rb B W t v) (h2:Pa.Rb B W (Pa.br 21 0 0 [] l) (.iface 77 (.agg #[S]))) (h3:Pa.Rb B W u (.iface ty y)):Pa.Rb B W (Pa.br 12 0 0 [] [t,Pa.br 21 0 0 [] l,u]) (.iface 151 (.agg #[v,S,.iface ty y])) :=
 Pa.rb_mk ⟨12,0,0,0,Mill.ba [],3⟩ [t,Pa.br 21 0 0 [] l,u] [v,.iface 77 (.agg #[S]),.iface ty y] _ (by simp) (by simp) (.inr ⟨v,S,ty,y,rfl,rfl⟩) (Pa.rbs_three h h2 h3) (by simp)
theorem Pa.if_next (hG:Pa.Good ts) (n:Nat) (ih:Pa.IfIs ts g a c E n) (ihb:Pa.BlkIs ts g a c E n):Pa.IfIs ts g a c E (n+1):=by
 intro i w r hr hB hP
 have hgw:=hP.lt
 have mkA:True:=trivial
 have mkB:True:=trivial
 have mkC:True:=trivial
 have mkD:True:=trivial
 obtain ⟨V0,hV0,hres,hT,hVs⟩:=Pa.res_if hP
 rw [Pa.ifr] at hr
 cases h1:Pa.rank ts n 1 i with
 | none=>rw [h1,Pa.bd_none] at hr;simp at hr
 | some q1 =>
  rw [h1] at hr
  have HE1:Hid (∀ W,Pa.Tb g W→Pa.P ts g a c E i W→Calls Tryz.prog 120 #[.pointer (some ⟨g,0,none⟩)] W (Pa.Ans ts g a c E q1 W)):=fun W hb hp=>Pa.val_any hG n q1 h1 hb hp
  cases q1 with
  | error e1 =>
   rw [Pa.bd_err,Option.some.injEq] at hr
   subst hr
   go_enter Tryz.func119,Tryz.ntmps119
   go_wp2_with (have _t:=mkA;go_at_call 120;(try rw [hV0]);refine (HE1.out _ (hB.fr hT.2) hT.1).mono ?_;rintro e V ⟨rfl,hF'⟩;have hF:=hT.2.trans hF';unfold Pa.pan;clear mkA)
   exact ⟨rfl,rfl,hF⟩
  | ok x1 =>
   rw [Pa.bd_ok] at hr
   cases h2:Pa.iblock ts n x1.2 with
   | none=>rw [h2,Pa.bd_none] at hr;simp at hr
   | some q2 =>
    rw [h2] at hr
    have HE2:Hid (∀ W,Pa.Tb g W→Pa.P ts g a c E x1.2 W→Calls Tryz.prog 71 #[.pointer (some ⟨g,0,none⟩)] W (Pa.AnsB ts g a c E q2 W)):=fun W hb hp=>ihb x1.2 W q2 h2 hb hp
    cases q2 with
    | error e1 =>
     rw [Pa.bd_err,Option.some.injEq] at hr
     subst hr
     go_enter Tryz.func119,Tryz.ntmps119
     go_wp2_with (first | (have _t:=mkA;go_at_call 120;(try rw [hV0]);refine (HE1.out _ (hB.fr hT.2) hT.1).mono ?_;rintro e V1 ⟨ty,y,rfl,hR1,hT'⟩;rw [← hVs] at hR1;replace hres:=(hT'.2.keep _ (by omega) (Nat.ne_of_gt hgw)).trans hres;replace hT:=hT.to hT';clear hT';clear mkA) | (have _t:=mkB;go_at_call 71;refine (HE2.out _ (hB.fr hT.2) hT.1).mono ?_;rintro e V ⟨rfl,hF'⟩;have hF:=hT.2.trans hF';unfold Pa.pan;clear mkB))
     exact ⟨rfl,rfl,hF⟩
    | ok x2 =>
     rw [Pa.bd_ok] at hr
     cases h3:Pa.st ts 2 [101,108,115,101] x2.2 with
     | false =>
      simp only [h3,Bool.false_eq_true,if_false,Option.some.injEq] at hr
      subst hr
      go_enter Tryz.func119,Tryz.ntmps119
      go_wp2_with (first | (have _t:=mkA;go_at_call 120;(try rw [hV0]);refine (HE1.out _ (hB.fr hT.2) hT.1).mono ?_;rintro e V1 ⟨ty,y,rfl,hR1,hT'⟩;rw [← hVs] at hR1;replace hres:=(hT'.2.keep _ (by omega) (Nat.ne_of_gt hgw)).trans hres;replace hT:=hT.to hT';clear hT';clear mkA) | (have _t:=mkB;go_at_call 71;refine (HE2.out _ (hB.fr hT.2) hT.1).mono ?_;rintro e V2 ⟨va,vc,rfl,hK,hT'⟩;have hs1:w.heap.size < V1.heap.size:=(Array.getElem?_eq_some_iff.1 hres).1;replace hres:=(hT'.2.keep _ hs1 (Nat.ne_of_gt hgw)).trans hres;replace hR1:=hR1.fr hT'.2 (Nat.lt_of_lt_of_le hgw (Nat.le_succ _));have hR2:=Pa.rb_block (hK.mono (C:=w.heap.size+1) hs1) (Nat.le_trans (Pa.iblock_len h2) (Nat.le_trans hT'.1.le (Nat.le_trans hT'.1.len (by decide))));replace hT:=hT.to hT';clear hT';have hC:=Pa.Iw.start hres hT hgw hR1 hR2;clear mkB) | (have _t:=mkC;go_at_call 93;refine (Pa.takesW_any [101,108,115,101] hC.T.1).mono ?_;rintro e V ⟨rfl,hT'⟩;rw [h3] at hT' ⊢;replace hT':Pa.Pt ts g a c E x2.2 _ V:=hT';replace hC:=hC.to hT';clear hT';obtain ⟨⟨z0,z1,z2⟩,⟨y0,y1,y2⟩,f0,f1⟩:=hC.cells;clear mkC))
      obtain ⟨q0,q1,q2⟩:=Pa.set3 (v0:=.iface ty y) (v1:=.slice va x2.1.length vc) (v2:=.nilIface) z0 z1 z2
      refine bodyPost_ret (v:=.agg #[.iface ty y,.slice va x2.1.length vc,.nilIface]) (by simp [results,Tryz.results119,go_sem,q0,q1,q2]) rfl ?_
      obtain ⟨r1,r2,r3,_⟩:=hC.ret (B:=0) (v0:=.iface ty y) (v1:=.slice va x2.1.length vc) (v2:=.nilIface)
      exact ⟨_,_,_,rfl,Pa.rb_if2' r1 r2,r3⟩
     | true =>
      rw [h3,if_pos rfl] at hr
      cases h4:Pa.st ts 2 [105,102] (x2.2+1) with
      | true =>
       rw [h4,if_pos rfl] at hr
       cases h5:Pa.ifr ts n (x2.2+1+1) with
       | none=>rw [h5,Pa.bd_none] at hr;simp at hr
       | some q3 =>
        rw [h5] at hr
        have HE3:Hid (∀ W,Pa.Tb g W→Pa.P ts g a c E (x2.2+1+1) W→Calls Tryz.prog 119 #[.pointer (some ⟨g,0,none⟩)] W (Pa.AnsI ts g a c E q3 W)):=fun W hb hp=>ih (x2.2+1+1) W q3 h5 hb hp
        cases q3 with
        | error e1 =>
         rw [Pa.bd_err,Option.some.injEq] at hr
         subst hr
         go_enter Tryz.func119,Tryz.ntmps119
         go_wp2_with (first | (have _t:=mkA;go_at_call 120;(try rw [hV0]);refine (HE1.out _ (hB.fr hT.2) hT.1).mono ?_;rintro e V1 ⟨ty,y,rfl,hR1,hT'⟩;rw [← hVs] at hR1;replace hres:=(hT'.2.keep _ (by omega) (Nat.ne_of_gt hgw)).trans hres;replace hT:=hT.to hT';clear hT';clear mkA) | (have _t:=mkB;go_at_call 71;refine (HE2.out _ (hB.fr hT.2) hT.1).mono ?_;rintro e V2 ⟨va,vc,rfl,hK,hT'⟩;have hs1:w.heap.size < V1.heap.size:=(Array.getElem?_eq_some_iff.1 hres).1;replace hres:=(hT'.2.keep _ hs1 (Nat.ne_of_gt hgw)).trans hres;replace hR1:=hR1.fr hT'.2 (Nat.lt_of_lt_of_le hgw (Nat.le_succ _));have hR2:=Pa.rb_block (hK.mono (C:=w.heap.size+1) hs1) (Nat.le_trans (Pa.iblock_len h2) (Nat.le_trans hT'.1.le (Nat.le_trans hT'.1.len (by decide))));replace hT:=hT.to hT';clear hT';have hC:=Pa.Iw.start hres hT hgw hR1 hR2;clear mkB) | (have _t:=mkC;go_at_call 93;refine (Pa.takesW_any [101,108,115,101] hC.T.1).mono ?_;rintro e V ⟨rfl,hT'⟩;rw [h3] at hT' ⊢;replace hT':Pa.Pt ts g a c E (x2.2+1) _ V:=hT';replace hC:=hC.to hT';clear hT';clear mkC) | (have _t:=mkD;go_at_call 93;refine (Pa.takesW_any [105,102] hC.T.1).mono ?_;rintro e V ⟨rfl,hT'⟩;rw [h4] at hT' ⊢;replace hT':Pa.Pt ts g a c E (x2.2+1+1) _ V:=hT';replace hC:=hC.to hT';clear hT';clear mkD) | (go_at_call 119;refine (HE3.out _ (hB.fr hC.T.2) hC.T.1).mono ?_;rintro e V4 ⟨rfl,hF'⟩;have hF:=hC.T.2.trans hF';unfold Pa.pan))
         exact ⟨rfl,rfl,hF⟩
        | ok x3 =>
         rw [Pa.bd_ok,Option.some.injEq] at hr
         subst hr
         go_enter Tryz.func119,Tryz.ntmps119
         go_wp2_with (first | (have _t:=mkA;go_at_call 120;(try rw [hV0]);refine (HE1.out _ (hB.fr hT.2) hT.1).mono ?_;rintro e V1 ⟨ty,y,rfl,hR1,hT'⟩;rw [← hVs] at hR1;replace hres:=(hT'.2.keep _ (by omega) (Nat.ne_of_gt hgw)).trans hres;replace hT:=hT.to hT';clear hT';clear mkA) | (have _t:=mkB;go_at_call 71;refine (HE2.out _ (hB.fr hT.2) hT.1).mono ?_;rintro e V2 ⟨va,vc,rfl,hK,hT'⟩;have hs1:w.heap.size < V1.heap.size:=(Array.getElem?_eq_some_iff.1 hres).1;replace hres:=(hT'.2.keep _ hs1 (Nat.ne_of_gt hgw)).trans hres;replace hR1:=hR1.fr hT'.2 (Nat.lt_of_lt_of_le hgw (Nat.le_succ _));have hR2:=Pa.rb_block (hK.mono (C:=w.heap.size+1) hs1) (Nat.le_trans (Pa.iblock_len h2) (Nat.le_trans hT'.1.le (Nat.le_trans hT'.1.len (by decide))));replace hT:=hT.to hT';clear hT';have hC:=Pa.Iw.start hres hT hgw hR1 hR2;clear mkB) | (have _t:=mkC;go_at_call 93;refine (Pa.takesW_any [101,108,115,101] hC.T.1).mono ?_;rintro e V ⟨rfl,hT'⟩;rw [h3] at hT' ⊢;replace hT':Pa.Pt ts g a c E (x2.2+1) _ V:=hT';replace hC:=hC.to hT';clear hT';clear mkC) | (have _t:=mkD;go_at_call 93;refine (Pa.takesW_any [105,102] hC.T.1).mono ?_;rintro e V ⟨rfl,hT'⟩;rw [h4] at hT' ⊢;replace hT':Pa.Pt ts g a c E (x2.2+1+1) _ V:=hT';replace hC:=hC.to hT';clear hT';clear mkD) | (go_at_call 119;refine (HE3.out _ (hB.fr hC.T.2) hC.T.1).mono ?_;rintro e V4 ⟨u0,u1,u2,rfl,hR3,hT'⟩;have hb3:=(Array.getElem?_eq_some_iff.1 hC.var).1;replace hC:=hC.to hT';clear hT';have hCx:=hC.cells;have hC5:=hC.store (.iface 151 (.agg #[u0,u1,u2]));have hR5:=hR3.setC hb3 2 (.iface 151 (.agg #[u0,u1,u2]));obtain ⟨⟨z0,z1,z2⟩,⟨y0,y1,y2⟩,f0,f1⟩:=hC5.cells;have gb:=hCx.2.2.2 2;have cb:=hCx.2.1.2.2))
         obtain ⟨q0,q1,q2⟩:=Pa.set3 (v0:=.iface ty y) (v1:=.slice va x2.1.length vc) (v2:=.iface 151 (.agg #[u0,u1,u2])) z0 z1 z2
         refine bodyPost_ret (v:=.agg #[.iface ty y,.slice va x2.1.length vc,.iface 151 (.agg #[u0,u1,u2])]) (by simp [results,Tryz.results119,go_sem,q0,q1,q2]) rfl ?_
         obtain ⟨r1,r2,r3,r4⟩:=hC5.ret (v0:=.iface ty y) (v1:=.slice va x2.1.length vc) (v2:=.iface 151 (.agg #[u0,u1,u2]))
         exact ⟨_,_,_,rfl,Pa.rb_if3' r1 r2 (r4 _ _ hb3 hR5),r3⟩
      | false =>
       rw [h4,if_neg (by decide)] at hr
       cases h5:Pa.iblock ts n (x2.2+1) with
       | none=>rw [h5,Pa.bd_none] at hr;simp at hr
       | some q3 =>
        rw [h5] at hr
        have HE3:Hid (∀ W,Pa.Tb g W→Pa.P ts g a c E (x2.2+1) W→Calls Tryz.prog 71 #[.pointer (some ⟨g,0,none⟩)] W (Pa.AnsB ts g a c E q3 W)):=fun W hb hp=>ihb (x2.2+1) W q3 h5 hb hp
        cases q3 with
        | error e1 =>
         rw [Pa.bd_err,Option.some.injEq] at hr
         subst hr
         go_enter Tryz.func119,Tryz.ntmps119
         go_wp2_with (first | (have _t:=mkA;go_at_call 120;(try rw [hV0]);refine (HE1.out _ (hB.fr hT.2) hT.1).mono ?_;rintro e V1 ⟨ty,y,rfl,hR1,hT'⟩;rw [← hVs] at hR1;replace hres:=(hT'.2.keep _ (by omega) (Nat.ne_of_gt hgw)).trans hres;replace hT:=hT.to hT';clear hT';clear mkA) | (have _t:=mkB;go_at_call 71;refine (HE2.out _ (hB.fr hT.2) hT.1).mono ?_;rintro e V2 ⟨va,vc,rfl,hK,hT'⟩;have hs1:w.heap.size < V1.heap.size:=(Array.getElem?_eq_some_iff.1 hres).1;replace hres:=(hT'.2.keep _ hs1 (Nat.ne_of_gt hgw)).trans hres;replace hR1:=hR1.fr hT'.2 (Nat.lt_of_lt_of_le hgw (Nat.le_succ _));have hR2:=Pa.rb_block (hK.mono (C:=w.heap.size+1) hs1) (Nat.le_trans (Pa.iblock_len h2) (Nat.le_trans hT'.1.le (Nat.le_trans hT'.1.len (by decide))));replace hT:=hT.to hT';clear hT';have hC:=Pa.Iw.start hres hT hgw hR1 hR2;clear mkB) | (have _t:=mkC;go_at_call 93;refine (Pa.takesW_any [101,108,115,101] hC.T.1).mono ?_;rintro e V ⟨rfl,hT'⟩;rw [h3] at hT' ⊢;replace hT':Pa.Pt ts g a c E (x2.2+1) _ V:=hT';replace hC:=hC.to hT';clear hT';clear mkC) | (have _t:=mkD;go_at_call 93;refine (Pa.takesW_any [105,102] hC.T.1).mono ?_;rintro e V ⟨rfl,hT'⟩;rw [h4] at hT' ⊢;replace hT':Pa.Pt ts g a c E (x2.2+1) _ V:=hT';replace hC:=hC.to hT';clear hT';clear mkD) | (go_at_call 71;refine (HE3.out _ (hB.fr hC.T.2) hC.T.1).mono ?_;rintro e V4 ⟨rfl,hF'⟩;have hF:=hC.T.2.trans hF';unfold Pa.pan))
         exact ⟨rfl,rfl,hF⟩
        | ok x3 =>
         rw [Pa.bd_ok,Option.some.injEq] at hr
         subst hr
         go_enter Tryz.func119,Tryz.ntmps119
         go_wp2_with (first | (have _t:=mkA;go_at_call 120;(try rw [hV0]);refine (HE1.out _ (hB.fr hT.2) hT.1).mono ?_;rintro e V1 ⟨ty,y,rfl,hR1,hT'⟩;rw [← hVs] at hR1;replace hres:=(hT'.2.keep _ (by omega) (Nat.ne_of_gt hgw)).trans hres;replace hT:=hT.to hT';clear hT';clear mkA) | (have _t:=mkB;go_at_call 71;refine (HE2.out _ (hB.fr hT.2) hT.1).mono ?_;rintro e V2 ⟨va,vc,rfl,hK,hT'⟩;have hs1:w.heap.size < V1.heap.size:=(Array.getElem?_eq_some_iff.1 hres).1;replace hres:=(hT'.2.keep _ hs1 (Nat.ne_of_gt hgw)).trans hres;replace hR1:=hR1.fr hT'.2 (Nat.lt_of_lt_of_le hgw (Nat.le_succ _));have hR2:=Pa.rb_block (hK.mono (C:=w.heap.size+1) hs1) (Nat.le_trans (Pa.iblock_len h2) (Nat.le_trans hT'.1.le (Nat.le_trans hT'.1.len (by decide))));replace hT:=hT.to hT';clear hT';have hC:=Pa.Iw.start hres hT hgw hR1 hR2;clear mkB) | (have _t:=mkC;go_at_call 93;refine (Pa.takesW_any [101,108,115,101] hC.T.1).mono ?_;rintro e V ⟨rfl,hT'⟩;rw [h3] at hT' ⊢;replace hT':Pa.Pt ts g a c E (x2.2+1) _ V:=hT';replace hC:=hC.to hT';clear hT';clear mkC) | (have _t:=mkD;go_at_call 93;refine (Pa.takesW_any [105,102] hC.T.1).mono ?_;rintro e V ⟨rfl,hT'⟩;rw [h4] at hT' ⊢;replace hT':Pa.Pt ts g a c E (x2.2+1) _ V:=hT';replace hC:=hC.to hT';clear hT';clear mkD) | (go_at_call 71;refine (HE3.out _ (hB.fr hC.T.2) hC.T.1).mono ?_;rintro e V4 ⟨wa,wc,rfl,hK3,hT'⟩;have hR3:=Pa.rb_block hK3 (Nat.le_trans (Pa.iblock_len h5) (Nat.le_trans hT'.1.le (Nat.le_trans hT'.1.len (by decide))));have hb3:=(Array.getElem?_eq_some_iff.1 hC.var).1;replace hC:=hC.to hT';clear hT';have hCx:=hC.cells;have hC5:=hC.store (.iface 77 (.agg #[.slice wa x3.1.length wc]));have hR5:=hR3.setC hb3 2 (.iface 77 (.agg #[.slice wa x3.1.length wc]));obtain ⟨⟨z0,z1,z2⟩,⟨y0,y1,y2⟩,f0,f1⟩:=hC5.cells;have gb:=hCx.2.2.2 2;have cb:=hCx.2.1.2.2))
         obtain ⟨q0,q1,q2⟩:=Pa.set3 (v0:=.iface ty y) (v1:=.slice va x2.1.length vc) (v2:=.iface 77 (.agg #[.slice wa x3.1.length wc])) z0 z1 z2
         refine bodyPost_ret (v:=.agg #[.iface ty y,.slice va x2.1.length vc,.iface 77 (.agg #[.slice wa x3.1.length wc])]) (by simp [results,Tryz.results119,go_sem,q0,q1,q2]) rfl ?_
         obtain ⟨r1,r2,r3,r4⟩:=hC5.ret (v0:=.iface ty y) (v1:=.slice va x2.1.length vc) (v2:=.iface 77 (.agg #[.slice wa x3.1.length wc]))
         exact ⟨_,_,_,rfl,Pa.rb_if3' r1 r2 (r4 _ _ hb3 hR5),r3⟩
variable {ts:List (Mill.Piece × Nat)} {g:Nat} {a:Option Addr} {c E i j:Nat} {w W W2:World}
theorem Pa.sh_any (hG:Pa.Good ts) (n:Nat) (r:Except Nat (Mill.Tr × Nat)) (hr:Pa.short ts n i=some r) (hB:Pa.Tb g w) (hP:Pa.P ts g a c E i w) :
  Calls Tryz.prog 121 #[.pointer (some ⟨g,0,none⟩)] w (Pa.Ans ts g a c E r w):=by
 cases n with
 | zero=>simp [Pa.short] at hr
 | succ n=>exact Pa.short_any hG n r hr hB hP
theorem Pa.st_next (hG:Pa.Good ts) (n:Nat) (ihi:Pa.IfIs ts g a c E n) (ihb:Pa.BlkIs ts g a c E n):Pa.StIs ts g a c E (n+1):=by
 intro i w r hr hB hP
 have hT:Pa.Pt ts g a c E i w w:=⟨hP,Pa.Fr.refl _ _⟩
 have hgw:=hP.lt
 rw [Pa.istmt] at hr
 cases h1:Pa.st ts 2 [105,102] i with
 | false =>
  simp only [h1,Bool.false_eq_true,if_false] at hr
  cases h2:Pa.st ts 2 [119,104,105,108,101] i with
  | false =>
   simp only [h2,Bool.false_eq_true,if_false] at hr
   cases h3:Pa.short ts n i with
   | none=>rw [h3,Pa.bd_none] at hr;simp at hr
   | some q3 =>
    rw [h3] at hr
    have HE3:Hid (∀ W,Pa.Tb g W→Pa.P ts g a c E i W→Calls Tryz.prog 121 #[.pointer (some ⟨g,0,none⟩)] W (Pa.Ans ts g a c E q3 W)):=fun W hb hp=>Pa.sh_any hG n q3 h3 hb hp
    cases q3 with
    | error e1 =>
     rw [Pa.bd_err,Option.some.injEq] at hr
     subst hr
     have mk1:True:=trivial
     have mk2:True:=trivial
     have mk3:True:=trivial
     go_enter Tryz.func98,Tryz.ntmps98
     go_wp2_with (first | (have _t:=mk1;go_at_call 93;refine (Pa.takesW_any [105,102] hT.1).mono ?_;rintro e W1 ⟨rfl,hT'⟩;rw [h1] at hT' ⊢;replace hT:Pa.Pt ts g a c E i w W1:=hT.to hT';clear hT';clear mk1) | (have _t:=mk2;go_at_call 93;refine (Pa.takesW_any [119,104,105,108,101] hT.1).mono ?_;rintro e W1 ⟨rfl,hT'⟩;rw [h2] at hT' ⊢;replace hT:Pa.Pt ts g a c E i w W1:=hT.to hT';clear hT';clear mk2) | (have _t:=mk3;go_at_call 121;refine (HE3.out _ (hB.fr hT.2) hT.1).mono ?_;rintro e V ⟨rfl,hF'⟩;have hF:=hT.2.trans hF';unfold Pa.pan;clear mk3))
     exact ⟨rfl,rfl,hF⟩
    | ok x3 =>
     rw [Pa.bd_ok] at hr
     cases h4:Pa.st ts 5 [59] x3.2 with
     | false =>
      rw [Pa.nd_no h4,Pa.bd_err,Option.some.injEq] at hr
      subst hr
      have mk1:True:=trivial
      have mk2:True:=trivial
      have mk3:True:=trivial
      have mk4:True:=trivial
      go_enter Tryz.func98,Tryz.ntmps98
      go_wp2_with (first | (have _t:=mk1;go_at_call 93;refine (Pa.takesW_any [105,102] hT.1).mono ?_;rintro e W1 ⟨rfl,hT'⟩;rw [h1] at hT' ⊢;replace hT:Pa.Pt ts g a c E i w W1:=hT.to hT';clear hT';clear mk1) | (have _t:=mk2;go_at_call 93;refine (Pa.takesW_any [119,104,105,108,101] hT.1).mono ?_;rintro e W1 ⟨rfl,hT'⟩;rw [h2] at hT' ⊢;replace hT:Pa.Pt ts g a c E i w W1:=hT.to hT';clear hT';clear mk2) | (have _t:=mk3;go_at_call 121;refine (HE3.out _ (hB.fr hT.2) hT.1).mono ?_;rintro e V ⟨ty3,y3,rfl,hR3,hT'⟩;replace hR3:=hR3.mono hT.2.size;replace hT:=hT.to hT';clear hT';clear mk3) | (have _t:=mk4;go_at_call 67;refine (Pa.needsM_no [59] h4 hT.1).mono ?_;rintro e W1 ⟨rfl,hT'⟩;have hF:=(hT.to hT').2;unfold Pa.pan;clear mk4))
      exact ⟨rfl,rfl,hF⟩
     | true =>
      rw [Pa.nd_yes h4,Pa.bd_ok] at hr
      simp only at hr
      simp only [Option.some.injEq] at hr
      subst hr
      have mk1:True:=trivial
      have mk2:True:=trivial
      have mk3:True:=trivial
      have mk4:True:=trivial
      go_enter Tryz.func98,Tryz.ntmps98
      go_wp2_with (first | (have _t:=mk1;go_at_call 93;refine (Pa.takesW_any [105,102] hT.1).mono ?_;rintro e W1 ⟨rfl,hT'⟩;rw [h1] at hT' ⊢;replace hT:Pa.Pt ts g a c E i w W1:=hT.to hT';clear hT';clear mk1) | (have _t:=mk2;go_at_call 93;refine (Pa.takesW_any [119,104,105,108,101] hT.1).mono ?_;rintro e W1 ⟨rfl,hT'⟩;rw [h2] at hT' ⊢;replace hT:Pa.Pt ts g a c E i w W1:=hT.to hT';clear hT';clear mk2) | (have _t:=mk3;go_at_call 121;refine (HE3.out _ (hB.fr hT.2) hT.1).mono ?_;rintro e V ⟨ty3,y3,rfl,hR3,hT'⟩;replace hR3:=hR3.mono hT.2.size;replace hT:=hT.to hT';clear hT';clear mk3) | (have _t:=mk4;go_at_call 67;refine (Pa.needsM_ok [59] h4 hT.1).mono ?_;rintro e W1 ⟨rfl,hT'⟩;replace hR3:=hR3.fr hT'.2 hgw;replace hT:=hT.to hT';clear hT';clear mk4))
      go_ret
      exact ⟨_,_,rfl,hR3,hT⟩
  | true =>
   simp only [h2,if_true] at hr
   cases h5:Pa.rank ts n 1 (i+1) with
   | none=>rw [h5,Pa.bd_none] at hr;simp at hr
   | some q5 =>
    rw [h5] at hr
    have HE5:Hid (∀ W,Pa.Tb g W→Pa.P ts g a c E (i+1) W→Calls Tryz.prog 120 #[.pointer (some ⟨g,0,none⟩)] W (Pa.Ans ts g a c E q5 W)):=fun W hb hp=>Pa.val_any hG n q5 h5 hb hp
    cases q5 with
    | error e1 =>
     rw [Pa.bd_err,Option.some.injEq] at hr
     subst hr
     have mk1:True:=trivial
     have mk2:True:=trivial
     have mk5:True:=trivial
     go_enter Tryz.func98,Tryz.ntmps98
     go_wp2_with (first | (have _t:=mk1;go_at_call 93;refine (Pa.takesW_any [105,102] hT.1).mono ?_;rintro e W1 ⟨rfl,hT'⟩;rw [h1] at hT' ⊢;replace hT:Pa.Pt ts g a c E i w W1:=hT.to hT';clear hT';clear mk1) | (have _t:=mk2;go_at_call 93;refine (Pa.takesW_any [119,104,105,108,101] hT.1).mono ?_;rintro e W1 ⟨rfl,hT'⟩;rw [h2] at hT' ⊢;replace hT:Pa.Pt ts g a c E (i+1) w W1:=hT.to hT';clear hT';clear mk2) | (have _t:=mk5;go_at_call 120;refine (HE5.out _ (hB.fr hT.2) hT.1).mono ?_;rintro e V ⟨rfl,hF'⟩;have hF:=hT.2.trans hF';unfold Pa.pan;clear mk5))
     exact ⟨rfl,rfl,hF⟩
    | ok x5 =>
     rw [Pa.bd_ok] at hr
     cases h6:Pa.iblock ts n x5.2 with
     | none=>rw [h6,Pa.bd_none] at hr;simp at hr
     | some q6 =>
      rw [h6] at hr
      have HE6:Hid (∀ W,Pa.Tb g W→Pa.P ts g a c E x5.2 W→Calls Tryz.prog 71 #[.pointer (some ⟨g,0,none⟩)] W (Pa.AnsB ts g a c E q6 W)):=fun W hb hp=>ihb x5.2 W q6 h6 hb hp
      cases q6 with
      | error e1 =>
       rw [Pa.bd_err,Option.some.injEq] at hr
       subst hr
       have mk1:True:=trivial
       have mk2:True:=trivial
       have mk5:True:=trivial
       have mk6:True:=trivial
       go_enter Tryz.func98,Tryz.ntmps98
       go_wp2_with (first | (have _t:=mk1;go_at_call 93;refine (Pa.takesW_any [105,102] hT.1).mono ?_;rintro e W1 ⟨rfl,hT'⟩;rw [h1] at hT' ⊢;replace hT:Pa.Pt ts g a c E i w W1:=hT.to hT';clear hT';clear mk1) | (have _t:=mk2;go_at_call 93;refine (Pa.takesW_any [119,104,105,108,101] hT.1).mono ?_;rintro e W1 ⟨rfl,hT'⟩;rw [h2] at hT' ⊢;replace hT:Pa.Pt ts g a c E (i+1) w W1:=hT.to hT';clear hT';clear mk2) | (have _t:=mk5;go_at_call 120;refine (HE5.out _ (hB.fr hT.2) hT.1).mono ?_;rintro e V ⟨ty5,y5,rfl,hR5,hT'⟩;replace hR5:=hR5.mono hT.2.size;replace hT:=hT.to hT';clear hT';clear mk5) | (have _t:=mk6;go_at_call 71;refine (HE6.out _ (hB.fr hT.2) hT.1).mono ?_;rintro e V ⟨rfl,hF'⟩;have hF:=hT.2.trans hF';unfold Pa.pan;clear mk6))
       exact ⟨rfl,rfl,hF⟩
      | ok x6 =>
       rw [Pa.bd_ok] at hr
       simp only [Option.some.injEq] at hr
       subst hr
       have mk1:True:=trivial
       have mk2:True:=trivial
       have mk5:True:=trivial
       have mk6:True:=trivial
       go_enter Tryz.func98,Tryz.ntmps98
       go_wp2_with (first | (have _t:=mk1;go_at_call 93;refine (Pa.takesW_any [105,102] hT.1).mono ?_;rintro e W1 ⟨rfl,hT'⟩;rw [h1] at hT' ⊢;replace hT:Pa.Pt ts g a c E i w W1:=hT.to hT';clear hT';clear mk1) | (have _t:=mk2;go_at_call 93;refine (Pa.takesW_any [119,104,105,108,101] hT.1).mono ?_;rintro e W1 ⟨rfl,hT'⟩;rw [h2] at hT' ⊢;replace hT:Pa.Pt ts g a c E (i+1) w W1:=hT.to hT';clear hT';clear mk2) | (have _t:=mk5;go_at_call 120;refine (HE5.out _ (hB.fr hT.2) hT.1).mono ?_;rintro e V ⟨ty5,y5,rfl,hR5,hT'⟩;replace hR5:=hR5.mono hT.2.size;replace hT:=hT.to hT';clear hT';clear mk5) | (have _t:=mk6;go_at_call 71;refine (HE6.out _ (hB.fr hT.2) hT.1).mono ?_;rintro e V ⟨va6,vc6,rfl,hK6,hT'⟩;replace hK6:=hK6.mono hT.2.size;replace hR5:=hR5.fr hT'.2 hgw;replace hT:=hT.to hT';clear hT';clear mk6))
       go_ret
       exact ⟨_,_,rfl,Pa.rb_while hR5 hK6 (Nat.le_trans (Pa.iblock_len h6) (Nat.le_trans hT.1.le (Nat.le_trans hT.1.len (by decide)))),hT⟩
 | true =>
  simp only [h1,if_true] at hr
  cases h7:Pa.ifr ts n (i+1) with
  | none=>rw [h7,Pa.bd_none] at hr;simp at hr
  | some q7 =>
   rw [h7] at hr
   have HE7:Hid (∀ W,Pa.Tb g W→Pa.P ts g a c E (i+1) W→Calls Tryz.prog 119 #[.pointer (some ⟨g,0,none⟩)] W (Pa.AnsI ts g a c E q7 W)):=fun W hb hp=>ihi (i+1) W q7 h7 hb hp
   cases q7 with
   | error e1 =>
    rw [Pa.bd_err,Option.some.injEq] at hr
    subst hr
    have mk1:True:=trivial
    have mk7:True:=trivial
    go_enter Tryz.func98,Tryz.ntmps98
    go_wp2_with (first | (have _t:=mk1;go_at_call 93;refine (Pa.takesW_any [105,102] hT.1).mono ?_;rintro e W1 ⟨rfl,hT'⟩;rw [h1] at hT' ⊢;replace hT:Pa.Pt ts g a c E (i+1) w W1:=hT.to hT';clear hT';clear mk1) | (have _t:=mk7;go_at_call 119;refine (HE7.out _ (hB.fr hT.2) hT.1).mono ?_;rintro e V ⟨rfl,hF'⟩;have hF:=hT.2.trans hF';unfold Pa.pan;clear mk7))
    exact ⟨rfl,rfl,hF⟩
   | ok x7 =>
    rw [Pa.bd_ok] at hr
    simp only [Option.some.injEq] at hr
    subst hr
    have mk1:True:=trivial
    have mk7:True:=trivial
    go_enter Tryz.func98,Tryz.ntmps98
    go_wp2_with (first | (have _t:=mk1;go_at_call 93;refine (Pa.takesW_any [105,102] hT.1).mono ?_;rintro e W1 ⟨rfl,hT'⟩;rw [h1] at hT' ⊢;replace hT:Pa.Pt ts g a c E (i+1) w W1:=hT.to hT';clear hT';clear mk1) | (have _t:=mk7;go_at_call 119;refine (HE7.out _ (hB.fr hT.2) hT.1).mono ?_;rintro e V ⟨u7,v7,z7,rfl,hR7,hT'⟩;replace hR7:=hR7.mono hT.2.size;replace hT:=hT.to hT';clear hT';clear mk7))
    go_ret
    exact ⟨_,_,rfl,hR7,hT⟩
structure Pa.Sis (ts:List (Mill.Piece × Nat)) (g:Nat) (a:Option Addr) (c E n:Nat):Prop where
 blk:Pa.BlkIs ts g a c E n
 ifr:Pa.IfIs ts g a c E n
 st:Pa.StIs ts g a c E n
theorem Pa.s_all (hG:Pa.Good ts) (n:Nat):∀ m,m≤n→Pa.Sis ts g a c E m:=by
 induction n with
 | zero =>
  intro m hm
  obtain rfl:m=0:=by omega
  exact ⟨fun i w r h=>by simp [Pa.iblock] at h,fun i w r h=>by simp [Pa.ifr] at h,fun i w r h=>by simp [Pa.istmt] at h⟩
 | succ n ih =>
  intro m hm
  by_cases e:m≤n
  ·exact ih m e
  obtain rfl:m=n+1:=by omega
  have hn:=ih n (Nat.le_refl _)
  exact ⟨Pa.blk_next n fun m h=>(ih m h).st,Pa.if_next hG n hn.ifr hn.blk,Pa.st_next hG n hn.ifr hn.blk⟩
theorem Pa.bl_any (hG:Pa.Good ts) (n:Nat) (r:Except Nat (List Mill.Tr × Nat)) (hr:Pa.iblock ts n i=some r) (hB:Pa.Tb g w) (hP:Pa.P ts g a c E i w) :
  Calls Tryz.prog 71 #[.pointer (some ⟨g,0,none⟩)] w (Pa.AnsB ts g a c E r w):=(Pa.s_all hG n n (Nat.le_refl _)).blk i w r hr hB hP
end Go.Proofs.YtlcckaffhnjneaaGreatDoor
