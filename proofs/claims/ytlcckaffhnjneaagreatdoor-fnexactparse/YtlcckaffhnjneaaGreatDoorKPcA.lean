import Derived.Test.YtlcckaffhnjneaaGreatDoorKPaA
set_option maxHeartbeats 1000000
namespace Go.Proofs.YtlcckaffhnjneaaGreatDoor
open Go.RowKit
structure Pa.P (ts:List (Mill.Piece × Nat)) (g:Nat) (a:Option Addr) (c E:Nat) (i:Nat) (w:World):Prop where
 blk:w.heap[g]? = some (.cells #[.slice a ts.length c,.int .i64 (i:Int),.int .i64 (E:Int)] 47)
 tks:Pa.Tks w a ts g
 le:i≤ts.length
 len:ts.length≤12000
 cap:ts.length≤c
variable {ts:List (Mill.Piece × Nat)} {g:Nat} {a:Option Addr} {c E i:Nat} {w:World}
def Pa.tat (ts:List (Mill.Piece × Nat)) (E i:Nat):Nat:=match ts[i]? with | some q=>q.2 | none=>E
theorem Pa.P.lt (h:Pa.P ts g a c E i w):g < w.heap.size:=(Array.getElem?_eq_some_iff.1 h.blk).1
theorem Pa.P.cells (h:Pa.P ts g a c E i w):w.cell? ⟨g,0,none⟩=some (.slice a ts.length c)∧w.cell? ⟨g,1,none⟩=some (.int .i64 (i:Int))∧w.cell? ⟨g,2,none⟩=some (.int .i64 (E:Int))∧w.frozen? ⟨g,1,none⟩=false:=by
 have hb:=h.blk
 refine ⟨?_, ?_, ?_, ?_⟩
 ·rw [Lib.cell_of_heap hb];rfl
 ·rw [Lib.cell_of_heap hb];rfl
 ·rw [Lib.cell_of_heap hb];rfl
 ·simp [World.frozen?,hb]
theorem Pa.P.below {w':World} (h:Pa.P ts g a c E i w) (hb:Below w.heap.size w w'):Pa.P ts g a c E i w' :=
 ⟨(hb.block g h.lt).trans h.blk,h.tks.keep fun k hk=>hb.block k (Nat.lt_trans hk h.lt),h.le,h.len,h.cap⟩
theorem Pa.P.nx (h:Pa.P ts g a c E i w) (hi:i < ts.length):Pa.P ts g a c E (i+1) (w.setCell ⟨g,1,none⟩ (.int .i64 ((i:Int)+1))):=by
 refine ⟨?_,h.tks.keep fun k hk=>Below.heap_setCell _ _ _ _ (by simp only;omega),hi,h.len,h.cap⟩
 have:=h.blk
 simp [World.setCell,Array.getElem?_modify,this]
theorem Pa.P.tok (h:Pa.P ts g a c E i w) (hp:i < ts.length):∃ b,a=some ⟨b,0,none⟩∧b < g∧w.cell? ⟨b,i * 5,none⟩=some (.int .i64 (Pa.kd ts i))∧w.cell? ⟨b,i * 5+1,none⟩=some (.string (Mill.ba (Pa.tx ts i)))∧w.cell? ⟨b,i * 5+2,none⟩=some (.int .i64 (Pa.ty ts i))∧w.cell? ⟨b,i * 5+3,none⟩=some (.int .i64 (Pa.nm ts i))∧w.cell? ⟨b,i * 5+4,none⟩=some (.int .i64 (Pa.tat ts E i:Int)):=by
 obtain ⟨b,ha,hb,hc⟩:=h.tks i hp
 have e:ts[i]? = some ts[i]:=List.getElem?_eq_getElem hp
 refine ⟨b,ha,hb, ?_, ?_, ?_, ?_, ?_⟩
 ·have:=hc 0 _ rfl;simpa [Pa.kd,e] using this
 ·have:=hc 1 _ rfl;simpa [Pa.tx,e] using this
 ·have:=hc 2 _ rfl;simpa [Pa.ty,e] using this
 ·have:=hc 3 _ rfl;simpa [Pa.nm,e] using this
 ·have:=hc 4 _ rfl;simpa [Pa.tat,e] using this
theorem Pa.P.sum (h:Pa.P ts g a c E i w):wrap64 ((i:Int)+1)=(i:Int)+1∧IntKind.i64.wrap ((i:Int)+1)=(i:Int)+1:=by
 have h1:=h.le
 have h2:=h.len
 have e:wrap64 ((i:Int)+1)=(i:Int)+1:=by rw [wrap64];omega
 exact ⟨e,(IntWalk.i64_left _).trans e⟩
def Pa.tokV (ts:List (Mill.Piece × Nat)) (E i:Nat):Value:=.agg #[.int .i64 (Pa.kd ts i),.string (Mill.ba (Pa.tx ts i)),.int .i64 (Pa.ty ts i),.int .i64 (Pa.nm ts i),.int .i64 (Pa.tat ts E i:Int)]
theorem Pa.tok_end (h:¬ i < ts.length):Pa.kd ts i=0∧Pa.tx ts i=[]∧Pa.ty ts i=0∧Pa.nm ts i=0∧Pa.tat ts E i=E:=by
 have e:ts[i]? = none:=by simp;omega
 simp [Pa.kd,Pa.tx,Pa.ty,Pa.nm,Pa.tat,e]
theorem Pa.res_tok (w:World):∃ W0,w.alloc (.cells #[.int .i64 0,.string ⟨#[]⟩,.int .i64 0,.int .i64 0,.int .i64 0] 41)=W0∧Below w.heap.size w W0∧W0.cell? ⟨w.heap.size,0,none⟩=some (.int .i64 0)∧W0.cell? ⟨w.heap.size,1,none⟩=some (.string ⟨#[]⟩)∧W0.cell? ⟨w.heap.size,2,none⟩=some (.int .i64 0)∧W0.cell? ⟨w.heap.size,3,none⟩=some (.int .i64 0)∧W0.cell? ⟨w.heap.size,4,none⟩=some (.int .i64 0)∧∀ k,W0.frozen? ⟨w.heap.size,k,none⟩=false:=by
 refine ⟨_,rfl,(Below.refl _ _).alloc (Nat.le_refl _) _, ?_, ?_, ?_, ?_, ?_,fun k => ?_⟩ <;> simp [go_sem]
theorem Pa.set5 {W:World} {n:Nat} {x0 x1 x2 x3 x4 v0 v1 v2 v3 v4:Value} (r0:W.cell? ⟨n,0,none⟩=some x0) (r1:W.cell? ⟨n,1,none⟩=some x1) (r2:W.cell? ⟨n,2,none⟩=some x2) (r3:W.cell? ⟨n,3,none⟩=some x3) (r4:W.cell? ⟨n,4,none⟩=some x4) :
  (((((W.setCell ⟨n,0,none⟩ v0).setCell ⟨n,1,none⟩ v1).setCell ⟨n,2,none⟩ v2).setCell ⟨n,3,none⟩ v3).setCell ⟨n,4,none⟩ v4).cell? ⟨n,0,none⟩=some v0∧(((((W.setCell ⟨n,0,none⟩ v0).setCell ⟨n,1,none⟩ v1).setCell ⟨n,2,none⟩ v2).setCell ⟨n,3,none⟩ v3).setCell ⟨n,4,none⟩ v4).cell? ⟨n,1,none⟩=some v1∧(((((W.setCell ⟨n,0,none⟩ v0).setCell ⟨n,1,none⟩ v1).setCell ⟨n,2,none⟩ v2).setCell ⟨n,3,none⟩ v3).setCell ⟨n,4,none⟩ v4).cell? ⟨n,2,none⟩=some v2∧(((((W.setCell ⟨n,0,none⟩ v0).setCell ⟨n,1,none⟩ v1).setCell ⟨n,2,none⟩ v2).setCell ⟨n,3,none⟩ v3).setCell ⟨n,4,none⟩ v4).cell? ⟨n,3,none⟩=some v3∧(((((W.setCell ⟨n,0,none⟩ v0).setCell ⟨n,1,none⟩ v1).setCell ⟨n,2,none⟩ v2).setCell ⟨n,3,none⟩ v3).setCell ⟨n,4,none⟩ v4).cell? ⟨n,4,none⟩=some v4:=by
 have o:∀ (V:World) (j k:Nat) (v:Value),j≠k→(V.setCell ⟨n,k,none⟩ v).cell? ⟨n,j,none⟩=V.cell? ⟨n,j,none⟩:=fun V j k v h=>World.cell?_setCell_other _ _ _ _ (by simp;try omega)
 refine ⟨?_, ?_, ?_, ?_, ?_⟩
 ·rw [o _ _ _ _ (by decide),o _ _ _ _ (by decide),o _ _ _ _ (by decide),o _ _ _ _ (by decide)];exact World.cell?_setCell_same _ _ _ r0
 ·rw [o _ _ _ _ (by decide),o _ _ _ _ (by decide),o _ _ _ _ (by decide)];exact World.cell?_setCell_same _ _ _ (by rw [o _ _ _ _ (by decide)];exact r1)
 ·rw [o _ _ _ _ (by decide),o _ _ _ _ (by decide)];exact World.cell?_setCell_same _ _ _ (by rw [o _ _ _ _ (by decide),o _ _ _ _ (by decide)];exact r2)
 ·rw [o _ _ _ _ (by decide)];exact World.cell?_setCell_same _ _ _ (by rw [o _ _ _ _ (by decide),o _ _ _ _ (by decide),o _ _ _ _ (by decide)];exact r3)
 ·exact World.cell?_setCell_same _ _ _ (by rw [o _ _ _ _ (by decide),o _ _ _ _ (by decide),o _ _ _ _ (by decide),o _ _ _ _ (by decide)];exact r4)
theorem Pa.below5 {W:World} {v0 v1 v2 v3 v4:Value} (h:Below w.heap.size w W):Below w.heap.size w (((((W.setCell ⟨w.heap.size,0,none⟩ v0).setCell ⟨w.heap.size,1,none⟩ v1).setCell ⟨w.heap.size,2,none⟩ v2).setCell ⟨w.heap.size,3,none⟩ v3).setCell ⟨w.heap.size,4,none⟩ v4) :=
 ((((h.setCell (p:=⟨w.heap.size,0,none⟩) (Nat.le_refl _) _).setCell (p:=⟨w.heap.size,1,none⟩) (Nat.le_refl _) _).setCell (p:=⟨w.heap.size,2,none⟩) (Nat.le_refl _) _).setCell (p:=⟨w.heap.size,3,none⟩) (Nat.le_refl _) _).setCell (p:=⟨w.heap.size,4,none⟩) (Nat.le_refl _) _
theorem Pa.next_end (hp:¬ i < ts.length) (hP:Pa.P ts g a c E i w) :
  Calls Tryz.prog 95 #[.pointer (some ⟨g,0,none⟩)] w fun e w'=>e = .returned (Pa.tokV ts E i)∧Below w.heap.size w w':=by
 obtain ⟨W0,hW0,hb0,r0,r1,r2,r3,r4,rf⟩:=Pa.res_tok w
 have hP0:=hP.below hb0
 obtain ⟨c0,c1,c2,_⟩:=hP0.cells
 obtain ⟨e1,e2,e3,e4,e5⟩:=Pa.tok_end (E:=E) hp
 have HT:Hid (Pa.tokV ts E i = .agg #[.int .i64 0,.string ⟨#[]⟩,.int .i64 0,.int .i64 0,.int .i64 (E:Int)]):=by simp [Hid,Pa.tokV,e1,e2,e3,e4,e5,Mill.ba]
 rw [HT.out]
 have hd:¬ (i:Int) < (ts.length:Int):=by omega
 clear e1 e2 e3 e4 e5 HT
 go_enter Tryz.func95,Tryz.ntmps95
 go_wp2_with fail
 go_quiet (fail)
 go_wp2_with fail
 obtain ⟨W1,hW1⟩:∃ W,W0.drewN nq=W:=⟨_,rfl⟩
 have B1:Below w.heap.size w W1:=by rw [← hW1];exact Pa.below_drewN _ hb0
 have ec:∀ p,W1.cell? p=W0.cell? p:=by rw [← hW1];exact fun _=>rfl
 have ef:∀ p,W1.frozen? p=W0.frozen? p:=by rw [← hW1];exact fun _=>rfl
 rw [← ec] at r0 r1 r2 r3 r4
 rw [hW1]
 obtain ⟨y0,y1,y2,y3,y4⟩:=Pa.set5 (v0:=.int .i64 0) (v1:=.string ⟨#[]⟩) (v2:=.int .i64 0) (v3:=.int .i64 0) (v4:=.int .i64 (E:Int)) r0 r1 r2 r3 r4
 have hbE:=Pa.below5 (v0:=.int .i64 0) (v1:=.string ⟨#[]⟩) (v2:=.int .i64 0) (v3:=.int .i64 0) (v4:=.int .i64 (E:Int)) B1
 obtain ⟨W2,hW2⟩:∃ W2,(((((W1.setCell ⟨w.heap.size,0,none⟩ (.int .i64 0)).setCell ⟨w.heap.size,1,none⟩ (.string ⟨#[]⟩)).setCell ⟨w.heap.size,2,none⟩ (.int .i64 0)).setCell ⟨w.heap.size,3,none⟩ (.int .i64 0)).setCell ⟨w.heap.size,4,none⟩ (.int .i64 (E:Int)))=W2:=⟨_,rfl⟩
 rw [hW2] at y0 y1 y2 y3 y4 hbE ⊢
 clear hW2
 refine bodyPost_ret (v:=.agg #[.int .i64 0,.string ⟨#[]⟩,.int .i64 0,.int .i64 0,.int .i64 (E:Int)]) (by simp [results,Tryz.results95,go_sem,y0,y1,y2,y3,y4]) rfl ?_
 exact ⟨rfl,hbE⟩
theorem Pa.next_tok (hp:i < ts.length) (hP:Pa.P ts g a c E i w) :
  Calls Tryz.prog 95 #[.pointer (some ⟨g,0,none⟩)] w fun e w'=>e = .returned (Pa.tokV ts E i)∧Below w.heap.size w w':=by
 obtain ⟨W0,hW0,hb0,r0,r1,r2,r3,r4,rf⟩:=Pa.res_tok w
 have hP0:=hP.below hb0
 obtain ⟨c0,c1,c2,_⟩:=hP0.cells
 obtain ⟨b,rfl,hbg,k0,k1,k2,k3,k4⟩:=hP0.tok hp
 unfold Pa.tokV
 have hlen:=hP.len
 have hcap:=hP.cap
 have hpn:(i:Int) < (ts.length:Int):=by omega
 have hpz:(0:Int)≤(i:Int):=by omega
 generalize Pa.kd ts i=K at *
 generalize Mill.ba (Pa.tx ts i)=X at *
 generalize Pa.ty ts i=Y at *
 generalize Pa.nm ts i=Z at *
 generalize ((Pa.tat ts E i:Nat):Int)=Q at *
 go_enter Tryz.func95,Tryz.ntmps95
 go_wp2_with fail
 go_quiet (fail)
 go_wp2_with fail
 obtain ⟨W1,hW1⟩:∃ W,W0.drewN nq=W:=⟨_,rfl⟩
 have B1:Below w.heap.size w W1:=by rw [← hW1];exact Pa.below_drewN _ hb0
 have ec:∀ p,W1.cell? p=W0.cell? p:=by rw [← hW1];exact fun _=>rfl
 have ef:∀ p,W1.frozen? p=W0.frozen? p:=by rw [← hW1];exact fun _=>rfl
 rw [← ec] at r0 r1 r2 r3 r4
 rw [hW1]
 rw [← ec] at c0 c1 k0 k1 k2 k3 k4
 have rf1:∀ k,W1.frozen? ⟨w.heap.size,k,none⟩=false:=fun k=>by rw [ef];exact rf k
 have hgw:g < w.heap.size:=hP.lt
 have HS:Hid (∀ V,Below w.heap.size w V→V.cell? ⟨g,0,none⟩=some (.slice (some ⟨b,0,none⟩) ts.length c)∧V.cell? ⟨g,1,none⟩=some (.int .i64 (i:Int))∧V.cell? ⟨b,i * 5,none⟩=some (.int .i64 K)∧V.cell? ⟨b,i * 5+1,none⟩=some (.string X)∧V.cell? ⟨b,i * 5+2,none⟩=some (.int .i64 Y)∧V.cell? ⟨b,i * 5+3,none⟩=some (.int .i64 Z)∧V.cell? ⟨b,i * 5+4,none⟩=some (.int .i64 Q)):=by
  intro V hV
  have hx:∀ b' o,b' < w.heap.size→V.cell? ⟨b',o,none⟩=W1.cell? ⟨b',o,none⟩:=fun b' o h=>(hV.cell (p:=⟨b',o,none⟩) h).trans (B1.cell (p:=⟨b',o,none⟩) h).symm
  have hbw:b < w.heap.size:=by omega
  exact ⟨(hx _ _ hgw).trans c0,(hx _ _ hgw).trans c1,(hx _ _ hbw).trans k0,(hx _ _ hbw).trans k1,(hx _ _ hbw).trans k2,(hx _ _ hbw).trans k3,(hx _ _ hbw).trans k4⟩
 clear hW1 ec ef rf hW0 hb0 hP0
 go_region_held3 (fun V=>V.cell? ⟨g,0,none⟩=some (.slice (some ⟨b,0,none⟩) ts.length c)∧V.cell? ⟨g,1,none⟩=some (.int .i64 (i:Int))∧V.cell? ⟨b,i * 5,none⟩=some (.int .i64 K)∧V.cell? ⟨b,i * 5+1,none⟩=some (.string X)∧V.cell? ⟨b,i * 5+2,none⟩=some (.int .i64 Y)∧V.cell? ⟨b,i * 5+3,none⟩=some (.int .i64 Z)∧V.cell? ⟨b,i * 5+4,none⟩=some (.int .i64 Q)) (exact HS.out _ (by repeat' (first | exact B1 | apply Below.drew | apply Pa.below_drewN | refine Below.alloc ?_ ?_ _ | refine Below.setCell ?_ ?_ _ | exact Nat.le_refl _ | (simp;done) | (simp;omega)))) (fail)
 go_wp2_with fail
 obtain ⟨y0,y1,y2,y3,y4⟩:=Pa.set5 (v0:=.int .i64 K) (v1:=.string X) (v2:=.int .i64 Y) (v3:=.int .i64 Z) (v4:=.int .i64 Q) r0 r1 r2 r3 r4
 have hbE:=Pa.below5 (v0:=.int .i64 K) (v1:=.string X) (v2:=.int .i64 Y) (v3:=.int .i64 Z) (v4:=.int .i64 Q) B1
 obtain ⟨W2,hW2⟩:∃ W2,(((((W1.setCell ⟨w.heap.size,0,none⟩ (.int .i64 K)).setCell ⟨w.heap.size,1,none⟩ (.string X)).setCell ⟨w.heap.size,2,none⟩ (.int .i64 Y)).setCell ⟨w.heap.size,3,none⟩ (.int .i64 Z)).setCell ⟨w.heap.size,4,none⟩ (.int .i64 Q))=W2:=⟨_,rfl⟩
 rw [hW2] at y0 y1 y2 y3 y4 hbE ⊢
 clear hW2
 refine bodyPost_ret (v:=.agg #[.int .i64 K,.string X,.int .i64 Y,.int .i64 Z,.int .i64 Q]) (by simp [results,Tryz.results95,go_sem,y0,y1,y2,y3,y4]) rfl ?_
 exact ⟨rfl,Pa.below_drew hbE⟩
end Go.Proofs.YtlcckaffhnjneaaGreatDoor
