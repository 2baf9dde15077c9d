import Derived.Test.YtjlaedokfbcbpaaGreatDoorKTkN
set_option maxRecDepth 100000
set_option maxHeartbeats 8000000
namespace Go.Proofs.YtjlaedokfbcbpaaGreatDoor
open Go.RowKit Proofs.Tryz
theorem Tk.spoil_7 : Tk.Case 7:=by
 intro R P u r A g c n k t w w4 K b hP aa C d;intros;exact DdTkN6x10
theorem DeTkN8x76 {P:Prop} (h:P:=by
 try simp[Act.put]
 refine Tr 11 rfl fun KK d=>?_
 go_simp
 refine d.out _ _ (T) fun _=>?_
 clear d
 try simp[Act.put]
 refine Tk 12 (.pointer (some (OK g (m * 6)))) ?_
 try simp[Act.put]
 refine Tr 13 rfl fun KK d=>?_
 go_simp
 refine d.out _ _ (p5) fun _=>?_
 clear d
 try simp[Act.put]
 refine wpAnyH_done OE ?_ _
 go_wp2_with fail
 exact bodyPost_ret (v:=.agg #[.slice (some (OK g 0)) c l]) (by simp[results,results28,go_sem,Q]) rfl q.out
 ):P:=h
theorem DdTkN8x10 {P:Prop} (h:P:=by
 have J:¬ ((c:Int)=0):=OC
 have af:((c:Int) == 0)=false:=by simpa using J
 have ai:r < w4.heap.size:=(Array.getElem?_eq_some_iff.1 b.out.res).1
 conv at d=>enter [a,w'];arg 1;arg 2;whnf
 conv=>arg 2;whnf
 go_wp2_with fail
 go_loopw [11] (fun ti wr => ∃ j:Int,(0<=j/\j<=(c:Int))/\ti = .int .i64 j/\wr=w4) (fun ti _=>((c:Int) - intOf ti).toNat)
 case atStart=>exact⟨0,by omega,rfl,rfl⟩
 case round =>
  obtain⟨j,hj,rfl,rfl⟩:=hrel
  have ag:wrap64 (j+1)=j+1:=IntWalk.wrap64_in _ OC
  by_cases hlt:j < (c:Int)
  ·have ah:wrap64 ((k:Int)+j)=(k:Int)+j:=IntWalk.wrap64_in _ OC
   obtain⟨m,ae,u⟩:∃ m:Nat,((k:Int)+j) % (c:Int)=(m:Int)/\m < c:=by obtain⟨m,h1,h2⟩:=Tk.mod_nat (show 0<=(k:Int)+j by omega) (show (0:Int) < (c:Int) by omega);exact⟨m,h1,by simpa using h2⟩
   obtain⟨o5,o6,o7,_,o9,d5,H,x0,x1,x2,x3,x4,x5⟩:=b.out.cells
   clear o9 x0 x1 x2 x3 x4 x5
   obtain⟨d6,ad,⟨z0,z1,z2,z3,z4,z5⟩,Y⟩:=Tk.Row_cells b.out.row u
   clear Y
   go_wp2_with fail
   all_goals first|exact⟨⟨j+1,by omega,rfl,trivial⟩,by simp only[intOf];omega⟩|skip
   all_goals
    have X:D7 R (P+1+1+1) p wr.drew:=b.out.dw.below (OO _).drew
    obtain⟨ac,_,_,_,_,_⟩:=(b.out.below (Tk.up1 wr (.cells #[.int .i64 1,.int .i64 0,.int .i64 7,.int .i64 1,.string ⟨#[]⟩,.int .i64 0,.int .i64 2,.int .i64 0,.int .i64 0,.int .i64 0,.string ⟨#[115]⟩,.int .i64 0,.int .i64 3,.int .i64 0,.int .i64 0,.int .i64 0,.string ⟨#[]⟩,.int .i64 0,.int .i64 14,.int .i64 0,.int .i64 0,.int .i64 0,.string ⟨#[]⟩,.int .i64 0] 62))).cells
    have V:D7 R (P+1+1+1) p (wr.alloc (.cells #[.int .i64 1,.int .i64 0,.int .i64 7,.int .i64 1,.string ⟨#[]⟩,.int .i64 0,.int .i64 2,.int .i64 0,.int .i64 0,.int .i64 0,.string ⟨#[115]⟩,.int .i64 0,.int .i64 3,.int .i64 0,.int .i64 0,.int .i64 0,.string ⟨#[]⟩,.int .i64 0,.int .i64 14,.int .i64 0,.int .i64 0,.int .i64 0,.string ⟨#[]⟩,.int .i64 0] 62)).drew:=b.out.dw.below (Tk.up1 wr _).drew
    have aa:wr.drew.cell? (OK s 0)=some (.slice (some (OK g 0)) c l):=o5
    have M:(wr.alloc (.cells #[.int .i64 1,.int .i64 0,.int .i64 7,.int .i64 1,.string ⟨#[]⟩,.int .i64 0,.int .i64 2,.int .i64 0,.int .i64 0,.int .i64 0,.string ⟨#[115]⟩,.int .i64 0,.int .i64 3,.int .i64 0,.int .i64 0,.int .i64 0,.string ⟨#[]⟩,.int .i64 0,.int .i64 14,.int .i64 0,.int .i64 0,.int .i64 0,.string ⟨#[]⟩,.int .i64 0] 62)).drew.cell? (OK s 0)=some (.slice (some (OK g 0)) c l):=ac
    refine wp_region_held_drew (S:=(fun W=>W.cell? (OK s 0)=some (.slice (some (OK g 0)) c l))) OE (aa) fun _=>?_
    refine Tk 0 (.pointer (some (OK s 0))) ?_
    try simp[Act.put]
    refine Tk 1 (.slice (some (OK g 0)) c l) ?_
    try simp[Act.put]
    refine Tk 2 (.int .i64 (m:Int)) ?_
    try simp[Act.put]
    refine Tk 3 (.agg #[.int .i64 1,.int .i64 0,.int .i64 7,.int .i64 1,.string ⟨#[]⟩,.int .i64 0]) ?_
    try simp[Act.put]
    refine Tk 4 (.agg #[.int .i64 2,.int .i64 0,.int .i64 0,.int .i64 0,.string ⟨#[115]⟩,.int .i64 0]) ?_
    try simp[Act.put]
    refine Tk 5 (.agg #[.int .i64 3,.int .i64 0,.int .i64 0,.int .i64 0,.string ⟨#[]⟩,.int .i64 0]) ?_
    try simp[Act.put]
    refine Tk 6 (.agg #[.int .i64 14,.int .i64 0,.int .i64 0,.int .i64 0,.string ⟨#[]⟩,.int .i64 0]) ?_
    try simp[Act.put]
    refine Tk 8 (.pointer (some (OK R 0))) ?_
    try simp[Act.put]
    refine wpAnyH_ready (rs:=[7,9]) OE OF ?_
    refine AllReadyH.cons rfl (fun KK d => ?_) (AllReadyH.cons rfl (fun KK d => ?_) AllReadyH.nil)
    ·go_simp
     refine d.out _ _ (M) fun _=>?_
     clear d
     try simp[Act.put]
     refine Tr 9 rfl fun KK d=>?_
     go_simp
     go_at_call 26
     refine(Kl 4 V OC OD OD).mono ?_
     rintro e w6 ⟨x,rfl,hx,i,f⟩
     have y:Hid (Tk.Sp R (P+1+1+1+1) p w w6 r s O g c l):=b.out.draw i ((Ak.of_below (Tk.up1 wr _).drew).trans f)
     obtain⟨d8,t,⟨y0,y1,y2,y3,y4,y5⟩,o⟩:=Tk.Row_cells (As.fw (w:=(wr.alloc (.cells #[.int .i64 1,.int .i64 0,.int .i64 7,.int .i64 1,.string ⟨#[]⟩,.int .i64 0,.int .i64 2,.int .i64 0,.int .i64 0,.int .i64 0,.string ⟨#[115]⟩,.int .i64 0,.int .i64 3,.int .i64 0,.int .i64 0,.int .i64 0,.string ⟨#[]⟩,.int .i64 0,.int .i64 14,.int .i64 0,.int .i64 0,.int .i64 0,.string ⟨#[]⟩,.int .i64 0] 62)).drew) (Tk.four_row wr) f) (show x < 4 by omega)
     clear o
     obtain⟨T,_,_,_,_,_⟩:=y.out.cells
     clear i f
     obtain⟨Y1,Y2,Y3,Y4,Y5,A,_,_,_,_,_,_,B,C,D,E,F,G,z0,z1,z2,z3,z4,z5,g0,g1,g2,g3,g4,g5,n⟩:=y.out.six u t
     obtain⟨p5,Q,p7,_,_,_⟩:=n.cells
     have q:Hid (Tk.WPost R (P+5) 300000000 p w (.returned (.agg #[.slice (some (OK g 0)) c l])) (A.setCell (OK r 0) (.slice (some (OK g 0)) c l))):=(n.mono OC).fin
     clear n
     go_wp2
     refine d.out _ _ (T) fun _=>?_
     clear d
     try simp[Act.put]
     refine Tk 10 (.pointer (some (OK wr.heap.size (x * 6)))) ?_
     exact DeTkN8x76
    ·go_simp
     go_at_call 26
     refine(Kl 4 X OC OD OD).mono ?_
     rintro e N ⟨x,rfl,hx,i,f⟩
     have y:Hid (Tk.Sp R (P+1+1+1+1) p w N r s O g c l):=b.out.draw i ((Ak.of_below (OO _).drew).trans f)
     obtain⟨ab,_,_,_,_,_⟩:=y.out.cells
     obtain⟨d8,t,⟨y0,y1,y2,y3,y4,y5⟩,o⟩:=Tk.Row_cells (Tk.four_row N) (show x < 4 by omega)
     clear o
     obtain⟨w6,L⟩:∃ W,N.alloc (.cells #[.int .i64 1,.int .i64 0,.int .i64 7,.int .i64 1,.string ⟨#[]⟩,.int .i64 0,.int .i64 2,.int .i64 0,.int .i64 0,.int .i64 0,.string ⟨#[115]⟩,.int .i64 0,.int .i64 3,.int .i64 0,.int .i64 0,.int .i64 0,.string ⟨#[]⟩,.int .i64 0,.int .i64 14,.int .i64 0,.int .i64 0,.int .i64 0,.string ⟨#[]⟩,.int .i64 0] 62)=W:=⟨_,rfl⟩
     have z:Hid (Tk.Sp R (P+1+1+1+1) p w w6 r s O g c l):=(by rw[<- L];exact y.out.below (Tk.up1 N _))
     rw[L]at y0 y1 y2 y3 y4 y5
     obtain⟨T,_,_,_,_,_⟩:=z.out.cells
     clear i f
     obtain⟨Y1,Y2,Y3,Y4,Y5,A,_,_,_,_,_,_,B,C,D,E,F,G,z0,z1,z2,z3,z4,z5,g0,g1,g2,g3,g4,g5,n⟩:=z.out.six u t
     obtain⟨p5,Q,p7,_,_,_⟩:=n.cells
     have q:Hid (Tk.WPost R (P+5) 300000000 p w (.returned (.agg #[.slice (some (OK g 0)) c l])) (A.setCell (OK r 0) (.slice (some (OK g 0)) c l))):=(n.mono OC).fin
     clear n
     go_wp2
     refine d.out _ _ (ab) fun _=>?_
     clear d
     try simp[Act.put]
     refine Tr 7 rfl fun KK d=>?_
     go_simp
     refine d.out _ _ (T) fun _=>?_
     clear d
     try simp[Act.put]
     refine Tk 10 (.pointer (some (OK N.heap.size (x * 6)))) ?_
     exact DeTkN8x76
  ·obtain⟨o5,o6,o7,o8,o9,d5,H,x0,x1,x2,x3,x4,x5⟩:=b.out.cells
   clear o9 o8
   obtain⟨Y1,Y2,Y3,Y4,Y5,A,_,_,_,_,_,_,B,C,D,E,F,G,z0,z1,z2,z3,z4,z5,g0,g1,g2,g3,g4,g5,n⟩:=b.out.six I H
   obtain⟨p5,Q,p7,_,_,_⟩:=n.cells
   have U:Hid (Tk.WPost R (P+5) 300000000 p w (.returned (.agg #[.slice (some (OK g 0)) c l])) (A.setCell (OK r 0) (.slice (some (OK g 0)) c l))):=(n.mono OC).fin
   clear n
   go_wp2_with fail
   exact bodyPost_ret (v:=.agg #[.slice (some (OK g 0)) c l]) (by simp[results,results28,go_sem,Q]) rfl U.out
 ):P:=h
theorem Tk.spoil_8 : Tk.Case 8:=by
 intro R P r s O g c l k p w w4 K b hP Z I d;intros;exact DdTkN8x10
end Go.Proofs.YtjlaedokfbcbpaaGreatDoor
