import Derived.Test.YtjlaedokfbcbpaaGreatDoorKTkN
set_option maxRecDepth 100000
set_option maxHeartbeats 8000000
namespace Go.Proofs.YtjlaedokfbcbpaaGreatDoor
open Go.RowKit Proofs.Tryz
theorem DdTkN10x91 {P:Prop} (h:P:=by
 obtain⟨p5,p6,p7,_,_,_⟩:=L.cells
 have u:Hid (Tk.WPost R (P+5) 300000000 s w (.returned (.agg #[.slice (some (OK g 0)) c o])) (Y0.setCell (OK t 0) (.slice (some (OK g 0)) c o))):=(L.mono OC).fin
 clear L
 go_wp2_with fail
 exact bodyPost_ret (v:=.agg #[.slice (some (OK g 0)) c o]) (by simp[results,results28,go_sem,p6]) rfl u.out
 ):P:=h
theorem DeTkN10x78 {P:Prop} (h:P:=by
 try simp[Act.put]
 refine Tr 7 rfl fun KK f=>?_
 go_simp
 refine f.out _ _ (H) fun _=>?_
 clear f
 try simp[Act.put]
 refine Tk 8 (.pointer (some (OK g (m * 6)))) ?_
 try simp[Act.put]
 refine Tk 9 (.pointer (some (OK g (m * 6)))) ?_
 try simp[Act.put]
 refine Tr 10 rfl fun KK f=>?_
 go_simp
 refine f.out _ _ (D) fun _=>?_
 clear f
 try simp[Act.put]
 refine wpAnyH_done OE ?_ _
 obtain⟨Y0,Q⟩:∃ Y,I.setCell (OK g (m * 6)) (.int .i64 z)=Y:=⟨_,rfl⟩
 have L:Tk.Sp R (P+1+1+1+1) s w Y0 t r G g c o:=(by rw[<- Q];exact q.out.setRow (i:=0) p OD (Tk.Fld.num _))
 exact DdTkN10x91
 ):P:=h
theorem Tk.spoil_10 : Tk.Case 10:=by
 intro R P t r G g c o k s w w4 K b hP al V f;intros;have A:¬ ((c:Int)=0):=OC
 have ak:((c:Int) == 0)=false:=by simpa using A
 have ao:t < w4.heap.size:=(Array.getElem?_eq_some_iff.1 b.out.res).1;conv at f=>enter [a,w'];arg 1;arg 2;whnf
 conv=>arg 2;whnf
 go_wp2_with fail;go_loopw [13] (fun ti wr => ∃ j:Int,(0<=j/\j<=(c:Int))/\ti = .int .i64 j/\wr=w4) (fun ti _=>((c:Int) - intOf ti).toNat);case atStart=>exact⟨0,by omega,rfl,rfl⟩
 case round =>
  obtain⟨j,hj,rfl,rfl⟩:=hrel;have am:wrap64 (j+1)=j+1:=IntWalk.wrap64_in _ OC;by_cases hlt:j < (c:Int)
  ·have an:wrap64 ((k:Int)+j)=(k:Int)+j:=IntWalk.wrap64_in _ OC;obtain⟨m,aj,p⟩:∃ m:Nat,((k:Int)+j) % (c:Int)=(m:Int)/\m < c:=by obtain⟨m,h1,h2⟩:=Tk.mod_nat (show 0<=(k:Int)+j by omega) (show (0:Int) < (c:Int) by omega);exact⟨m,h1,by simpa using h2⟩
   obtain⟨o5,o6,o7,_,o9,d5,y,x0,x1,x2,x3,x4,x5⟩:=b.out.cells;clear o9 x0 x1 x2 x3 x4 x5;obtain⟨d6,ai,⟨z0,z1,z2,z3,z4,z5⟩,n⟩:=Tk.Row_cells b.out.row p;clear n;go_wp2_with fail;all_goals first|exact⟨⟨j+1,by omega,rfl,trivial⟩,by simp only[intOf];omega⟩|skip
   all_goals
    have O:D7 R (P+1+1+1) s wr.drew:=b.out.dw.below (OO _).drew;obtain⟨ab,_,_,_,_,_⟩:=(b.out.below (Tk.up1 wr (.cells #[.int .i64 19,.int .i64 17,.int .i64 16] 3))).cells;have N:D7 R (P+1+1+1) s (wr.alloc (.cells #[.int .i64 19,.int .i64 17,.int .i64 16] 3)).drew:=b.out.dw.below (Tk.up1 wr _).drew;have Z:wr.drew.cell? (OK r 0)=some (.slice (some (OK g 0)) c o):=o5;have C:(wr.alloc (.cells #[.int .i64 19,.int .i64 17,.int .i64 16] 3)).drew.cell? (OK r 0)=some (.slice (some (OK g 0)) c o):=ab;refine wp_region_held_drew (S:=(fun W=>W.cell? (OK r 0)=some (.slice (some (OK g 0)) c o))) OE (Z) fun _=>?_
    refine Tk 0 (.pointer (some (OK r 0))) ?_;refine Tk 1 (.slice (some (OK g 0)) c o) ?_;refine Tk 2 (.int .i64 (m:Int)) ?_;(try simp[Act.put]);refine Tk 4 (.pointer (some (OK R 0))) ?_;(try simp[Act.put]);refine wpAnyH_ready (rs:=[3,5]) OE OF ?_;refine AllReadyH.cons rfl (fun KK f => ?_) (AllReadyH.cons rfl (fun KK f => ?_) AllReadyH.nil)
    ·go_simp;refine f.out _ _ (C) fun _=>?_
     clear f;(try simp[Act.put]);refine Tr 5 rfl fun KK f=>?_
     go_simp;go_at_call 26;refine(Kl 3 N OC OD OD).mono ?_;rintro e I ⟨x,rfl,hx,l,d⟩;have F:Hid (Tk.Sp R (P+1+1+1+1) s w I t r G g c o):=b.out.draw l ((Ak.of_below (Tk.up1 wr _).drew).trans d);have q:=F;obtain⟨z,hz,X⟩:=Tk.tab_int (d.blk (U:=(wr.alloc (.cells #[.int .i64 19,.int .i64 17,.int .i64 16] 3)).drew) (World.alloc_heap_new wr (.cells #[.int .i64 19,.int .i64 17,.int .i64 16] 3)) OD) OD x (by have M:x < 3:=OC;simpa using M);obtain⟨d8,T,⟨y0,_,_,_,_,_⟩,n⟩:=Tk.Row_cells q.out.row p;have f5:=n (m * 6);obtain⟨H,_,_,_,_,_⟩:=q.out.cells;obtain⟨D,_,_,_,_,_⟩:=(q.out.setRow (i:=0) (v:=.int .i64 z) p OD (Tk.Fld.num _)).cells;clear n;clear l d;go_wp2;refine f.out _ _ (H) fun _=>?_
     clear f;(try simp[Act.put]);refine Tk 6 (.pointer (some (OK wr.heap.size x))) ?_;exact DeTkN10x78
    ·go_simp;go_at_call 26;refine(Kl 3 O OC OD OD).mono ?_;rintro e E ⟨x,rfl,hx,l,d⟩;have F:Hid (Tk.Sp R (P+1+1+1+1) s w E t r G g c o):=b.out.draw l ((Ak.of_below (OO _).drew).trans d);obtain⟨z,hz,X⟩:=Tk.tab_int (World.alloc_heap_new E (.cells #[.int .i64 19,.int .i64 17,.int .i64 16] 3)) OD x (by have M:x < 3:=OC;simpa using M);obtain⟨I,B⟩:∃ W,E.alloc (.cells #[.int .i64 19,.int .i64 17,.int .i64 16] 3)=W:=⟨_,rfl⟩;have q:Hid (Tk.Sp R (P+1+1+1+1) s w I t r G g c o):=(by rw[<- B];exact F.out.below (Tk.up1 E _));rw[B]at hz;obtain⟨aa,_,_,_,_,_⟩:=F.out.cells;obtain⟨d8,T,⟨y0,_,_,_,_,_⟩,n⟩:=Tk.Row_cells q.out.row p;have f5:=n (m * 6);obtain⟨H,_,_,_,_,_⟩:=q.out.cells;obtain⟨D,_,_,_,_,_⟩:=(q.out.setRow (i:=0) (v:=.int .i64 z) p OD (Tk.Fld.num _)).cells;clear n;clear l d;go_wp2;refine f.out _ _ (aa) fun _=>?_
     clear f;(try simp[Act.put]);refine Tr 3 rfl fun KK f=>?_
     go_simp;refine f.out _ _ (H) fun _=>?_
     clear f;(try simp[Act.put]);refine Tk 6 (.pointer (some (OK E.heap.size x))) ?_;exact DeTkN10x78
  ·obtain⟨o5,o6,o7,o8,o9,d5,y,x0,x1,x2,x3,x4,x5⟩:=b.out.cells;clear o9 o8;obtain⟨Y1,Y2,Y3,Y4,Y5,Y6,_,_,_,_,_,_,ac,ad,ae,af,ag,ah,z0,z1,z2,z3,z4,z5,g0,g1,g2,g3,g4,g5,q⟩:=b.out.six V y;obtain⟨p5,p6,p7,_,_,_⟩:=q.cells;have J:Hid (Tk.WPost R (P+5) 300000000 s w (.returned (.agg #[.slice (some (OK g 0)) c o])) (Y6.setCell (OK t 0) (.slice (some (OK g 0)) c o))):=(q.mono OC).fin;clear q;go_wp2_with fail;exact bodyPost_ret (v:=.agg #[.slice (some (OK g 0)) c o]) (by simp[results,results28,go_sem,p6]) rfl J.out
theorem Tk.spoil_11 : Tk.Case 11:=by
 intro R P q u I g c d k t w L K b hP ak C hK;intros;have s:¬ ((c:Int)=0):=OC
 have aj:((c:Int) == 0)=false:=by simpa using s
 have an:q < L.heap.size:=(Array.getElem?_eq_some_iff.1 b.out.res).1;conv at hK=>enter [a,w'];arg 1;arg 2;whnf
 conv=>arg 2;whnf
 go_wp2_with fail;go_loopw [15] (fun ti wr => ∃ j:Int,(0<=j/\j<=(c:Int))/\ti = .int .i64 j/\wr=L) (fun ti _=>((c:Int) - intOf ti).toNat);case atStart=>exact⟨0,by omega,rfl,rfl⟩
 case round =>
  obtain⟨j,hj,rfl,rfl⟩:=hrel;have al:wrap64 (j+1)=j+1:=IntWalk.wrap64_in _ OC;by_cases hlt:j < (c:Int)
  ·have am:wrap64 ((k:Int)+j)=(k:Int)+j:=IntWalk.wrap64_in _ OC;obtain⟨m,ai,h⟩:∃ m:Nat,((k:Int)+j) % (c:Int)=(m:Int)/\m < c:=by obtain⟨m,h1,h2⟩:=Tk.mod_nat (show 0<=(k:Int)+j by omega) (show (0:Int) < (c:Int) by omega);exact⟨m,h1,by simpa using h2⟩
   obtain⟨J,o6,o7,_,E,Z,r,N,O,Q,S,T,U⟩:=b.out.cells;clear E N O Q S T U;obtain⟨d6,ag,⟨z0,z1,z2,z3,z4,z5⟩,f⟩:=Tk.Row_cells b.out.row h;clear f;go_wp2_with fail;all_goals first|exact⟨⟨j+1,by omega,rfl,trivial⟩,by simp only[intOf];omega⟩|skip
   all_goals
    have A:D7 R (P+1+1+1) t wr.drew:=b.out.dw.below (OO _).drew;have D:wr.drew.cell? (OK u 0)=some (.slice (some (OK g 0)) c d):=J;go_region_held3 (fun W=>W.cell? (OK u 0)=some (.slice (some (OK g 0)) c d)) (first|with_reducible exact D|with_reducible exact q5|with_reducible exact G) (first|(go_at_call 26;(with_reducible refine(Gg 11 A OC OD OD).mono ?_);rintro e M ⟨x,rfl,hx,n,o⟩;have V:Hid (Tk.Sp R (P+1+1+1+1) t w M q u I g c d):=b.out.draw n ((Ak.of_below (OO _).drew).trans o);have l:=V;obtain⟨d8,ah,⟨_,_,y0,_,_,_⟩,f⟩:=Tk.Row_cells l.out.row h;have f5:=f (m * 6+2);obtain⟨q5,_,_,_,_,_⟩:=l.out.cells;obtain⟨G,_,_,_,_,_⟩:=(l.out.setRow (i:=2) (v:=.int .i64 x) h OD (Tk.Fld.num _)).cells;clear f n o));all_goals
     obtain⟨H,B⟩:∃ Y,M.setCell (OK g (m * 6+2)) (.int .i64 x)=Y:=⟨_,rfl⟩;have z:Tk.Sp R (P+1+1+1+1) t w H q u I g c d:=(by rw[<- B];exact l.out.setRow (i:=2) h OD (Tk.Fld.num _));obtain⟨p5,F,p7,_,_,_⟩:=z.cells;have p:Hid (Tk.WPost R (P+5) 300000000 t w (.returned (.agg #[.slice (some (OK g 0)) c d])) (H.setCell (OK q 0) (.slice (some (OK g 0)) c d))):=(z.mono OC).fin;clear z;go_wp2_with fail;exact bodyPost_ret (v:=.agg #[.slice (some (OK g 0)) c d]) (by simp[results,results28,go_sem,F]) rfl p.out
  ·obtain⟨J,o6,o7,o8,E,Z,r,N,O,Q,S,T,U⟩:=b.out.cells;clear E o8;obtain⟨Y1,Y2,Y3,Y4,Y5,X,_,_,_,_,_,_,aa,ab,ac,ad,ae,af,z0,z1,z2,z3,z4,z5,g0,g1,g2,g3,g4,g5,l⟩:=b.out.six C r;obtain⟨p5,F,p7,_,_,_⟩:=l.cells;have y:Hid (Tk.WPost R (P+5) 300000000 t w (.returned (.agg #[.slice (some (OK g 0)) c d])) (X.setCell (OK q 0) (.slice (some (OK g 0)) c d))):=(l.mono OC).fin;clear l;go_wp2_with fail;exact bodyPost_ret (v:=.agg #[.slice (some (OK g 0)) c d]) (by simp[results,results28,go_sem,F]) rfl y.out
end Go.Proofs.YtjlaedokfbcbpaaGreatDoor
