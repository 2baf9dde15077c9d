import Derived.Test.YtfjkahdghhbpnaaGreatDoorKStG
import Derived.Test.YtfjkahdghhbpnaaGreatDoorCfS
import Derived.Test.YtfjkahdghhbpnaaGreatDoorKBltA
import Derived.Test.YtfjkahdghhbpnaaGreatDoorKCdN
set_option maxRecDepth 100000
set_option maxHeartbeats 2000000
namespace Go.Proofs.YtfjkahdghhbpnaaGreatDoor
open Go.RowKit
theorem Ij {w:World} {A e size n:Nat} {v:Value} {xs:List Value} (h:w.ownsRow A e size v n xs):∀ j,v.ownBlock=some j->A<=j:=fun _ hj=>(A3 h hj).1.1
theorem Jk {w:World} {g:Nat} {a b c:Value} {t:TypeId} (h:w.heap[g]? = some (.cells #[a,b,c] t)):(w.cell? ⟨g,0,none⟩=some a/\w.cell? ⟨g,1,none⟩=some b/\w.cell? ⟨g,2,none⟩=some c)/\(w.frozen? ⟨g,0,none⟩=false/\w.frozen? ⟨g,1,none⟩=false/\w.frozen? ⟨g,2,none⟩=false):=by
 refine⟨⟨?_, ?_, ?_⟩, ?_, ?_, ?_⟩
 ·rw[Lib.cell_of_heap h];rfl
 ·rw[Lib.cell_of_heap h];rfl
 ·rw[Lib.cell_of_heap h];rfl
 all_goals simp[World.frozen?,h]
theorem M9 : (Tryz.prog.info? 38).map (fun i=>(i.zero,i.size,i.bytes))=some (some (.agg #[.slice none 0 0]),1,24):=by kernel_rfl
theorem Qas (n:Nat) (w:World) (hn:n<=1048576) :
  Calls Tryz.prog 92 #[.slice none 0 0,.int .i64 (n:Int)] w fun e w' => ∃ a c,e = .returned (.slice a 0 c)/\w'.ownsRow w.heap.size 38 1 (.slice a 0 c) 0 []/\Below w.heap.size w w':=by
 by_cases h0:n=0
 ·subst h0
  refine(Any8.slices_Grow_room Tryz.laysGCode none 0 0 0 w (by omega) (by omega) (by omega) (by omega)).mono ?_
  rintro e w' ⟨rfl,rfl⟩
  exact⟨none,0,rfl,⟨rfl,.inl ⟨rfl,rfl⟩⟩,Below.refl _ _⟩
 ·obtain⟨o,f,h,m,i⟩:=info_parts M9
  refine(Any8.slices_Grow_grow Tryz.laysGCode o _ f h (by omega) none 0 0 n [] w (by omega) (by omega) (by rw[i];omega) (by omega) (by simp) (fun _=>rfl) (fun a ha=>by cases ha)).mono ?_
  rintro e w' ⟨rfl,rfl⟩
  obtain⟨d,b⟩:∃ d,grownCap w (0+n) 0 38=d:=⟨_,rfl⟩
  have l:0+n<=d:=by rw[<- b];exact grownCap_ge _ _ _ _
  have g:d<=maxLen:=by rw[<- b];exact grownCap_le_maxLen _ _ _ _ (by unfold maxLen;omega)
  refine⟨some ⟨w.heap.size,0,none⟩,d,by rw[<- b];rfl,⟨rfl,.inr ⟨w.heap.size,d,_,rfl,Nat.le_refl _,(MapKept.heap_alloc w.drew _).1,Nat.zero_le _,g, ?_,by simp⟩⟩,(Below.refl _ w).drew.alloc (Nat.le_refl _) _⟩
  have j:(.agg #[.slice none 0 0]:Value).cells.size=1:=rfl
  have k:grownCap w (0+n) 0 (Tryz.laysGCode_ren.t 25)=d:=b
  rw[Array.size_append,Array.size_append,size_zeroCells,size_zeroCells,j,k]
  simp;omega
theorem L4 : (Tryz.prog.info? 9).map (fun i=>(i.zero,i.size,i.bytes))=some (some (.string ByteArray.empty),1,16):=by kernel_rfl
theorem Qbv (n:Nat) (w:World) (hn:n<=1048576) :
  Calls Tryz.prog 95 #[.slice none 0 0,.int .i64 (n:Int)] w fun e w' => ∃ a c,e = .returned (.slice a 0 c)/\w'.ownsRow w.heap.size 9 1 (.slice a 0 c) 0 []/\Below w.heap.size w w':=by
 by_cases h0:n=0
 ·subst h0
  refine(Any8.slices_Grow_room Tryz.laysGStr none 0 0 0 w (by omega) (by omega) (by omega) (by omega)).mono ?_
  rintro e w' ⟨rfl,rfl⟩
  exact⟨none,0,rfl,⟨rfl,.inl ⟨rfl,rfl⟩⟩,Below.refl _ _⟩
 ·obtain⟨o,f,h,m,i⟩:=info_parts L4
  refine(Any8.slices_Grow_grow Tryz.laysGStr o _ f h (by omega) none 0 0 n [] w (by omega) (by omega) (by rw[i];omega) (by omega) (by simp) (fun _=>rfl) (fun a ha=>by cases ha)).mono ?_
  rintro e w' ⟨rfl,rfl⟩
  obtain⟨d,b⟩:∃ d,grownCap w (0+n) 0 9=d:=⟨_,rfl⟩
  have l:0+n<=d:=by rw[<- b];exact grownCap_ge _ _ _ _
  have g:d<=maxLen:=by rw[<- b];exact grownCap_le_maxLen _ _ _ _ (by unfold maxLen;omega)
  refine⟨some ⟨w.heap.size,0,none⟩,d,by rw[<- b];rfl,⟨rfl,.inr ⟨w.heap.size,d,_,rfl,Nat.le_refl _,(MapKept.heap_alloc w.drew _).1,Nat.zero_le _,g, ?_,by simp⟩⟩,(Below.refl _ w).drew.alloc (Nat.le_refl _) _⟩
  have j:(.string ByteArray.empty:Value).cells.size=1:=rfl
  have k:grownCap w (0+n) 0 (Tryz.laysGStr_ren.t 25)=d:=b
  rw[Array.size_append,Array.size_append,size_zeroCells,size_zeroCells,j,k]
  simp;omega
theorem Pm : (Tryz.prog.info? 56).map (fun i=>(i.zero,i.size,i.bytes))=some (some (.agg #[.int .i64 0,.int .i64 0,.int .i64 0,.slice none 0 0,.slice none 0 0]),5,72):=by kernel_rfl
theorem Ye (n:Nat) (w:World) (hn:n<=1048576) :
  Calls Tryz.prog 97 #[.slice none 0 0,.int .i64 (n:Int)] w fun e w' => ∃ a c,e = .returned (.slice a 0 c)/\w'.ownsRow w.heap.size 56 5 (.slice a 0 c) 0 []/\Below w.heap.size w w':=by
 by_cases h0:n=0
 ·subst h0
  refine(Any8.slices_Grow_room Tryz.laysGFrame none 0 0 0 w (by omega) (by omega) (by omega) (by omega)).mono ?_
  rintro e w' ⟨rfl,rfl⟩
  exact⟨none,0,rfl,⟨rfl,.inl ⟨rfl,rfl⟩⟩,Below.refl _ _⟩
 ·obtain⟨o,f,h,m,i⟩:=info_parts Pm
  refine(Any8.slices_Grow_grow Tryz.laysGFrame o _ f h (by omega) none 0 0 n [] w (by omega) (by omega) (by rw[i];omega) (by omega) (by simp) (fun _=>rfl) (fun a ha=>by cases ha)).mono ?_
  rintro e w' ⟨rfl,rfl⟩
  obtain⟨d,b⟩:∃ d,grownCap w (0+n) 0 56=d:=⟨_,rfl⟩
  have l:0+n<=d:=by rw[<- b];exact grownCap_ge _ _ _ _
  have g:d<=maxLen:=by rw[<- b];exact grownCap_le_maxLen _ _ _ _ (by unfold maxLen;omega)
  refine⟨some ⟨w.heap.size,0,none⟩,d,by rw[<- b];rfl,⟨rfl,.inr ⟨w.heap.size,d,_,rfl,Nat.le_refl _,(MapKept.heap_alloc w.drew _).1,Nat.zero_le _,g, ?_,by simp⟩⟩,(Below.refl _ w).drew.alloc (Nat.le_refl _) _⟩
  have j:(.agg #[.int .i64 0,.int .i64 0,.int .i64 0,.slice none 0 0,.slice none 0 0]:Value).cells.size=5:=rfl
  have k:grownCap w (0+n) 0 (Tryz.laysGFrame_ren.t 25)=d:=b
  rw[Array.size_append,Array.size_append,size_zeroCells,size_zeroCells,j,k]
  simp;omega
theorem Qav : (Tryz.prog.info? 119).map (fun i=>(i.zero,i.size,i.bytes))=some (some (.agg #[.string ByteArray.empty,.string ByteArray.empty]),2,32):=by kernel_rfl
theorem Qat (n:Nat) (w:World) (hn:n<=1048576) :
  Calls Tryz.prog 100 #[.slice none 0 0,.int .i64 (n:Int)] w fun e w' => ∃ a c,e = .returned (.slice a 0 c)/\w'.ownsRow w.heap.size 119 2 (.slice a 0 c) 0 []/\Below w.heap.size w w':=by
 by_cases h0:n=0
 ·subst h0
  refine(Any8.slices_Grow_room Tryz.laysGFile none 0 0 0 w (by omega) (by omega) (by omega) (by omega)).mono ?_
  rintro e w' ⟨rfl,rfl⟩
  exact⟨none,0,rfl,⟨rfl,.inl ⟨rfl,rfl⟩⟩,Below.refl _ _⟩
 ·obtain⟨o,f,h,m,i⟩:=info_parts Qav
  refine(Any8.slices_Grow_grow Tryz.laysGFile o _ f h (by omega) none 0 0 n [] w (by omega) (by omega) (by rw[i];omega) (by omega) (by simp) (fun _=>rfl) (fun a ha=>by cases ha)).mono ?_
  rintro e w' ⟨rfl,rfl⟩
  obtain⟨d,b⟩:∃ d,grownCap w (0+n) 0 119=d:=⟨_,rfl⟩
  have l:0+n<=d:=by rw[<- b];exact grownCap_ge _ _ _ _
  have g:d<=maxLen:=by rw[<- b];exact grownCap_le_maxLen _ _ _ _ (by unfold maxLen;omega)
  refine⟨some ⟨w.heap.size,0,none⟩,d,by rw[<- b];rfl,⟨rfl,.inr ⟨w.heap.size,d,_,rfl,Nat.le_refl _,(MapKept.heap_alloc w.drew _).1,Nat.zero_le _,g, ?_,by simp⟩⟩,(Below.refl _ w).drew.alloc (Nat.le_refl _) _⟩
  have j:(.agg #[.string ByteArray.empty,.string ByteArray.empty]:Value).cells.size=2:=rfl
  have k:grownCap w (0+n) 0 (Tryz.laysGFile_ren.t 25)=d:=b
  rw[Array.size_append,Array.size_append,size_zeroCells,size_zeroCells,j,k]
  simp;omega
theorem Qg : (Tryz.prog.info? 97).map (fun i=>(i.zero,i.size,i.bytes))=some (some (.agg #[.string ByteArray.empty,.slice none 0 0,.int .i64 0,.int .i64 0,.slice none 0 0]),5,80):=by kernel_rfl
theorem Qcy (n:Nat) (w:World) (hn:n<=1048576) :
  Calls Tryz.prog 124 #[.slice none 0 0,.int .i64 (n:Int)] w fun e w' => ∃ a c,e = .returned (.slice a 0 c)/\w'.ownsRow w.heap.size 97 5 (.slice a 0 c) 0 []/\Below w.heap.size w w':=by
 by_cases h0:n=0
 ·subst h0
  refine(Any8.slices_Grow_room Tryz.laysGFn none 0 0 0 w (by omega) (by omega) (by omega) (by omega)).mono ?_
  rintro e w' ⟨rfl,rfl⟩
  exact⟨none,0,rfl,⟨rfl,.inl ⟨rfl,rfl⟩⟩,Below.refl _ _⟩
 ·obtain⟨o,f,h,m,i⟩:=info_parts Qg
  refine(Any8.slices_Grow_grow Tryz.laysGFn o _ f h (by omega) none 0 0 n [] w (by omega) (by omega) (by rw[i];omega) (by omega) (by simp) (fun _=>rfl) (fun a ha=>by cases ha)).mono ?_
  rintro e w' ⟨rfl,rfl⟩
  obtain⟨d,b⟩:∃ d,grownCap w (0+n) 0 97=d:=⟨_,rfl⟩
  have l:0+n<=d:=by rw[<- b];exact grownCap_ge _ _ _ _
  have g:d<=maxLen:=by rw[<- b];exact grownCap_le_maxLen _ _ _ _ (by unfold maxLen;omega)
  refine⟨some ⟨w.heap.size,0,none⟩,d,by rw[<- b];rfl,⟨rfl,.inr ⟨w.heap.size,d,_,rfl,Nat.le_refl _,(MapKept.heap_alloc w.drew _).1,Nat.zero_le _,g, ?_,by simp⟩⟩,(Below.refl _ w).drew.alloc (Nat.le_refl _) _⟩
  have j:(.agg #[.string ByteArray.empty,.slice none 0 0,.int .i64 0,.int .i64 0,.slice none 0 0]:Value).cells.size=5:=rfl
  have k:grownCap w (0+n) 0 (Tryz.laysGFn_ren.t 25)=d:=b
  rw[Array.size_append,Array.size_append,size_zeroCells,size_zeroCells,j,k]
  simp;omega
theorem Jj : (Tryz.prog.info? 99).map (fun i=>(i.zero,i.size,i.bytes))=some (some (.agg #[.int .i64 0,.int .i64 0,.string ByteArray.empty]),3,32):=by kernel_rfl
theorem Yf (n:Nat) (w:World) (hn:n<=1048576) :
  Calls Tryz.prog 127 #[.slice none 0 0,.int .i64 (n:Int)] w fun e w' => ∃ a c,e = .returned (.slice a 0 c)/\w'.ownsRow w.heap.size 99 3 (.slice a 0 c) 0 []/\Below w.heap.size w w':=by
 by_cases h0:n=0
 ·subst h0
  refine(Any8.slices_Grow_room Tryz.laysGValue none 0 0 0 w (by omega) (by omega) (by omega) (by omega)).mono ?_
  rintro e w' ⟨rfl,rfl⟩
  exact⟨none,0,rfl,⟨rfl,.inl ⟨rfl,rfl⟩⟩,Below.refl _ _⟩
 ·obtain⟨o,f,h,m,i⟩:=info_parts Jj
  refine(Any8.slices_Grow_grow Tryz.laysGValue o _ f h (by omega) none 0 0 n [] w (by omega) (by omega) (by rw[i];omega) (by omega) (by simp) (fun _=>rfl) (fun a ha=>by cases ha)).mono ?_
  rintro e w' ⟨rfl,rfl⟩
  obtain⟨d,b⟩:∃ d,grownCap w (0+n) 0 99=d:=⟨_,rfl⟩
  have l:0+n<=d:=by rw[<- b];exact grownCap_ge _ _ _ _
  have g:d<=maxLen:=by rw[<- b];exact grownCap_le_maxLen _ _ _ _ (by unfold maxLen;omega)
  refine⟨some ⟨w.heap.size,0,none⟩,d,by rw[<- b];rfl,⟨rfl,.inr ⟨w.heap.size,d,_,rfl,Nat.le_refl _,(MapKept.heap_alloc w.drew _).1,Nat.zero_le _,g, ?_,by simp⟩⟩,(Below.refl _ w).drew.alloc (Nat.le_refl _) _⟩
  have j:(.agg #[.int .i64 0,.int .i64 0,.string ByteArray.empty]:Value).cells.size=3:=rfl
  have k:grownCap w (0+n) 0 (Tryz.laysGValue_ren.t 25)=d:=b
  rw[Array.size_append,Array.size_append,size_zeroCells,size_zeroCells,j,k]
  simp;omega
theorem Oi : (Tryz.prog.info? 140).map (fun i=>(i.zero,i.size,i.bytes))=some (some (.agg #[.int .i64 0,.int .i64 0,.int .i64 0,.string ByteArray.empty]),4,40):=by kernel_rfl
theorem Qbu (n:Nat) (w:World) (hn:n<=1048576) :
  Calls Tryz.prog 152 #[.slice none 0 0,.int .i64 (n:Int)] w fun e w' => ∃ a c,e = .returned (.slice a 0 c)/\w'.ownsRow w.heap.size 140 4 (.slice a 0 c) 0 []/\Below w.heap.size w w':=by
 by_cases h0:n=0
 ·subst h0
  refine(Any8.slices_Grow_room Tryz.laysGIns none 0 0 0 w (by omega) (by omega) (by omega) (by omega)).mono ?_
  rintro e w' ⟨rfl,rfl⟩
  exact⟨none,0,rfl,⟨rfl,.inl ⟨rfl,rfl⟩⟩,Below.refl _ _⟩
 ·obtain⟨o,f,h,m,i⟩:=info_parts Oi
  refine(Any8.slices_Grow_grow Tryz.laysGIns o _ f h (by omega) none 0 0 n [] w (by omega) (by omega) (by rw[i];omega) (by omega) (by simp) (fun _=>rfl) (fun a ha=>by cases ha)).mono ?_
  rintro e w' ⟨rfl,rfl⟩
  obtain⟨d,b⟩:∃ d,grownCap w (0+n) 0 140=d:=⟨_,rfl⟩
  have l:0+n<=d:=by rw[<- b];exact grownCap_ge _ _ _ _
  have g:d<=maxLen:=by rw[<- b];exact grownCap_le_maxLen _ _ _ _ (by unfold maxLen;omega)
  refine⟨some ⟨w.heap.size,0,none⟩,d,by rw[<- b];rfl,⟨rfl,.inr ⟨w.heap.size,d,_,rfl,Nat.le_refl _,(MapKept.heap_alloc w.drew _).1,Nat.zero_le _,g, ?_,by simp⟩⟩,(Below.refl _ w).drew.alloc (Nat.le_refl _) _⟩
  have j:(.agg #[.int .i64 0,.int .i64 0,.int .i64 0,.string ByteArray.empty]:Value).cells.size=4:=rfl
  have k:grownCap w (0+n) 0 (Tryz.laysGIns_ren.t 25)=d:=b
  rw[Array.size_append,Array.size_append,size_zeroCells,size_zeroCells,j,k]
  simp;omega
theorem Ie (s:ByteArray) (w:World) (hlim:s.size<=1048576):Calls Tryz.prog 59 #[.string s] w fun e w'=>e = .returned (.string s)/\Below w.heap.size w w':=by
 have b:Hid (Calls Tryz.prog 96 #[.string s] w fun e w'=>e = .returned (.string s)/\Below w.heap.size w w'):=Tryz.stringslite_Clone s w (by omega)
 go_enter Tryz.func59,Tryz.ntmps59
 go_wp2_with (go_at_call 96;refine b.out.mono ?_;rintro e c ⟨rfl,a⟩)
 go_ret
 exact⟨rfl,a⟩
theorem Qb (a b c:Int) (x:ByteArray) (hx:x.size<=1048576) (w:World) :
  Calls Tryz.prog 126 #[.agg #[.int .i64 a,.int .i64 b,.int .i64 c,.string x]] w fun e w'=>e = .returned (.agg #[.int .i64 a,.int .i64 b,.int .i64 c,.string x])/\Below w.heap.size w w':=by
 obtain⟨V,o⟩:∃ V,w.alloc (.cells #[.int .i64 a,.int .i64 b,.int .i64 c,.string x] 140)=V:=⟨_,rfl⟩
 obtain⟨g,d⟩:∃ g,V.alloc (.cells #[.int .i64 0,.int .i64 0,.int .i64 0,.string ⟨#[]⟩] 140)=g:=⟨_,rfl⟩
 have k:V.heap.size=w.heap.size+1:=by rw[<- o];simp
 have J:g.heap.size=w.heap.size+1+1:=by rw[<- d,World.size_alloc,k]
 have s:Below w.heap.size w g:=by rw[<- d,<- o];exact(Di w _).alloc (by simp) _
 have t:Hid (g.heap[w.heap.size]? = some (.cells #[.int .i64 a,.int .i64 b,.int .i64 c,.string x] 140)):=by rw[Hid,<- d];exact Am _ (by rw[<- o];exact(MapKept.heap_alloc w _).1)
 have B:Hid (g.heap[w.heap.size+1]? = some (.cells #[.int .i64 0,.int .i64 0,.int .i64 0,.string ⟨#[]⟩] 140)):=by rw[Hid,<- d,<- k];exact(MapKept.heap_alloc V _).1
 obtain⟨⟨K,L,M,z⟩,G,H,I,u⟩:=Jl t.out
 go_enter Tryz.func126,Tryz.ntmps126
 go_wp2_with fail
 refine(Ie x _ hx).mono ?_
 rintro e m ⟨rfl,f⟩
 clear K L M z G H I u
 have l:m.heap[w.heap.size]? = some (.cells #[.int .i64 a,.int .i64 b,.int .i64 c,.string x] 140):=(f.block w.heap.size (by omega)).trans t.out
 have y:m.heap[w.heap.size+1]? = some (.cells #[.int .i64 0,.int .i64 0,.int .i64 0,.string ⟨#[]⟩] 140):=(f.block (w.heap.size+1) (by omega)).trans B.out
 have j:Below w.heap.size w m:=s.trans (f.mono (by omega))
 have z:=(Jl l).1.2.2.2
 have u:=(Jl l).2.2.2.2
 obtain⟨U,n⟩:∃ U,m.setCell ⟨w.heap.size,3,none⟩ (.string x)=U:=⟨_,rfl⟩
 have N:U.heap[w.heap.size]? = some (.cells #[.int .i64 a,.int .i64 b,.int .i64 c,.string x] 140):=by rw[<- n,A6 l];rfl
 have A:U.heap[w.heap.size+1]? = some (.cells #[.int .i64 0,.int .i64 0,.int .i64 0,.string ⟨#[]⟩] 140):=by rw[<- n,A7 (by omega)];exact y
 have r:Below w.heap.size w U:=by rw[<- n];exact j.setCell (p:=⟨w.heap.size,3,none⟩) (Nat.le_refl _) _
 clear j l y f
 obtain⟨⟨O,P,Q,R⟩,-⟩:=Jl N
 obtain⟨⟨Y,Z,r2,r3⟩,S,T,W,X⟩:=Jl A
 go_wp2_with fail
 have q:=A6 (i:=3) (v:=.string x) (A6 (i:=2) (v:=.int .i64 c) (A6 (i:=1) (v:=.int .i64 b) (A6 (i:=0) (v:=.int .i64 a) A)))
 have h:=((((r).setCell (p:=⟨w.heap.size+1,0,none⟩) (by simp only;omega) (.int .i64 a)).setCell (p:=⟨w.heap.size+1,1,none⟩) (by simp only;omega) (.int .i64 b)).setCell (p:=⟨w.heap.size+1,2,none⟩) (by simp only;omega) (.int .i64 c)).setCell (p:=⟨w.heap.size+1,3,none⟩) (by simp only;omega) (.string x)
 obtain⟨⟨C,D,E,F⟩,-⟩:=Jl q
 exact bodyPost_ret (v:=.agg #[.int .i64 a,.int .i64 b,.int .i64 c,.string x]) (by simp[results,Tryz.results126,go_sem,C,D,E,F]) rfl ⟨rfl,h⟩
theorem Oc (a b:Int) (x:ByteArray) (hx:x.size<=1048576) (w:World) :
  Calls Tryz.prog 99 #[.agg #[.int .i64 a,.int .i64 b,.string x]] w fun e w'=>e = .returned (.agg #[.int .i64 a,.int .i64 b,.string x])/\Below w.heap.size w w':=by
 obtain⟨V,n⟩:∃ V,w.alloc (.cells #[.int .i64 a,.int .i64 b,.string x] 99)=V:=⟨_,rfl⟩
 obtain⟨f,c⟩:∃ f,V.alloc (.cells #[.int .i64 0,.int .i64 0,.string ⟨#[]⟩] 99)=f:=⟨_,rfl⟩
 have j:V.heap.size=w.heap.size+1:=by rw[<- n];simp
 have G:f.heap.size=w.heap.size+1+1:=by rw[<- c,World.size_alloc,j]
 have r:Below w.heap.size w f:=by rw[<- c,<- n];exact(Di w _).alloc (by simp) _
 have s:Hid (f.heap[w.heap.size]? = some (.cells #[.int .i64 a,.int .i64 b,.string x] 99)):=by rw[Hid,<- c];exact Am _ (by rw[<- n];exact(MapKept.heap_alloc w _).1)
 have A:Hid (f.heap[w.heap.size+1]? = some (.cells #[.int .i64 0,.int .i64 0,.string ⟨#[]⟩] 99)):=by rw[Hid,<- c,<- j];exact(MapKept.heap_alloc V _).1
 obtain⟨⟨H,I,y⟩,E,F,t⟩:=Jk s.out
 go_enter Tryz.func99,Tryz.ntmps99
 go_wp2_with fail
 refine(Ie x _ hx).mono ?_
 rintro e l ⟨rfl,d⟩
 clear H I y E F t
 have k:l.heap[w.heap.size]? = some (.cells #[.int .i64 a,.int .i64 b,.string x] 99):=(d.block w.heap.size (by omega)).trans s.out
 have u:l.heap[w.heap.size+1]? = some (.cells #[.int .i64 0,.int .i64 0,.string ⟨#[]⟩] 99):=(d.block (w.heap.size+1) (by omega)).trans A.out
 have h:Below w.heap.size w l:=r.trans (d.mono (by omega))
 have y:=(Jk k).1.2.2
 have t:=(Jk k).2.2.2
 obtain⟨U,m⟩:∃ U,l.setCell ⟨w.heap.size,2,none⟩ (.string x)=U:=⟨_,rfl⟩
 have J:U.heap[w.heap.size]? = some (.cells #[.int .i64 a,.int .i64 b,.string x] 99):=by rw[<- m,A6 k];rfl
 have z:U.heap[w.heap.size+1]? = some (.cells #[.int .i64 0,.int .i64 0,.string ⟨#[]⟩] 99):=by rw[<- m,A7 (by omega)];exact u
 have q:Below w.heap.size w U:=by rw[<- m];exact h.setCell (p:=⟨w.heap.size,2,none⟩) (Nat.le_refl _) _
 clear h k u d
 obtain⟨⟨K,L,M⟩,-⟩:=Jk J
 obtain⟨⟨Q,R,S⟩,N,O,P⟩:=Jk z
 go_wp2_with fail
 have o:=A6 (i:=2) (v:=.string x) (A6 (i:=1) (v:=.int .i64 b) (A6 (i:=0) (v:=.int .i64 a) z))
 have g:=(((q).setCell (p:=⟨w.heap.size+1,0,none⟩) (by simp only;omega) (.int .i64 a)).setCell (p:=⟨w.heap.size+1,1,none⟩) (by simp only;omega) (.int .i64 b)).setCell (p:=⟨w.heap.size+1,2,none⟩) (by simp only;omega) (.string x)
 obtain⟨⟨B,C,D⟩,-⟩:=Jk o
 exact bodyPost_ret (v:=.agg #[.int .i64 a,.int .i64 b,.string x]) (by simp[results,Tryz.results99,go_sem,B,C,D]) rfl ⟨rfl,g⟩
theorem Yc (l:List Ax) (a0:Option Addr) (cap:Nat) (w:World) (hl:l.length<=1048576) (hx:∀ d ∈ l,d.text.size<=1048576) (hin:∀ i (Y:i < l.length),∃ g,a0=some ⟨g,0,none⟩/\g < w.heap.size/\∀ j,j < 4->w.cell? ⟨g,i * 4+j,none⟩=(Cz l[i])[j]?) :
  Calls Tryz.prog 125 #[.slice a0 l.length cap,.func (Fn.func 126) #[] #[]] w fun e w' => ∃ a c,e = .returned (.slice a l.length c)/\w'.ownsRow w.heap.size 140 4 (.slice a l.length c) l.length (Bm l)/\Below w.heap.size w w':=by
 obtain⟨i0,O,R,S,T⟩:=info_parts Oi
 obtain⟨n,I⟩:∃ n,Hid (l.length=n):=⟨_,(rfl:l.length=_)⟩
 have G:Hid (∀ i (Y:i < l.length),∃ g,a0=some ⟨g,0,none⟩/\g < w.heap.size/\∀ j,j < 4->w.cell? ⟨g,i * 4+j,none⟩=(Cz l[i])[j]?):=hin
 have HX:Hid (∀ d ∈ l,d.text.size<=1048576):=hx
 clear hin hx
 rw[I.out]at hl |-
 go_enter Tryz.func125,Tryz.ntmps125
 go_wp2_with (go_at_call 152;refine(Qbu n _ hl).mono ?_;rintro e w1 ⟨ga,gc,rfl,m,C⟩)
 go_loopw [5,13] (fun t5 t13 wr => ∃ (i:Nat) (a:Option Addr) (c:Nat),i<=n/\t5 = .slice a i c/\t13 = .int .i64 (i:Int)/\wr.ownsRow w.heap.size 140 4 (.slice a i c) i (Bm (l.take i))/\Below w.heap.size w wr) (fun _ t13 _=>n - (intOf t13).toNat)
 case atStart=>exact⟨0,ga,gc,by omega,rfl,rfl,m,C⟩
 case round =>
  obtain⟨i,a,c,Y,rfl,rfl,s,o⟩:=hrel
  have J:Hid (wr.ownsRow w.heap.size 140 4 (.slice a i c) i (Bm (l.take i))):=s
  have hz:=o.size
  clear s m C
  by_cases hlt:i < n
  ·have E:(i:Int) < (n:Int):=by omega
   have t:i < l.length:=by rw[I.out];exact hlt
   obtain⟨X,rfl,M,Z⟩:=G.out i t
   have v:∀ j,j < 4->wr.cell? ⟨X,i * 4+j,none⟩=(Cz l[i])[j]?:=fun j hj=>by rw[o.cell (p:=⟨X,i * 4+j,none⟩) M,Z j hj]
   have u:=HX.out _ (List.getElem_mem t)
   have f:Hid (Bm (l.take i)++Cz l[i]=Bm (l.take (i+1))):=by rw[Hid,List.take_add_one,List.getElem?_eq_getElem t,Pa];simp[Bm]
   obtain⟨⟨y,z,A,B⟩,W⟩:∃ d,Hid (l[i]=d):=⟨_,(rfl:l[i]=_)⟩
   rw[W.out]at v u f
   have e0:=v 0 (by omega)
   have e1:=v 1 (by omega)
   have e2:=v 2 (by omega)
   have e3:=v 3 (by omega)
   simp only[Cz,List.getElem?_cons_zero,List.getElem?_cons_succ,Nat.add_zero]at e0 e1 e2 e3
   have K:Hid (Bm (l.take i)++[.int .i64 y,.int .i64 z,.int .i64 A,.string B]=Bm (l.take (i+1))):=f.out
   have H:Hid (∀ U:World,Calls Tryz.prog 126 #[.agg #[.int .i64 y,.int .i64 z,.int .i64 A,.string B]] U fun e w'=>e = .returned (.agg #[.int .i64 y,.int .i64 z,.int .i64 A,.string B])/\Below U.heap.size U w'):=fun U=>Qb y z A B u U
   clear v Z G f W u
   go_wp2_with fail
   refine(H.out _).mono ?_
   rintro e V ⟨rfl,q⟩
   have D:Below wr.heap.size wr V:=(Di wr _).trans (q.mono (by simp))
   clear q
   have r:Below w.heap.size w V:=o.trans (D.mono hz)
   have F:=r.size
   try simp only
   go_wp2_with (first
    | (at_builtin;(refine wpList_append_own _ rfl _ _ 95 rfl w.heap.size 140 i0 (.agg #[.int .i64 0,.int .i64 0,.int .i64 0,.string ByteArray.empty]) 4 40 Tryz.underlying95 O R S T rfl (by decide) _ _ _ rfl ((Ah J.out (fun k _ _ hk=>D.block k hk)).alloc _) ⟨V.heap.size,0,none⟩ 1 1 [.int .i64 y,.int .i64 z,.int .i64 A,.string B] rfl rfl (D4 _ [.int .i64 y,.int .i64 z,.int .i64 A,.string B] _) (fun x hx=>by simp at hx;rcases hx with rfl|rfl|rfl|rfl <;> rfl) (by unfold maxLen;omega) (by omega) (by simp;omega) ?_;intro v3 w3 b N _;rw[K.out]at b;obtain⟨a3,c3,Q⟩:=Aq b;subst Q;have L:Below w.heap.size w w3:=(r.alloc F _).grown N (by simp;omega) (Ij J.out))))
   go_roundw
   case rel=>exact⟨i+1,a3,c3,by omega,rfl,by go_num,b,L⟩
   case measure=>simp[intOf];omega
  ·have E:¬ (i:Int) < (n:Int):=by omega
   have P:i=n:=by omega
   subst P
   have HT:Hid (wr.ownsRow w.heap.size 140 4 (.slice a i c) i (Bm l)):=by
    have e:l.take i=l:=List.take_of_length_le (by rw[I.out];omega)
    have h:=J.out
    rw[e]at h;exact h
   clear G
   go_wp2_with fail
   go_ret
   exact⟨_,_,rfl,HT.out,o⟩
theorem M8 (l:List Fu) (a0:Option Addr) (cap:Nat) (w:World) (hl:l.length<=1048576) (hx:∀ d ∈ l,d.text.size<=1048576) (hin:∀ i (X:i < l.length),∃ g,a0=some ⟨g,0,none⟩/\g < w.heap.size/\∀ j,j < 3->w.cell? ⟨g,i * 3+j,none⟩=(Fq l[i])[j]?) :
  Calls Tryz.prog 98 #[.slice a0 l.length cap,.func (Fn.func 99) #[] #[]] w fun e w' => ∃ a c,e = .returned (.slice a l.length c)/\w'.ownsRow w.heap.size 99 3 (.slice a l.length c) l.length (Bj l)/\Below w.heap.size w w':=by
 obtain⟨i0,N,Q,R,S⟩:=info_parts Jj
 obtain⟨n,H⟩:∃ n,Hid (l.length=n):=⟨_,(rfl:l.length=_)⟩
 have F:Hid (∀ i (X:i < l.length),∃ g,a0=some ⟨g,0,none⟩/\g < w.heap.size/\∀ j,j < 3->w.cell? ⟨g,i * 3+j,none⟩=(Fq l[i])[j]?):=hin
 have HX:Hid (∀ d ∈ l,d.text.size<=1048576):=hx
 clear hin hx
 rw[H.out]at hl |-
 go_enter Tryz.func98,Tryz.ntmps98
 go_wp2_with (go_at_call 127;refine(Yf n _ hl).mono ?_;rintro e w1 ⟨ga,gc,rfl,m,B⟩)
 go_loopw [5,13] (fun t5 t13 wr => ∃ (i:Nat) (a:Option Addr) (c:Nat),i<=n/\t5 = .slice a i c/\t13 = .int .i64 (i:Int)/\wr.ownsRow w.heap.size 99 3 (.slice a i c) i (Bj (l.take i))/\Below w.heap.size w wr) (fun _ t13 _=>n - (intOf t13).toNat)
 case atStart=>exact⟨0,ga,gc,by omega,rfl,rfl,m,B⟩
 case round =>
  obtain⟨i,a,c,X,rfl,rfl,s,o⟩:=hrel
  have I:Hid (wr.ownsRow w.heap.size 99 3 (.slice a i c) i (Bj (l.take i))):=s
  have hz:=o.size
  clear s m B
  by_cases hlt:i < n
  ·have D:(i:Int) < (n:Int):=by omega
   have t:i < l.length:=by rw[H.out];exact hlt
   obtain⟨W,rfl,L,Y⟩:=F.out i t
   have A:∀ j,j < 3->wr.cell? ⟨W,i * 3+j,none⟩=(Fq l[i])[j]?:=fun j hj=>by rw[o.cell (p:=⟨W,i * 3+j,none⟩) L,Y j hj]
   have u:=HX.out _ (List.getElem_mem t)
   have f:Hid (Bj (l.take i)++Fq l[i]=Bj (l.take (i+1))):=by rw[Hid,List.take_add_one,List.getElem?_eq_getElem t,Nc];simp[Bj]
   obtain⟨⟨v,y,z⟩,V⟩:∃ d,Hid (l[i]=d):=⟨_,(rfl:l[i]=_)⟩
   rw[V.out]at A u f
   have e0:=A 0 (by omega)
   have e1:=A 1 (by omega)
   have e2:=A 2 (by omega)
   simp only[Fq,List.getElem?_cons_zero,List.getElem?_cons_succ,Nat.add_zero]at e0 e1 e2
   have J:Hid (Bj (l.take i)++[.int .i64 v,.int .i64 y,.string z]=Bj (l.take (i+1))):=f.out
   have G:Hid (∀ U:World,Calls Tryz.prog 99 #[.agg #[.int .i64 v,.int .i64 y,.string z]] U fun e w'=>e = .returned (.agg #[.int .i64 v,.int .i64 y,.string z])/\Below U.heap.size U w'):=fun U=>Oc v y z u U
   clear A Y F f V u
   go_wp2_with fail
   refine(G.out _).mono ?_
   rintro e T ⟨rfl,q⟩
   have C:Below wr.heap.size wr T:=(Di wr _).trans (q.mono (by simp))
   clear q
   have r:Below w.heap.size w T:=o.trans (C.mono hz)
   have E:=r.size
   try simp only
   go_wp2_with (first
    | (at_builtin;(refine wpList_append_own _ rfl _ _ 54 rfl w.heap.size 99 i0 (.agg #[.int .i64 0,.int .i64 0,.string ByteArray.empty]) 3 32 Tryz.underlying54 N Q R S rfl (by decide) _ _ _ rfl ((Ah I.out (fun k _ _ hk=>C.block k hk)).alloc _) ⟨T.heap.size,0,none⟩ 1 1 [.int .i64 v,.int .i64 y,.string z] rfl rfl (D4 _ [.int .i64 v,.int .i64 y,.string z] _) (fun x hx=>by simp at hx;rcases hx with rfl|rfl|rfl <;> rfl) (by unfold maxLen;omega) (by omega) (by simp;omega) ?_;intro v3 w3 b M _;rw[J.out]at b;obtain⟨a3,c3,P⟩:=Aq b;subst P;have K:Below w.heap.size w w3:=(r.alloc E _).grown M (by simp;omega) (Ij I.out))))
   go_roundw
   case rel=>exact⟨i+1,a3,c3,by omega,rfl,by go_num,b,K⟩
   case measure=>simp[intOf];omega
  ·have D:¬ (i:Int) < (n:Int):=by omega
   have O:i=n:=by omega
   subst O
   have Z:Hid (wr.ownsRow w.heap.size 99 3 (.slice a i c) i (Bj l)):=by
    have e:l.take i=l:=List.take_of_length_le (by rw[H.out];omega)
    have h:=I.out
    rw[e]at h;exact h
   clear F
   go_wp2_with fail
   go_ret
   exact⟨_,_,rfl,Z.out,o⟩
theorem L3 (l:List ByteArray) (a0:Option Addr) (cap:Nat) (w:World) (hl:l.length<=1048576) (hx:∀ d ∈ l,d.size<=1048576) (hin:∀ i (T:i < l.length),∃ g o,a0=some ⟨g,o,none⟩/\g < w.heap.size/\w.cell? ⟨g,o+i,none⟩=some (.string l[i])) :
  Calls Tryz.prog 58 #[.slice a0 l.length cap,.func (Fn.func 59) #[] #[]] w fun e w' => ∃ a c,e = .returned (.slice a l.length c)/\w'.ownsRow w.heap.size 9 1 (.slice a l.length c) l.length (Be l)/\Below w.heap.size w w':=by
 obtain⟨i0,K,N,O,P⟩:=info_parts L4
 obtain⟨n,E⟩:∃ n,Hid (l.length=n):=⟨_,(rfl:l.length=_)⟩
 have C:Hid (∀ i (T:i < l.length),∃ g o,a0=some ⟨g,o,none⟩/\g < w.heap.size/\w.cell? ⟨g,o+i,none⟩=some (.string l[i])):=hin
 have Y:Hid (∀ d ∈ l,d.size<=1048576):=hx
 clear hin hx
 rw[E.out]at hl |-
 go_enter Tryz.func58,Tryz.ntmps58
 go_wp2_with (go_at_call 95;refine(Qbv n _ hl).mono ?_;rintro e w1 ⟨ga,gc,rfl,j,y⟩)
 go_loopw [5,13] (fun t5 t13 wr => ∃ (i:Nat) (a:Option Addr) (c:Nat),i<=n/\t5 = .slice a i c/\t13 = .int .i64 (i:Int)/\wr.ownsRow w.heap.size 9 1 (.slice a i c) i (Be (l.take i))/\Below w.heap.size w wr) (fun _ t13 _=>n - (intOf t13).toNat)
 case atStart=>exact⟨0,ga,gc,by omega,rfl,rfl,j,y⟩
 case round =>
  obtain⟨i,a,c,T,rfl,rfl,s,m⟩:=hrel
  have F:Hid (wr.ownsRow w.heap.size 9 1 (.slice a i c) i (Be (l.take i))):=s
  have hz:=m.size
  clear s j y
  by_cases hlt:i < n
  ·have A:(i:Int) < (n:Int):=by omega
   have t:i < l.length:=by rw[E.out];exact hlt
   obtain⟨S,W,rfl,I,V⟩:=C.out i t
   have e0:wr.cell? ⟨S,W+i,none⟩=some (.string l[i]):=by rw[m.cell (p:=⟨S,W+i,none⟩) I,V]
   have u:=Y.out _ (List.getElem_mem t)
   have f:Hid (Be (l.take i)++[.string l[i]]=Be (l.take (i+1))):=by rw[Hid,List.take_add_one,List.getElem?_eq_getElem t,Rx];simp[Be]
   obtain⟨v,R⟩:∃ d,Hid (l[i]=d):=⟨_,(rfl:l[i]=_)⟩
   rw[R.out]at e0 u f
   have G:Hid (Be (l.take i)++[.string v]=Be (l.take (i+1))):=f.out
   have D:Hid (∀ U:World,Calls Tryz.prog 59 #[.string v] U fun e w'=>e = .returned (.string v)/\Below U.heap.size U w'):=fun U=>Ie v U u
   clear V C f R u
   go_wp2_with fail
   refine(D.out _).mono ?_
   rintro e Q ⟨rfl,q⟩
   have z:Below wr.heap.size wr Q:=q
   clear q
   have r:Below w.heap.size w Q:=m.trans (z.mono hz)
   have B:=r.size
   try simp only
   go_wp2_with (first
    | (at_builtin;(refine wpList_append_own _ rfl _ _ 25 rfl w.heap.size 9 i0 (.string ByteArray.empty) 1 16 Tryz.underlying25 K N O P rfl (by decide) _ _ _ rfl ((Ah F.out (fun k _ _ hk=>z.block k hk)).alloc _) ⟨Q.heap.size,0,none⟩ 1 1 [.string v] rfl rfl (D4 _ [.string v] _) (fun x hx=>by simp at hx;rcases hx with rfl <;> rfl) (by unfold maxLen;omega) (by omega) (by simp;omega) ?_;intro v3 w3 b J _;rw[G.out]at b;obtain⟨Z,c3,M⟩:=Aq b;subst M;have H:Below w.heap.size w w3:=(r.alloc B _).grown J (by simp;omega) (Ij F.out))))
   go_roundw
   case rel=>exact⟨i+1,Z,c3,by omega,rfl,by go_num,b,H⟩
   case measure=>simp[intOf];omega
  ·have A:¬ (i:Int) < (n:Int):=by omega
   have L:i=n:=by omega
   subst L
   have X:Hid (wr.ownsRow w.heap.size 9 1 (.slice a i c) i (Be l)):=by
    have e:l.take i=l:=List.take_of_length_le (by rw[E.out];omega)
    have h:=F.out
    rw[e]at h;exact h
   clear C
   go_wp2_with fail
   go_ret
   exact⟨_,_,rfl,X.out,m⟩
theorem Od {w:World} {R:Nat} {z0 z1 z2 z3 z4:Value} {t:TypeId} {B:Nat} {w0:World} (h:w.heap[R]? = some (.cells #[z0,z1,z2,z3,z4] t)) (hb:Below B w0 w) (hR:B<=R) (a b c d e:Value) :
  ∃ U,((((w.setCell ⟨R,0,none⟩ a).setCell ⟨R,1,none⟩ b).setCell ⟨R,2,none⟩ c).setCell ⟨R,3,none⟩ d).setCell ⟨R,4,none⟩ e=U/\Below B w0 U/\(∀ k,k≠R->U.heap[k]? = w.heap[k]?)/\U.cell? ⟨R,0,none⟩=some a/\U.cell? ⟨R,1,none⟩=some b/\U.cell? ⟨R,2,none⟩=some c/\U.cell? ⟨R,3,none⟩=some d/\U.cell? ⟨R,4,none⟩=some e:=by
 have n:=A6 (i:=4) (v:=e) (A6 (i:=3) (v:=d) (A6 (i:=2) (v:=c) (A6 (i:=1) (v:=b) (A6 (i:=0) (v:=a) h))))
 obtain⟨⟨f,g,j,l,m⟩,-⟩:=Ch (a:=a) (b:=b) (c:=c) (d:=d) (e:=e) n
 exact⟨_,rfl,((((hb.setCell (p:=⟨R,0,none⟩) hR _).setCell (p:=⟨R,1,none⟩) hR _).setCell (p:=⟨R,2,none⟩) hR _).setCell (p:=⟨R,3,none⟩) hR _).setCell (p:=⟨R,4,none⟩) hR _,fun k hk=>by rw[A7 hk,A7 hk,A7 hk,A7 hk,A7 hk],f,g,j,l,m⟩
def Iz (f:Ae):Prop:=f.name.size<=1048576/\f.params.length<=1048576/\f.ins.length<=1048576/\∀ d ∈ f.ins,d.text.size<=1048576
theorem Se (f:Ae) (pv iv:Value) (hS:Iz f) (w:World) (hp:Ab w.heap.size w pv f.params) (hi:Ba w.heap.size w iv f.ins) :
  Calls Tryz.prog 94 #[Aw f pv iv] w fun e w' => ∃ pv' iv',e = .returned (Aw f pv' iv')/\w'.ownsRow w.heap.size 3 1 pv' f.params.length (Al f.params)/\w'.ownsRow w.heap.size 140 4 iv' f.ins.length (Bm f.ins)/\Below w.heap.size w w':=by
 obtain⟨i0,aq,az,a0,a2⟩:=Gy
 have HP:Hid (∀ U,Below w.heap.size w U->Ab w.heap.size U pv f.params):=fun U B=>hp.below B
 have HI:Hid (∀ U,Below w.heap.size w U->Ba w.heap.size U iv f.ins):=fun U B=>hi.below B
 obtain⟨pa,pc,av,-⟩:=hp
 obtain⟨L,M,ar,-⟩:=hi
 subst av
 subst ar
 obtain⟨u,F,G,H,E⟩:=f
 obtain⟨hn,ad,J,K⟩:=hS
 simp only at hn ad J K HP HI
 have an:Hid (∀ d ∈ E,d.text.size<=1048576):=K
 clear K
 obtain⟨l,D⟩:∃ n,Hid (F.length=n):=⟨_,(rfl:F.length=_)⟩
 obtain⟨m,C⟩:∃ n,Hid (E.length=n):=⟨_,(rfl:E.length=_)⟩
 simp only[Aw]
 rw[D.out]at ad HP |-
 rw[C.out]at J HI |-
 obtain⟨V,hV⟩:∃ V,w.alloc (.cells #[.string u,.slice pa l pc,.int .i64 G,.int .i64 H,.slice L m M] 97)=V:=⟨_,rfl⟩
 obtain⟨N,y⟩:∃ N,V.alloc (.cells #[.string ⟨#[]⟩,.slice none 0 0,.int .i64 0,.int .i64 0,.slice none 0 0] 97)=N:=⟨_,rfl⟩
 have ae:V.heap.size=w.heap.size+1:=by rw[<- hV];simp
 have a7:N.heap.size=w.heap.size+1+1:=by rw[<- y,World.size_alloc,ae]
 have ao:Below w.heap.size w N:=by rw[<- y,<- hV];exact(Di w _).alloc (by simp) _
 have HB:Hid (N.heap[w.heap.size]? = some (.cells #[.string u,.slice pa l pc,.int .i64 G,.int .i64 H,.slice L m M] 97)):=by rw[Hid,<- y];exact Am _ (by rw[<- hV];exact(MapKept.heap_alloc w _).1)
 have HR:Hid (N.heap[w.heap.size+1]? = some (.cells #[.string ⟨#[]⟩,.slice none 0 0,.int .i64 0,.int .i64 0,.slice none 0 0] 97)):=by rw[Hid,<- y,<- ae];exact(MapKept.heap_alloc V _).1
 obtain⟨⟨k0,k1,k2,k3,k4⟩,f0,f1,f2,f3,f4⟩:=Ch HB.out
 go_enter Tryz.func94,Tryz.ntmps94
 go_wp2_with fail
 refine(Ie u _ hn).mono ?_
 rintro e w1 ⟨rfl,q⟩
 clear k0 k1 k2 k3 k4 f0 f1 f2 f3 f4
 have h0:=(q.block w.heap.size (by omega)).trans HB.out
 have I:=(q.block (w.heap.size+1) (by omega)).trans HR.out
 have ab:Below w.heap.size w w1:=ao.trans (q.mono (by omega))
 have ax:=q.size
 have kk:=(Ch h0).1.1
 have ff:=(Ch h0).2.1
 obtain⟨U,B⟩:∃ U,w1.setCell ⟨w.heap.size,0,none⟩ (.string u)=U:=⟨_,rfl⟩
 have R:Hid (U.heap[w.heap.size]? = some (.cells #[.string u,.slice pa l pc,.int .i64 G,.int .i64 H,.slice L m M] 97)):=by rw[Hid,<- B,A6 h0];rfl
 have ak:Hid (U.heap[w.heap.size+1]? = some (.cells #[.string ⟨#[]⟩,.slice none 0 0,.int .i64 0,.int .i64 0,.slice none 0 0] 97)):=by rw[Hid,<- B,A7 (by omega)];exact I
 have s:Below w.heap.size w U:=by rw[<- B];exact ab.setCell (p:=⟨w.heap.size,0,none⟩) (Nat.le_refl _) _
 have aw:w.heap.size+1+1<=U.heap.size:=by rw[<- B];have e1:(w1.setCell ⟨w.heap.size,0,none⟩ (.string u)).heap.size=w1.heap.size:=(by simp[World.setCell]);omega
 have aj:Hid (Ab w.heap.size U (.slice pa l pc) F):=HP.out U s
 clear ab h0 I q ax HB HR
 obtain⟨⟨c0,c1,c2,c3,c4⟩,g0,g1,g2,g3,g4⟩:=Ch R.out
 go_wp2_with (first|(at_builtin;(refine Bk rfl _ _ 90 rfl (w.heap.size+1+1) 3 i0 (.int .i64 0) Tryz.underlying90 aq az a0 a2 rfl (.slice none 0 0) 0 [] rfl ⟨rfl,.inl ⟨rfl,rfl⟩⟩ w.heap.size (.slice pa l pc) rfl F aj.out (by rw[D.out];omega) aw ?_;intro v1 w3 h j;rw[Nat.zero_add,List.nil_append]at h;obtain⟨A,b,ay⟩:=Aq h;subst ay;rw[D.out]at h |-;clear c0 c1 c2 c3 c4 g0 g1 g2 g3 g4;have q0:=(j.block w.heap.size (by omega) (by simp[Value.ownBlock])).trans R.out;have q1:=(j.block (w.heap.size+1) (by omega) (by simp[Value.ownBlock])).trans ak.out;obtain⟨⟨-,bb,-⟩,-,a5,-⟩:=Ch q0;have a3:=j.size;have aa:Below w.heap.size w w3:=⟨j.os.trans s.os,j.tape.trans s.tape,j.output.trans s.output,by omega,fun k hk=>(j.block k (by omega) (by simp[Value.ownBlock])).trans (s.block k hk)⟩;obtain⟨W,hW⟩:∃ W,w3.setCell ⟨w.heap.size,1,none⟩ (.slice A l b)=W:=⟨_,rfl⟩;have a8:W.heap.size=w3.heap.size:=(by rw[<- hW];simp[World.setCell]);have S:Hid (W.heap[w.heap.size]? = some (.cells #[.string u,.slice A l b,.int .i64 G,.int .i64 H,.slice L m M] 97)):=(by rw[Hid,<- hW,A6 q0];rfl);have al:Hid (W.heap[w.heap.size+1]? = some (.cells #[.string ⟨#[]⟩,.slice none 0 0,.int .i64 0,.int .i64 0,.slice none 0 0] 97)):=(by rw[Hid,<- hW,A7 (by omega)];exact q1);have x:Hid (Below w.heap.size w W):=(by rw[Hid,<- hW];exact aa.setCell (p:=⟨w.heap.size,1,none⟩) (Nat.le_refl _) _);have ai:Hid (W.ownsRow (w.heap.size+1+1) 3 1 (.slice A l b) l (Al F)):=Ah h (fun k I _ _=>by rw[<- hW,A7 (by omega)]);clear q0 q1 h j aa;obtain⟨⟨c0,c1,c2,c3,c4⟩,g0,g1,g2,g3,g4⟩:=Ch S.out)))
 have ah:Hid (Ba w.heap.size W (.slice L m M) E):=HI.out W x.out
 have ag:Hid (Calls Tryz.prog 125 #[.slice L m M,.func (Fn.func 126) #[] #[]] W fun e w' => ∃ a c,e = .returned (.slice a m c)/\w'.ownsRow W.heap.size 140 4 (.slice a m c) m (Bm E)/\Below W.heap.size W w'):=by
  obtain⟨a9,ba,e,hc⟩:=ah.out
  injection e with e1 e2 e3
  subst e1
  have au:=x.out.size
  have:=Yc E L M W (by rw[C.out];exact J) an.out (fun i hi=>by obtain⟨g,x1,x2,x3⟩:=hc i hi;exact⟨g,x1,by omega,x3⟩)
  rw[C.out]at this
  exact this
 refine ag.out.mono ?_
 rintro e w4 ⟨Z,o,rfl,t,r⟩
 have au:=x.out.size
 have r0:=(r.block w.heap.size (by omega)).trans S.out
 have r1:=(r.block (w.heap.size+1) (by omega)).trans al.out
 have O:Hid (Below w.heap.size w w4):=x.out.trans (r.mono (by omega))
 have z:Hid (w4.ownsRow (w.heap.size+1+1) 3 1 (.slice A l b) l (Al F)):=Ah ai.out (fun k _ _ h3=>r.block k h3)
 clear c0 c1 c2 c3 c4 g0 g1 g2 g3 g4 r
 have bc:=(Ch r0).1.2.2.2.2
 have a6:=(Ch r0).2.2.2.2.2
 obtain⟨X,hX⟩:∃ X,w4.setCell ⟨w.heap.size,4,none⟩ (.slice Z m o)=X:=⟨_,rfl⟩
 have am:Hid (X.heap[w.heap.size]? = some (.cells #[.string u,.slice A l b,.int .i64 G,.int .i64 H,.slice Z m o] 97)):=by rw[Hid,<- hX,A6 r0];rfl
 have T:Hid (X.heap[w.heap.size+1]? = some (.cells #[.string ⟨#[]⟩,.slice none 0 0,.int .i64 0,.int .i64 0,.slice none 0 0] 97)):=by rw[Hid,<- hX,A7 (by omega)];exact r1
 have af:Hid (Below w.heap.size w X):=by rw[Hid,<- hX];exact O.out.setCell (p:=⟨w.heap.size,4,none⟩) (Nat.le_refl _) _
 have Q:Hid (X.ownsRow (w.heap.size+1+1) 3 1 (.slice A l b) l (Al F)):=Ah z.out (fun k I _ _=>by rw[<- hX,A7 (by omega)])
 have P:Hid (X.ownsRow (w.heap.size+1+1) 140 4 (.slice Z m o) m (Bm E)):=Bc (Ah t (fun k I _ _=>by rw[<- hX,A7 (by omega)])) (by omega)
 clear r0 r1 t O z
 obtain⟨⟨c0,c1,c2,c3,c4⟩,g0,g1,g2,g3,g4⟩:=Ch am.out
 obtain⟨⟨m0,m1,m2,m3,m4⟩,l0,l1,l2,l3,l4⟩:=Ch T.out
 go_wp2_with fail
 obtain⟨Y,hY,ap,ac,d0,d1,d2,d3,d4⟩:=Od T.out af.out (by omega) (.string u) (.slice A l b) (.int .i64 G) (.int .i64 H) (.slice Z m o)
 rw[hY]
 clear c0 c1 c2 c3 c4 g0 g1 g2 g3 g4 m0 m1 m2 m3 m4 l0 l1 l2 l3 l4
 exact bodyPost_ret (v:=.agg #[.string u,.slice A l b,.int .i64 G,.int .i64 H,.slice Z m o]) (by simp[results,Tryz.results94,go_sem,d0,d1,d2,d3,d4]) rfl ⟨_,_,rfl,Bc (Ah Q.out (fun k I _ _=>ac k (by omega))) (by omega),Bc (Ah P.out (fun k I _ _=>ac k (by omega))) (by omega),ap⟩
end Go.Proofs.YtfjkahdghhbpnaaGreatDoor
