import Derived.Test.YtlcckaffhnjneaaGreatDoorKPaM
set_option maxRecDepth 100000
set_option maxHeartbeats 2000000
namespace Go.Proofs.YtlcckaffhnjneaaGreatDoor
open Go.RowKit
variable {ts:List (Mill.Piece × Nat)} {g:Nat} {a:Option Addr} {c:Nat} {s:Pa.S} {w:World}
theorem Pa.Fr.drew {w':World} (h:Pa.Fr g w w'):Pa.Fr g w w'.drew:=⟨h.os,h.tape,h.output,h.size,h.keep⟩
theorem Pa.out_drew {R:Pa.Nds × Pa.S} {e:Ending} {w':World} (h:Pa.Out ts g a c R w e w'):Pa.Out ts g a c R w e w'.drew:=by
 obtain ⟨va,vc,he,hr,hD,hF⟩:=h
 exact ⟨va,vc,he,hr,hD.below (Pa.below_drew (Below.refl _ _)),hF.drew⟩
theorem Pa.single_text (hk:Pa.kind ts s=4) (hD:Pa.D ts g a c s w) :
  Calls Tryz.prog 109 #[.pointer (some ⟨g,0,none⟩)] w (Pa.Out ts g a c ([⟨2,0,0,0,Mill.ba (Pa.tx ts s.p),0⟩],Pa.nx s) w):=by
 have hgw:=hD.lt
 obtain ⟨hs1,hs2⟩:=hD.sum
 have hp:=(Pa.kind_lt hk (by decide)).1
 have hlen:=hD.len
 have hcap:=hD.cap
 obtain ⟨X,HX⟩:∃ X,Hid (Mill.ba (Pa.tx ts s.p)=X):=⟨_,rfl⟩
 rw [HX.out]
 have hpn:(s.p:Int) < (ts.length:Int):=by omega
 have hpz:(0:Int)≤(s.p:Int):=by omega
 go_enter Tryz.func109,Tryz.ntmps109
 go_wp2_with (go_at_call 44;refine (Pa.kind_any hD).mono ?_;rintro e W ⟨rfl,hW⟩;have hD2:=hD.below hW;obtain ⟨c0,c1,c2,f1,f2⟩:=hD2.cells;rw [hk])
 have hD3:=hD2.nx hp
 obtain ⟨W2,hW2⟩:∃ W2,W.setCell ⟨g,1,none⟩ (.int .i64 ((s.p:Int)+1))=W2:=⟨_,rfl⟩
 rw [hW2] at hD3 ⊢
 have HF:Hid (Pa.Fr g w W2):=by rw [Hid,← hW2];exact (Pa.Fr.of_below hW).trans (Pa.Fr.set _ _ _)
 have HD:Hid (Pa.D ts g a c (Pa.nx s) W2):=hD3
 obtain ⟨b,rfl,hbg,k0,k1,k2,k3,z,k4⟩:=hD2.tok hp
 obtain ⟨u0,u1,u2,_,_⟩:=hD3.cells
 have v1:W2.cell? ⟨b,s.p * 5+1,none⟩=some (.string X):=by
  rw [← HX.out,← hW2,World.cell?_setCell_other]
  ·exact k1
  ·simp;try omega
 simp only [Pa.nx] at u1
 have u1':W2.cell? ⟨g,1,none⟩=some (.int .i64 ((s.p:Int)+1)):=by rw [u1];simp
 have hm:(s.p:Int)+1 - 1=(s.p:Int):=by omega
 have hm2:IntKind.i64.wrap (s.p:Int)=(s.p:Int):=by rw [IntWalk.i64_left,wrap64];omega
 have hm3:wrap64 (s.p:Int)=(s.p:Int):=by rw [wrap64];omega
 have hgz:g < W2.heap.size:=hD3.lt
 have hbz:b < W2.heap.size:=Nat.lt_trans hbg hgz
 clear hD3 hD2 hD hW hW2 c0 c1 c2 f1 f2 k0 k1 k2 k3 k4 u1
 have HS:Hid (∀ V,Below W2.heap.size W2 V→V.cell? ⟨g,0,none⟩=some (.slice (some ⟨b,0,none⟩) ts.length c)∧V.cell? ⟨g,1,none⟩=some (.int .i64 ((s.p:Int)+1))∧V.cell? ⟨b,s.p * 5+1,none⟩=some (.string X)):=by
  intro V hV
  have e:=Mill.bcell hV
  refine ⟨?_, ?_, ?_⟩
  ·rw [e.1 _ _ hgz];exact u0
  ·rw [e.1 _ _ hgz];exact u1'
  ·rw [e.1 _ _ hbz];exact v1
 go_wp2_with fail
 go_region_held3 (fun V=>V.cell? ⟨g,0,none⟩=some (.slice (some ⟨b,0,none⟩) ts.length c)∧V.cell? ⟨g,1,none⟩=some (.int .i64 ((s.p:Int)+1))∧V.cell? ⟨b,s.p * 5+1,none⟩=some (.string X)) (exact HS.out _ (by repeat' (first | exact Below.refl _ _ | apply Below.drew | apply Pa.below_drewN | refine Below.alloc ?_ ?_ _ | refine Below.setCell ?_ ?_ _ | exact Nat.le_refl _ | (simp;done) | (simp;omega)))) (fail)
 go_wp2_with fail
 go_ret
 exact Pa.out_drew (Pa.out_new ⟨2,0,0,0,X,0⟩ HD.out HF.out rfl)
theorem Pa.single_int (hk:Pa.kind ts s=3) (hD:Pa.D ts g a c s w) :
  Calls Tryz.prog 109 #[.pointer (some ⟨g,0,none⟩)] w (Pa.Out ts g a c ([⟨1,0,Pa.ty ts s.p,Pa.nm ts s.p,⟨#[]⟩,0⟩],Pa.nx s) w):=by
 have hgw:=hD.lt
 obtain ⟨hs1,hs2⟩:=hD.sum
 have hp:=(Pa.kind_lt hk (by decide)).1
 have hlen:=hD.len
 have hcap:=hD.cap
 have hpn:(s.p:Int) < (ts.length:Int):=by omega
 have hpz:(0:Int)≤(s.p:Int):=by omega
 obtain ⟨Y,HY⟩:∃ Y,Hid (Pa.ty ts s.p=Y):=⟨_,rfl⟩
 obtain ⟨Z,HZ⟩:∃ Z,Hid (Pa.nm ts s.p=Z):=⟨_,rfl⟩
 rw [HY.out,HZ.out]
 obtain ⟨K,HK⟩:∃ K,Hid (Pa.kd ts s.p=K):=⟨_,rfl⟩
 obtain ⟨X,HX⟩:∃ X,Hid (Mill.ba (Pa.tx ts s.p)=X):=⟨_,rfl⟩
 obtain ⟨n,hn⟩:∃ n,ts.length=n:=⟨_,rfl⟩
 obtain ⟨p,HP⟩:∃ p,Hid (s.p=p):=⟨_,rfl⟩
 rw [hn] at hpn hlen hcap
 rw [HP.out] at hpn hpz hs1 hs2
 go_enter Tryz.func109,Tryz.ntmps109
 go_wp2_with (go_at_call 44;refine (Pa.kind_any hD).mono ?_;rintro e W ⟨rfl,hW⟩;have hD2:=hD.below hW;obtain ⟨c0,c1,c2,f1,f2⟩:=hD2.cells;rw [hk])
 obtain ⟨b,rfl,hbg,k0,k1,k2,k3,z,k4⟩:=hD2.tok hp
 rw [HY.out,HP.out] at k2
 rw [HZ.out,HP.out] at k3
 rw [HK.out,HP.out] at k0
 rw [HX.out,HP.out] at k1
 rw [HP.out] at k4 c1
 rw [hn] at c0
 have hgz:g < W.heap.size:=hD2.lt
 have hbz:b < W.heap.size:=Nat.lt_trans hbg hgz
 have HF:Hid (Pa.Fr g w W):=Pa.Fr.of_below hW
 have HD:Hid (Pa.D ts g (some ⟨b,0,none⟩) c s W):=hD2
 have HS:Hid (∀ V,Below W.heap.size W V→V.cell? ⟨g,0,none⟩=some (.slice (some ⟨b,0,none⟩) n c)∧V.cell? ⟨g,1,none⟩=some (.int .i64 (p:Int))∧V.cell? ⟨b,p * 5,none⟩=some (.int .i64 K)∧V.cell? ⟨b,p * 5+1,none⟩=some (.string X)∧V.cell? ⟨b,p * 5+2,none⟩=some (.int .i64 Y)∧V.cell? ⟨b,p * 5+3,none⟩=some (.int .i64 Z)∧V.cell? ⟨b,p * 5+4,none⟩=some (.int .i64 z)):=by
  intro V hV
  have e:=Mill.bcell hV
  refine ⟨?_, ?_, ?_, ?_, ?_, ?_, ?_⟩
  ·rw [e.1 _ _ hgz];exact c0
  ·rw [e.1 _ _ hgz];exact c1
  ·rw [e.1 _ _ hbz];exact k0
  ·rw [e.1 _ _ hbz];exact k1
  ·rw [e.1 _ _ hbz];exact k2
  ·rw [e.1 _ _ hbz];exact k3
  ·rw [e.1 _ _ hbz];exact k4
 have HPP:Hid (s.p < ts.length):=hp
 clear hD2 hD hW hn hp
 go_wp2_with fail
 go_region_held3 (fun V=>V.cell? ⟨g,0,none⟩=some (.slice (some ⟨b,0,none⟩) n c)∧V.cell? ⟨g,1,none⟩=some (.int .i64 (p:Int))∧V.cell? ⟨b,p * 5,none⟩=some (.int .i64 K)∧V.cell? ⟨b,p * 5+1,none⟩=some (.string X)∧V.cell? ⟨b,p * 5+2,none⟩=some (.int .i64 Y)∧V.cell? ⟨b,p * 5+3,none⟩=some (.int .i64 Z)∧V.cell? ⟨b,p * 5+4,none⟩=some (.int .i64 z)) (exact HS.out _ (by repeat' (first | exact Below.refl _ _ | apply Below.drew | apply Pa.below_drewN | refine Below.alloc ?_ ?_ _ | refine Below.setCell ?_ ?_ _ | exact Nat.le_refl _ | (simp;done) | (simp;omega)))) (fail)
 obtain ⟨W1,hW1⟩:∃ V,(W.alloc (.cells #[.int .i64 K,.string X,.int .i64 Y,.int .i64 Z,.int .i64 z] 41)).drew=V:=⟨_,rfl⟩
 have q2:W1.cell? ⟨W.heap.size,2,none⟩=some (.int .i64 Y):=by rw [← hW1];simp [go_sem]
 have q3:W1.cell? ⟨W.heap.size,3,none⟩=some (.int .i64 Z):=by rw [← hW1];simp [go_sem]
 have B1:Below W.heap.size W W1:=by rw [← hW1];exact Pa.below_drew ((Below.refl _ _).alloc (Nat.le_refl _) _)
 have hD1:=HD.out.below B1
 have HF1:Hid (Pa.Fr g w W1):=HF.out.trans (Pa.Fr.of_below B1)
 have hne:W.heap.size≠g:=by omega
 rw [hW1]
 clear hW1 HS c0 c1 c2 f1 f2 k0 k1 k2 k3 k4
 obtain ⟨c0,c1,c2,f1,f2⟩:=hD1.cells
 rw [HP.out] at c1
 have q2':∀ v,(W1.setCell ⟨g,1,none⟩ v).cell? ⟨W.heap.size,2,none⟩=some (.int .i64 Y):=fun v=>by rw [World.cell?_setCell_other];exact q2;simp;try omega
 have q3':∀ v,(W1.setCell ⟨g,1,none⟩ v).cell? ⟨W.heap.size,3,none⟩=some (.int .i64 Z):=fun v=>by rw [World.cell?_setCell_other];exact q3;simp;try omega
 have HD2:Hid (Pa.D ts g (some ⟨b,0,none⟩) c (Pa.nx s) (W1.setCell ⟨g,1,none⟩ (.int .i64 ((p:Int)+1)))):=by
  have:=hD1.nx HPP.out
  rw [HP.out] at this;exact this
 clear B1 hD1
 go_wp2_with fail
 go_ret
 exact Pa.out_new ⟨1,0,Y,Z,⟨#[]⟩,0⟩ HD2.out (HF1.out.trans (Pa.Fr.set _ _ _)) (by simp [go_sem])
variable {ts:List (Mill.Piece × Nat)} {g:Nat} {a:Option Addr} {c:Nat} {s:Pa.S} {w:World}
theorem Pa.exprsL_cnt : ∀ (m k:Nat) (l:Pa.Nds) (s:Pa.S) (R:Pa.Nds × Nat × Pa.S),Pa.exprsL ts m k l s=some R→R.2.1≤k+m
 | 0,k,l,s,R,h=>by simp [Pa.exprsL] at h
 | m+1,k,l,s,R,h=>by
  rw [Pa.exprsL] at h
  split at h
  ·simp at h;subst h;simp;try omega
  ·split at h
   ·simp at h
   ·split at h
    ·have:=Pa.exprsL_cnt m _ _ _ R h
     omega
    ·simp at h;subst h;simp;try omega
theorem Pa.exprs_cnt (n:Nat) (s:Pa.S) (R:Pa.Nds × Nat × Pa.S) (h:Pa.exprs ts (n+1) s=some R):R.2.1≤n:=by
 rw [Pa.exprs] at h
 split at h
 ·simp at h;subst h;simp
 ·rw [Option.map_eq_some_iff] at h
  obtain ⟨r,hr,rfl⟩:=h
  have:=Pa.exprsL_cnt _ _ _ _ _ hr
  simp at this ⊢;exact this
theorem Pa.word_any (n:Nat) (ih:∀ m,m≤n→Pa.ExprIs ts g a c m) (hk:Pa.kind ts s=2) (R:Pa.Nds × Pa.S) (hR:Pa.word ts (n+1) s=some R) (hl:R.1.length≤1000000) (hD:Pa.D ts g a c s w) :
  Calls Tryz.prog 126 #[.pointer (some ⟨g,0,none⟩)] w (Pa.Out ts g a c R w):=by
 rw [Pa.word] at hR
 split at hR
 ·rename_i h1
  simp only [Option.some.injEq] at hR;subst hR
  exact Pa.word_true hk h1 hD
 ·rename_i h1
  split at hR
  ·rename_i h2
   simp only [Option.some.injEq] at hR;subst hR
   exact Pa.word_false hk h2 hD
  ·rename_i h2
   split at hR
   ·rename_i h3
    rw [Option.map_eq_some_iff] at hR
    obtain ⟨r,hr,rfl⟩:=hR
    cases n with
    | zero=>simp [Pa.built] at hr
    | succ n=>exact Pa.word_conv n (fun m hm=>ih m (by omega)) hk h1 h2 h3 r hr (by simpa using hl) hD
   ·rename_i h3
    split at hR
    ·rename_i h4
     rw [Option.map_eq_some_iff] at hR
     obtain ⟨r,hr,rfl⟩:=hR
     cases n with
     | zero=>simp [Pa.built] at hr
     | succ n=>exact Pa.word_built n (fun m hm=>ih m (by omega)) hk h1 h2 h3 h4 r hr (by simpa using hl) hD
    ·rename_i h4
     simp only [Option.some.injEq] at hR;subst hR
     exact Pa.word_none hk h1 h2 h3 (by simpa using h4) hD
theorem Pa.single_next (n:Nat) (hn:n≤500000) (ih:∀ m,m≤n→Pa.ExprIs ts g a c m) (ihs:∀ m,m≤n→Pa.SingleIs ts g a c m):Pa.SingleIs ts g a c (n+1):=by
 intro s w R hR hb hl hD
 rw [Pa.single] at hR
 split at hR
 ·rename_i h3
  simp only [Option.some.injEq] at hR;subst hR
  exact Pa.single_int h3 hD
 ·rename_i h3
  split at hR
  ·rename_i h4
   simp only [Option.some.injEq] at hR;subst hR
   exact Pa.single_text h4 hD
  ·rename_i h4
   split at hR
   ·rename_i h1
    split at hR
    ·rename_i hI
     rw [Option.map_eq_some_iff] at hR
     obtain ⟨r,hr,rfl⟩:=hR
     cases n with
     | zero=>simp [Pa.exprs] at hr
     | succ n=>exact Pa.single_name n (fun m hm=>ih m (by omega)) h1 hI r hr (by simpa using hl) (by have:=Pa.exprs_cnt n _ _ hr;omega) hD
    ·rename_i hI
     simp only [Option.some.injEq] at hR;subst hR
     exact Pa.single_nm h1 (by simpa using hI) hD
   ·rename_i h1
    split at hR
    ·rename_i h2
     cases n with
     | zero=>simp [Pa.word] at hR
     | succ n=>exact Pa.single_word h2 R (fun W hW=>Pa.word_any n (fun m hm=>ih m (by omega)) h2 R hR hl hW) hD
    ·rename_i h2
     split at hR
     ·rename_i hu
      rw [Option.map_eq_some_iff] at hR
      obtain ⟨r,hr,rfl⟩:=hR
      refine Pa.single_un ⟨h1,h2,h3,h4⟩ hu r (fun W hW=>ihs n (Nat.le_refl _) _ W r hr hb (by simp at hl;omega) hW) (by simpa using hl) hD
     ·rename_i hu
      have hu':Pa.un ts s=0:=by simpa using hu
      split at hR
      ·rename_i hnb
       simp only [Option.some.injEq] at hR;subst hR
       exact Pa.single_bad ⟨h1,h2,h3,h4⟩ hu' hnb hD
      ·rename_i hnb
       rw [Option.map_eq_some_iff] at hR
       obtain ⟨r,hr,rfl⟩:=hR
       exact Pa.single_br ⟨h1,h2,h3,h4⟩ hu' (by simpa using hnb) r (fun W hW=>ih n (Nat.le_refl _) 1 _ W r (by omega) (by omega) hr hl hW) hD
theorem Pa.both (n:Nat) (hn:n≤500000):Pa.ExprIs ts g a c n∧Pa.SingleIs ts g a c n:=by
 induction n using Nat.strongRecOn with
 | ind n h =>
  cases n with
  | zero=>exact ⟨fun r s w R _ _ hR=>by simp [Pa.expr] at hR,fun s w R hR=>by simp [Pa.single] at hR⟩
  | succ n=>exact ⟨Pa.expr_next n (fun m hm=>(h m (by omega) (by omega)).1) (fun m hm=>(h m (by omega) (by omega)).2),Pa.single_next n (by omega) (fun m hm=>(h m (by omega) (by omega)).1) (fun m hm=>(h m (by omega) (by omega)).2)⟩
theorem Pa.expr_any (n:Nat) (hn:n≤500000):Pa.ExprIs ts g a c n:=(Pa.both n hn).1
end Go.Proofs.YtlcckaffhnjneaaGreatDoor
