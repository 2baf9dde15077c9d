import Derived.Test.YtfjkahdghhbpnaaGreatDoorKStS
set_option maxRecDepth 100000
set_option maxHeartbeats 2000000
namespace Go.Proofs.YtfjkahdghhbpnaaGreatDoor
open Go.RowKit
theorem Ol (a:Option Addr) (c:Nat) (k:Int) (w:World) :
  Calls Tryz.prog 70 #[.slice a 0 c,.int .i64 k] w fun e w'=>e = .returned (.int .i64 k)/\w'=w:=by
 go_enter Tryz.func70,Tryz.ntmps70
 go_wp2_with fail
 go_loopw [1,5] (fun q t wr=>t = .int .i64 0/\q = .int .i64 k/\wr=w) (fun _ _ _=>0)
 case atStart=>exact⟨rfl,rfl,rfl⟩
 case round =>
  obtain⟨rfl,rfl,rfl⟩:=hrel
  go_wp2_with fail
  go_ret
  exact⟨rfl,rfl⟩
theorem Oh (a:Option Addr) (c:Nat) (k:Int) (w:World) :
  Calls Tryz.prog 72 #[.slice a 0 c,.int .i64 k] w fun e w'=>e = .returned (.int .i64 k)/\w'=w:=by
 go_enter Tryz.func72,Tryz.ntmps72
 go_wp2_with fail
 go_loopw [1,5] (fun q t wr=>t = .int .i64 0/\q = .int .i64 k/\wr=w) (fun _ _ _=>0)
 case atStart=>exact⟨rfl,rfl,rfl⟩
 case round =>
  obtain⟨rfl,rfl,rfl⟩:=hrel
  go_wp2_with fail
  go_ret
  exact⟨rfl,rfl⟩
theorem Jc (a:Option Addr) (c:Nat) (k:Int) (w:World) :
  Calls Tryz.prog 36 #[.slice a 0 c,.int .i64 k] w fun e w'=>e = .returned (.int .i64 k)/\w'=w:=by
 go_enter Tryz.func36,Tryz.ntmps36
 go_wp2_with fail
 go_loopw [1,5] (fun q t wr=>t = .int .i64 0/\q = .int .i64 k/\wr=w) (fun _ _ _=>0)
 case atStart=>exact⟨rfl,rfl,rfl⟩
 case round =>
  obtain⟨rfl,rfl,rfl⟩:=hrel
  go_wp2_with fail
  go_ret
  exact⟨rfl,rfl⟩
theorem Ja (a:Option Addr) (c:Nat) (k:Int) (w:World) :
  Calls Tryz.prog 41 #[.slice a 0 c,.int .i64 k] w fun e w'=>e = .returned (.int .i64 k)/\w'=w:=by
 go_enter Tryz.func41,Tryz.ntmps41
 go_wp2_with fail
 go_loopw [1,5] (fun q t wr=>t = .int .i64 0/\q = .int .i64 k/\wr=w) (fun _ _ _=>0)
 case atStart=>exact⟨rfl,rfl,rfl⟩
 case round =>
  obtain⟨rfl,rfl,rfl⟩:=hrel
  go_wp2_with fail
  go_ret
  exact⟨rfl,rfl⟩
theorem Pq (a:Option Addr) (c:Nat) (k:Int) (w:World) :
  Calls Tryz.prog 37 #[.slice a 0 c,.int .i64 k] w fun e w'=>e = .returned (.int .i64 k)/\w'=w:=by
 go_enter Tryz.func37,Tryz.ntmps37
 go_wp2_with fail
 go_loopw [1,5] (fun q t wr=>t = .int .i64 0/\q = .int .i64 k/\wr=w) (fun _ _ _=>0)
 case atStart=>exact⟨rfl,rfl,rfl⟩
 case round =>
  obtain⟨rfl,rfl,rfl⟩:=hrel
  go_wp2_with fail
  go_ret
  exact⟨rfl,rfl⟩
theorem Pj (a:Option Addr) (c:Nat) (k:Int) (w:World) :
  Calls Tryz.prog 40 #[.slice a 0 c,.int .i64 k] w fun e w'=>e = .returned (.int .i64 k)/\w'=w:=by
 go_enter Tryz.func40,Tryz.ntmps40
 go_wp2_with fail
 go_loopw [1,5] (fun q t wr=>t = .int .i64 0/\q = .int .i64 k/\wr=w) (fun _ _ _=>0)
 case atStart=>exact⟨rfl,rfl,rfl⟩
 case round =>
  obtain⟨rfl,rfl,rfl⟩:=hrel
  go_wp2_with fail
  go_ret
  exact⟨rfl,rfl⟩
theorem Oj (a:Option Addr) (c:Nat) (k:Int) (w:World) :
  Calls Tryz.prog 38 #[.slice a 0 c,.int .i64 k] w fun e w'=>e = .returned (.int .i64 k)/\w'=w:=by
 go_enter Tryz.func38,Tryz.ntmps38
 go_wp2_with fail
 go_loopw [1,5] (fun q t wr=>t = .int .i64 0/\q = .int .i64 k/\wr=w) (fun _ _ _=>0)
 case atStart=>exact⟨rfl,rfl,rfl⟩
 case round =>
  obtain⟨rfl,rfl,rfl⟩:=hrel
  go_wp2_with fail
  go_ret
  exact⟨rfl,rfl⟩
theorem Oe (a:Option Addr) (c:Nat) (k:Int) (w:World) :
  Calls Tryz.prog 42 #[.slice a 0 c,.int .i64 k] w fun e w'=>e = .returned (.int .i64 k)/\w'=w:=by
 go_enter Tryz.func42,Tryz.ntmps42
 go_wp2_with fail
 go_loopw [1,5] (fun q t wr=>t = .int .i64 0/\q = .int .i64 k/\wr=w) (fun _ _ _=>0)
 case atStart=>exact⟨rfl,rfl,rfl⟩
 case round =>
  obtain⟨rfl,rfl,rfl⟩:=hrel
  go_wp2_with fail
  go_ret
  exact⟨rfl,rfl⟩
theorem Fy {w:World} {A B e e' s s' n n':Nat} {v v':Value} {xs xs':List Value} (h:w.ownsRow A e s v n xs) (h':w.ownsRow B e' s' v' n' xs') (hne:e≠e'):∀ k,v.ownBlock=some k->v'.ownBlock≠some k:=fun k hk hk'=>by
 obtain⟨c,b⟩:=(A3 h hk).2
 obtain⟨d,a⟩:=(A3 h' hk').2
 rw[b]at a
 injection a with a
 injection a with _ a
 exact hne a
theorem Qdo {W w1:World} {A e s n:Nat} {v u:Value} {xs ys:List Value} (h0:W.ownsRow A e s v 0 []) (hu:W.ownsRow A e s u n xs) (hu1:w1.ownsRow A e s u n ys) (fr:Au (fun j=>u.ownBlock=some j) W w1):w1.ownsRow A e s v 0 []:=by
 by_cases hb:∃ g,v.ownBlock=some g/\u.ownBlock=some g
 ·obtain⟨g,F,f⟩:=hb
  rcases h0.2 with⟨rfl,_⟩|⟨r,i,x,rfl,B,a,D,C,m,E⟩
  ·exact⟨by simp,.inl ⟨rfl,rfl⟩⟩
  ·have y:r=g:=by simpa[Value.ownBlock]using F
   subst y
   rcases hu.2 with⟨rfl,_⟩|⟨t,o,q,rfl,_,k,_,_,c,_⟩
   ·simp[Value.ownBlock]at f
   ·have z:t=r:=by simpa[Value.ownBlock]using f
    subst z
    rcases hu1.2 with⟨h,_⟩|⟨G,p,b,h,_,l,_,_,d,_⟩
    ·cases h
    ·injection h with h4 h5 h6
     injection h4 with h4
     injection h4 with h4
     subst h4 h6
     rw[k]at a
     injection a with a
     injection a with a
     exact⟨by simp,.inr ⟨t,i,b,rfl,B,l,D,C,by rw[d,<- c,a,m],by simp⟩⟩
 ·exact Ah h0 (fun j hj _ hlt=>fr.keep j hlt (fun e=>hb ⟨j,hj,e⟩))
theorem Pr (A gf cc:Nat) (x0 x1 x2:Int) (l:List Fu) (sa ta:Option Addr) (sc tc:Nat) (k:Int) (h1:1<=k) (h2:k<=1000000000000) (hl:l.length<=1000) (w:World) (hf:w.ownsRow A 56 5 (.slice (some ⟨gf,0,none⟩) 1 cc) 1 [.int .i64 x0,.int .i64 x1,.int .i64 x2,.slice sa l.length sc,.slice ta 0 tc]) (hs:w.ownsRow A 99 3 (.slice sa l.length sc) l.length (Bj l)) (ht:w.ownsRow A 99 3 (.slice ta 0 tc) 0 []) :
  Calls Tryz.prog 38 #[.slice (some ⟨gf,0,none⟩) 1 cc,.int .i64 k] w fun e w'=>e = .returned (.int .i64 (k+1+1+1+3 * (l.length:Int)))/\w'.ownsRow A 56 5 (.slice (some ⟨gf,0,none⟩) 1 cc) 1 [.int .i64 k,.int .i64 (k+1),.int .i64 (k+1+1),.slice sa l.length sc,.slice ta 0 tc]/\w'.ownsRow A 99 3 (.slice sa l.length sc) l.length (Bj (Dh (k+1+1+1) l.length))/\w'.ownsRow A 99 3 (.slice ta 0 tc) 0 []/\Au (fun j=>j=gf\/(Value.slice sa l.length sc).ownBlock=some j) w w':=by
 have a:(Value.slice (some ⟨gf,0,none⟩) 1 cc).ownBlock=some gf:=by
  obtain⟨g,o,U⟩:=Ck hf (by omega)
  injection o with o;injection o with o
  subst o;exact U
 have N:=Dg hf a 0 (.int .i64 k)
 have O:=Dg N a 1 (.int .i64 (k+1))
 have C:=Dg O a 2 (.int .i64 (k+1+1))
 obtain⟨W,B⟩:∃ W,((w.setCell ⟨gf,0,none⟩ (.int .i64 k)).setCell ⟨gf,1,none⟩ (.int .i64 (k+1))).setCell ⟨gf,2,none⟩ (.int .i64 (k+1+1))=W:=⟨_,rfl⟩
 rw[B]at C
 have b:Hid (W.ownsRow A 56 5 (.slice (some ⟨gf,0,none⟩) 1 cc) 1 [.int .i64 k,.int .i64 (k+1),.int .i64 (k+1+1),.slice sa l.length sc,.slice ta 0 tc]):=C
 have d:∀ j,j≠gf->W.heap[j]? = w.heap[j]?:=fun j hj=>by rw[<- B,A7 hj,A7 hj,A7 hj]
 have c:Hid (W.ownsRow A 99 3 (.slice sa l.length sc) l.length (Bj l)):=Ah hs (fun j hj _ _=>d j (fun e=>by subst e;exact Fy hs hf (by decide) _ hj a))
 have y:Hid (W.ownsRow A 99 3 (.slice ta 0 tc) 0 []):=Ah ht (fun j hj _ _=>d j (fun e=>by subst e;exact Fy ht hf (by decide) _ hj a))
 have i:Hid (Au (fun j=>j=gf\/(Value.slice sa l.length sc).ownBlock=some j) w W):=by rw[Hid,<- B];exact((Au.set w gf 0 _ (.inl rfl)).trans (Au.set _ gf 1 _ (.inl rfl))).trans (Au.set _ gf 2 _ (.inl rfl))
 obtain⟨⟨Z,J⟩,G⟩:=Du hf a 0 (by omega)
 obtain⟨⟨z1,L⟩,H⟩:=Du hf a 1 (by omega)
 obtain⟨⟨z2,M⟩,I⟩:=Du hf a 2 (by omega)
 have F:Hid ((Value.slice (some ⟨gf,0,none⟩) 1 cc).ownBlock=some gf):=a
 have m:Hid (Calls Tryz.prog 70 #[.slice sa l.length sc,.int .i64 (k+1+1+1)] W fun e w'=>e = .returned (.int .i64 (k+1+1+1+3 * (l.length:Int)))/\w'.ownsRow A 99 3 (.slice sa l.length sc) l.length (Bj (Dh (k+1+1+1) l.length))/\Au (fun j=>(Value.slice sa l.length sc).ownBlock=some j) W w'):=Ps A l sa sc (k+1+1+1) (by omega) (by omega) (by omega) W c.out
 have E:=Bp b.out F.out 3 _ rfl
 clear hf hs ht N O C a d
 obtain⟨n,T⟩:∃ n,Hid (l.length=n):=⟨_,(rfl:l.length=_)⟩
 rw[T.out]at b c i m E hl |-
 go_enter Tryz.func38,Tryz.ntmps38
 go_wp2_with fail
 go_loopw [1,5] (fun q t wr=>(t = .int .i64 0/\q = .int .i64 k/\wr=w)\/(t = .int .i64 1/\q = .int .i64 (k+1+1+1+3 * (n:Int))/\wr.ownsRow A 56 5 (.slice (some ⟨gf,0,none⟩) 1 cc) 1 [.int .i64 k,.int .i64 (k+1),.int .i64 (k+1+1),.slice sa n sc,.slice ta 0 tc]/\wr.ownsRow A 99 3 (.slice sa n sc) n (Bj (Dh (k+1+1+1) n))/\wr.ownsRow A 99 3 (.slice ta 0 tc) 0 []/\Au (fun j=>j=gf\/(Value.slice sa n sc).ownBlock=some j) w wr)) (fun _ t _=>1 - (intOf t).toNat)
 case atStart=>exact .inl ⟨rfl,rfl,rfl⟩
 case round =>
  rcases hrel with⟨rfl,rfl,rfl⟩|⟨rfl,rfl,P,Q,R,S⟩
  ·go_wp2_with fail
   refine m.out.mono ?_
   rintro e f ⟨rfl,D,r⟩
   have h:Hid (f.ownsRow A 56 5 (.slice (some ⟨gf,0,none⟩) 1 cc) 1 [.int .i64 k,.int .i64 (k+1),.int .i64 (k+1+1),.slice sa n sc,.slice ta 0 tc]):=Ah b.out (fun j hj _ hlt=>r.keep j hlt (fun e=>Fy b.out c.out (by decide) j hj e))
   have x:Hid (f.ownsRow A 99 3 (.slice ta 0 tc) 0 []):=Qdo y.out c.out D r
   have z:Hid (f.ownsRow A 99 3 (.slice sa n sc) n (Bj (Dh (k+1+1+1) n))):=D
   have v:Hid (Au (fun j=>j=gf\/(Value.slice sa n sc).ownBlock=some j) wr f):=i.out.trans (r.mono (fun j hj => .inr hj))
   have V:=Bp h.out F.out 4 _ rfl
   obtain⟨K,s⟩:∃ K,Hid (k+1+1+1+3 * (n:Int)=K):=⟨_,(rfl:_=_)⟩
   have X:1<=K/\K<=10000000000000:=by have:=s.out;omega
   have u:Hid (Calls Tryz.prog 70 #[.slice ta 0 tc,.int .i64 K] f fun e w'=>e = .returned (.int .i64 K)/\w'=f):=Ol ta tc K f
   clear D r E J L M G H I
   rw[s.out]
   go_wp2_with fail
   refine u.out.mono ?_
   rintro e Y ⟨rfl,rfl⟩
   clear V
   go_wp2_with fail
   go_roundw
   case rel=>exact .inr ⟨by go_num,by rw[s.out],h.out,z.out,x.out,v.out⟩
   case measure=>simp[intOf]
  ·have p:Hid (wr.ownsRow A 56 5 (.slice (some ⟨gf,0,none⟩) 1 cc) 1 [.int .i64 k,.int .i64 (k+1),.int .i64 (k+1+1),.slice sa n sc,.slice ta 0 tc]/\wr.ownsRow A 99 3 (.slice sa n sc) n (Bj (Dh (k+1+1+1) n))/\wr.ownsRow A 99 3 (.slice ta 0 tc) 0 []/\Au (fun j=>j=gf\/(Value.slice sa n sc).ownBlock=some j) w wr):=⟨P,Q,R,S⟩
   clear P Q R S J L M G H I E
   go_wp2_with fail
   go_ret
   exact⟨rfl,p.out.1,p.out.2.1,p.out.2.2.1,p.out.2.2.2⟩
theorem Pk (A gf cc n:Nat) (sa ta:Option Addr) (sc tc:Nat) (k:Int) (h1:1<=k) (h2:k<=1000000000000) (hl:n<=1000) (w:World) (hf:w.ownsRow A 56 5 (.slice (some ⟨gf,0,none⟩) 1 cc) 1 [.int .i64 k,.int .i64 (k+1),.int .i64 (k+1+1),.slice sa n sc,.slice ta 0 tc]) (hs:w.ownsRow A 99 3 (.slice sa n sc) n (Bj (Dh (k+1+1+1) n))) :
  Calls Tryz.prog 42 #[.slice (some ⟨gf,0,none⟩) 1 cc,.int .i64 k] w fun e w'=>e = .returned (.int .i64 (k+1+1+1+3 * (n:Int)))/\Below w.heap.size w w':=by
 have a:(Value.slice (some ⟨gf,0,none⟩) 1 cc).ownBlock=some gf:=by
  obtain⟨g,d,r⟩:=Ck hf (by omega)
  injection d with d;injection d with d
  subst d;exact r
 have j:=Bp hf a 0 _ rfl
 have l:=Bp hf a 1 _ rfl
 have m:=Bp hf a 2 _ rfl
 have o:=Bp hf a 3 _ rfl
 have c:Hid (w.cell? ⟨gf,4,none⟩=some (.slice ta 0 tc)):=Bp hf a 4 _ rfl
 have b:Hid (Calls Tryz.prog 72 #[.slice sa n sc,.int .i64 (k+1+1+1)] w fun e w'=>e = .returned (.int .i64 (k+1+1+1+3 * (n:Int)))/\Below w.heap.size w w'):=Pl A n sa sc (k+1+1+1) (by omega) (by omega) (by omega) w hs
 obtain⟨K,h⟩:∃ K,Hid (k+1+1+1+3 * (n:Int)=K):=⟨_,(rfl:_=_)⟩
 have B:1<=K/\K<=10000000000000:=by have:=h.out;omega
 rw[h.out]at b |-
 have s:¬ K < 0:=by omega
 have u:(k != k)=false:=by simp
 have v:(k+1 != k+1)=false:=by simp
 have x:(k+1+1 != k+1+1)=false:=by simp
 clear hf hs a
 go_enter Tryz.func42,Tryz.ntmps42
 go_wp2_with fail
 go_loopw [1,5] (fun q t wr=>(t = .int .i64 0/\q = .int .i64 k/\wr=w)\/(t = .int .i64 1/\q = .int .i64 K/\Below w.heap.size w wr)) (fun _ t _=>1 - (intOf t).toNat)
 case atStart=>exact .inl ⟨rfl,rfl,rfl⟩
 case round =>
  rcases hrel with⟨rfl,rfl,rfl⟩|⟨rfl,rfl,y⟩
  ·go_wp2_with fail
   refine b.out.mono ?_
   rintro e i ⟨rfl,f⟩
   have z:i.cell? ⟨gf,4,none⟩=some (.slice ta 0 tc):=(f.cell (p:=⟨gf,4,none⟩) (Bv c.out)).trans c.out
   clear j l m o
   go_wp2_with fail
   refine(Oh ta tc K i).mono ?_
   rintro e C ⟨rfl,rfl⟩
   clear z
   go_wp2_with fail
   go_roundw
   case rel=>exact .inr ⟨by go_num,rfl,f⟩
   case measure=>simp[intOf]
  ·clear j l m o
   go_wp2_with fail
   go_ret
   exact⟨rfl,y⟩
end Go.Proofs.YtfjkahdghhbpnaaGreatDoor
