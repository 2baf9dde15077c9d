import Derived.Test.YtfjkahdghhbpnaaGreatDoorKStL
import Derived.Test.YtfjkahdghhbpnaaGreatDoorKCgB
set_option maxRecDepth 100000
set_option maxHeartbeats 4000000
namespace Go.Proofs.YtfjkahdghhbpnaaGreatDoor
open Go.RowKit
theorem Ge {w w':World} {v:Value} {ns:List Fu} (h:Fh w v ns) (hb:Below w.heap.size w w'):Fh w' v ns:=by
 obtain⟨a,c,rfl,k⟩:=h
 refine⟨a,c,rfl,fun i hi => ?_⟩
 obtain⟨g,f,d,b⟩:=k i hi
 exact⟨g,f,Nat.lt_of_lt_of_le d hb.size,fun j hj=>by rw[hb.cell (p:=⟨g,i * 3+j,none⟩) d];exact b j hj⟩
theorem Ni {w:World} {B n:Nat} {v:Value} {ns:List Fu} {e:TypeId} (h:w.ownsRow B e 3 v n (Bj ns)) (hn:n=ns.length):Fh w v ns:=by
 subst hn
 exact Yo h
theorem Il {w:World} {B n:Nat} {v:Value} {xs:List ByteArray} {e:TypeId} (h:w.ownsRow B e 1 v n (Be xs)) (hn:n=xs.length):Cx w v xs:=by
 subst hn
 exact Ih h
theorem Sj (fn:Int) (s t:List Fu) (sa ta sb tb:Option Addr) (sc tc sd td:Nat) (w:World) (hs:s.length<=1048576) (ht:t.length<=1048576) (h1:Fh w (.slice sa s.length sc) s) (h2:Fh w (.slice ta t.length tc) t) (h3:Fh w (.slice sb s.length sd) s) (h4:Fh w (.slice tb t.length td) t) :
  Calls Tryz.prog 64 #[.agg #[.int .i64 0,.int .i64 fn,.int .i64 0,.slice sa s.length sc,.slice ta t.length tc],.agg #[.int .i64 0,.int .i64 fn,.int .i64 0,.slice sb s.length sd,.slice tb t.length td]] w fun e w'=>e = .returned (.bool true)/\Below w.heap.size w w':=by
 have g:Hid (∀ U,Below w.heap.size w U->Calls Tryz.prog 101 #[.slice sa s.length sc,.slice sb s.length sd] U fun e w'=>e = .returned (.bool true)/\Below U.heap.size U w'):=fun U hU=>Km s _ _ U (Ge h1 hU) (Ge h3 hU) hs
 have i:Hid (∀ U,Below w.heap.size w U->Calls Tryz.prog 101 #[.slice ta t.length tc,.slice tb t.length td] U fun e w'=>e = .returned (.bool true)/\Below U.heap.size U w'):=fun U hU=>Km t _ _ U (Ge h2 hU) (Ge h4 hU) ht
 clear h1 h2 h3 h4
 obtain⟨n,o⟩:∃ n,Hid (s.length=n):=⟨_,(rfl:s.length=_)⟩
 obtain⟨m,l⟩:∃ n,Hid (t.length=n):=⟨_,(rfl:t.length=_)⟩
 rw[o.out]at g |-
 rw[l.out]at i |-
 have p:(fn != fn)=false:=by simp
 have c:Hid (∀ o1 o2:Obj,Below w.heap.size w ((w.alloc o1).alloc o2)):=fun o1 o2=>(Di w o1).alloc (by simp) o2
 go_enter Tryz.func64,Tryz.ntmps64
 go_wp2_with fail
 refine(g.out _ (c.out _ _)).mono ?_
 rintro e d ⟨rfl,a⟩
 simp only[World.size_alloc]at a
 have j:Hid (d.heap[w.heap.size]? = some (.cells #[.int .i64 0,.int .i64 fn,.int .i64 0,.slice sa n sc,.slice ta m tc] 56)):=(a.block w.heap.size (by omega)).trans (Am _ (MapKept.heap_alloc w _).1)
 have k:Hid (d.heap[w.heap.size+1]? = some (.cells #[.int .i64 0,.int .i64 fn,.int .i64 0,.slice sb n sd,.slice tb m td] 56)):=(a.block (w.heap.size+1) (by omega)).trans (by have h:=(MapKept.heap_alloc (w.alloc (.cells #[.int .i64 0,.int .i64 fn,.int .i64 0,.slice sa n sc,.slice ta m tc] 56)) (.cells #[.int .i64 0,.int .i64 fn,.int .i64 0,.slice sb n sd,.slice tb m td] 56)).1;rw[World.size_alloc]at h;exact h)
 have b:Below w.heap.size w d:=(c.out _ _).trans (a.mono (by omega))
 have q:=(Ch j.out).1.2.2.2.2
 have r:=(Ch k.out).1.2.2.2.2
 clear a
 go_wp2_with fail
 refine(i.out d b).mono ?_
 rintro e u ⟨rfl,f⟩
 go_wp2_with fail
 go_ret
 exact⟨rfl,b.trans (f.mono b.size)⟩
theorem Qd (fn:Int) (s t:List Fu) (sa ta sb tb:Option Addr) (sc tc sd td ga gb ca cb:Nat) (w:World) (hs:s.length<=1048576) (ht:t.length<=1048576) (h1:Fh w (.slice sa s.length sc) s) (h2:Fh w (.slice ta t.length tc) t) (h3:Fh w (.slice sb s.length sd) s) (h4:Fh w (.slice tb t.length td) t)
  (ha:∀ j,j < 5->w.cell? ⟨ga,j,none⟩=([.int .i64 0,.int .i64 fn,.int .i64 0,.slice sa s.length sc,.slice ta t.length tc]:List Value)[j]?) (hb:∀ j,j < 5->w.cell? ⟨gb,j,none⟩=([.int .i64 0,.int .i64 fn,.int .i64 0,.slice sb s.length sd,.slice tb t.length td]:List Value)[j]?) :
  Calls Tryz.prog 32 #[.slice (some ⟨ga,0,none⟩) 1 ca,.slice (some ⟨gb,0,none⟩) 1 cb] w fun e w'=>e = .returned (.bool true)/\Below w.heap.size w w':=by
 have f:Hid (∀ U,Below w.heap.size w U->Calls Tryz.prog 64 #[.agg #[.int .i64 0,.int .i64 fn,.int .i64 0,.slice sa s.length sc,.slice ta t.length tc],.agg #[.int .i64 0,.int .i64 fn,.int .i64 0,.slice sb s.length sd,.slice tb t.length td]] U fun e w'=>e = .returned (.bool true)/\Below U.heap.size U w'):=fun U hU=>Sj fn s t sa ta sb tb sc tc sd td U hs ht (Ge h1 hU) (Ge h2 hU) (Ge h3 hU) (Ge h4 hU)
 clear h1 h2 h3 h4
 obtain⟨n,D⟩:∃ n,Hid (s.length=n):=⟨_,(rfl:s.length=_)⟩
 obtain⟨m,C⟩:∃ n,Hid (t.length=n):=⟨_,(rfl:t.length=_)⟩
 rw[D.out]at f ha hb
 rw[C.out]at f ha hb
 have b:=Bv (ha 0 (by omega))
 have c:=Bv (hb 0 (by omega))
 go_enter Tryz.func32,Tryz.ntmps32
 go_wp2_with fail
 go_loopw [5] (fun t wr => ∃ i:Nat,i<=1/\t = .int .i64 (i:Int)/\Below w.heap.size w wr) (fun t _=>1 - (intOf t).toNat)
 case atStart=>exact⟨0,by omega,rfl,Below.refl _ _⟩
 case round =>
  obtain⟨i,F,rfl,a⟩:=hrel
  by_cases hlt:i=0
  ·subst hlt
   have A:((0:Nat):Int) < 1:=by omega
   have k:=(a.cell (p:=⟨ga,0,none⟩) b).trans (ha 0 (by omega));have l:=(a.cell (p:=⟨ga,1,none⟩) b).trans (ha 1 (by omega));have o:=(a.cell (p:=⟨ga,2,none⟩) b).trans (ha 2 (by omega));have q:=(a.cell (p:=⟨ga,3,none⟩) b).trans (ha 3 (by omega));have r:=(a.cell (p:=⟨ga,4,none⟩) b).trans (ha 4 (by omega))
   have u:=(a.cell (p:=⟨gb,0,none⟩) c).trans (hb 0 (by omega));have v:=(a.cell (p:=⟨gb,1,none⟩) c).trans (hb 1 (by omega));have x:=(a.cell (p:=⟨gb,2,none⟩) c).trans (hb 2 (by omega));have y:=(a.cell (p:=⟨gb,3,none⟩) c).trans (hb 3 (by omega));have z:=(a.cell (p:=⟨gb,4,none⟩) c).trans (hb 4 (by omega))
   simp only[List.getElem?_cons_zero,List.getElem?_cons_succ]at k l o q r u v x y z
   clear ha hb
   go_wp2_with fail
   go_region_with (go_at_call 64;refine(f.out wr.drew a.drew).mono ?_;rintro e E ⟨rfl,g⟩)
   all_goals
    have d:Below w.heap.size w E:=a.drew.trans (g.mono a.drew.size)
    clear k l o q r u v x y z
    go_wp2_with fail
    go_roundw
    case rel=>exact⟨1,by omega,by go_num,d⟩
    case measure=>simp[intOf]
  ·have h:i=1:=by omega
   subst h
   have B:¬ ((1:Nat):Int) < 1:=by omega
   clear ha hb
   go_wp2_with fail
   go_ret
   exact⟨rfl,a⟩
theorem Si (c:List Ae) (pa pb:Option Addr) (qa qb ga gb ca cb:Nat) (w:World) (HE:Hid (∀ U,w.heap.size<=U.heap.size->Below w.heap.size w U->Calls Tryz.prog 11 #[.agg #[.slice pa c.length qa],.agg #[.slice pb c.length qb]] U fun e w'=>e = .returned (.bool true)/\Below U.heap.size U w'))
  (ha:w.cell? ⟨ga,0,none⟩=some (.slice pa c.length qa)) (hb:w.cell? ⟨gb,0,none⟩=some (.slice pb c.length qb)) :
  Calls Tryz.prog 30 #[.slice (some ⟨ga,0,none⟩) 1 ca,.slice (some ⟨gb,0,none⟩) 1 cb] w fun e w'=>e = .returned (.bool true)/\Below w.heap.size w w':=by
 obtain⟨n,l⟩:∃ n,Hid (c.length=n):=⟨_,(rfl:c.length=_)⟩
 rw[l.out]at HE ha hb
 have d:=Bv ha
 have f:=Bv hb
 go_enter Tryz.func30,Tryz.ntmps30
 go_wp2_with fail
 go_loopw [5] (fun t wr => ∃ i:Nat,i<=1/\t = .int .i64 (i:Int)/\Below w.heap.size w wr) (fun t _=>1 - (intOf t).toNat)
 case atStart=>exact⟨0,by omega,rfl,Below.refl _ _⟩
 case round =>
  obtain⟨i,r,rfl,a⟩:=hrel
  by_cases hlt:i=0
  ·subst hlt
   have j:((0:Nat):Int) < 1:=by omega
   have m:=(a.cell (p:=⟨ga,0,none⟩) d).trans ha
   have o:=(a.cell (p:=⟨gb,0,none⟩) f).trans hb
   clear ha hb
   go_wp2_with fail
   go_region_with (go_at_call 11;refine(HE.out wr.drew a.drew.size a.drew).mono ?_;rintro e q ⟨rfl,g⟩)
   all_goals
    have b:Below w.heap.size w q:=a.drew.trans (g.mono a.drew.size)
    clear m o
    go_wp2_with fail
    go_roundw
    case rel=>exact⟨1,by omega,by go_num,b⟩
    case measure=>simp[intOf]
  ·have h:i=1:=by omega
   subst h
   have k:¬ ((1:Nat):Int) < 1:=by omega
   clear ha hb
   go_wp2_with fail
   go_ret
   exact⟨rfl,a⟩
theorem Mb (a b:Option Addr) (ca cb:Nat) (w:World) :
  Calls Tryz.prog 33 #[.slice a 0 ca,.slice b 0 cb] w fun e w'=>e = .returned (.bool true)/\Below w.heap.size w w':=by
 go_enter Tryz.func33,Tryz.ntmps33
 go_wp2_with fail
 go_loopw [5] (fun t wr=>t = .int .i64 0/\wr=w) (fun _ _=>0)
 case atStart=>exact⟨rfl,rfl⟩
 case round =>
  obtain⟨rfl,rfl⟩:=hrel
  go_wp2_with fail
  go_ret
  exact⟨rfl,Below.refl _ _⟩
theorem Mc (st:Int) (n1 n2 n3 n4 n5 n6:Nat) (a1 a2 a3 a4 a5 a6 b1 b2 b3 b4 b5 b6:Option Addr) (ac1 ac2 ac3 ac4 ac5 ac6 bc1 bc2 bc3 bc4 bc5 bc6:Nat) (w:World)
  (H0:Hid (∀ U,Below w.heap.size w U->Calls Tryz.prog 30 #[.slice a1 n1 ac1,.slice b1 n1 bc1] U fun e w'=>e = .returned (.bool true)/\Below U.heap.size U w'))
  (H1:Hid (∀ U,Below w.heap.size w U->Calls Tryz.prog 31 #[.slice a2 n2 ac2,.slice b2 n2 bc2] U fun e w'=>e = .returned (.bool true)/\Below U.heap.size U w'))
  (H2:Hid (∀ U,Below w.heap.size w U->Calls Tryz.prog 31 #[.slice a3 n3 ac3,.slice b3 n3 bc3] U fun e w'=>e = .returned (.bool true)/\Below U.heap.size U w'))
  (H3:Hid (∀ U,Below w.heap.size w U->Calls Tryz.prog 32 #[.slice a4 n4 ac4,.slice b4 n4 bc4] U fun e w'=>e = .returned (.bool true)/\Below U.heap.size U w'))
  (H4:Hid (∀ U,Below w.heap.size w U->Calls Tryz.prog 33 #[.slice a5 n5 ac5,.slice b5 n5 bc5] U fun e w'=>e = .returned (.bool true)/\Below U.heap.size U w'))
  (H5:Hid (∀ U,Below w.heap.size w U->Calls Tryz.prog 31 #[.slice a6 n6 ac6,.slice b6 n6 bc6] U fun e w'=>e = .returned (.bool true)/\Below U.heap.size U w')) :
  Calls Tryz.prog 10 #[.agg #[.slice a1 n1 ac1,.slice a2 n2 ac2,.slice a3 n3 ac3,.slice a4 n4 ac4,.int .i64 st,.int .i64 0,.int .i64 0,.string ⟨#[]⟩,.string ⟨#[]⟩,.bool false,.int .i64 0,.string ⟨#[]⟩,.slice a5 n5 ac5,.slice a6 n6 ac6],.agg #[.slice b1 n1 bc1,.slice b2 n2 bc2,.slice b3 n3 bc3,.slice b4 n4 bc4,.int .i64 st,.int .i64 0,.int .i64 0,.string ⟨#[]⟩,.string ⟨#[]⟩,.bool false,.int .i64 0,.string ⟨#[]⟩,.slice b5 n5 bc5,.slice b6 n6 bc6]] w fun e w'=>e = .returned (.bool true)/\Below w.heap.size w w':=by
 obtain⟨B,n⟩:∃ V,w.alloc (.cells #[.slice a1 n1 ac1,.slice a2 n2 ac2,.slice a3 n3 ac3,.slice a4 n4 ac4,.int .i64 st,.int .i64 0,.int .i64 0,.string ⟨#[]⟩,.string ⟨#[]⟩,.bool false,.int .i64 0,.string ⟨#[]⟩,.slice a5 n5 ac5,.slice a6 n6 ac6] 34)=V:=⟨_,rfl⟩
 obtain⟨b,l⟩:∃ V,B.alloc (.cells #[.slice b1 n1 bc1,.slice b2 n2 bc2,.slice b3 n3 bc3,.slice b4 n4 bc4,.int .i64 st,.int .i64 0,.int .i64 0,.string ⟨#[]⟩,.string ⟨#[]⟩,.bool false,.int .i64 0,.string ⟨#[]⟩,.slice b5 n5 bc5,.slice b6 n6 bc6] 34)=V:=⟨_,rfl⟩
 have x:B.heap.size=w.heap.size+1:=by rw[<- n];simp
 have P:b.heap.size=w.heap.size+1+1:=by rw[<- l,World.size_alloc,x]
 have c:Hid (Below w.heap.size w b):=by rw[Hid,<- l,<- n];exact(Di w _).alloc (by simp) _
 have z:Hid (b.heap[w.heap.size]? = some (.cells #[.slice a1 n1 ac1,.slice a2 n2 ac2,.slice a3 n3 ac3,.slice a4 n4 ac4,.int .i64 st,.int .i64 0,.int .i64 0,.string ⟨#[]⟩,.string ⟨#[]⟩,.bool false,.int .i64 0,.string ⟨#[]⟩,.slice a5 n5 ac5,.slice a6 n6 ac6] 34)):=by rw[Hid,<- l];exact Am _ (by rw[<- n];exact(MapKept.heap_alloc w _).1)
 have A:Hid (b.heap[w.heap.size+1]? = some (.cells #[.slice b1 n1 bc1,.slice b2 n2 bc2,.slice b3 n3 bc3,.slice b4 n4 bc4,.int .i64 st,.int .i64 0,.int .i64 0,.string ⟨#[]⟩,.string ⟨#[]⟩,.bool false,.int .i64 0,.string ⟨#[]⟩,.slice b5 n5 bc5,.slice b6 n6 bc6] 34)):=by rw[Hid,<- l,<- x];exact(MapKept.heap_alloc B _).1
 have d:Hid (∀ U,Below b.heap.size b U->∀ k v u,(#[.slice a1 n1 ac1,.slice a2 n2 ac2,.slice a3 n3 ac3,.slice a4 n4 ac4,.int .i64 st,.int .i64 0,.int .i64 0,.string ⟨#[]⟩,.string ⟨#[]⟩,.bool false,.int .i64 0,.string ⟨#[]⟩,.slice a5 n5 ac5,.slice a6 n6 ac6]:Array Value)[k]? = some v->(#[.slice b1 n1 bc1,.slice b2 n2 bc2,.slice b3 n3 bc3,.slice b4 n4 bc4,.int .i64 st,.int .i64 0,.int .i64 0,.string ⟨#[]⟩,.string ⟨#[]⟩,.bool false,.int .i64 0,.string ⟨#[]⟩,.slice b5 n5 bc5,.slice b6 n6 bc6]:Array Value)[k]? = some u->U.cell? ⟨w.heap.size,k,none⟩=some v/\U.cell? ⟨w.heap.size+1,k,none⟩=some u):=fun U hU k v u h1 h2=>⟨(Aa ((hU.block _ (by omega)).trans z.out) k v h1).1,(Aa ((hU.block _ (by omega)).trans A.out) k u h2).1⟩
 have Q:(st != st)=false:=by simp
 have G:=d.out b (Below.refl _ _) 0 _ _ rfl rfl
 obtain⟨G,y0⟩:=G
 have m:Hid (Below b.heap.size b b):=Below.refl _ _
 go_enter Tryz.func10,Tryz.ntmps10
 go_wp2_with fail
 refine(H0.out b (c.out.trans (m.out.mono (by omega)))).mono ?_
 rintro e C ⟨rfl,o⟩
 have g:Hid (Below b.heap.size b C):=m.out.trans (o.mono m.out.size)
 clear G y0 o
 obtain⟨S,y1⟩:=d.out C g.out 1 _ _ rfl rfl
 go_wp2_with fail
 refine(H1.out C (c.out.trans (g.out.mono (by omega)))).mono ?_
 rintro e D ⟨rfl,p⟩
 have h:Hid (Below b.heap.size b D):=g.out.trans (p.mono g.out.size)
 clear S y1 p
 obtain⟨T,y2⟩:=d.out D h.out 2 _ _ rfl rfl
 go_wp2_with fail
 refine(H2.out D (c.out.trans (h.out.mono (by omega)))).mono ?_
 rintro e E ⟨rfl,q⟩
 have i:Hid (Below b.heap.size b E):=h.out.trans (q.mono h.out.size)
 clear T y2 q
 obtain⟨W,y3⟩:=d.out E i.out 3 _ _ rfl rfl
 go_wp2_with fail
 refine(H3.out E (c.out.trans (i.out.mono (by omega)))).mono ?_
 rintro e f ⟨rfl,r⟩
 have a:Hid (Below b.heap.size b f):=i.out.trans (r.mono i.out.size)
 clear W y3 r
 obtain⟨X,y4⟩:=d.out f a.out 4 _ _ rfl rfl
 obtain⟨Y,y5⟩:=d.out f a.out 5 _ _ rfl rfl
 obtain⟨Z,y6⟩:=d.out f a.out 6 _ _ rfl rfl
 obtain⟨x7,y7⟩:=d.out f a.out 7 _ _ rfl rfl
 obtain⟨x8,y8⟩:=d.out f a.out 8 _ _ rfl rfl
 obtain⟨x9,y9⟩:=d.out f a.out 9 _ _ rfl rfl
 obtain⟨H,L⟩:=d.out f a.out 10 _ _ rfl rfl
 obtain⟨I,M⟩:=d.out f a.out 11 _ _ rfl rfl
 obtain⟨J,N⟩:=d.out f a.out 12 _ _ rfl rfl
 go_wp2_with fail
 refine(H4.out f (c.out.trans (a.out.mono (by omega)))).mono ?_
 rintro e F ⟨rfl,s⟩
 have j:Hid (Below b.heap.size b F):=a.out.trans (s.mono a.out.size)
 clear X y4 Y y5 Z y6 x7 y7 x8 y8 x9 y9 H L I M J N s
 obtain⟨K,O⟩:=d.out F j.out 13 _ _ rfl rfl
 go_wp2_with fail
 refine(H5.out F (c.out.trans (j.out.mono (by omega)))).mono ?_
 rintro e R ⟨rfl,t⟩
 have y:Hid (Below b.heap.size b R):=j.out.trans (t.mono j.out.size)
 clear K O t
 go_wp2_with fail
 go_ret
 exact⟨rfl,c.out.trans (y.out.mono (by omega))⟩
theorem Qh (A:Nat) (E:List B0) (a:Option Addr) (cap g cc:Nat) (hS:G4 E) (w:World) (hg:w.cell? ⟨g,0,none⟩=some (.slice a E.length cap)) (ho:A2 A w (.slice a E.length cap) E) :
  Calls Tryz.prog 37 #[.slice (some ⟨g,0,none⟩) 1 cc,.int .i64 1] w fun e w'=>e = .returned (.int .i64 (Ca 1 E))/\A2 A w' (.slice a E.length cap) (C5 1 E)/\Au (E3 (.slice a E.length cap) E) w w':=by
 have h:Hid (Calls Tryz.prog 35 #[.slice a E.length cap,.int .i64 1] w fun e w'=>e = .returned (.int .i64 (Ca 1 E))/\A2 A w' (.slice a E.length cap) (C5 1 E)/\Au (E3 (.slice a E.length cap) E) w w'):=M4 A E a cap hS w ho
 clear ho
 go_enter Tryz.func37,Tryz.ntmps37
 go_wp2_with fail
 go_loopw [1,5] (fun q t wr=>(t = .int .i64 0/\q = .int .i64 1/\wr=w)\/(t = .int .i64 1/\q = .int .i64 (Ca 1 E)/\A2 A wr (.slice a E.length cap) (C5 1 E)/\Au (E3 (.slice a E.length cap) E) w wr)) (fun _ t _=>1 - (intOf t).toNat)
 case atStart=>exact .inl ⟨rfl,rfl,rfl⟩
 case round =>
  rcases hrel with⟨rfl,rfl,rfl⟩|⟨rfl,rfl,c,d⟩
  ·go_wp2_with fail
   refine h.out.mono ?_
   rintro e f ⟨rfl,c,d⟩
   have b:Hid (A2 A f (.slice a E.length cap) (C5 1 E)/\Au (E3 (.slice a E.length cap) E) wr f):=⟨c,d⟩
   clear c d
   go_wp2_with fail
   go_roundw
   case rel=>exact .inr ⟨by go_num,rfl,b.out.1,b.out.2⟩
   case measure=>simp[intOf]
  ·have b:Hid (A2 A wr (.slice a E.length cap) (C5 1 E)/\Au (E3 (.slice a E.length cap) E) w wr):=⟨c,d⟩
   clear c d
   go_wp2_with fail
   go_ret
   exact⟨rfl,b.out.1,b.out.2⟩
theorem Qe (A:Nat) (E:List B0) (a:Option Addr) (cap g cc:Nat) (hS:G4 E) (w:World) (hg:w.cell? ⟨g,0,none⟩=some (.slice a E.length cap)) (ho:A2 A w (.slice a E.length cap) (C5 1 E)) :
  Calls Tryz.prog 40 #[.slice (some ⟨g,0,none⟩) 1 cc,.int .i64 1] w fun e w'=>e = .returned (.int .i64 (Ca 1 E))/\Below w.heap.size w w':=by
 have c:Hid (Calls Tryz.prog 71 #[.slice a E.length cap,.int .i64 1] w fun e w'=>e = .returned (.int .i64 (Ca 1 E))/\Below w.heap.size w w'):=T6 A E a cap hS w ho
 have f:1<=Ca 1 E:=(Jm E 1 hS.2).1
 obtain⟨K,d⟩:∃ K,Hid (Ca 1 E=K):=⟨_,(rfl:_=_)⟩
 rw[d.out]at c f |-
 have h:¬ K < 0:=by omega
 clear ho
 go_enter Tryz.func40,Tryz.ntmps40
 go_wp2_with fail
 go_loopw [1,5] (fun q t wr=>(t = .int .i64 0/\q = .int .i64 1/\wr=w)\/(t = .int .i64 1/\q = .int .i64 K/\Below w.heap.size w wr)) (fun _ t _=>1 - (intOf t).toNat)
 case atStart=>exact .inl ⟨rfl,rfl,rfl⟩
 case round =>
  rcases hrel with⟨rfl,rfl,rfl⟩|⟨rfl,rfl,b⟩
  ·go_wp2_with fail
   refine c.out.mono ?_
   rintro e i ⟨rfl,b⟩
   go_wp2_with fail
   go_roundw
   case rel=>exact .inr ⟨by go_num,rfl,b⟩
   case measure=>simp[intOf]
  ·go_wp2_with fail
   go_ret
   exact⟨rfl,b⟩
theorem Kl (a:Option Addr) (c:Nat) (k:Int) (w:World) :
  Calls Tryz.prog 39 #[.slice a 0 c,.int .i64 k] w fun e w'=>e = .returned (.int .i64 k)/\w'=w:=by
 go_enter Tryz.func39,Tryz.ntmps39
 go_wp2_with fail
 go_loopw [1,5] (fun q t wr=>t = .int .i64 0/\q = .int .i64 k/\wr=w) (fun _ _ _=>0)
 case atStart=>exact⟨rfl,rfl,rfl⟩
 case round =>
  obtain⟨rfl,rfl,rfl⟩:=hrel
  go_wp2_with fail
  go_ret
  exact⟨rfl,rfl⟩
theorem Kj (a:Option Addr) (c:Nat) (k:Int) (w:World) :
  Calls Tryz.prog 43 #[.slice a 0 c,.int .i64 k] w fun e w'=>e = .returned (.int .i64 k)/\w'=w:=by
 go_enter Tryz.func43,Tryz.ntmps43
 go_wp2_with fail
 go_loopw [1,5] (fun q t wr=>t = .int .i64 0/\q = .int .i64 k/\wr=w) (fun _ _ _=>0)
 case atStart=>exact⟨rfl,rfl,rfl⟩
 case round =>
  obtain⟨rfl,rfl,rfl⟩:=hrel
  go_wp2_with fail
  go_ret
  exact⟨rfl,rfl⟩
end Go.Proofs.YtfjkahdghhbpnaaGreatDoor
