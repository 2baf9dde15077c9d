import Derived.Test.YtfjkahdghhbpnaaGreatDoorKCgB
import Derived.Lib.ConvBytes
import Derived.Deep.RegionWith
import Derived.Test.YtfjkahdghhbpnaaGreatDoorKWcB
set_option maxRecDepth 100000
set_option maxHeartbeats 4000000
namespace Go.Proofs.YtfjkahdghhbpnaaGreatDoor
open Go.RowKit
structure Cc (S:Nat->Prop) (w w':World):Prop where
 os:w'.os=w.os
 tape:w'.tape=w.tape
 output:w'.output=w.output
 size:w.heap.size<=w'.heap.size
 keep:∀ k,k < w.heap.size->¬ S k->w'.heap[k]? = w.heap[k]?
 same:∀ (k:Nat) (cur:Array Value) (e:TypeId) (fr:Nat × Nat),w.heap[k]? = some (.cells cur e fr)->∃ cur',w'.heap[k]? = some (.cells cur' e fr)/\cur'.size=cur.size
theorem Cc.refl (S:Nat->Prop) (w:World):Cc S w w:=⟨rfl,rfl,rfl,Nat.le_refl _,fun _ _ _=>rfl,fun _ cur _ _ h=>⟨cur,h,rfl⟩⟩
theorem Cc.trans {S:Nat->Prop} {a b c:World} (h:Cc S a b) (k:Cc S b c):Cc S a c :=
 ⟨k.os.trans h.os,k.tape.trans h.tape,k.output.trans h.output,Nat.le_trans h.size k.size,fun i hi hs=>(k.keep i (Nat.lt_of_lt_of_le hi h.size) hs).trans (h.keep i hi hs),fun i cur e fr hi=>by
  obtain⟨d,g,j⟩:=h.same i cur e fr hi
  obtain⟨f,l,m⟩:=k.same i d e fr g
  exact⟨f,l,m.trans j⟩⟩
theorem Cc.mono {S R:Nat->Prop} {a b:World} (h:Cc S a b) (hs:∀ k,S k->R k):Cc R a b :=
 ⟨h.os,h.tape,h.output,h.size,fun i hi hr=>h.keep i hi (fun x=>hr (hs i x)),h.same⟩
theorem Cc.of_below {S:Nat->Prop} {a b:World} (h:Below a.heap.size a b):Cc S a b :=
 ⟨h.os,h.tape,h.output,h.size,fun i hi _=>h.block i hi,fun i cur _ _ hi=>⟨cur,(h.block i (Array.getElem?_eq_some_iff.1 hi).1).trans hi,rfl⟩⟩
theorem Cc.set {S:Nat->Prop} (w:World) (g i:Nat) (v:Value) (hg:S g):Cc S w (w.setCell ⟨g,i,none⟩ v):=by
 refine⟨rfl,rfl,rfl,by simp[World.setCell],fun k _ hk=>Below.heap_setCell _ _ _ _ (fun e=>hk (by rw[e];exact hg)),fun k cur e fr h => ?_⟩
 by_cases hkg:k=g
 ·subst hkg
  exact⟨cur.setIfInBounds i v,by simp[World.setCell,Array.getElem?_modify,h],by rw[Array.size_setIfInBounds]⟩
 ·exact⟨cur,(Below.heap_setCell _ _ _ _ (by exact hkg)).trans h,rfl⟩
theorem Cc.rw {S:Nat->Prop} {w w':World} (h:Cc S w w') {g N:Nat} {e:TypeId} (b:∃ a,Dz g e N w a):∃ a,Dz g e N w' a:=by
 obtain⟨a,b⟩:=b
 obtain⟨c,d,f⟩:=h.same g a e (0,0) b.blk
 exact⟨c,d,f.trans b.size⟩
theorem Z7 {w:World} {g p N M:Nat} {e f:TypeId} (hg:∃ cur,Dz g e N w cur) (hp:∃ cur,Dz p f M w cur) (hne:e≠f):g≠p:=by
 obtain⟨a,c⟩:=hg
 obtain⟨b,d⟩:=hp
 intro h
 subst h
 have:=c.blk.symm.trans d.blk
 injection this with h;injection h with _ h
 exact hne h
def Hi : Nat->Int->ByteArray->ByteArray
 | 0,_,out=>out
 | f+1,k,out=>if 0 < k then Hi f (k / 10) (⟨#[UInt8.ofNat (48+k % 10).toNat]⟩++out) else out
def Bx (k:Int):ByteArray:=⟨#[109]⟩++Hi (k.toNat+1) k ⟨#[]⟩
theorem Yu (f:Nat) (k:Int) (out:ByteArray) (h:0 < k):Hi (f+1) k out=Hi f (k / 10) (⟨#[UInt8.ofNat (48+k % 10).toNat]⟩++out):=by rw[Hi,if_pos h]
theorem Wq (f:Nat) (k:Int) (out:ByteArray) (h:¬ 0 < k):Hi f k out=out:=by
 cases f with
 | zero=>rfl
 | succ f=>rw[Hi,if_neg h]
theorem Z9 (x:UInt8):(⟨#[x]⟩:ByteArray).size=1:=rfl
theorem Wo (x:Int) (h0:0<=x) (h1:x<=255):((UInt8.ofNat x.toNat).toNat:Int)=x:=by
 rw[UInt8.toNat_ofNat'];omega
theorem Yt (w:World) (x:Int) (h0:0<=x) (h1:x<=255) :
  Sem.run Tryz.prog (convert 167 9 (.slice (some ⟨w.heap.size,0,none⟩) 1 1)) (w.alloc (.cells #[.int .u8 x] 5)) = .ok (.string ⟨#[UInt8.ofNat x.toNat]⟩) (w.alloc (.cells #[.int .u8 x] 5)):=by
 refine run_convert_bytes_back (P:=Tryz.prog) (w.alloc (.cells #[.int .u8 x] 5)) 167 9 5 ⟨w.heap.size,0,none⟩ 1 [UInt8.ofNat x.toNat] Tryz.underlying167 Tryz.underlying5 Tryz.underlying9 ?_
 intro j b
 have a:j=0:=by simp at b;omega
 subst a
 simp only[List.getElem_cons_zero,Wo x h0 h1]
 rw[World.cell?,show ((⟨w.heap.size,0,none⟩:Addr).add 0).block=w.heap.size from rfl,(MapKept.heap_alloc w _).1]
 rfl
theorem Qbm {a b:Value} (h:a=b):(Ending.returned a:Ending) = .returned b:=by rw[h]
theorem Df (k:Int) (w:World) (h1:1<=k) (h2:k<=100000000000000) :
  Calls Tryz.prog 67 #[.int .i64 k] w fun e w'=>e = .returned (.string (Bx k))/\Below w.heap.size w w':=by
 go_enter Tryz.func67,Tryz.ntmps67
 go_wp2
 go_loopw [0,3] (fun t v wr => ∃ (j:Int) (f:Nat) (a:ByteArray),0<=j/\j<=k/\j < f/\(a.size:Int)<=k - j/\t = .int .i64 j/\v = .string a/\Hi f j a=Hi (k.toNat+1) k ⟨#[]⟩/\Below w.heap.size w wr) (fun t _ _=>(intOf t).toNat)
 case atStart=>exact⟨k,k.toNat+1,⟨#[]⟩,by omega,by omega,by omega,by simp[ByteArray.size],rfl,rfl,rfl,Below.refl _ _⟩
 case round =>
  obtain⟨j,f,a,i,l,m,n,rfl,rfl,b,d⟩:=hrel
  by_cases hp:0 < j
  ·obtain⟨f,rfl⟩:∃ f',f=f'+1:=⟨f - 1,by omega⟩
   have c:Hid (Hi f (j / 10) (⟨#[UInt8.ofNat (48+j % 10).toNat]⟩++a)=Hi (k.toNat+1) k ⟨#[]⟩):=by rw[Yu _ _ _ hp]at b;exact b
   clear b
   have h:=Yt wr (48+j % 10) (by omega) (by omega)
   go_wp2
   go_roundw
   case rel=>exact⟨j / 10,f,_,by omega,by omega,by omega,by rw[ByteArray.size_append,Z9];omega,rfl,rfl,c.out,d.alloc d.size _⟩
   case measure=>simp[intOf];omega
  ·have c:Hid (a=Hi (k.toNat+1) k ⟨#[]⟩):=by rw[Wq _ _ _ hp]at b;exact b
   clear b
   have g:Hid (Value.string (⟨#[109]⟩++a) = .string (Bx k)):=by rw[Hid,Bx,<- c.out]
   go_wp2
   go_ret
   exact⟨Qbm g.out,d⟩
theorem R5 (p n cap:Nat) (k:Int) (h1:0<=k) (h2:k<=100000000000000) (hl:n<=1048576) (w:World) (hr:∃ a,Dz p 3 n w a) :
  Calls Tryz.prog 68 #[.slice (some ⟨p,0,none⟩) n cap,.int .i64 k] w fun e w'=>e = .returned (.int .i64 (k+(n:Int)))/\(∀ j,j < n->w'.cell? ⟨p,j,none⟩=some (.int .i64 (k+(j:Int))))/\Cc (· = p) w w':=by
 obtain⟨x,l⟩:=hr
 have r:Hid (Dz p 3 n w x):=l
 clear l
 go_enter Tryz.func68,Tryz.ntmps68
 go_wp2_with fail
 go_loopw [1,5] (fun q t wr => ∃ (i:Nat) (a:Array Value),i<=n/\t = .int .i64 (i:Int)/\q = .int .i64 (k+(i:Int))/\Dz p 3 n wr a/\Hid (∀ j,j < i->a[j]? = some (.int .i64 (k+(j:Int))))/\Cc (· = p) w wr) (fun _ t _=>n - (intOf t).toNat)
 case atStart=>exact⟨0,x,by omega,rfl,by simp,r.out,fun j h=>by omega,Cc.refl _ _⟩
 case round =>
  obtain⟨i,a,A,rfl,rfl,b,d,c⟩:=hrel
  by_cases hlt:i < n
  ·have g:(i:Int) < (n:Int):=by omega
   obtain⟨⟨C,B⟩,y⟩:=b.cell i hlt
   obtain⟨K,m⟩:∃ K,Hid (k+(i:Int)=K):=⟨_,(rfl:_=_)⟩
   have z:0<=K/\K<=200000000000000:=by have:=m.out;omega
   rw[m.out]
   have s:Hid (Dz p 3 n (wr.setCell ⟨p,i,none⟩ (.int .i64 K)) (a.setIfInBounds i (.int .i64 K))):=b.store i _
   have o:Hid (∀ j,j < i+1->(a.setIfInBounds i (.int .i64 K))[j]? = some (.int .i64 (k+(j:Int)))):=fun j h=>by
    rw[Array.getElem?_setIfInBounds]
    by_cases e:i=j
    ·subst e;rw[if_pos rfl,if_pos (by rw[b.size];exact hlt),m.out]
    ·rw[if_neg e];exact d.out j (by omega)
   have u:Hid (Cc (· = p) w (wr.setCell ⟨p,i,none⟩ (.int .i64 K))):=c.trans (Cc.set wr p i _ rfl)
   clear b c
   go_wp2_with fail
   go_roundw
   case rel =>
    refine⟨i+1,_,by omega,by go_num, ?_,s.out,o,u.out⟩
    rw[show k+((i+1:Nat):Int)=K+1 by have:=m.out;omega]
   case measure=>simp[intOf];omega
  ·have g:¬ (i:Int) < (n:Int):=by omega
   have v:i=n:=by omega
   subst v
   have f:Hid (∀ j,j < i->wr.cell? ⟨p,j,none⟩=some (.int .i64 (k+(j:Int)))):=fun j hj=>by rw[Lib.cell_of_heap b.blk];exact d.out j hj
   clear b
   go_wp2_with fail
   go_ret
   exact⟨rfl,f.out,c⟩
theorem R4 (p n cap:Nat) (k:Int) (h1:1<=k) (h2:k<=10000000000000) (hl:n<=1048576) (w:World) (hr:∃ a,Dz p 140 (n * 4) w a) :
  Calls Tryz.prog 69 #[.slice (some ⟨p,0,none⟩) n cap,.int .i64 k] w fun e w'=>e = .returned (.int .i64 (k+4 * (n:Int)))/\Cc (· = p) w w':=by
 have l:Hid (∃ a,Dz p 140 (n * 4) w a):=hr
 clear hr
 go_enter Tryz.func69,Tryz.ntmps69
 go_wp2_with fail
 go_loopw [1,5] (fun q t wr => ∃ (i:Nat),i<=n/\t = .int .i64 (i:Int)/\q = .int .i64 (k+4 * (i:Int))/\Cc (· = p) w wr) (fun _ t _=>n - (intOf t).toNat)
 case atStart=>exact⟨0,by omega,rfl,by simp,Cc.refl _ _⟩
 case round =>
  obtain⟨i,D,rfl,rfl,c⟩:=hrel
  by_cases hlt:i < n
  ·have g:(i:Int) < (n:Int):=by omega
   obtain⟨K,j⟩:∃ K,Hid (k+4 * (i:Int)=K):=⟨_,(rfl:_=_)⟩
   have C:1<=K/\K<=20000000000000:=by have:=j.out;omega
   rw[j.out]
   obtain⟨a,b⟩:=c.rw l.out
   have m:Hid (Dz p 140 (n * 4) wr a):=b
   obtain⟨⟨I,E⟩,y⟩:=b.cell (i * 4) (by omega)
   obtain⟨⟨J,F⟩,z⟩:=b.cell (i * 4+1) (by omega)
   obtain⟨⟨L,G⟩,A⟩:=b.cell (i * 4+2) (by omega)
   have r:Hid (Cc (· = p) wr (((wr.setCell ⟨p,i * 4,none⟩ (.int .i64 K)).setCell ⟨p,i * 4+1,none⟩ (.int .i64 (K+1))).setCell ⟨p,i * 4+2,none⟩ (.int .i64 (K+1+1)))):=((Cc.set (S:=(· = p)) wr p _ _ rfl).trans (Cc.set (S:=(· = p)) _ p _ _ rfl)).trans (Cc.set (S:=(· = p)) _ p _ _ rfl)
   have s:Hid (Cc (· = p) w wr):=c
   clear b c
   go_wp2_with (go_at_call 67;refine(Df _ _ (by omega) (by omega)).mono ?_;rintro e v ⟨rfl,f⟩;have d:Cc (· = p) wr v:=r.out.trans (Cc.of_below f);have o:Hid (Cc (· = p) w v):=s.out.trans d;obtain⟨x,h⟩:=d.rw ⟨_,m.out⟩;obtain⟨⟨M,H⟩,B⟩:=h.cell (i * 4+3) (by omega);clear d h f)
   go_roundw
   case rel =>
    refine⟨i+1,by omega,by go_num, ?_,o.out.trans (Cc.set _ p _ _ rfl)⟩
    rw[show k+4 * ((i+1:Nat):Int)=K+1+1+1+1 by have:=j.out;omega]
   case measure=>simp[intOf];omega
  ·have g:¬ (i:Int) < (n:Int):=by omega
   have u:i=n:=by omega
   subst u
   go_wp2_with fail
   go_ret
   exact⟨rfl,c⟩
structure C8 (A B g:Nat) (R:Nat->Nat × Nat × Nat × Nat) (c:List Ae) (w:World):Prop where
 row:∃ cur,Dz g 97 (c.length * 5) w cur
 lo:A<=g
 hi:g < B
 each:∀ k (hk:k < c.length),w.cell? ⟨g,k * 5+1,none⟩=some (.slice (some ⟨(R k).1,0,none⟩) c[k].params.length (R k).2.1)/\w.cell? ⟨g,k * 5+4,none⟩=some (.slice (some ⟨(R k).2.2.1,0,none⟩) c[k].ins.length (R k).2.2.2)/\(A<=(R k).1/\(R k).1 < B)/\(A<=(R k).2.2.1/\(R k).2.2.1 < B)/\(∃ cur,Dz (R k).1 3 c[k].params.length w cur)/\(∃ cur,Dz (R k).2.2.1 140 (c[k].ins.length * 4) w cur)
theorem C8.at {A B g:Nat} {R:Nat->Nat × Nat × Nat × Nat} {c:List Ae} {w:World} (h:C8 A B g R c w) {k:Nat} (hk:k < c.length) {p cp q cq:Nat} (hR:R k=(p,cp,q,cq)):w.cell? ⟨g,k * 5+1,none⟩=some (.slice (some ⟨p,0,none⟩) c[k].params.length cp)/\w.cell? ⟨g,k * 5+4,none⟩=some (.slice (some ⟨q,0,none⟩) c[k].ins.length cq)/\(A<=p/\p < B)/\(A<=q/\q < B)/\(∃ cur,Dz p 3 c[k].params.length w cur)/\(∃ cur,Dz q 140 (c[k].ins.length * 4) w cur):=by
 have:=h.each k hk
 rw[hR]at this
 exact this
theorem C8.cells {A B g:Nat} {R:Nat->Nat × Nat × Nat × Nat} {c:List Ae} {w:World} (h:C8 A B g R c w) (j:Nat) (hj:j < c.length * 5):(∃ y,w.cell? ⟨g,j,none⟩=some y)/\w.frozen? ⟨g,j,none⟩=false:=by
 obtain⟨a,b⟩:=h.row
 exact b.cell j hj
theorem C8.tch {A B g:Nat} {R:Nat->Nat × Nat × Nat × Nat} {c:List Ae} {w w':World} {S:Nat->Prop} (h:C8 A B g R c w) (ht:Cc S w w') (hg:¬ S g):C8 A B g R c w':=by
 refine⟨ht.rw h.row,h.lo,h.hi,fun k hk => ?_⟩
 obtain⟨f,i,j,l,m,n⟩:=h.each k hk
 obtain⟨d,o⟩:=h.row
 have b:=ht.keep g o.lt hg
 exact⟨by rw[World.cell?_of_block (a:=⟨g,k * 5+1,none⟩) b];exact f,by rw[World.cell?_of_block (a:=⟨g,k * 5+4,none⟩) b];exact i,j,l,ht.rw m,ht.rw n⟩
theorem Mk {w:World} {g i j:Nat} {v:Value} (h:i≠j):(w.setCell ⟨g,i,none⟩ v).cell? ⟨g,j,none⟩=w.cell? ⟨g,j,none⟩:=by
 cases hb:w.heap[g]? with
 | none=>simp[World.cell?,World.setCell,Array.getElem?_modify,hb]
 | some o=>cases o <;> simp[World.cell?,World.setCell,Array.getElem?_modify,hb,h]
theorem C8.set {A B g:Nat} {R:Nat->Nat × Nat × Nat × Nat} {c:List Ae} {w:World} (h:C8 A B g R c w) (j:Nat) (hj:j % 5≠1/\j % 5≠4) (v:Value):C8 A B g R c (w.setCell ⟨g,j,none⟩ v):=by
 have a:Cc (fun _=>True) w (w.setCell ⟨g,j,none⟩ v):=Cc.set w g j v trivial
 refine⟨a.rw h.row,h.lo,h.hi,fun k hk => ?_⟩
 obtain⟨b,d,f,i,l,m⟩:=h.each k hk
 exact⟨by rw[Mk (by omega)];exact b,by rw[Mk (by omega)];exact d,f,i,a.rw l,a.rw m⟩
theorem Ed.marks {A:Nat} {w:World} {a:Option Addr} {cap:Nat} {c:List Ae} (h:Ed A w.heap.size w (.slice a c.length cap) c) (h0:0 < c.length):∃ g R,a=some ⟨g,0,none⟩/\C8 A w.heap.size g R c w:=by
 obtain⟨H,v,e,y⟩:=h
 injection e with e1 _ e2
 subst e1 e2
 obtain⟨g,-,-,x,C,D,-,-,-,-,-,l,-,-⟩:=y 0 h0
 have f:∀ k,∃ r:Nat × Nat × Nat × Nat,∀ hk:k < c.length,w.cell? ⟨g,k * 5+1,none⟩=some (.slice (some ⟨r.1,0,none⟩) c[k].params.length r.2.1)/\w.cell? ⟨g,k * 5+4,none⟩=some (.slice (some ⟨r.2.2.1,0,none⟩) c[k].ins.length r.2.2.2)/\(A<=r.1/\r.1 < w.heap.size)/\(A<=r.2.2.1/\r.2.2.1 < w.heap.size)/\(∃ cur,Dz r.1 3 c[k].params.length w cur)/\(∃ cur,Dz r.2.2.1 140 (c[k].ins.length * 4) w cur):=fun k=>by
  by_cases hk:k < c.length
  ·obtain⟨K,O,L,b,-,-,d,F,E,-,-,-,⟨p,M,z,I,t,s,i⟩,⟨q,N,B,J,o,u,j⟩⟩:=y k hk
   rw[x]at b
   injection b with b;injection b with b
   subst b t o
   obtain⟨_,_,n,-⟩:=F
   injection n with _ n _
   obtain⟨_,_,m,-⟩:=E
   injection m with _ m _
   subst n m
   exact⟨(p,z,q,B),fun _=>⟨d 1 (by omega),d 4 (by omega),⟨s,i.lt⟩,⟨u,j.lt⟩,⟨_,i⟩,⟨_,j⟩⟩⟩
  ·exact⟨(0,0,0,0),fun h=>absurd h hk⟩
 obtain⟨R,G⟩:=Classical.axiomOfChoice f
 exact⟨g,R,x,l,C,D,fun k hk=>G k hk⟩
def F7 (A B j:Nat):Prop:=A<=j/\j < B
theorem Tj (c:List Ae) (a:Option Addr) (cap A B:Nat) (hl:c.length<=1048576) (hx:∀ k (hk:k < c.length),c[k].params.length<=1048576/\c[k].ins.length<=1048576) (w:World) (hm:0 < c.length->∃ g R,a=some ⟨g,0,none⟩/\C8 A B g R c w) :
  Calls Tryz.prog 35 #[.slice a c.length cap,.int .i64 1] w fun e w' => ∃ k,e = .returned (.int .i64 k)/\(1<=k/\k<=10000000000000)/\Cc (F7 A B) w w':=by
 have N:Hid (0 < c.length->∃ g R,a=some ⟨g,0,none⟩/\C8 A B g R c w):=hm
 clear hm
 go_enter Tryz.func35,Tryz.ntmps35
 go_wp2_with fail
 go_loopw [1,5] (fun q t wr => ∃ (i:Nat) (K:Int),i<=c.length/\t = .int .i64 (i:Int)/\q = .int .i64 K/\(1<=K/\K<=1+6000000 * (i:Int))/\(0 < c.length->∃ g R,a=some ⟨g,0,none⟩/\C8 A B g R c wr)/\Cc (F7 A B) w wr) (fun _ t _=>c.length - (intOf t).toNat)
 case atStart=>exact⟨0,1,by omega,rfl,rfl,by omega,N.out,Cc.refl _ _⟩
 case round =>
  obtain⟨i,K,hi,rfl,rfl,hK,y,v⟩:=hrel
  by_cases hlt:i < c.length
  ·have z:(i:Int) < (c.length:Int):=by omega
   obtain⟨g,R,Y,o⟩:=y (by omega)
   clear y
   subst Y
   have HM:Hid (C8 A B g R c wr):=o
   have X:Hid (Cc (F7 A B) w wr):=v
   have M:Hid (F7 A B g):=⟨o.lo,o.hi⟩
   obtain⟨p,I,q,J,HR⟩:∃ p I q J,Hid (R i=(p,I,q,J)):=⟨_,_,_,_,(rfl:R i=_)⟩
   obtain⟨-,-,F,H,E,G⟩:=o.at hlt HR.out
   have Z:g≠p:=Z7 o.row E (by decide)
   have aa:g≠q:=Z7 o.row G (by decide)
   have P:Hid (∀ j,j=p->F7 A B j):=fun j h=>by subst h;exact F
   have Q:Hid (∀ j,j=q->F7 A B j):=fun j h=>by subst h;exact H
   clear E G F H o v
   obtain⟨C,D⟩:=hx i hlt
   obtain⟨np,l⟩:∃ n,Hid (c[i].params.length=n):=⟨_,(rfl:c[i].params.length=_)⟩
   obtain⟨nq,m⟩:∃ n,Hid (c[i].ins.length=n):=⟨_,(rfl:c[i].ins.length=_)⟩
   have d:Hid (∀ U,C8 A B g R c U->U.cell? ⟨g,i * 5+1,none⟩=some (.slice (some ⟨p,0,none⟩) np I)/\U.cell? ⟨g,i * 5+4,none⟩=some (.slice (some ⟨q,0,none⟩) nq J)/\(∃ cur,Dz p 3 np U cur)/\(∃ cur,Dz q 140 (nq * 4) U cur)):=fun U h=>by
    obtain⟨h1,h2,-,-,h3,h4⟩:=h.at hlt HR.out
    rw[l.out]at h1 h3;rw[m.out]at h2 h4
    exact⟨h1,h2,h3,h4⟩
   rw[l.out]at C
   rw[m.out]at D
   clear l m
   go_wp2_with (first
    | (go_at_call 67;refine(Df _ _ (by omega) (by omega)).mono ?_;rintro e L ⟨rfl,r⟩;have f:Hid (C8 A B g R c L):=HM.out.tch (Cc.of_below (S:=fun _=>False) r) id;obtain⟨⟨y0,k0⟩,f0⟩:=f.out.cells (i * 5) (by omega);obtain⟨d1,-,-,-⟩:=d.out L f.out;have x:Hid (C8 A B g R c (L.setCell ⟨g,i * 5,none⟩ (.string (Bx K)))):=f.out.set _ (by omega) _;have T:Hid (Cc (F7 A B) w (L.setCell ⟨g,i * 5,none⟩ (.string (Bx K)))):=(X.out.trans (Cc.of_below r)).trans (Cc.set _ _ _ _ M.out);clear r)
    | (go_at_call 68;refine(R5 p np I _ (by omega) (by omega) C _ (d.out _ x.out).2.2.1).mono ?_;rintro e w2 ⟨rfl,-,s⟩;have b:Hid (C8 A B g R c w2):=x.out.tch s (fun e=>Z e);obtain⟨⟨y2,k2⟩,f2⟩:=b.out.cells (i * 5+2) (by omega);obtain⟨⟨y3,k3⟩,f3⟩:=b.out.cells (i * 5+3) (by omega);obtain⟨-,d4,-,-⟩:=d.out w2 b.out;have V:Hid (Cc (F7 A B) w w2):=T.out.trans (s.mono P.out);clear s)
    | (go_at_call 69;refine(R4 q nq J _ (by omega) (by omega) D _ (d.out _ ((b.out.set (i * 5+2) (by omega) _).set (i * 5+3) (by omega) _)).2.2.2).mono ?_;rintro e w3 ⟨rfl,u⟩;have O:Hid (C8 A B g R c w3):=((b.out.set (i * 5+2) (by omega) _).set (i * 5+3) (by omega) _).tch u (fun e=>aa e);have W:Hid (Cc (F7 A B) w w3):=((V.out.trans (Cc.set _ _ _ _ M.out)).trans (Cc.set _ _ _ _ M.out)).trans (u.mono Q.out);clear u))
   go_roundw
   case rel=>exact⟨i+1,_,by omega,by go_num,rfl,by omega,fun _=>⟨g,R,rfl,O.out⟩,W.out⟩
   case measure=>simp[intOf];omega
  ·have z:¬ (i:Int) < (c.length:Int):=by omega
   go_wp2_with fail
   go_ret
   exact⟨K,rfl,⟨hK.1,by omega⟩,v⟩
theorem R3 (c:List Ae) (a:Option Addr) (cap A B:Nat) (hl:c.length<=1048576) (hx:∀ k (d:k < c.length),c[k].params.length<=1048576/\c[k].ins.length<=1048576) (w:World) (hm:0 < c.length->∃ g R,a=some ⟨g,0,none⟩/\C8 A B g R c w) :
  Calls Tryz.prog 13 #[.agg #[.slice a c.length cap],.int .i64 1] w fun e w' => ∃ k,e = .returned (.int .i64 k)/\(1<=k/\k<=10000000000000)/\Cc (F7 A B) w w':=by
 have f:Hid (∀ o:Obj,0 < c.length->∃ g R,a=some ⟨g,0,none⟩/\C8 A B g R c (w.alloc o)):=fun o h=>by
  obtain⟨g,R,i,j⟩:=hm h
  exact⟨g,R,i,j.tch (Cc.of_below (S:=fun _=>False) (A5 w o)) id⟩
 clear hm
 go_enter Tryz.func13,Tryz.ntmps13
 go_wp2_with (go_at_call 35;refine(Tj c a cap A B hl hx _ (f.out _)).mono ?_;rintro e l ⟨k,rfl,d,b⟩)
 go_ret
 exact⟨k,rfl,d,(Cc.of_below (A5 w _)).trans b⟩
theorem Dg {w:World} {B e size n:Nat} {v:Value} {xs:List Value} (h:w.ownsRow B e size v n xs) {g:Nat} (hg:v.ownBlock=some g) (j:Nat) (x:Value):(w.setCell ⟨g,j,none⟩ x).ownsRow B e size v n (xs.set j x):=by
 obtain⟨l,m⟩:=h
 refine⟨by rw[List.length_set];exact l, ?_⟩
 rcases m with⟨rfl,q⟩|⟨c,a,b,rfl,o,p,d,f,i,k⟩
 ·simp[Value.ownBlock]at hg
 ·have:c=g:=by simpa[Value.ownBlock]using hg
  subst this
  refine .inr ⟨c,a,b.setIfInBounds j x,rfl,o,A6 p,d,f,by rw[Array.size_setIfInBounds];exact i, ?_⟩
  rw[Array.toList_setIfInBounds,List.take_set,k]
theorem Du {w:World} {B e size n:Nat} {v:Value} {xs:List Value} (h:w.ownsRow B e size v n xs) {g:Nat} (hg:v.ownBlock=some g) (j:Nat) (hj:j < n * size):(∃ y,w.cell? ⟨g,j,none⟩=some y)/\w.frozen? ⟨g,j,none⟩=false:=by
 have c:j < xs.length:=by rw[h.1];exact hj
 refine⟨⟨_,Bp h hg j _ (List.getElem?_eq_getElem c)⟩, ?_⟩
 obtain⟨-,a,b⟩:=A3 h hg
 simp[World.frozen?,b]
theorem Ck {w:World} {B e size n:Nat} {a:Option Addr} {m cap:Nat} {xs:List Value} (h:w.ownsRow B e size (.slice a m cap) n xs) (hn:0 < n):∃ g,a=some ⟨g,0,none⟩/\(Value.slice a m cap).ownBlock=some g:=by
 obtain⟨g,c,b,d,_⟩:=Iy h hn
 injection b with b
 exact⟨g,b,d⟩
def Cy (k:Int) (n:Nat):List Int:=(List.range n).map (fun j:Nat=>k+(j:Int))
def Pb (k:Int):Ax:=⟨k,k+1,k+1+1,Bx (k+1+1+1)⟩
def Ep (k:Int) (n:Nat):List Ax:=(List.range n).map (fun j:Nat=>Pb (k+4 * (j:Int)))
theorem Jh (k:Int) (n:Nat):(Cy k n).length=n:=by simp[Cy]
theorem Ha (k:Int) (n:Nat):(Ep k n).length=n:=by simp[Ep]
theorem Vt (k:Int) (n:Nat):Cy k (n+1)=Cy k n++[k+(n:Int)]:=by simp[Cy,List.range_succ]
theorem Vs (k:Int) (n:Nat):Ep k (n+1)=Ep k n++[Pb (k+4 * (n:Int))]:=by simp[Ep,List.range_succ]
theorem Rs {a b:List Value} {x y:Value}:(a++x::b).set a.length y=a++y::b:=by rw[List.set_append_right _ _ (Nat.le_refl _)];simp
theorem X7 {l:List Int} {k:Int} {i:Nat} (hi:i < l.length):(Al (Cy k i++l.drop i)).set i (.int .i64 (k+(i:Int)))=Al (Cy k (i+1)++l.drop (i+1)):=by
 rw[List.drop_eq_getElem_cons hi,Vt,Iv]
 have e:(Al (Cy k i)).length=i:=by simp[Al,Jh]
 have a:Al (l[i]::l.drop (i+1)) = .int .i64 l[i]::Al (l.drop (i+1)):=rfl
 rw[a]
 conv=>lhs;arg 2;rw[<- e]
 rw[Rs]
 simp[Al]
theorem Sc (A:Nat) (l:List Int) (a:Option Addr) (cap:Nat) (k:Int) (h1:0<=k) (h2:k<=100000000000000) (hl:l.length<=1048576) (w:World) (ho:w.ownsRow A 3 1 (.slice a l.length cap) l.length (Al l)) :
  Calls Tryz.prog 68 #[.slice a l.length cap,.int .i64 k] w fun e w'=>e = .returned (.int .i64 (k+(l.length:Int)))/\w'.ownsRow A 3 1 (.slice a l.length cap) l.length (Al (Cy k l.length))/\Au (fun j=>(Value.slice a l.length cap).ownBlock=some j) w w':=by
 have u:Hid (w.ownsRow A 3 1 (.slice a l.length cap) l.length (Al l)):=ho
 obtain⟨n,r⟩:∃ n,Hid (l.length=n):=⟨_,(rfl:l.length=_)⟩
 clear ho
 rw[r.out]at u hl |-
 go_enter Tryz.func68,Tryz.ntmps68
 go_wp2_with fail
 go_loopw [1,5] (fun q t wr => ∃ (i:Nat),i<=n/\t = .int .i64 (i:Int)/\q = .int .i64 (k+(i:Int))/\wr.ownsRow A 3 1 (.slice a n cap) n (Al (Cy k i++l.drop i))/\Au (fun j=>(Value.slice a n cap).ownBlock=some j) w wr) (fun _ t _=>n - (intOf t).toNat)
 case atStart=>exact⟨0,by omega,rfl,by simp,u.out,Au.refl _ _⟩
 case round =>
  obtain⟨i,z,rfl,rfl,b,c⟩:=hrel
  by_cases hlt:i < n
  ·have h:(i:Int) < (n:Int):=by omega
   obtain⟨p,v,m⟩:=Ck b (by omega)
   subst v
   obtain⟨⟨C,B⟩,x⟩:=Du b m i (by omega)
   have f:Hid ((wr.setCell ⟨p,i,none⟩ (.int .i64 (k+(i:Int)))).ownsRow A 3 1 (.slice (some ⟨p,0,none⟩) n cap) n (Al (Cy k (i+1)++l.drop (i+1)))):=by
    have:=Dg b m i (.int .i64 (k+(i:Int)))
    rw[X7 (by rw[r.out];exact hlt)]at this
    exact this
   have g:Hid (Au (fun j=>(Value.slice (some ⟨p,0,none⟩) n cap).ownBlock=some j) w (wr.setCell ⟨p,i,none⟩ (.int .i64 (k+(i:Int))))):=c.trans (Au.set wr p i _ m)
   obtain⟨K,o⟩:∃ K,Hid (k+(i:Int)=K):=⟨_,(rfl:_=_)⟩
   have y:0<=K/\K<=200000000000000:=by have:=o.out;omega
   rw[o.out]at f g |-
   clear b c m
   go_wp2_with fail
   go_roundw
   case rel =>
    refine⟨i+1,by omega,by go_num, ?_,f.out,g.out⟩
    rw[show k+((i+1:Nat):Int)=K+1 by have:=o.out;omega]
   case measure=>simp[intOf];omega
  ·have h:¬ (i:Int) < (n:Int):=by omega
   have s:i=n:=by omega
   subst s
   have d:Hid (wr.ownsRow A 3 1 (.slice a i cap) i (Al (Cy k i))):=by
    rw[List.drop_eq_nil_of_le (by rw[r.out];exact Nat.le_refl _),List.append_nil]at b;exact b
   clear b
   go_wp2_with fail
   go_ret
   exact⟨rfl,d.out,c⟩
theorem Jg (l:List Ax):(Bm l).length=l.length * 4:=by
 induction l with
 | nil=>rfl
 | cons a l ih=>rw[Bm,List.flatMap_cons,List.length_append,<- Bm,ih,List.length_cons];simp[Cz];omega
theorem Lz {a b:List Ax} {x:Ax} {i:Nat} (hi:a.length=i) (j:Nat) (hj:j < 4) (v:Value) (x':Ax) (e:(Cz x).set j v=Cz x'):(Bm (a++x::b)).set (i * 4+j) v=Bm (a++x'::b):=by
 have c:∀ y:Ax,Bm (a++y::b)=Bm a++(Cz y++Bm b):=fun y=>by rw[Pa];rfl
 rw[c,c,List.set_append_right _ _ (by rw[Jg];omega),Jg,hi,show i * 4+j - i * 4=j by omega,List.set_append_left _ _ (by simp[Cz];omega),e]
theorem Sb (A:Nat) (l:List Ax) (a:Option Addr) (cap:Nat) (k:Int) (h1:1<=k) (h2:k<=10000000000000) (hl:l.length<=1048576) (w:World) (ho:w.ownsRow A 140 4 (.slice a l.length cap) l.length (Bm l)) :
  Calls Tryz.prog 69 #[.slice a l.length cap,.int .i64 k] w fun e w'=>e = .returned (.int .i64 (k+4 * (l.length:Int)))/\w'.ownsRow A 140 4 (.slice a l.length cap) l.length (Bm (Ep k l.length))/\Au (fun j=>(Value.slice a l.length cap).ownBlock=some j) w w':=by
 have I:Hid (w.ownsRow A 140 4 (.slice a l.length cap) l.length (Bm l)):=ho
 obtain⟨n,v⟩:∃ n,Hid (l.length=n):=⟨_,(rfl:l.length=_)⟩
 clear ho
 rw[v.out]at I hl |-
 go_enter Tryz.func69,Tryz.ntmps69
 go_wp2_with fail
 go_loopw [1,5] (fun q t wr => ∃ (i:Nat),i<=n/\t = .int .i64 (i:Int)/\q = .int .i64 (k+4 * (i:Int))/\wr.ownsRow A 140 4 (.slice a n cap) n (Bm (Ep k i++l.drop i))/\Au (fun j=>(Value.slice a n cap).ownBlock=some j) w wr) (fun _ t _=>n - (intOf t).toNat)
 case atStart=>exact⟨0,by omega,rfl,by simp,I.out,Au.refl _ _⟩
 case round =>
  obtain⟨i,S,rfl,rfl,b,g⟩:=hrel
  by_cases hlt:i < n
  ·have m:(i:Int) < (n:Int):=by omega
   obtain⟨p,M,c⟩:=Ck b (by omega)
   subst M
   have C:i < l.length:=by rw[v.out];exact hlt
   rw[List.drop_eq_getElem_cons C]at b
   obtain⟨x,L⟩:∃ x,Hid (l[i]=x):=⟨_,(rfl:l[i]=_)⟩
   rw[L.out]at b
   obtain⟨K,o⟩:∃ K,Hid (k+4 * (i:Int)=K):=⟨_,(rfl:_=_)⟩
   have R:1<=K/\K<=20000000000000:=by have:=o.out;omega
   have r:=Ha k i
   have D:=Dg b c (i * 4+0) (.int .i64 K)
   rw[Lz (x:=x) r 0 (by omega) (.int .i64 K) ⟨K,x.a,x.n,x.text⟩ rfl]at D
   have E:=Dg D c (i * 4+1) (.int .i64 (K+1))
   rw[Lz (x:=⟨K,x.a,x.n,x.text⟩) r 1 (by omega) (.int .i64 (K+1)) ⟨K,K+1,x.n,x.text⟩ rfl]at E
   have F:=Dg E c (i * 4+2) (.int .i64 (K+1+1))
   rw[Lz (x:=⟨K,K+1,x.n,x.text⟩) r 2 (by omega) (.int .i64 (K+1+1)) ⟨K,K+1,K+1+1,x.text⟩ rfl]at F
   obtain⟨⟨X,T⟩,N⟩:=Du b c (i * 4) (by omega)
   obtain⟨⟨Y,U⟩,O⟩:=Du b c (i * 4+1) (by omega)
   obtain⟨⟨Z,V⟩,P⟩:=Du b c (i * 4+2) (by omega)
   have y:Hid ((((wr.setCell ⟨p,i * 4,none⟩ (.int .i64 K)).setCell ⟨p,i * 4+1,none⟩ (.int .i64 (K+1))).setCell ⟨p,i * 4+2,none⟩ (.int .i64 (K+1+1))).ownsRow A 140 4 (.slice (some ⟨p,0,none⟩) n cap) n (Bm (Ep k i++⟨K,K+1,K+1+1,x.text⟩::l.drop (i+1)))):=F
   have s:Hid (Au (fun j=>(Value.slice (some ⟨p,0,none⟩) n cap).ownBlock=some j) w (((wr.setCell ⟨p,i * 4,none⟩ (.int .i64 K)).setCell ⟨p,i * 4+1,none⟩ (.int .i64 (K+1))).setCell ⟨p,i * 4+2,none⟩ (.int .i64 (K+1+1)))):=((g.trans (Au.set _ p _ _ c)).trans (Au.set _ p _ _ c)).trans (Au.set _ p _ _ c)
   have d:Hid ((Value.slice (some ⟨p,0,none⟩) n cap).ownBlock=some p):=c
   rw[o.out]
   clear b g D E F c
   go_wp2_with (go_at_call 67;refine(Df _ _ (by omega) (by omega)).mono ?_;rintro e J ⟨rfl,f⟩;have G:=Ah y.out (fun k _ _ hk=>f.block k hk);obtain⟨⟨y3,W⟩,Q⟩:=Du G d.out (i * 4+3) (by omega);have H:=Dg G d.out (i * 4+3) (.string (Bx (K+1+1+1)));rw[Lz (x:=⟨K,K+1,K+1+1,x.text⟩) r 3 (by omega) (.string (Bx (K+1+1+1))) (Pb K) rfl]at H;have z:Hid ((J.setCell ⟨p,i * 4+3,none⟩ (.string (Bx (K+1+1+1)))).ownsRow A 140 4 (.slice (some ⟨p,0,none⟩) n cap) n (Bm (Ep k (i+1)++l.drop (i+1)))):=(by rw[Hid,Vs,o.out,List.append_assoc];exact H);have u:Hid (Au (fun j=>(Value.slice (some ⟨p,0,none⟩) n cap).ownBlock=some j) w (J.setCell ⟨p,i * 4+3,none⟩ (.string (Bx (K+1+1+1))))):=(s.out.trans (Au.of_below f)).trans (Au.set _ p _ _ d.out);clear G H f)
   go_roundw
   case rel =>
    refine⟨i+1,by omega,by go_num, ?_,z.out,u.out⟩
    rw[show k+4 * ((i+1:Nat):Int)=K+1+1+1+1 by have:=o.out;omega]
   case measure=>simp[intOf];omega
  ·have m:¬ (i:Int) < (n:Int):=by omega
   have B:i=n:=by omega
   subst B
   have h:Hid (wr.ownsRow A 140 4 (.slice a i cap) i (Bm (Ep k i))):=by
    rw[List.drop_eq_nil_of_le (by rw[v.out];exact Nat.le_refl _),List.append_nil]at b;exact b
   clear b
   go_wp2_with fail
   go_ret
   exact⟨rfl,h.out,g⟩
def J2 (k:Int) (e:B0):B0:=⟨⟨Bx k,Cy (k+1) e.f.params.length,k+1+(e.f.params.length:Int),k+1+(e.f.params.length:Int)+1,Ep (k+1+(e.f.params.length:Int)+1+1) e.f.ins.length⟩,e.p,e.i⟩
def Ma (k:Int) (e:B0):Int:=k+1+(e.f.params.length:Int)+1+1+4 * (e.f.ins.length:Int)
def C5 : Int->List B0->List B0
 | _,[]=>[]
 | k,e::r=>J2 k e::C5 (Ma k e) r
def Ca : Int->List B0->Int
 | k,[]=>k
 | k,e::r=>Ca (Ma k e) r
theorem G3 : ∀ (k:Int) (E:List B0),(C5 k E).length=E.length
 | _,[]=>rfl
 | k,e::r=>by rw[C5,List.length_cons,List.length_cons,G3 (Ma k e) r]
theorem M5 : ∀ (k:Int) (E:List B0) (e:B0),C5 k (E++[e])=C5 k E++[J2 (Ca k E) e]/\Ca k (E++[e])=Ma (Ca k E) e
 | k,[],e=>⟨rfl,rfl⟩
 | k,a::r,e=>by
  have h:=M5 (Ma k a) r e
  exact⟨by rw[List.cons_append,C5,h.1];rfl,by rw[List.cons_append,Ca,h.2];rfl⟩
theorem Pd {E:List B0} {i:Nat} (hi:i < E.length):E.take (i+1)=E.take i++[E[i]]:=by rw[List.take_add_one,List.getElem?_eq_getElem hi];rfl
def G4 (E:List B0):Prop:=E.length<=60/\∀ e ∈ E,e.f.params.length<=8/\e.f.ins.length<=50000
theorem Jm : ∀ (E:List B0) (k:Int),(∀ e ∈ E,e.f.params.length<=8/\e.f.ins.length<=50000)->k<=Ca k E/\Ca k E<=k+300000 * (E.length:Int)
 | [],k,_=>by simp[Ca]
 | e::r,k,h=>by
  have b:=h e (by simp)
  have a:=Jm r (Ma k e) (fun x hx=>h x (by simp[hx]))
  rw[Ca,List.length_cons]
  unfold Ma at a |-
  omega
theorem G4.at {E:List B0} (h:G4 E) (i:Nat):1<=Ca 1 (E.take i)/\Ca 1 (E.take i)<=100000000:=by
 have a:=Jm (E.take i) 1 (fun e he=>h.2 e (List.mem_of_mem_take he))
 have b:(E.take i).length<=60:=by rw[List.length_take];have:=h.1;omega
 omega
theorem M3 (E:List B0) (i:Nat):(C5 1 (E.take i)++E.drop i).length=E.length:=by rw[List.length_append,G3,List.length_take,List.length_drop];omega
theorem Qbs {E:List B0} {i:Nat} (hi:i < E.length):(C5 1 (E.take i)++E.drop i)[i]'(by rw[M3];exact hi)=E[i]:=by
 have a:(C5 1 (E.take i)).length=i:=by rw[G3,List.length_take];omega
 rw[List.getElem_append_right (by omega)]
 simp[a]
theorem X5 {E:List B0} {i:Nat} (hi:i < E.length):(C5 1 (E.take i)++E.drop i).set i (J2 (Ca 1 (E.take i)) E[i])=C5 1 (E.take (i+1))++E.drop (i+1):=by
 have a:(C5 1 (E.take i)).length=i:=by rw[G3,List.length_take];omega
 rw[Pd hi,(M5 1 (E.take i) E[i]).1,List.drop_eq_getElem_cons hi,List.set_append_right _ _ (by omega),a,Nat.sub_self,List.set_cons_zero,List.append_assoc];rfl
theorem Rt {E:List B0} {i:Nat} (hi:i < E.length):Ca 1 (E.take (i+1))=Ma (Ca 1 (E.take i)) E[i]:=by rw[Pd hi,(M5 1 (E.take i) E[i]).2]
theorem L0 {E:List B0} {i:Nat} {e' e:B0} (h:e ∈ E.set i e'):e ∈ E\/e=e':=List.mem_or_eq_of_mem_set h
theorem Rr : ∀ (E:List B0) (i:Nat) (hi:i < E.length) (j:Nat) (x:Value) (e':B0),j < 5->(Ez E[i]).set j x=Ez e'->(E4 E).set (i * 5+j) x=E4 (E.set i e')
 | [],i,hi,_,_,_,_,_=>by simp at hi
 | a::r,0,_,j,x,e',hj,h=>by
  have d:(Ez a).set j x=Ez e':=h
  rw[List.set_cons_zero,E4,List.flatMap_cons,Nat.zero_mul,Nat.zero_add,List.set_append_left _ _ (by exact hj),d];rfl
 | a::r,i+1,hi,j,x,e',hj,h=>by
  have c:=Rr r i (by simpa using hi) j x e' hj h
  have b:(Ez a).length=5:=rfl
  rw[List.set_cons_succ,E4,List.flatMap_cons,List.set_append_right _ _ (by rw[b];omega),b,show (i+1) * 5+j - 5=i * 5+j by omega]
  rw[E4]at c
  rw[c];rfl
theorem Ly {E:List B0} {i:Nat} (hi:i < E.length) {e':B0} (hp:e'.p=E[i].p) (hq:e'.i=E[i].i) (h:E.Pairwise (fun a b=>(∀ k,a.p.ownBlock=some k->b.p.ownBlock≠some k)/\(∀ k,a.i.ownBlock=some k->b.i.ownBlock≠some k))):(E.set i e').Pairwise (fun a b=>(∀ k,a.p.ownBlock=some k->b.p.ownBlock≠some k)/\(∀ k,a.i.ownBlock=some k->b.i.ownBlock≠some k)):=by
 rw[List.pairwise_iff_getElem]at h |-
 have c:∀ u (hu:u < (E.set i e').length),((E.set i e')[u].p=(E[u]'(by simpa using hu)).p/\(E.set i e')[u].i=(E[u]'(by simpa using hu)).i):=fun u hu=>by
  rw[List.getElem_set]
  by_cases e:i=u
  ·subst e;rw[if_pos rfl];exact⟨hp,hq⟩
  ·rw[if_neg e];exact⟨rfl,rfl⟩
 intro a b d g f
 rw[(c a d).1,(c a d).2,(c b g).1,(c b g).2]
 exact h a b (by simpa using d) (by simpa using g) f
theorem A2.cell {A:Nat} {w:World} {v:Value} {E:List B0} (h:A2 A w v E) {i:Nat} (hi:i < E.length) {g:Nat} (hg:v.ownBlock=some g) (j:Nat) (hj:j < 5) (x:Value) (e':B0) (hc:(Ez E[i]).set j x=Ez e') (hp:e'.p=E[i].p) (hq:e'.i=E[i].i) (hps:e'.f.params=E[i].f.params) (his:e'.f.ins=E[i].f.ins):A2 A (w.setCell ⟨g,i * 5+j,none⟩ x) v (E.set i e'):=by
 obtain⟨-,c,a⟩:=A3 h.row hg
 refine⟨?_,fun e he => ?_,fun e he => ?_,Ly hi hp hq h.apart⟩
 ·rw[List.length_set,<- Rr E i hi j x e' hj hc]
  exact Dg h.row hg _ _
 ·rcases L0 he with b|rfl
  ·exact L1 (h.par e b) a (by decide)
  ·rw[hp,hps];exact L1 (h.par _ (List.getElem_mem hi)) a (by decide)
 ·rcases L0 he with b|rfl
  ·exact L1 (h.ins e b) a (by decide)
  ·rw[hq,his];exact L1 (h.ins _ (List.getElem_mem hi)) a (by decide)
theorem O9 {E:List B0} {i:Nat} (hi:i < E.length) {e':B0} (hc:Ez e'=Ez E[i]):E4 (E.set i e')=E4 E:=by
 have a:Ez E[i]=(E.map Ez)[i]'(by simpa using hi):=by simp
 rw[E4,E4,List.flatMap_def,List.flatMap_def,List.map_set,hc,a,List.set_getElem_self]
theorem A2.parR {A:Nat} {w w':World} {v:Value} {E:List B0} (h:A2 A w v E) {i:Nat} (hi:i < E.length) (e':B0) (hc:Ez e'=Ez E[i]) (hp:e'.p=E[i].p) (hq:e'.i=E[i].i) (his:e'.f.ins=E[i].f.ins) (hf:Au (fun j=>E[i].p.ownBlock=some j) w w') (hn:w'.ownsRow A 3 1 e'.p e'.f.params.length (Al e'.f.params)):A2 A w' v (E.set i e'):=by
 have m:=h.par _ (List.getElem_mem hi)
 have a:∀ {e size n:Nat} {u:Value} {xs:List Value},w.ownsRow A e size u n xs->e≠3->w'.ownsRow A e size u n xs:=fun d hne=>Ah d (fun k hk _ h2=>hf.keep k h2 (fun h3=>by
  obtain⟨-,p,o⟩:=A3 d hk
  obtain⟨-,q,c⟩:=A3 m h3
  rw[o]at c;injection c with c;injection c with _ c;exact hne c))
 refine⟨?_,fun e he => ?_,fun e he => ?_,Ly hi hp hq h.apart⟩
 ·rw[List.length_set,O9 hi hc];exact a h.row (by decide)
 ·obtain⟨u,d,rfl⟩:=List.getElem_of_mem he
  have b:u < E.length:=by simpa using d
  rw[List.getElem_set]
  by_cases e:i=u
  ·rw[if_pos e];exact hn
  ·rw[if_neg e]
   refine Ah (h.par _ (List.getElem_mem b)) (fun k hk _ h2=>hf.keep k h2 (fun h3 => ?_))
   have g:=List.pairwise_iff_getElem.1 h.apart
   rcases Nat.lt_or_gt_of_ne e with f|f
   ·exact(g i u hi b f).1 k h3 hk
   ·exact(g u i b hi f).1 k hk h3
 ·rcases L0 he with l|rfl
  ·exact a (h.ins e l) (by decide)
  ·rw[hq,his];exact a (h.ins _ (List.getElem_mem hi)) (by decide)
theorem A2.insR {A:Nat} {w w':World} {v:Value} {E:List B0} (h:A2 A w v E) {i:Nat} (hi:i < E.length) (e':B0) (hc:Ez e'=Ez E[i]) (hp:e'.p=E[i].p) (hq:e'.i=E[i].i) (hps:e'.f.params=E[i].f.params) (hf:Au (fun j=>E[i].i.ownBlock=some j) w w') (hn:w'.ownsRow A 140 4 e'.i e'.f.ins.length (Bm e'.f.ins)):A2 A w' v (E.set i e'):=by
 have m:=h.ins _ (List.getElem_mem hi)
 have a:∀ {e size n:Nat} {u:Value} {xs:List Value},w.ownsRow A e size u n xs->e≠140->w'.ownsRow A e size u n xs:=fun d hne=>Ah d (fun k hk _ h2=>hf.keep k h2 (fun h3=>by
  obtain⟨-,p,o⟩:=A3 d hk
  obtain⟨-,q,c⟩:=A3 m h3
  rw[o]at c;injection c with c;injection c with _ c;exact hne c))
 refine⟨?_,fun e he => ?_,fun e he => ?_,Ly hi hp hq h.apart⟩
 ·rw[List.length_set,O9 hi hc];exact a h.row (by decide)
 ·rcases L0 he with l|rfl
  ·exact a (h.par e l) (by decide)
  ·rw[hp,hps];exact a (h.par _ (List.getElem_mem hi)) (by decide)
 ·obtain⟨u,d,rfl⟩:=List.getElem_of_mem he
  have b:u < E.length:=by simpa using d
  rw[List.getElem_set]
  by_cases e:i=u
  ·rw[if_pos e];exact hn
  ·rw[if_neg e]
   refine Ah (h.ins _ (List.getElem_mem b)) (fun k hk _ h2=>hf.keep k h2 (fun h3 => ?_))
   have g:=List.pairwise_iff_getElem.1 h.apart
   rcases Nat.lt_or_gt_of_ne e with f|f
   ·exact(g i u hi b f).2 k h3 hk
   ·exact(g u i b hi f).2 k hk h3
theorem A2.five {A:Nat} {w:World} {v:Value} {E:List B0} (h:A2 A w v E) {i:Nat} (hi:i < E.length) {g:Nat} (hg:v.ownBlock=some g):(w.cell? ⟨g,i * 5,none⟩=some (.string E[i].f.name)/\w.cell? ⟨g,i * 5+1,none⟩=some E[i].p/\w.cell? ⟨g,i * 5+2,none⟩=some (.int .i64 E[i].f.result)/\w.cell? ⟨g,i * 5+3,none⟩=some (.int .i64 E[i].f.slots)/\w.cell? ⟨g,i * 5+4,none⟩=some E[i].i)/\(w.frozen? ⟨g,i * 5,none⟩=false/\w.frozen? ⟨g,i * 5+2,none⟩=false/\w.frozen? ⟨g,i * 5+3,none⟩=false):=by
 have a:∀ j u,j < 5->(Ez E[i])[j]? = some u->w.cell? ⟨g,i * 5+j,none⟩=some u:=fun j u hj hu=>Bp h.row hg _ _ ((G2 Ez 5 (fun _=>rfl) E i hi j hj).trans hu)
 obtain⟨-,d,b⟩:=A3 h.row hg
 have c:∀ j,w.frozen? ⟨g,j,none⟩=false:=fun j=>by simp[World.frozen?,b]
 exact⟨⟨a 0 _ (by omega) rfl,a 1 _ (by omega) rfl,a 2 _ (by omega) rfl,a 3 _ (by omega) rfl,a 4 _ (by omega) rfl⟩,c _,c _,c _⟩
def E3 (v:Value) (E:List B0) (j:Nat):Prop:=v.ownBlock=some j\/∃ e ∈ E,e.p.ownBlock=some j\/e.i.ownBlock=some j
theorem A2.rows {A:Nat} {w:World} {v:Value} {E:List B0} (h:A2 A w v E) {j:Nat} (a:E3 v E j):A<=j/\j < w.heap.size:=by
 rcases a with a|⟨e,b,a|a⟩
 ·exact(A3 h.row a).1
 ·exact(A3 (h.par e b) a).1
 ·exact(A3 (h.ins e b) a).1
theorem Au.wide {S R:Nat->Prop} {a b c:World} (h:Au R a b) (k:Au S b c) (hs:∀ j,S j->R j):Au R a c:=h.trans (k.mono hs)
theorem M4 (A:Nat) (E:List B0) (a:Option Addr) (cap:Nat) (hS:G4 E) (w:World) (ho:A2 A w (.slice a E.length cap) E) :
  Calls Tryz.prog 35 #[.slice a E.length cap,.int .i64 1] w fun e w'=>e = .returned (.int .i64 (Ca 1 E))/\A2 A w' (.slice a E.length cap) (C5 1 E)/\Au (E3 (.slice a E.length cap) E) w w':=by
 have HO:Hid (A2 A w (.slice a E.length cap) E):=ho
 obtain⟨n,T⟩:∃ n,Hid (E.length=n):=⟨_,(rfl:E.length=_)⟩
 clear ho
 have hn:n<=60:=by rw[<- T.out];exact hS.1
 rw[T.out]at HO |-
 go_enter Tryz.func35,Tryz.ntmps35
 go_wp2_with fail
 go_loopw [1,5] (fun q t wr => ∃ (i:Nat),i<=n/\t = .int .i64 (i:Int)/\q = .int .i64 (Ca 1 (E.take i))/\A2 A wr (.slice a n cap) (C5 1 (E.take i)++E.drop i)/\Au (E3 (.slice a n cap) E) w wr) (fun _ t _=>n - (intOf t).toNat)
 case atStart=>exact⟨0,by omega,rfl,rfl,HO.out,Au.refl _ _⟩
 case round =>
  obtain⟨i,hi,rfl,rfl,d,N⟩:=hrel
  by_cases hlt:i < n
  ·have Z:(i:Int) < (n:Int):=by omega
   have P:i < E.length:=by rw[T.out];exact hlt
   obtain⟨g,e1,O⟩:=Ck d.row (by rw[M3];omega)
   subst e1
   obtain⟨K,HK⟩:∃ K,Hid (Ca 1 (E.take i)=K):=⟨_,(rfl:_=_)⟩
   have hK:1<=K/\K<=100000000:=by rw[<- HK.out];exact hS.at i
   have V:Hid (Ca 1 (E.take (i+1))=Ma K E[i]):=by rw[Hid,Rt P,HK.out]
   have H:Hid ((C5 1 (E.take i)++E.drop i).set i (J2 K E[i])=C5 1 (E.take (i+1))++E.drop (i+1)):=by rw[Hid,<- HK.out];exact X5 P
   have F:=hS.2 _ (List.getElem_mem P)
   obtain⟨L,HL⟩:∃ L,Hid (C5 1 (E.take i)++E.drop i=L):=⟨_,(rfl:_=_)⟩
   have f:i < L.length:=by rw[<- HL.out,M3];exact P
   have m:L[i]=E[i]:=by
    have:=Qbs P
    simp only[HL.out]at this
    exact this
   rw[HL.out]at d H
   obtain⟨⟨⟨fn,b,y,u,c⟩,pv,iv⟩,HE⟩:∃ e,Hid (E[i]=e):=⟨_,(rfl:E[i]=_)⟩
   rw[HE.out]at m F V H
   simp only at F
   have C:=d.par _ (List.getElem_mem f)
   have B:=d.ins _ (List.getElem_mem f)
   rw[m]at C B
   simp only at C B
   obtain⟨r,s,ak⟩:=Aq C
   obtain⟨o,p,aj⟩:=Aq B
   subst ak
   subst aj
   obtain⟨np,al⟩:∃ np,Hid (b.length=np):=⟨_,(rfl:b.length=_)⟩
   obtain⟨nq,am⟩:∃ nq,Hid (c.length=nq):=⟨_,(rfl:c.length=_)⟩
   have R:Hid ((Value.slice (some ⟨g,0,none⟩) n cap).ownBlock=some g):=O
   have G:Hid (E3 (.slice (some ⟨g,0,none⟩) n cap) E g):=.inl O
   have S:Hid ((⟨⟨fn,b,y,u,c⟩,.slice r b.length s,.slice o c.length p⟩:B0) ∈ E):=by rw[Hid,<- HE.out];exact List.getElem_mem P
   -- the states between
   have S1:Hid (∀ U,A2 A U (.slice (some ⟨g,0,none⟩) n cap) L->A2 A (U.setCell ⟨g,i * 5,none⟩ (.string (Bx K))) (.slice (some ⟨g,0,none⟩) n cap) (L.set i ⟨⟨Bx K,b,y,u,c⟩,.slice r b.length s,.slice o c.length p⟩)):=fun U h=>h.cell f R.out 0 (by omega) _ _ (by rw[m];rfl) (by rw[m]) (by rw[m]) (by rw[m]) (by rw[m])
   have k:∀ x:B0,(L.set i x)[i]'(by rw[List.length_set];exact f)=x:=fun x=>by rw[List.getElem_set_self]
   have S2:Hid (∀ U U',A2 A U (.slice (some ⟨g,0,none⟩) n cap) (L.set i ⟨⟨Bx K,b,y,u,c⟩,.slice r b.length s,.slice o c.length p⟩)->U'.ownsRow A 3 1 (.slice r b.length s) b.length (Al (Cy (K+1) b.length))->Au (fun j=>(Value.slice r b.length s).ownBlock=some j) U U'->A2 A U' (.slice (some ⟨g,0,none⟩) n cap) (L.set i ⟨⟨Bx K,Cy (K+1) b.length,y,u,c⟩,.slice r b.length s,.slice o c.length p⟩)):=fun U U' h hr hf=>by
    have:=h.parR (i:=i) (by rw[List.length_set];exact f) ⟨⟨Bx K,Cy (K+1) b.length,y,u,c⟩,.slice r b.length s,.slice o c.length p⟩ (by rw[k];rfl) (by rw[k]) (by rw[k]) (by rw[k]) (by rw[k];exact hf) (by simp only[Jh];exact hr)
    rw[List.set_set]at this
    exact this
   have S3:Hid (∀ U,A2 A U (.slice (some ⟨g,0,none⟩) n cap) (L.set i ⟨⟨Bx K,Cy (K+1) b.length,y,u,c⟩,.slice r b.length s,.slice o c.length p⟩)->A2 A ((U.setCell ⟨g,i * 5+2,none⟩ (.int .i64 (K+1+(b.length:Int)))).setCell ⟨g,i * 5+3,none⟩ (.int .i64 (K+1+(b.length:Int)+1))) (.slice (some ⟨g,0,none⟩) n cap) (L.set i ⟨⟨Bx K,Cy (K+1) b.length,K+1+(b.length:Int),K+1+(b.length:Int)+1,c⟩,.slice r b.length s,.slice o c.length p⟩)):=fun U h=>by
    have h3:=h.cell (i:=i) (by rw[List.length_set];exact f) R.out 2 (by omega) (.int .i64 (K+1+(b.length:Int))) ⟨⟨Bx K,Cy (K+1) b.length,K+1+(b.length:Int),u,c⟩,.slice r b.length s,.slice o c.length p⟩ (by rw[k];rfl) (by rw[k]) (by rw[k]) (by rw[k]) (by rw[k])
    rw[List.set_set]at h3
    have h4:=h3.cell (i:=i) (by rw[List.length_set];exact f) R.out 3 (by omega) (.int .i64 (K+1+(b.length:Int)+1)) ⟨⟨Bx K,Cy (K+1) b.length,K+1+(b.length:Int),K+1+(b.length:Int)+1,c⟩,.slice r b.length s,.slice o c.length p⟩ (by rw[k];rfl) (by rw[k]) (by rw[k]) (by rw[k]) (by rw[k])
    rw[List.set_set]at h4
    exact h4
   have S4:Hid (∀ U U',A2 A U (.slice (some ⟨g,0,none⟩) n cap) (L.set i ⟨⟨Bx K,Cy (K+1) b.length,K+1+(b.length:Int),K+1+(b.length:Int)+1,c⟩,.slice r b.length s,.slice o c.length p⟩)->U'.ownsRow A 140 4 (.slice o c.length p) c.length (Bm (Ep (K+1+(b.length:Int)+1+1) c.length))->Au (fun j=>(Value.slice o c.length p).ownBlock=some j) U U'->A2 A U' (.slice (some ⟨g,0,none⟩) n cap) (C5 1 (E.take (i+1))++E.drop (i+1))):=fun U U' h hr hf=>by
    have:=h.insR (i:=i) (by rw[List.length_set];exact f) (J2 K ⟨⟨fn,b,y,u,c⟩,.slice r b.length s,.slice o c.length p⟩) (by rw[k];rfl) (by rw[k];rfl) (by rw[k];rfl) (by rw[k];rfl) (by rw[k];exact hf) (by simp only[J2,Ha];exact hr)
    rw[List.set_set,H.out]at this
    exact this
   have v:Hid (∀ U x,A2 A U (.slice (some ⟨g,0,none⟩) n cap) (L.set i x)->(U.cell? ⟨g,i * 5+1,none⟩=some x.p/\U.cell? ⟨g,i * 5+2,none⟩=some (.int .i64 x.f.result)/\U.cell? ⟨g,i * 5+3,none⟩=some (.int .i64 x.f.slots)/\U.cell? ⟨g,i * 5+4,none⟩=some x.i/\U.frozen? ⟨g,i * 5+2,none⟩=false/\U.frozen? ⟨g,i * 5+3,none⟩=false)/\U.ownsRow A 3 1 x.p x.f.params.length (Al x.f.params)/\U.ownsRow A 140 4 x.i x.f.ins.length (Bm x.f.ins)):=fun U x h=>by
    obtain⟨⟨-,c1,c2,c3,c4⟩,-,f2,f3⟩:=h.five (i:=i) (by rw[List.length_set];exact f) R.out
    rw[k]at c1 c2 c3 c4
    have hm:x ∈ L.set i x:=by
     have:=List.getElem_mem (l:=L.set i x) (n:=i) (by rw[List.length_set];exact f)
     rwa [k]at this
    exact⟨⟨c1,c2,c3,c4,f2,f3⟩,h.par x hm,h.ins x hm⟩
   have Y:Hid (A2 A wr (.slice (some ⟨g,0,none⟩) n cap) L):=d
   have ag:Hid (Au (E3 (.slice (some ⟨g,0,none⟩) n cap) E) w wr):=N
   obtain⟨⟨x0,-⟩,y0,-⟩:=d.five f O
   rw[HK.out]
   clear d N m C B k O HE HL
   go_wp2_with (first
    | (go_at_call 67;refine(Df _ _ (by omega) (by omega)).mono ?_;rintro e w1 ⟨rfl,z⟩;have I:Hid (A2 A (w1.setCell ⟨g,i * 5,none⟩ (.string (Bx K))) (.slice (some ⟨g,0,none⟩) n cap) (L.set i ⟨⟨Bx K,b,y,u,c⟩,.slice r b.length s,.slice o c.length p⟩)):=S1.out w1 (Y.out.below z);have ac:Hid (Au (E3 (.slice (some ⟨g,0,none⟩) n cap) E) w (w1.setCell ⟨g,i * 5,none⟩ (.string (Bx K)))):=(ag.out.trans (Au.of_below z)).trans (Au.set _ _ _ _ G.out);have z0:=(Y.out.below z).five f R.out;have z1:=z0.1.1;have z2:=z0.2.1;have z3:=(v.out _ _ I.out).1.1;(try simp only at z3);clear z0 z)
    | (go_at_call 68;refine(Sc A b r s (K+1) (by omega) (by omega) (by omega) _ (v.out _ _ I.out).2.1).mono ?_;rintro e Q ⟨rfl,aa,J⟩;have W:Hid (A2 A Q (.slice (some ⟨g,0,none⟩) n cap) (L.set i ⟨⟨Bx K,Cy (K+1) b.length,y,u,c⟩,.slice r b.length s,.slice o c.length p⟩)):=S2.out _ Q I.out aa J;have ad:Hid (Au (E3 (.slice (some ⟨g,0,none⟩) n cap) E) w Q):=ac.out.wide J (fun j hj => .inr ⟨_,S.out,.inl hj⟩);obtain⟨-,b2,b3,b4,g2,g3⟩:=(v.out _ _ W.out).1;(try simp only at b2 b3 b4);have X:Hid (A2 A ((Q.setCell ⟨g,i * 5+2,none⟩ (.int .i64 (K+1+(b.length:Int)))).setCell ⟨g,i * 5+3,none⟩ (.int .i64 (K+1+(b.length:Int)+1))) (.slice (some ⟨g,0,none⟩) n cap) (L.set i ⟨⟨Bx K,Cy (K+1) b.length,K+1+(b.length:Int),K+1+(b.length:Int)+1,c⟩,.slice r b.length s,.slice o c.length p⟩)):=S3.out Q W.out;have ae:Hid (Au (E3 (.slice (some ⟨g,0,none⟩) n cap) E) w ((Q.setCell ⟨g,i * 5+2,none⟩ (.int .i64 (K+1+(b.length:Int)))).setCell ⟨g,i * 5+3,none⟩ (.int .i64 (K+1+(b.length:Int)+1)))):=(ad.out.trans (Au.set _ _ _ _ G.out)).trans (Au.set _ _ _ _ G.out);clear aa J)
    | (go_at_call 69;refine(Sb A c o p (K+1+(b.length:Int)+1+1) (by omega) (by omega) (by omega) _ (v.out _ _ X.out).2.2).mono ?_;rintro e w3 ⟨rfl,ab,M⟩;have ah:Hid (A2 A w3 (.slice (some ⟨g,0,none⟩) n cap) (C5 1 (E.take (i+1))++E.drop (i+1))):=S4.out _ w3 X.out ab M;have af:Hid (Au (E3 (.slice (some ⟨g,0,none⟩) n cap) E) w w3):=ae.out.wide M (fun j hj => .inr ⟨_,S.out,.inr hj⟩);clear ab M))
   go_roundw
   case rel =>
    refine⟨i+1,by omega,by go_num, ?_,ah.out,af.out⟩
    rw[V.out];rfl
   case measure=>simp[intOf];omega
  ·have Z:¬ (i:Int) < (n:Int):=by omega
   have ai:i=n:=by omega
   have D:Hid (Ca 1 (E.take i)=Ca 1 E/\A2 A wr (.slice a n cap) (C5 1 E)):=by
    have e1:E.take i=E:=List.take_of_length_le (by rw[T.out];omega)
    have O:E.drop i=[]:=List.drop_eq_nil_of_le (by rw[T.out];omega)
    rw[e1,O,List.append_nil]at d
    exact⟨by rw[e1],d⟩
   clear d ai
   rw[D.out.1]
   go_wp2_with fail
   go_ret
   exact⟨rfl,D.out.2,N⟩
theorem Qcx {E:List B0} {i:Nat} (b:i < E.length):(C5 1 E)[i]'(by rw[G3];exact b)=J2 (Ca 1 (E.take i)) E[i]:=by
 have c:∀ (k:Int) (E:List B0) (i:Nat) (b:i < E.length),(C5 k E)[i]'(by rw[G3];exact b)=J2 (Ca k (E.take i)) E[i]:=by
  intro k E
  induction E generalizing k with
  | nil=>intro i b;simp at b
  | cons a r ih =>
   intro i b
   cases i with
   | zero=>rfl
   | succ i=>exact ih (Ma k a) i (by simpa using b)
 exact c 1 E i b
theorem Sa (A n:Nat) (a:Option Addr) (cap:Nat) (k:Int) (h1:0<=k) (h2:k<=100000000000000) (hl:n<=1048576) (w:World) (ho:w.ownsRow A 3 1 (.slice a n cap) n (Al (Cy k n))) :
  Calls Tryz.prog 104 #[.slice a n cap,.int .i64 k] w fun e w'=>e = .returned (.int .i64 (k+(n:Int)))/\Below w.heap.size w w':=by
 have g:Hid (∀ U,Below w.heap.size w U->U.ownsRow A 3 1 (.slice a n cap) n (Al (Cy k n))):=fun U hU=>Ah ho (fun k _ _ hk=>hU.block k hk)
 clear ho
 go_enter Tryz.func104,Tryz.ntmps104
 go_wp2_with fail
 go_loopw [1,5] (fun q t wr => ∃ (i:Nat),i<=n/\t = .int .i64 (i:Int)/\q = .int .i64 (k+(i:Int))/\Below w.heap.size w wr) (fun _ t _=>n - (intOf t).toNat)
 case atStart=>exact⟨0,by omega,rfl,by simp,Below.refl _ _⟩
 case round =>
  obtain⟨i,r,rfl,rfl,b⟩:=hrel
  by_cases hlt:i < n
  ·have c:(i:Int) < (n:Int):=by omega
   obtain⟨p,l,h⟩:=Ck (g.out wr b) (by omega)
   subst l
   have j:=Bp (g.out wr b) h i (.int .i64 (k+(i:Int))) (by simp[Al,Cy,hlt])
   obtain⟨K,d⟩:∃ K,Hid (k+(i:Int)=K):=⟨_,(rfl:_=_)⟩
   have o:0<=K/\K<=200000000000000:=by have:=d.out;omega
   rw[d.out]at j |-
   have m:(K != K)=false:=by simp
   clear h
   go_wp2_with fail
   go_roundw
   case rel =>
    refine⟨i+1,by omega,by go_num, ?_,b⟩
    rw[show k+((i+1:Nat):Int)=K+1 by have:=d.out;omega]
   case measure=>simp[intOf];omega
  ·have c:¬ (i:Int) < (n:Int):=by omega
   have f:i=n:=by omega
   subst f
   go_wp2_with fail
   go_ret
   exact⟨rfl,b⟩
theorem R9 (A n:Nat) (a:Option Addr) (cap:Nat) (k:Int) (h1:1<=k) (h2:k<=10000000000000) (hl:n<=1048576) (w:World) (ho:w.ownsRow A 140 4 (.slice a n cap) n (Bm (Ep k n))) :
  Calls Tryz.prog 105 #[.slice a n cap,.int .i64 k] w fun e w'=>e = .returned (.int .i64 (k+4 * (n:Int)))/\Below w.heap.size w w':=by
 have s:Hid (∀ U,Below w.heap.size w U->U.ownsRow A 140 4 (.slice a n cap) n (Bm (Ep k n))):=fun U hU=>Ah ho (fun k _ _ hk=>hU.block k hk)
 clear ho
 go_enter Tryz.func105,Tryz.ntmps105
 go_wp2_with fail
 go_loopw [1,5] (fun q t wr => ∃ (i:Nat),i<=n/\t = .int .i64 (i:Int)/\q = .int .i64 (k+4 * (i:Int))/\Below w.heap.size w wr) (fun _ t _=>n - (intOf t).toNat)
 case atStart=>exact⟨0,by omega,rfl,by simp,Below.refl _ _⟩
 case round =>
  obtain⟨i,J,rfl,rfl,b⟩:=hrel
  by_cases hlt:i < n
  ·have g:(i:Int) < (n:Int):=by omega
   obtain⟨p,E,x⟩:=Ck (s.out wr b) (by omega)
   subst E
   obtain⟨K,l⟩:∃ K,Hid (k+4 * (i:Int)=K):=⟨_,(rfl:_=_)⟩
   have I:1<=K/\K<=20000000000000:=by have:=l.out;omega
   have c:Hid (∀ U,Below w.heap.size w U->U.cell? ⟨p,i * 4,none⟩=some (.int .i64 K)/\U.cell? ⟨p,i * 4+1,none⟩=some (.int .i64 (K+1))/\U.cell? ⟨p,i * 4+2,none⟩=some (.int .i64 (K+1+1))/\U.cell? ⟨p,i * 4+3,none⟩=some (.string (Bx (K+1+1+1)))):=fun U hU=>by
    have F:(Ep k n)[i]'(by rw[Ha];exact hlt)=Pb K:=by simp only[Ep,List.getElem_map,List.getElem_range];rw[l.out]
    have m:∀ j u,j < 4->(Cz (Pb K))[j]? = some u->U.cell? ⟨p,i * 4+j,none⟩=some u:=fun j u hj hu=>by
     refine Bp (s.out U hU) x _ _ ((G2 Cz 4 (fun _=>rfl) _ i (by rw[Ha];exact hlt) j hj).trans ?_)
     rw[F];exact hu
    exact⟨m 0 _ (by omega) rfl,m 1 _ (by omega) rfl,m 2 _ (by omega) rfl,m 3 _ (by omega) rfl⟩
   obtain⟨L,M,N,D⟩:=c.out wr b
   have y:(K != K)=false:=by simp
   have z:(K+1 != K+1)=false:=by simp
   have B:(K+1+1 != K+1+1)=false:=by simp
   rw[l.out]
   clear x
   go_wp2_with fail
   have h:wr.drew.cell? ⟨p,i * 4+3,none⟩=some (.string (Bx (K+1+1+1))):=D
   obtain⟨T,v⟩:∃ T,Hid (Bx (K+1+1+1)=T):=⟨_,(rfl:_=_)⟩
   rw[v.out]at c D h
   have f:Below w.heap.size w wr.drew:=b.drew
   go_region_held3 (fun W=>W.cell? ⟨p,i * 4+3,none⟩=some (.string T)) (with_reducible first|exact h|exact H) (first|(go_at_call 67;refine(Df _ _ (by omega) (by omega)).mono ?_;rintro e C ⟨rfl,o⟩;rw[v.out];have d:Below w.heap.size w C:=f.trans (o.mono f.size);obtain⟨-,-,-,H⟩:=c.out C d))
   have G:(T.toList == T.toList)=true:=by simp
   go_wp2_with fail
   go_roundw
   case rel =>
    refine⟨i+1,by omega,by go_num, ?_,d⟩
    rw[show k+4 * ((i+1:Nat):Int)=K+1+1+1+1 by have:=l.out;omega]
   case measure=>simp[intOf];omega
  ·have g:¬ (i:Int) < (n:Int):=by omega
   have r:i=n:=by omega
   subst r
   go_wp2_with fail
   go_ret
   exact⟨rfl,b⟩
theorem T6 (A:Nat) (E:List B0) (a:Option Addr) (cap:Nat) (hS:G4 E) (w:World) (ho:A2 A w (.slice a E.length cap) (C5 1 E)) :
  Calls Tryz.prog 71 #[.slice a E.length cap,.int .i64 1] w fun e w'=>e = .returned (.int .i64 (Ca 1 E))/\Below w.heap.size w w':=by
 have p:Hid (∀ U,Below w.heap.size w U->A2 A U (.slice a E.length cap) (C5 1 E)):=fun U hU=>ho.below hU
 obtain⟨n,L⟩:∃ n,Hid (E.length=n):=⟨_,(rfl:E.length=_)⟩
 clear ho
 have hn:n<=60:=by rw[<- L.out];exact hS.1
 rw[L.out]at p |-
 go_enter Tryz.func71,Tryz.ntmps71
 go_wp2_with fail
 go_loopw [1,5] (fun q t wr => ∃ (i:Nat),i<=n/\t = .int .i64 (i:Int)/\q = .int .i64 (Ca 1 (E.take i))/\Below w.heap.size w wr) (fun _ t _=>n - (intOf t).toNat)
 case atStart=>exact⟨0,by omega,rfl,rfl,Below.refl _ _⟩
 case round =>
  obtain⟨i,hi,rfl,rfl,d⟩:=hrel
  by_cases hlt:i < n
  ·have H:(i:Int) < (n:Int):=by omega
   have M:i < E.length:=by rw[L.out];exact hlt
   have B:i < (C5 1 E).length:=by rw[G3];exact M
   obtain⟨g,e1,e2⟩:=Ck (p.out wr d).row (by rw[G3];omega)
   subst e1
   obtain⟨K,y⟩:∃ K,Hid (Ca 1 (E.take i)=K):=⟨_,(rfl:_=_)⟩
   have hK:1<=K/\K<=100000000:=by rw[<- y.out];exact hS.at i
   have u:Hid (Ca 1 (E.take (i+1))=Ma K E[i]):=by rw[Hid,Rt M,y.out]
   have c:=hS.2 _ (List.getElem_mem M)
   have j:(C5 1 E)[i]=J2 K E[i]:=by rw[<- y.out];exact Qcx M
   obtain⟨⟨⟨fn,h,fr,fs,v⟩,pv,iv⟩,HE⟩:∃ e,Hid (E[i]=e):=⟨_,(rfl:E[i]=_)⟩
   rw[HE.out]at j c u
   simp only at c
   have o:=(p.out wr d).par _ (List.getElem_mem B)
   have m:=(p.out wr d).ins _ (List.getElem_mem B)
   rw[j]at o m
   simp only[J2,Jh,Ha]at o m
   obtain⟨Y,Z,R⟩:=Aq o
   obtain⟨V,X,P⟩:=Aq m
   subst R
   subst P
   have b:Hid (∀ U,Below w.heap.size w U->(U.cell? ⟨g,i * 5,none⟩=some (.string (Bx K))/\U.cell? ⟨g,i * 5+1,none⟩=some (.slice Y h.length Z)/\U.cell? ⟨g,i * 5+2,none⟩=some (.int .i64 (K+1+(h.length:Int)))/\U.cell? ⟨g,i * 5+3,none⟩=some (.int .i64 (K+1+(h.length:Int)+1))/\U.cell? ⟨g,i * 5+4,none⟩=some (.slice V v.length X))/\U.ownsRow A 3 1 (.slice Y h.length Z) h.length (Al (Cy (K+1) h.length))/\U.ownsRow A 140 4 (.slice V v.length X) v.length (Bm (Ep (K+1+(h.length:Int)+1+1) v.length))):=fun U hU=>by
    have N:=((p.out U hU).five B e2).1
    have Q:=(p.out U hU).par _ (List.getElem_mem B)
    have S:=(p.out U hU).ins _ (List.getElem_mem B)
    rw[j]at N Q S
    simp only[J2,Jh,Ha]at N Q S
    exact⟨N,Q,S⟩
   obtain⟨T,HT⟩:∃ T,Hid (Bx K=T):=⟨_,(rfl:_=_)⟩
   rw[HT.out]at b
   obtain⟨⟨x0,-⟩,-⟩:=b.out wr d
   have J:wr.drew.cell? ⟨g,i * 5,none⟩=some (.string T):=x0
   have G:Below w.heap.size w wr.drew:=d.drew
   rw[y.out]
   clear e2 o m j HE y
   go_wp2_with fail
   go_region_held3 (fun W=>W.cell? ⟨g,i * 5,none⟩=some (.string T)) (with_reducible first|exact J|exact z0) (first|(go_at_call 67;refine(Df _ _ (by omega) (by omega)).mono ?_;rintro e w1 ⟨rfl,C⟩;rw[HT.out];have k:Below w.heap.size w w1:=G.trans (C.mono G.size);obtain⟨⟨z0,z1,-⟩,-⟩:=b.out w1 k;clear C))
   have ae:(T.toList == T.toList)=true:=by simp
   obtain⟨f,r⟩:∃ f,Hid (h.length=f):=⟨_,(rfl:h.length=_)⟩
   obtain⟨I,s⟩:∃ I,Hid (v.length=I):=⟨_,(rfl:v.length=_)⟩
   rw[r.out]at b z1 c
   rw[s.out]at b c
   have z:Hid (Ca 1 (E.take (i+1))=K+1+(f:Int)+1+1+4 * (I:Int)):=by rw[Hid,u.out];simp only[Ma,r.out,s.out]
   clear u r s x0 J z0
   have ac:¬ K+1+(f:Int) < 0:=by omega
   have ad:¬ K+1+(f:Int)+1+1+4 * (I:Int) < 0:=by omega
   have aa:(K+1+(f:Int) != K+1+(f:Int))=false:=by simp
   have ab:(K+1+(f:Int)+1 != K+1+(f:Int)+1)=false:=by simp
   go_wp2_with (first
    | (go_at_call 104;refine(Sa A f Y Z (K+1) (by omega) (by omega) (by omega) _ (b.out w1 k).2.1).mono ?_;rintro e w3 ⟨rfl,D⟩;have l:Below w.heap.size w w3:=k.trans (D.mono k.size);obtain⟨⟨-,-,y2,y3,y4⟩,-⟩:=b.out w3 l;clear D)
    | (go_at_call 105;refine(R9 A I V X (K+1+(f:Int)+1+1) (by omega) (by omega) (by omega) _ (b.out w3 l).2.2).mono ?_;rintro e w5 ⟨rfl,F⟩;have O:Below w.heap.size w w5:=l.trans (F.mono l.size);clear F))
   go_roundw
   case rel=>exact⟨i+1,by omega,by go_num,by rw[z.out],O⟩
   case measure=>simp[intOf];omega
  ·have H:¬ (i:Int) < (n:Int):=by omega
   have x:Hid (Ca 1 (E.take i)=Ca 1 E):=by rw[Hid,List.take_of_length_le (by rw[L.out];omega)]
   rw[x.out]
   go_wp2_with fail
   go_ret
   exact⟨rfl,d⟩
end Go.Proofs.YtfjkahdghhbpnaaGreatDoor
