import Derived.Shelf.Spec.SlicesGrow
import Derived.Test.YtfjkahdghhbpnaaGreatDoorRows
import Derived.Test.YtfjkahdghhbpnaaGreatDoorKWcB
import Derived.Test.YtfjkahdghhbpnaaGreatDoorKScanA
import Derived.Test.YtfjkahdghhbpnaaGreatDoorKShC
import Derived.Test.YtfjkahdghhbpnaaGreatDoorKBltA
set_option maxRecDepth 100000
set_option maxHeartbeats 2000000
namespace Go.Proofs
open Go.Shelf
def Tryz.laysGCode_ren : Go.Shelf.Ren:=⟨fun|4=>92|n=>n,fun|0=>0|3=>3|4=>4|9=>9|20=>20|22=>30|25=>38|n=>n,fun|n=>n⟩
theorem Tryz.laysGCode : Go.Proofs.Lays8.n4 Tryz.prog Tryz.laysGCode_ren:={
 mixed:=by kernel_rfl
 f4:=⟨Tryz.f92.name,by kernel_rfl,Tryz.func92.trans (congrArg some (by kernel_rfl))⟩
 t0:=Tryz.underlying0
 a0:=Tryz.isAgg0
 z0:=Tryz.sizeOf0
 v0:=Tryz.zeroValue0
 t3:=Tryz.underlying3
 a3:=Tryz.isAgg3
 z3:=Tryz.sizeOf3
 v3:=Tryz.zeroValue3
 t4:=Tryz.underlying4
 a4:=Tryz.isAgg4
 z4:=Tryz.sizeOf4
 v4:=Tryz.zeroValue4
 t9:=Tryz.underlying9
 a9:=Tryz.isAgg9
 z9:=Tryz.sizeOf9
 v9:=Tryz.zeroValue9
 t20:=Tryz.underlying20
 a20:=Tryz.isAgg20
 z20:=Tryz.sizeOf20
 v20:=Tryz.zeroValue20
 t22:=Tryz.underlying30
 a22:=Tryz.isAgg30
 z22:=Tryz.sizeOf30
 v22:=Tryz.zeroValue30 }
def Tryz.laysGStr_ren : Go.Shelf.Ren:=⟨fun|4=>95|n=>n,fun|0=>0|3=>3|4=>4|9=>9|20=>20|22=>25|25=>9|n=>n,fun|n=>n⟩
theorem Tryz.laysGStr : Go.Proofs.Lays8.n4 Tryz.prog Tryz.laysGStr_ren:={
 mixed:=by kernel_rfl
 f4:=⟨Tryz.f95.name,by kernel_rfl,Tryz.func95.trans (congrArg some (by kernel_rfl))⟩
 t0:=Tryz.underlying0
 a0:=Tryz.isAgg0
 z0:=Tryz.sizeOf0
 v0:=Tryz.zeroValue0
 t3:=Tryz.underlying3
 a3:=Tryz.isAgg3
 z3:=Tryz.sizeOf3
 v3:=Tryz.zeroValue3
 t4:=Tryz.underlying4
 a4:=Tryz.isAgg4
 z4:=Tryz.sizeOf4
 v4:=Tryz.zeroValue4
 t9:=Tryz.underlying9
 a9:=Tryz.isAgg9
 z9:=Tryz.sizeOf9
 v9:=Tryz.zeroValue9
 t20:=Tryz.underlying20
 a20:=Tryz.isAgg20
 z20:=Tryz.sizeOf20
 v20:=Tryz.zeroValue20
 t22:=Tryz.underlying25
 a22:=Tryz.isAgg25
 z22:=Tryz.sizeOf25
 v22:=Tryz.zeroValue25 }
def Tryz.laysGFrame_ren : Go.Shelf.Ren:=⟨fun|4=>97|n=>n,fun|0=>0|3=>3|4=>4|9=>9|20=>20|22=>31|25=>56|n=>n,fun|n=>n⟩
theorem Tryz.laysGFrame : Go.Proofs.Lays8.n4 Tryz.prog Tryz.laysGFrame_ren:={
 mixed:=by kernel_rfl
 f4:=⟨Tryz.f97.name,by kernel_rfl,Tryz.func97.trans (congrArg some (by kernel_rfl))⟩
 t0:=Tryz.underlying0
 a0:=Tryz.isAgg0
 z0:=Tryz.sizeOf0
 v0:=Tryz.zeroValue0
 t3:=Tryz.underlying3
 a3:=Tryz.isAgg3
 z3:=Tryz.sizeOf3
 v3:=Tryz.zeroValue3
 t4:=Tryz.underlying4
 a4:=Tryz.isAgg4
 z4:=Tryz.sizeOf4
 v4:=Tryz.zeroValue4
 t9:=Tryz.underlying9
 a9:=Tryz.isAgg9
 z9:=Tryz.sizeOf9
 v9:=Tryz.zeroValue9
 t20:=Tryz.underlying20
 a20:=Tryz.isAgg20
 z20:=Tryz.sizeOf20
 v20:=Tryz.zeroValue20
 t22:=Tryz.underlying31
 a22:=Tryz.isAgg31
 z22:=Tryz.sizeOf31
 v22:=Tryz.zeroValue31 }
def Tryz.laysGFile_ren : Go.Shelf.Ren:=⟨fun|4=>100|n=>n,fun|0=>0|3=>3|4=>4|9=>9|20=>20|22=>32|25=>119|n=>n,fun|n=>n⟩
theorem Tryz.laysGFile : Go.Proofs.Lays8.n4 Tryz.prog Tryz.laysGFile_ren:={
 mixed:=by kernel_rfl
 f4:=⟨Tryz.f100.name,by kernel_rfl,Tryz.func100.trans (congrArg some (by kernel_rfl))⟩
 t0:=Tryz.underlying0
 a0:=Tryz.isAgg0
 z0:=Tryz.sizeOf0
 v0:=Tryz.zeroValue0
 t3:=Tryz.underlying3
 a3:=Tryz.isAgg3
 z3:=Tryz.sizeOf3
 v3:=Tryz.zeroValue3
 t4:=Tryz.underlying4
 a4:=Tryz.isAgg4
 z4:=Tryz.sizeOf4
 v4:=Tryz.zeroValue4
 t9:=Tryz.underlying9
 a9:=Tryz.isAgg9
 z9:=Tryz.sizeOf9
 v9:=Tryz.zeroValue9
 t20:=Tryz.underlying20
 a20:=Tryz.isAgg20
 z20:=Tryz.sizeOf20
 v20:=Tryz.zeroValue20
 t22:=Tryz.underlying32
 a22:=Tryz.isAgg32
 z22:=Tryz.sizeOf32
 v22:=Tryz.zeroValue32 }
def Tryz.laysGFn_ren : Go.Shelf.Ren:=⟨fun|4=>124|n=>n,fun|0=>0|3=>3|4=>4|9=>9|20=>20|22=>36|25=>97|n=>n,fun|n=>n⟩
theorem Tryz.laysGFn : Go.Proofs.Lays8.n4 Tryz.prog Tryz.laysGFn_ren:={
 mixed:=by kernel_rfl
 f4:=⟨Tryz.f124.name,by kernel_rfl,Tryz.func124.trans (congrArg some (by kernel_rfl))⟩
 t0:=Tryz.underlying0
 a0:=Tryz.isAgg0
 z0:=Tryz.sizeOf0
 v0:=Tryz.zeroValue0
 t3:=Tryz.underlying3
 a3:=Tryz.isAgg3
 z3:=Tryz.sizeOf3
 v3:=Tryz.zeroValue3
 t4:=Tryz.underlying4
 a4:=Tryz.isAgg4
 z4:=Tryz.sizeOf4
 v4:=Tryz.zeroValue4
 t9:=Tryz.underlying9
 a9:=Tryz.isAgg9
 z9:=Tryz.sizeOf9
 v9:=Tryz.zeroValue9
 t20:=Tryz.underlying20
 a20:=Tryz.isAgg20
 z20:=Tryz.sizeOf20
 v20:=Tryz.zeroValue20
 t22:=Tryz.underlying36
 a22:=Tryz.isAgg36
 z22:=Tryz.sizeOf36
 v22:=Tryz.zeroValue36 }
def Tryz.laysGValue_ren : Go.Shelf.Ren:=⟨fun|4=>127|n=>n,fun|0=>0|3=>3|4=>4|9=>9|20=>20|22=>54|25=>99|n=>n,fun|n=>n⟩
theorem Tryz.laysGValue : Go.Proofs.Lays8.n4 Tryz.prog Tryz.laysGValue_ren:={
 mixed:=by kernel_rfl
 f4:=⟨Tryz.f127.name,by kernel_rfl,Tryz.func127.trans (congrArg some (by kernel_rfl))⟩
 t0:=Tryz.underlying0
 a0:=Tryz.isAgg0
 z0:=Tryz.sizeOf0
 v0:=Tryz.zeroValue0
 t3:=Tryz.underlying3
 a3:=Tryz.isAgg3
 z3:=Tryz.sizeOf3
 v3:=Tryz.zeroValue3
 t4:=Tryz.underlying4
 a4:=Tryz.isAgg4
 z4:=Tryz.sizeOf4
 v4:=Tryz.zeroValue4
 t9:=Tryz.underlying9
 a9:=Tryz.isAgg9
 z9:=Tryz.sizeOf9
 v9:=Tryz.zeroValue9
 t20:=Tryz.underlying20
 a20:=Tryz.isAgg20
 z20:=Tryz.sizeOf20
 v20:=Tryz.zeroValue20
 t22:=Tryz.underlying54
 a22:=Tryz.isAgg54
 z22:=Tryz.sizeOf54
 v22:=Tryz.zeroValue54 }
def Tryz.laysGIns_ren : Go.Shelf.Ren:=⟨fun|4=>152|n=>n,fun|0=>0|3=>3|4=>4|9=>9|20=>20|22=>95|25=>140|n=>n,fun|n=>n⟩
theorem Tryz.laysGIns : Go.Proofs.Lays8.n4 Tryz.prog Tryz.laysGIns_ren:={
 mixed:=by kernel_rfl
 f4:=⟨Tryz.f152.name,by kernel_rfl,Tryz.func152.trans (congrArg some (by kernel_rfl))⟩
 t0:=Tryz.underlying0
 a0:=Tryz.isAgg0
 z0:=Tryz.sizeOf0
 v0:=Tryz.zeroValue0
 t3:=Tryz.underlying3
 a3:=Tryz.isAgg3
 z3:=Tryz.sizeOf3
 v3:=Tryz.zeroValue3
 t4:=Tryz.underlying4
 a4:=Tryz.isAgg4
 z4:=Tryz.sizeOf4
 v4:=Tryz.zeroValue4
 t9:=Tryz.underlying9
 a9:=Tryz.isAgg9
 z9:=Tryz.sizeOf9
 v9:=Tryz.zeroValue9
 t20:=Tryz.underlying20
 a20:=Tryz.isAgg20
 z20:=Tryz.sizeOf20
 v20:=Tryz.zeroValue20
 t22:=Tryz.underlying95
 a22:=Tryz.isAgg95
 z22:=Tryz.sizeOf95
 v22:=Tryz.zeroValue95 }
end Go.Proofs
namespace Go.Proofs.YtfjkahdghhbpnaaGreatDoor
open Go.RowKit
def Be (l:List ByteArray):List Value:=l.map Value.string
theorem Rx (a b:List ByteArray):Be (a++b)=Be a++Be b:=List.map_append
def Fq (x:Fu):List Value:=[.int .i64 x.type,.int .i64 x.n,.string x.text]
def Bj (l:List Fu):List Value:=l.flatMap Fq
theorem Nc (a b:List Fu):Bj (a++b)=Bj a++Bj b:=List.flatMap_append
theorem Ry (l:List Fu):(Bj l).length=l.length * 3:=by
 induction l with
 | nil=>rfl
 | cons a l ih=>rw[Bj,List.flatMap_cons,List.length_append,<- Bj,ih,List.length_cons];simp[Fq];omega
def C2 (k:Int) (n:Nat):List ByteArray:=(List.range n).map (fun j:Nat=>Bx (k+(j:Int)))
theorem Yh (k:Int) (n:Nat):(C2 k n).length=n:=by simp[C2]
theorem Vv (k:Int) (n:Nat):C2 k (n+1)=C2 k n++[Bx (k+(n:Int))]:=by simp[C2,List.range_succ]
theorem Yi {l:List ByteArray} {k:Int} {i:Nat} (hi:i < l.length):(Be (C2 k i++l.drop i)).set i (.string (Bx (k+(i:Int))))=Be (C2 k (i+1)++l.drop (i+1)):=by
 rw[List.drop_eq_getElem_cons hi,Vv,Rx]
 have e:(Be (C2 k i)).length=i:=by simp[Be,Yh]
 have a:Be (l[i]::l.drop (i+1)) = .string l[i]::Be (l.drop (i+1)):=rfl
 rw[a]
 conv=>lhs;arg 2;rw[<- e]
 rw[Rs]
 simp[Be]
theorem Hq (A:Nat) (l:List ByteArray) (a:Option Addr) (cap:Nat) (k:Int) (h1:1<=k) (h2:k<=10000000000000) (hl:l.length<=1048576) (w:World) (ho:w.ownsRow A 9 1 (.slice a l.length cap) l.length (Be l)) :
  Calls Tryz.prog 36 #[.slice a l.length cap,.int .i64 k] w fun e w'=>e = .returned (.int .i64 (k+(l.length:Int)))/\w'.ownsRow A 9 1 (.slice a l.length cap) l.length (Be (C2 k l.length))/\Au (fun j=>(Value.slice a l.length cap).ownBlock=some j) w w':=by
 have C:Hid (w.ownsRow A 9 1 (.slice a l.length cap) l.length (Be l)):=ho
 obtain⟨n,s⟩:∃ n,Hid (l.length=n):=⟨_,(rfl:l.length=_)⟩
 clear ho
 rw[s.out]at C hl |-
 go_enter Tryz.func36,Tryz.ntmps36
 go_wp2_with fail
 go_loopw [1,5] (fun q t wr => ∃ (i:Nat),i<=n/\t = .int .i64 (i:Int)/\q = .int .i64 (k+(i:Int))/\wr.ownsRow A 9 1 (.slice a n cap) n (Be (C2 k i++l.drop i))/\Au (fun j=>(Value.slice a n cap).ownBlock=some j) w wr) (fun _ t _=>n - (intOf t).toNat)
 case atStart=>exact⟨0,by omega,rfl,by simp,C.out,Au.refl _ _⟩
 case round =>
  obtain⟨i,I,rfl,rfl,b,f⟩:=hrel
  by_cases hlt:i < n
  ·have h:(i:Int) < (n:Int):=by omega
   obtain⟨p,F,D⟩:=Ck b (by omega)
   subst F
   obtain⟨K,m⟩:∃ K,Hid (k+(i:Int)=K):=⟨_,(rfl:_=_)⟩
   have H:1<=K/\K<=20000000000000:=by have:=m.out;omega
   have x:Hid (wr.ownsRow A 9 1 (.slice (some ⟨p,0,none⟩) n cap) n (Be (C2 k i++l.drop i))):=b
   have r:Hid (Au (fun j=>(Value.slice (some ⟨p,0,none⟩) n cap).ownBlock=some j) w wr):=f
   have c:Hid ((Value.slice (some ⟨p,0,none⟩) n cap).ownBlock=some p):=D
   have u:Hid ((Be (C2 k i++l.drop i)).set i (.string (Bx K))=Be (C2 k (i+1)++l.drop (i+1))):=by rw[Hid,<- m.out];exact Yi (by rw[s.out];exact hlt)
   rw[m.out]
   clear b f D
   go_wp2_with (go_at_call 67;refine(Df _ _ (by omega) (by omega)).mono ?_;rintro e E ⟨rfl,d⟩;have z:=Ah x.out (fun k _ _ hk=>d.block k hk);obtain⟨⟨L,J⟩,G⟩:=Du z c.out i (by omega);have B:=Dg z c.out i (.string (Bx K));rw[u.out]at B;have v:Hid ((E.setCell ⟨p,i,none⟩ (.string (Bx K))).ownsRow A 9 1 (.slice (some ⟨p,0,none⟩) n cap) n (Be (C2 k (i+1)++l.drop (i+1)))):=B;have o:Hid (Au (fun j=>(Value.slice (some ⟨p,0,none⟩) n cap).ownBlock=some j) w (E.setCell ⟨p,i,none⟩ (.string (Bx K)))):=(r.out.trans (Au.of_below d)).trans (Au.set _ p _ _ c.out);clear z B d)
   go_roundw
   case rel =>
    refine⟨i+1,by omega,by go_num, ?_,v.out,o.out⟩
    rw[show k+((i+1:Nat):Int)=K+1 by have:=m.out;omega]
   case measure=>simp[intOf];omega
  ·have h:¬ (i:Int) < (n:Int):=by omega
   have y:i=n:=by omega
   subst y
   have g:Hid (wr.ownsRow A 9 1 (.slice a i cap) i (Be (C2 k i))):=by
    rw[List.drop_eq_nil_of_le (by rw[s.out];exact Nat.le_refl _),List.append_nil]at b;exact b
   clear b
   go_wp2_with fail
   go_ret
   exact⟨rfl,g.out,f⟩
theorem J3 (A n:Nat) (a:Option Addr) (cap:Nat) (k:Int) (h1:1<=k) (h2:k<=10000000000000) (hl:n<=1048576) (w:World) (ho:w.ownsRow A 9 1 (.slice a n cap) n (Be (C2 k n))) :
  Calls Tryz.prog 41 #[.slice a n cap,.int .i64 k] w fun e w'=>e = .returned (.int .i64 (k+(n:Int)))/\Below w.heap.size w w':=by
 have o:Hid (∀ U,Below w.heap.size w U->U.ownsRow A 9 1 (.slice a n cap) n (Be (C2 k n))):=fun U hU=>Ah ho (fun k _ _ hk=>hU.block k hk)
 clear ho
 go_enter Tryz.func41,Tryz.ntmps41
 go_wp2_with fail
 go_loopw [1,5] (fun q t wr => ∃ (i:Nat),i<=n/\t = .int .i64 (i:Int)/\q = .int .i64 (k+(i:Int))/\Below w.heap.size w wr) (fun _ t _=>n - (intOf t).toNat)
 case atStart=>exact⟨0,by omega,rfl,by simp,Below.refl _ _⟩
 case round =>
  obtain⟨i,C,rfl,rfl,b⟩:=hrel
  by_cases hlt:i < n
  ·have g:(i:Int) < (n:Int):=by omega
   obtain⟨p,v,s⟩:=Ck (o.out wr b) (by omega)
   subst v
   obtain⟨K,h⟩:∃ K,Hid (k+(i:Int)=K):=⟨_,(rfl:_=_)⟩
   have B:1<=K/\K<=20000000000000:=by have:=h.out;omega
   have c:Hid (∀ U,Below w.heap.size w U->U.cell? ⟨p,i,none⟩=some (.string (Bx K))):=fun U hU =>
    Bp (o.out U hU) s i (.string (Bx K)) (by simp[Be,C2,hlt,h.out])
   obtain⟨T,r⟩:∃ T,Hid (Bx K=T):=⟨_,(rfl:_=_)⟩
   rw[r.out]at c
   have y:=c.out wr b
   have m:wr.drew.cell? ⟨p,i,none⟩=some (.string T):=y
   have f:Below w.heap.size w wr.drew:=b.drew
   rw[h.out]
   clear s
   go_wp2_with fail
   go_region_held3 (fun W=>W.cell? ⟨p,i,none⟩=some (.string T)) (with_reducible first|exact m|exact z) (first|(go_at_call 67;refine(Df _ _ (by omega) (by omega)).mono ?_;rintro e u ⟨rfl,j⟩;rw[r.out];have d:Below w.heap.size w u:=f.trans (j.mono f.size);have z:=c.out u d))
   have x:(T.toList == T.toList)=true:=by simp
   go_wp2_with fail
   go_roundw
   case rel =>
    refine⟨i+1,by omega,by go_num, ?_,d⟩
    rw[show k+((i+1:Nat):Int)=K+1 by have:=h.out;omega]
   case measure=>simp[intOf];omega
  ·have g:¬ (i:Int) < (n:Int):=by omega
   have l:i=n:=by omega
   subst l
   go_wp2_with fail
   go_ret
   exact⟨rfl,b⟩
def Pp (k:Int):Fu:=⟨k,k+1,Bx (k+1+1)⟩
def Dh (k:Int) (n:Nat):List Fu:=(List.range n).map (fun j:Nat=>Pp (k+3 * (j:Int)))
theorem L5 (k:Int) (n:Nat):(Dh k n).length=n:=by simp[Dh]
theorem Vw (k:Int) (n:Nat):Dh k (n+1)=Dh k n++[Pp (k+3 * (n:Int))]:=by simp[Dh,List.range_succ]
theorem Om {a b:List Fu} {x:Fu} {i:Nat} (hi:a.length=i) (j:Nat) (hj:j < 3) (v:Value) (x':Fu) (e:(Fq x).set j v=Fq x'):(Bj (a++x::b)).set (i * 3+j) v=Bj (a++x'::b):=by
 have c:∀ y:Fu,Bj (a++y::b)=Bj a++(Fq y++Bj b):=fun y=>by rw[Nc];rfl
 rw[c,c,List.set_append_right _ _ (by rw[Ry];omega),Ry,hi,show i * 3+j - i * 3=j by omega,List.set_append_left _ _ (by simp[Fq];omega),e]
theorem Ps (A:Nat) (l:List Fu) (a:Option Addr) (cap:Nat) (k:Int) (h1:1<=k) (h2:k<=10000000000000) (hl:l.length<=1048576) (w:World) (ho:w.ownsRow A 99 3 (.slice a l.length cap) l.length (Bj l)) :
  Calls Tryz.prog 70 #[.slice a l.length cap,.int .i64 k] w fun e w'=>e = .returned (.int .i64 (k+3 * (l.length:Int)))/\w'.ownsRow A 99 3 (.slice a l.length cap) l.length (Bj (Dh k l.length))/\Au (fun j=>(Value.slice a l.length cap).ownBlock=some j) w w':=by
 have H:Hid (w.ownsRow A 99 3 (.slice a l.length cap) l.length (Bj l)):=ho
 obtain⟨n,u⟩:∃ n,Hid (l.length=n):=⟨_,(rfl:l.length=_)⟩
 clear ho
 rw[u.out]at H hl |-
 go_enter Tryz.func70,Tryz.ntmps70
 go_wp2_with fail
 go_loopw [1,5] (fun q t wr => ∃ (i:Nat),i<=n/\t = .int .i64 (i:Int)/\q = .int .i64 (k+3 * (i:Int))/\wr.ownsRow A 99 3 (.slice a n cap) n (Bj (Dh k i++l.drop i))/\Au (fun j=>(Value.slice a n cap).ownBlock=some j) w wr) (fun _ t _=>n - (intOf t).toNat)
 case atStart=>exact⟨0,by omega,rfl,by simp,H.out,Au.refl _ _⟩
 case round =>
  obtain⟨i,Q,rfl,rfl,b,g⟩:=hrel
  by_cases hlt:i < n
  ·have m:(i:Int) < (n:Int):=by omega
   obtain⟨p,L,c⟩:=Ck b (by omega)
   subst L
   have B:i < l.length:=by rw[u.out];exact hlt
   rw[List.drop_eq_getElem_cons B]at b
   obtain⟨x,J⟩:∃ x,Hid (l[i]=x):=⟨_,(rfl:l[i]=_)⟩
   rw[J.out]at b
   obtain⟨K,o⟩:∃ K,Hid (k+3 * (i:Int)=K):=⟨_,(rfl:_=_)⟩
   have P:1<=K/\K<=20000000000000:=by have:=o.out;omega
   have C:=L5 k i
   have D:=Dg b c (i * 3+0) (.int .i64 K)
   rw[Om (x:=x) C 0 (by omega) (.int .i64 K) ⟨K,x.n,x.text⟩ rfl]at D
   have E:=Dg D c (i * 3+1) (.int .i64 (K+1))
   rw[Om (x:=⟨K,x.n,x.text⟩) C 1 (by omega) (.int .i64 (K+1)) ⟨K,K+1,x.text⟩ rfl]at E
   obtain⟨⟨U,R⟩,M⟩:=Du b c (i * 3) (by omega)
   obtain⟨⟨V,S⟩,N⟩:=Du b c (i * 3+1) (by omega)
   have v:Hid (((wr.setCell ⟨p,i * 3,none⟩ (.int .i64 K)).setCell ⟨p,i * 3+1,none⟩ (.int .i64 (K+1))).ownsRow A 99 3 (.slice (some ⟨p,0,none⟩) n cap) n (Bj (Dh k i++⟨K,K+1,x.text⟩::l.drop (i+1)))):=E
   have r:Hid (Au (fun j=>(Value.slice (some ⟨p,0,none⟩) n cap).ownBlock=some j) w ((wr.setCell ⟨p,i * 3,none⟩ (.int .i64 K)).setCell ⟨p,i * 3+1,none⟩ (.int .i64 (K+1)))):=(g.trans (Au.set _ p _ _ c)).trans (Au.set _ p _ _ c)
   have d:Hid ((Value.slice (some ⟨p,0,none⟩) n cap).ownBlock=some p):=c
   rw[o.out]
   clear b g D E c
   go_wp2_with (go_at_call 67;refine(Df _ _ (by omega) (by omega)).mono ?_;rintro e I ⟨rfl,f⟩;have F:=Ah v.out (fun k _ _ hk=>f.block k hk);obtain⟨⟨W,T⟩,O⟩:=Du F d.out (i * 3+2) (by omega);have G:=Dg F d.out (i * 3+2) (.string (Bx (K+1+1)));rw[Om (x:=⟨K,K+1,x.text⟩) C 2 (by omega) (.string (Bx (K+1+1))) (Pp K) rfl]at G;have y:Hid ((I.setCell ⟨p,i * 3+2,none⟩ (.string (Bx (K+1+1)))).ownsRow A 99 3 (.slice (some ⟨p,0,none⟩) n cap) n (Bj (Dh k (i+1)++l.drop (i+1)))):=(by rw[Hid,Vw,o.out,List.append_assoc];exact G);have s:Hid (Au (fun j=>(Value.slice (some ⟨p,0,none⟩) n cap).ownBlock=some j) w (I.setCell ⟨p,i * 3+2,none⟩ (.string (Bx (K+1+1))))):=(r.out.trans (Au.of_below f)).trans (Au.set _ p _ _ d.out);clear F G f)
   go_roundw
   case rel =>
    refine⟨i+1,by omega,by go_num, ?_,y.out,s.out⟩
    rw[show k+3 * ((i+1:Nat):Int)=K+1+1+1 by have:=o.out;omega]
   case measure=>simp[intOf];omega
  ·have m:¬ (i:Int) < (n:Int):=by omega
   have z:i=n:=by omega
   subst z
   have h:Hid (wr.ownsRow A 99 3 (.slice a i cap) i (Bj (Dh k i))):=by
    rw[List.drop_eq_nil_of_le (by rw[u.out];exact Nat.le_refl _),List.append_nil]at b;exact b
   clear b
   go_wp2_with fail
   go_ret
   exact⟨rfl,h.out,g⟩
theorem Pl (A n:Nat) (a:Option Addr) (cap:Nat) (k:Int) (h1:1<=k) (h2:k<=10000000000000) (hl:n<=1048576) (w:World) (ho:w.ownsRow A 99 3 (.slice a n cap) n (Bj (Dh k n))) :
  Calls Tryz.prog 72 #[.slice a n cap,.int .i64 k] w fun e w'=>e = .returned (.int .i64 (k+3 * (n:Int)))/\Below w.heap.size w w':=by
 have s:Hid (∀ U,Below w.heap.size w U->U.ownsRow A 99 3 (.slice a n cap) n (Bj (Dh k n))):=fun U hU=>Ah ho (fun k _ _ hk=>hU.block k hk)
 clear ho
 go_enter Tryz.func72,Tryz.ntmps72
 go_wp2_with fail
 go_loopw [1,5] (fun q t wr => ∃ (i:Nat),i<=n/\t = .int .i64 (i:Int)/\q = .int .i64 (k+3 * (i:Int))/\Below w.heap.size w wr) (fun _ t _=>n - (intOf t).toNat)
 case atStart=>exact⟨0,by omega,rfl,by simp,Below.refl _ _⟩
 case round =>
  obtain⟨i,I,rfl,rfl,b⟩:=hrel
  by_cases hlt:i < n
  ·have g:(i:Int) < (n:Int):=by omega
   obtain⟨p,D,x⟩:=Ck (s.out wr b) (by omega)
   subst D
   obtain⟨K,l⟩:∃ K,Hid (k+3 * (i:Int)=K):=⟨_,(rfl:_=_)⟩
   have H:1<=K/\K<=20000000000000:=by have:=l.out;omega
   have c:Hid (∀ U,Below w.heap.size w U->U.cell? ⟨p,i * 3,none⟩=some (.int .i64 K)/\U.cell? ⟨p,i * 3+1,none⟩=some (.int .i64 (K+1))/\U.cell? ⟨p,i * 3+2,none⟩=some (.string (Bx (K+1+1)))):=fun U hU=>by
    have E:(Dh k n)[i]'(by rw[L5];exact hlt)=Pp K:=by simp only[Dh,List.getElem_map,List.getElem_range];rw[l.out]
    have o:∀ j u,j < 3->(Fq (Pp K))[j]? = some u->U.cell? ⟨p,i * 3+j,none⟩=some u:=fun j u hj hu=>by
     refine Bp (s.out U hU) x _ _ ((G2 Fq 3 (fun _=>rfl) _ i (by rw[L5];exact hlt) j hj).trans ?_)
     rw[E];exact hu
    exact⟨o 0 _ (by omega) rfl,o 1 _ (by omega) rfl,o 2 _ (by omega) rfl⟩
   obtain⟨J,L,C⟩:=c.out wr b
   have y:(K != K)=false:=by simp
   have z:(K+1 != K+1)=false:=by simp
   rw[l.out]
   clear x
   go_wp2_with fail
   have h:wr.drew.cell? ⟨p,i * 3+2,none⟩=some (.string (Bx (K+1+1))):=C
   obtain⟨T,v⟩:∃ T,Hid (Bx (K+1+1)=T):=⟨_,(rfl:_=_)⟩
   rw[v.out]at c C h
   have f:Below w.heap.size w wr.drew:=b.drew
   go_region_held3 (fun W=>W.cell? ⟨p,i * 3+2,none⟩=some (.string T)) (with_reducible first|exact h|exact G) (first|(go_at_call 67;refine(Df _ _ (by omega) (by omega)).mono ?_;rintro e B ⟨rfl,m⟩;rw[v.out];have d:Below w.heap.size w B:=f.trans (m.mono f.size);obtain⟨-,-,G⟩:=c.out B d))
   have F:(T.toList == T.toList)=true:=by simp
   go_wp2_with fail
   go_roundw
   case rel =>
    refine⟨i+1,by omega,by go_num, ?_,d⟩
    rw[show k+3 * ((i+1:Nat):Int)=K+1+1+1 by have:=l.out;omega]
   case measure=>simp[intOf];omega
  ·have g:¬ (i:Int) < (n:Int):=by omega
   have r:i=n:=by omega
   subst r
   go_wp2_with fail
   go_ret
   exact⟨rfl,b⟩
end Go.Proofs.YtfjkahdghhbpnaaGreatDoor
