import Derived.Test.YtfjkahdghhbpnaaGreatDoorKValC
import Derived.OwnWalk
import Derived.Maps.AppendAt
import Derived.Deep.Onto
import Derived.Deep.RegionHeld3
import Derived.Test.YtfjkahdghhbpnaaGreatDoorRows
import Derived.WalkKit
import Derived.ProofKit
import Derived.Deep.QuietTactic
import Derived.BigQuiet
import Derived.Laws.Cover1
set_option maxRecDepth 100000
set_option maxHeartbeats 2000000
namespace Go.Proofs.YtfjkahdghhbpnaaGreatDoor
open Go.RowKit
def I9 (d:Fu):List Value:=[.int .i64 d.type,.int .i64 d.n,.string d.text]
def Sr (l:List Fu):List Value:=l.flatMap I9
theorem Qb6 (ts:List Fu) (i:Nat) (h:i < ts.length) (j:Nat) (hj:j < 3):(Sr ts)[i * 3+j]? = (I9 ts[i])[j]?:=by
 induction ts generalizing i with
 | nil=>simp at h
 | cons t r ih =>
  cases i with
  | zero =>
   simp only[Sr,List.flatMap_cons,Nat.zero_mul,Nat.zero_add]
   rw[List.getElem?_append_left (by simp[I9];omega)];rfl
  | succ i =>
   simp only[Sr,List.flatMap_cons]
   rw[List.getElem?_append_right (by simp[I9];omega)]
   have e:(i+1) * 3+j - (I9 t).length=i * 3+j:=by simp[I9];omega
   rw[e]
   exact ih i (by simpa using h)
def Fh (w:World) (v:Value) (ns:List Fu):Prop :=
 ∃ a cap,v = .slice a ns.length cap/\∀ i (hi:i < ns.length),∃ g,a=some ⟨g,0,none⟩/\g < w.heap.size/\∀ j,j < 3->w.cell? ⟨g,i * 3+j,none⟩=(I9 ns[i])[j]?
theorem Yo {w:World} {B:Nat} {v:Value} {ns:List Fu} {e:TypeId} (h:w.ownsRow B e 3 v ns.length (Sr ns)):Fh w v ns:=by
 rcases h.2 with⟨rfl,d⟩|⟨g,b,c,rfl,f,a,_⟩
 ·exact⟨none,0,by rw[d],fun i hi=>by omega⟩
 ·refine⟨_,_,rfl,fun i hi=>⟨g,rfl,(Array.getElem?_eq_some_iff.1 a).1,fun j hj => ?_⟩⟩
  rw[h.cellAt (i * 3+j) (by omega),Qb6 ns i hi j hj]
theorem Km (ns:List Fu) (va vb:Value) (w:World) (ha:Fh w va ns) (hb:Fh w vb ns) (hl:ns.length<=1048576) :
  Calls Tryz.prog 101 #[va,vb] w fun e w'=>e = .returned (.bool true)/\Below w.heap.size w w':=by
 obtain⟨a,K,rfl,H⟩:=ha
 obtain⟨b,L,rfl,I⟩:=hb
 obtain⟨n,u⟩:∃ n,Hid (ns.length=n):=⟨_,(rfl:ns.length=_)⟩
 have r:Hid (∀ i (J:i < ns.length),∃ g,a=some ⟨g,0,none⟩/\g < w.heap.size/\∀ j,j < 3->w.cell? ⟨g,i * 3+j,none⟩=(I9 ns[i])[j]?):=H
 have s:Hid (∀ i (J:i < ns.length),∃ g,b=some ⟨g,0,none⟩/\g < w.heap.size/\∀ j,j < 3->w.cell? ⟨g,i * 3+j,none⟩=(I9 ns[i])[j]?):=I
 clear H I
 rw[u.out]at hl
 simp only[u.out]
 have M:((n:Int) != (n:Int))=false:=by simp
 go_enter Tryz.func101,Tryz.ntmps101
 go_wp2
 go_loopw [5] (fun t wr => ∃ i:Nat,i<=n/\t = .int .i64 (i:Int)/\Below w.heap.size w wr) (fun t _=>n - (intOf t).toNat)
 case atStart=>exact⟨0,by omega,rfl,Below.refl _ _⟩
 case round =>
  obtain⟨i,J,rfl,c⟩:=hrel
  have N:w.heap.size<=wr.heap.size:=c.size
  by_cases hlt:i < n
  ·have l:i < ns.length:=by rw[u.out];exact hlt
   obtain⟨F,rfl,x,h⟩:=r.out i l
   obtain⟨G,rfl,y,k⟩:=s.out i l
   have o:∀ m,m < 3->wr.cell? ⟨F,i * 3+m,none⟩=(I9 ns[i])[m]?:=fun m hm=>by rw[c.cell (p:=⟨F,i * 3+m,none⟩) x,h m hm]
   have q:∀ m,m < 3->wr.cell? ⟨G,i * 3+m,none⟩=(I9 ns[i])[m]?:=fun m hm=>by rw[c.cell (p:=⟨G,i * 3+m,none⟩) y,k m hm]
   generalize ns[i]=d at *
   have z:=o 0 (by omega);have A:=o 1 (by omega);have B:=o 2 (by omega)
   have C:=q 0 (by omega);have D:=q 1 (by omega);have E:=q 2 (by omega)
   simp only[I9,List.getElem?_cons_zero,List.getElem?_cons_succ,Nat.add_zero]at z A B C D E
   clear o q h k r s
   go_wp2_with fail
   go_region_with (go_at_call 128;refine(Qk _ _ _ _).mono ?_;rintro e O ⟨rfl,v⟩)
   all_goals
    have f:Below w.heap.size w O:=c.trans (by have:=v.mono (B':=w.heap.size) (by simpa using N);exact⟨this.os,this.tape,this.output,this.size,this.block⟩)
    clear z A B C D E
    go_wp2
    go_roundw
    case rel=>exact⟨i+1,by omega,by go_num,f⟩
    case measure=>simp[intOf];omega
  ·clear r s
   go_wp2
   go_ret
   exact⟨rfl,c⟩
theorem Qb8 {w w1:World} {a0 a1:Value} {t:TypeId} (hb:Below (w.heap.size+1) (w.alloc (.cells #[a0,a1] t)) w1) :
  w1.cell? ⟨w.heap.size,0,none⟩=some a0/\w1.cell? ⟨w.heap.size,1,none⟩=some a1:=by
 have a:=hb.block w.heap.size (by omega)
 rw[(MapKept.heap_alloc w _).1]at a
 simp[World.cell?,a]
theorem O5 (s:ByteArray) (k:Nat) (h:k < s.size):s.data.toList.drop k=s[k]::s.data.toList.drop (k+1):=by
 rw[List.drop_eq_getElem_cons (by simpa using h)];rfl
theorem Cu {a b:Bool} (h:a=b):(Ending.returned (.bool a):Ending) = .returned (.bool b):=by rw[h]
def Fb (c:UInt8):Bool := !(decide ((c.toNat:Int) < 33) || decide (126 < (c.toNat:Int)))
def Ds (s:ByteArray):Bool:=decide (s.size<=60) && s.data.toList.all Fb
def Fw (s:ByteArray):Bool:=decide (1<=s.size) && Ds s
theorem Nv {s:ByteArray} (h:¬ s.size<=60):Ds s=false:=by unfold Ds;simp[h]
theorem Ro {s:ByteArray} (h:s.size<=60):Ds s=s.data.toList.all Fb:=by unfold Ds;simp[h]
theorem H9 (s:ByteArray):s.toList.length=s.size:=by rw[ByteArray.toList_eq];rfl
theorem Rl {c:UInt8} (h:(c.toNat:Int) < 33):Fb c=false:=by unfold Fb;simp[h]
theorem O4 {c:UInt8} (h:126 < (c.toNat:Int)):Fb c=false:=by unfold Fb;simp[h]
theorem Ty {c:UInt8} (h:¬ (c.toNat:Int) < 33) (h2:¬ 126 < (c.toNat:Int)):Fb c=true:=by unfold Fb;simp[h,h2]
theorem Vp (s:ByteArray) (hs:s.size<=1048576) (w:World) :
    Calls Tryz.prog 78 #[.string s] w fun e w'=>e = .returned (.bool (Ds s))/\w=w':=by
  by_cases h:s.size<=60
  · have c:Hid (Ds s=s.data.toList.all Fb):=Ro h
    go_enter Tryz.func78,Tryz.ntmps78
    go_wp2
    go_loop [3] (fun t => ∃ k:Nat,k<=s.size/\t = .int .i64 (k:Int)/\(s.data.toList.drop k).all Fb=s.data.toList.all Fb) (fun t=>s.size - (intOf t).toNat)
    case atStart=>exact⟨0,by omega,rfl,rfl⟩
    case round =>
      obtain⟨k,d,rfl,a⟩:=hrel
      by_cases hlt:k < s.size
      · rw[O5 s k hlt,List.all_cons]at a
        by_cases hl:(s[k].toNat:Int) < 33
        · have b:Hid (Ds s=false):=by rw[Rl hl]at a;rw[Hid,c.out,<- a];rfl
          clear a
          go_wp2
          go_ret
          exact⟨Cu b.out.symm,rfl⟩
        · by_cases hh:126 < (s[k].toNat:Int)
          · have b:Hid (Ds s=false):=by rw[O4 hh]at a;rw[Hid,c.out,<- a];rfl
            clear a
            go_wp2
            go_ret
            exact⟨Cu b.out.symm,rfl⟩
          · have b:Hid ((s.data.toList.drop (k+1)).all Fb=s.data.toList.all Fb):=by rw[Ty hl hh]at a;exact a
            clear a
            go_wp2
            go_round
            case rel=>exact⟨k+1,by omega,by go_num,b.out⟩
            case measure=>simp[intOf];omega
      · have b:Hid (Ds s=true):=by
          rw[List.drop_of_length_le (by simp;omega)]at a
          rw[Hid,c.out,<- a];rfl
        clear a
        go_wp2
        go_ret
        exact⟨Cu b.out.symm,rfl⟩
  · have c:Hid (Ds s=false):=Nv h
    go_enter Tryz.func78,Tryz.ntmps78
    go_wp2
    go_ret
    exact⟨Cu c.out.symm,rfl⟩
theorem Xx (s:ByteArray) (hs:s.size<=1048576) (w:World) :
    Calls Tryz.prog 87 #[.string s] w fun e w'=>e = .returned (.bool (Ds s))/\w=w':=by
  by_cases h:s.size<=60
  · have c:Hid (Ds s=s.data.toList.all Fb):=Ro h
    go_enter Tryz.func87,Tryz.ntmps87
    go_wp2
    go_loop [9] (fun t => ∃ k:Nat,k<=s.size/\t = .int .i64 (k:Int)/\(s.data.toList.drop k).all Fb=s.data.toList.all Fb) (fun t=>s.size - (intOf t).toNat)
    case atStart=>exact⟨0,by omega,rfl,rfl⟩
    case round =>
      obtain⟨k,d,rfl,a⟩:=hrel
      by_cases hlt:k < s.size
      · rw[O5 s k hlt,List.all_cons]at a
        by_cases hl:(s[k].toNat:Int) < 33
        · have b:Hid (Ds s=false):=by rw[Rl hl]at a;rw[Hid,c.out,<- a];rfl
          clear a
          go_wp2
          go_ret
          exact⟨Cu b.out.symm,rfl⟩
        · by_cases hh:126 < (s[k].toNat:Int)
          · have b:Hid (Ds s=false):=by rw[O4 hh]at a;rw[Hid,c.out,<- a];rfl
            clear a
            go_wp2
            go_ret
            exact⟨Cu b.out.symm,rfl⟩
          · have b:Hid ((s.data.toList.drop (k+1)).all Fb=s.data.toList.all Fb):=by rw[Ty hl hh]at a;exact a
            clear a
            go_wp2
            go_round
            case rel=>exact⟨k+1,by omega,by go_num,b.out⟩
            case measure=>simp[intOf];omega
      · have b:Hid (Ds s=true):=by
          rw[List.drop_of_length_le (by simp;omega)]at a
          rw[Hid,c.out,<- a];rfl
        clear a
        go_wp2
        go_ret
        exact⟨Cu b.out.symm,rfl⟩
  · have c:Hid (Ds s=false):=Nv h
    go_enter Tryz.func87,Tryz.ntmps87
    go_wp2
    go_ret
    exact⟨Cu c.out.symm,rfl⟩
theorem Qaj (s:ByteArray) (hs:s.size<=1048576) (w:World) :
  Calls Tryz.prog 46 #[.string s] w fun e w'=>e = .returned (.bool (Fw s))/\w=w':=by
 obtain⟨b,d⟩:∃ b,Hid (Ds s=b):=⟨_,(rfl:Ds s=_)⟩
 unfold Fw
 rw[d.out]
 by_cases h:1<=s.size
 ·have c:s.toList.isEmpty=false:=by have e:=H9 s;cases ht:s.toList with|nil=>(rw[ht]at e;simp at e;omega)|cons a r=>rfl
  simp only[h,decide_true,Bool.true_and]
  go_enter Tryz.func46,Tryz.ntmps46
  go_wp2_with (go_at_call 78;refine(Vp s hs _).mono ?_;rintro e f ⟨rfl,rfl⟩;rw[d.out])
  all_goals (go_ret;exact⟨rfl,rfl⟩)
 ·have c:s.toList.isEmpty=true:=by have e:=H9 s;cases ht:s.toList with|nil=>rfl|cons a r=>(rw[ht]at e;simp at e;omega)
  simp only[h,decide_false,Bool.false_and]
  go_enter Tryz.func46,Tryz.ntmps46
  go_wp2
  all_goals (go_ret;exact⟨rfl,rfl⟩)
theorem Qag (s:ByteArray) (hs:s.size<=1048576) (w:World) :
  Calls Tryz.prog 50 #[.string s] w fun e w'=>e = .returned (.bool (Fw s))/\w=w':=by
 obtain⟨b,d⟩:∃ b,Hid (Ds s=b):=⟨_,(rfl:Ds s=_)⟩
 unfold Fw
 rw[d.out]
 by_cases h:1<=s.size
 ·have c:s.toList.isEmpty=false:=by have e:=H9 s;cases ht:s.toList with|nil=>(rw[ht]at e;simp at e;omega)|cons a r=>rfl
  simp only[h,decide_true,Bool.true_and]
  go_enter Tryz.func50,Tryz.ntmps50
  go_wp2_with (go_at_call 87;refine(Xx s hs _).mono ?_;rintro e f ⟨rfl,rfl⟩;rw[d.out])
  all_goals (go_ret;exact⟨rfl,rfl⟩)
 ·have c:s.toList.isEmpty=true:=by have e:=H9 s;cases ht:s.toList with|nil=>rfl|cons a r=>(rw[ht]at e;simp at e;omega)
  simp only[h,decide_false,Bool.false_and]
  go_enter Tryz.func50,Tryz.ntmps50
  go_wp2
  all_goals (go_ret;exact⟨rfl,rfl⟩)
def Cx (w:World) (v:Value) (xs:List ByteArray):Prop :=
 ∃ a cap,v = .slice a xs.length cap/\∀ i (hi:i < xs.length),∃ g o,a=some ⟨g,o,none⟩/\g < w.heap.size/\w.cell? ⟨g,o+i,none⟩=some (.string xs[i])
theorem Cx.below {w w':World} {v:Value} {xs:List ByteArray} (h:Cx w v xs) (hb:Below w.heap.size w w'):Cx w' v xs:=by
 obtain⟨a,c,rfl,j⟩:=h
 refine⟨a,c,rfl,fun i hi => ?_⟩
 obtain⟨g,o,f,d,b⟩:=j i hi
 exact⟨g,o,f,Nat.lt_of_lt_of_le d hb.size,by rw[hb.cell (p:=⟨g,o+i,none⟩) d];exact b⟩
def G1 : List ByteArray->Int->Int
 | [],l=>l
 | d::r,l=>if l - (d.size:Int) < 0 then -1 else G1 r (l - (d.size:Int))
theorem T1 {a b:Int} (h:a=b):(Ending.returned (.int .i64 a):Ending) = .returned (.int .i64 b):=by rw[h]
theorem P6 (xs:List ByteArray) (v:Value) (l:Int) (h0:0<=l) (h1:l<=1048576) (hn:xs.length<=9223372036854775807) (hx:∀ d ∈ xs,d.size<=9223372036854775807) (w:World) (hN:Cx w v xs) :
  Calls Tryz.prog 18 #[v,.int .i64 l] w fun e w'=>e = .returned (.int .i64 (if l - (xs.length:Int) < 0 then -1 else G1 xs (l - (xs.length:Int))))/\Below w.heap.size w w':=by
 obtain⟨a,s,rfl,r⟩:=hN
 obtain⟨n,k⟩:∃ n,Hid (xs.length=n):=⟨_,(rfl:xs.length=_)⟩
 have m:Hid (∀ i (u:i < xs.length),∃ g o,a=some ⟨g,o,none⟩/\g < w.heap.size/\w.cell? ⟨g,o+i,none⟩=some (.string xs[i])):=r
 clear r
 rw[k.out]at hn
 simp only[k.out]
 by_cases hl:l - (n:Int) < 0
 ·rw[if_pos hl]
  go_enter Tryz.func18,Tryz.ntmps18
  go_wp2
  go_ret
  exact⟨rfl,Below.refl _ _⟩
 ·rw[if_neg hl]
  go_enter Tryz.func18,Tryz.ntmps18
  go_wp2
  go_loopw [1,5] (fun tl tv wr => ∃ (i:Nat) (q:Int),i<=n/\tv = .int .i64 (i:Int)/\tl = .int .i64 q/\0<=q/\q<=1048576/\G1 (xs.drop i) q=G1 xs (l - (n:Int))/\Below w.heap.size w wr) (fun _ tv _=>n - (intOf tv).toNat)
  case atStart=>exact⟨0,l - (n:Int),by omega,rfl,rfl,by omega,by omega,rfl,Below.refl _ _⟩
  case round =>
   obtain⟨i,q,u,rfl,rfl,x,y,f,b⟩:=hrel
   have B:=b.size
   by_cases hlt:i < n
   ·have h:i < xs.length:=by rw[k.out];exact hlt
    obtain⟨g,o,rfl,t,c⟩:=m.out i h
    rw[List.drop_eq_getElem_cons h,G1]at f
    have z:=hx xs[i] (List.getElem_mem h)
    have A:wr.cell? ⟨g,o+i,none⟩=some (.string xs[i]):=by rw[b.cell (p:=⟨g,o+i,none⟩) t,c]
    generalize xs[i]=d at *
    clear c m
    by_cases hlq:q - (d.size:Int) < 0
    ·have j:Hid (G1 xs (l - (n:Int)) = -1):=by rw[if_pos hlq]at f;exact f.symm
     clear f
     go_wp2
     go_ret
     exact⟨T1 j.out.symm,b⟩
    ·have j:Hid (G1 (xs.drop (i+1)) (q - (d.size:Int))=G1 xs (l - (n:Int))):=by rw[if_neg hlq]at f;exact f
     clear f
     go_wp2
     go_roundw
     case rel=>exact⟨i+1,q - (d.size:Int),by omega,by go_num,rfl,by omega,by omega,j.out,b⟩
     case measure=>simp[intOf];omega
   ·have j:Hid (G1 xs (l - (n:Int))=q):=by rw[List.drop_of_length_le (by rw[k.out];omega)]at f;exact f.symm
    clear f m
    go_wp2
    go_ret
    exact⟨T1 j.out.symm,b⟩
theorem Ff (xs:List ByteArray) (va vb:Value) (w:World) (ha:Cx w va xs) (hb:Cx w vb xs) (hl:xs.length<=1048576) :
  Calls Tryz.prog 31 #[va,vb] w fun e w'=>e = .returned (.bool true)/\Below w.heap.size w w':=by
 obtain⟨a,C,rfl,x⟩:=ha
 obtain⟨b,D,rfl,y⟩:=hb
 obtain⟨n,m⟩:∃ n,Hid (xs.length=n):=⟨_,(rfl:xs.length=_)⟩
 have k:Hid (∀ i (z:i < xs.length),∃ g o,a=some ⟨g,o,none⟩/\g < w.heap.size/\w.cell? ⟨g,o+i,none⟩=some (.string xs[i])):=x
 have l:Hid (∀ i (z:i < xs.length),∃ g o,b=some ⟨g,o,none⟩/\g < w.heap.size/\w.cell? ⟨g,o+i,none⟩=some (.string xs[i])):=y
 clear x y
 rw[m.out]at hl
 simp only[m.out]
 have E:((n:Int) != (n:Int))=false:=by simp
 go_enter Tryz.func31,Tryz.ntmps31
 go_wp2
 go_loopw [5] (fun t wr => ∃ i:Nat,i<=n/\t = .int .i64 (i:Int)/\Below w.heap.size w wr) (fun t _=>n - (intOf t).toNat)
 case atStart=>exact⟨0,by omega,rfl,Below.refl _ _⟩
 case round =>
  obtain⟨i,z,rfl,c⟩:=hrel
  have H:w.heap.size<=wr.heap.size:=c.size
  by_cases hlt:i < n
  ·have j:i < xs.length:=by rw[m.out];exact hlt
   obtain⟨s,A,rfl,q,f⟩:=k.out i j
   obtain⟨u,B,rfl,r,h⟩:=l.out i j
   have F:wr.cell? ⟨s,A+i,none⟩=some (.string xs[i]):=by rw[c.cell (p:=⟨s,A+i,none⟩) q,f]
   have G:wr.cell? ⟨u,B+i,none⟩=some (.string xs[i]):=by rw[c.cell (p:=⟨u,B+i,none⟩) r,h]
   generalize xs[i]=d at *
   clear f h k l
   go_wp2
   go_region
   all_goals
    have v:Below w.heap.size w wr:=c
    go_wp2
    go_roundw
    case rel=>exact⟨i+1,by omega,by go_num,by first|exact c|exact⟨c.os,c.tape,c.output,c.size,c.block⟩⟩
    case measure=>simp[intOf];omega
  ·clear k l
   go_wp2
   go_ret
   exact⟨rfl,c⟩
def Ew (ns:List ByteArray):Nat->List Value->List Value
 | 0,xs=>xs
 | i+1,xs=>match ns[i]? with
  | some d=>(Ew ns i xs).set i (.string d)
  | none=>Ew ns i xs
theorem Kx (ns:List ByteArray) (i:Nat) (xs:List Value):(Ew ns i xs).length=xs.length:=by
 induction i with
 | zero=>rfl
 | succ i ih =>
  rw[Ew]
  split
  ·rw[List.length_set,ih]
  ·exact ih
theorem Xw (ns:List ByteArray) (n:Nat) (xs:List Value) (hn:n<=xs.length) (hl:n<=ns.length) (i:Nat) (hi:i < n):(Ew ns n xs)[i]? = some (.string (ns[i]'(by omega))):=by
 induction n with
 | zero=>omega
 | succ n ih =>
  rw[Ew]
  have a:ns[n]? = some (ns[n]'(by omega)):=List.getElem?_eq_getElem (by omega)
  rw[a]
  simp only
  by_cases h:i=n
  ·subst h
   rw[List.getElem?_set_self (by rw[Kx];omega)]
  ·rw[List.getElem?_set_ne (by omega)]
   exact ih (by omega) (by omega) (by omega)
theorem Vo (ns:List ByteArray) (xs:List Value) (h:xs.length=ns.length):Ew ns ns.length xs=ns.map Value.string:=by
 apply List.ext_getElem?
 intro j
 by_cases hj:j < ns.length
 ·rw[Xw ns ns.length xs (by omega) (Nat.le_refl _) j hj,List.getElem?_map,List.getElem?_eq_getElem hj];rfl
 ·rw[List.getElem?_eq_none (by rw[Kx];omega),List.getElem?_eq_none (by rw[List.length_map];omega)]
theorem Tryz.infoStr : (Tryz.prog.info? 9).map (fun i=>(i.zero,i.size,i.bytes))=some (some (.string ByteArray.empty),1,16):=by kernel_rfl
theorem Lc (ns:List ByteArray) (v:Value) (w:World) (hN:Cx w v ns) (hl:ns.length<=1048576) :
  Calls Tryz.prog 25 #[v] w fun e w' => ∃ v',e = .returned v'/\w'.ownsRow w.heap.size 9 1 v' ns.length (ns.map Value.string)/\Below w.heap.size w w':=by
 obtain⟨N,A,D,E,F⟩:=info_parts Tryz.infoStr
 obtain⟨a,J,rfl,H⟩:=hN
 obtain⟨n,m⟩:∃ n,Hid (ns.length=n):=⟨_,(rfl:ns.length=_)⟩
 have u:Hid (∀ i (L:i < ns.length),∃ g o,a=some ⟨g,o,none⟩/\g < w.heap.size/\w.cell? ⟨g,o+i,none⟩=some (.string ns[i])):=H
 clear H
 rw[m.out]at hl
 simp only[m.out]
 go_enter Tryz.func25,Tryz.ntmps25
 go_wp2_with (at_make;(refine wpList_make_full _ rfl _ _ 25 rfl w.heap.size 9 N (.string ByteArray.empty) 1 Tryz.underlying25 A D E .i64 .i64 _ _ n rfl rfl rfl rfl (by rw[F];omega) (by unfold maxLen;omega) (Nat.le_refl _) ?_;intro O b j))
 have y:Below w.heap.size w O:=Below.grown (Below.refl _ w) j (Nat.le_refl _) (fun k h=>by cases h)
 obtain⟨l,I⟩:∃ l,Hid ((madeCells (Value.string ByteArray.empty).cells (n * 1)).toList=l):=⟨_,(rfl:_=_)⟩
 rw[I.out]at b
 have M:=b.1
 go_loopw [4] (fun t wr => ∃ i:Nat,i<=n/\t = .int .i64 (i:Int)/\wr.ownsRow w.heap.size 9 1 (.slice (some ⟨w.heap.size,0,none⟩) n n) n (Ew ns i l)/\Below w.heap.size w wr) (fun t _=>n - (intOf t).toNat)
 case atStart=>exact⟨0,by omega,rfl,b,y⟩
 case round =>
  obtain⟨i,L,rfl,r,f⟩:=hrel
  have R:=f.size
  by_cases hlt:i < n
  ·have q:i < ns.length:=by rw[m.out];exact hlt
   obtain⟨g,o,rfl,K,c⟩:=u.out i q
   have Q:wr.cell? ⟨g,o+i,none⟩=some (.string ns[i]):=by rw[f.cell (p:=⟨g,o+i,none⟩) K,c]
   have x:Hid (Ew ns (i+1) l=(Ew ns i l).set i (.string ns[i])):=by rw[Hid,Ew,List.getElem?_eq_getElem q]
   generalize ns[i]=d at *
   clear c u
   have C:i < (Ew ns i l).length:=by rw[Kx];omega
   have G:=r.cellAt i (by omega)
   rw[List.getElem?_eq_getElem C]at G
   generalize (Ew ns i l)[i]=y0 at G
   have P:=r.frozenAt i
   go_wp2
   have s:=(r.stored i (.string d)).1
   have z:=f.setCell (p:=⟨w.heap.size,i,none⟩) (Nat.le_refl _) (.string d)
   go_roundw
   case rel=>exact⟨i+1,by omega,by go_num,by rw[x.out];exact s,z⟩
   case measure=>simp[intOf];omega
  ·have B:i=n:=by omega
   subst B
   have x:Hid (Ew ns i l=ns.map Value.string):=by
    have:=Vo ns l (by rw[m.out];omega)
    rw[m.out]at this;exact this
   rw[x.out]at r
   clear u
   go_wp2
   go_ret
   exact⟨_,rfl,r,f⟩
def Mx (xs:List ByteArray) (i:Nat):Bool :=
 match xs[i]? with
 | none=>true
 | some x=>Fw x && (match i with|0=>true|k+1=>(match xs[k]? with|none=>true|some y=>Op.bytesLess y.toList x.toList))
def G0 (xs:List ByteArray):Nat->Bool
 | 0=>true
 | n+1=>G0 xs n && Mx xs n
def E9 (a:ByteArray) (xs:List ByteArray):Bool:=decide ((a.size:Int)<=3000) && decide (xs.length<=20) && G0 xs xs.length
theorem Nh (xs:List ByteArray) (i n:Nat) (h:i < n) (hi:Mx xs i=false):G0 xs n=false:=by
 induction n with
 | zero=>omega
 | succ n ih =>
  rw[G0]
  by_cases e:i=n
  ·subst e;rw[hi,Bool.and_false]
  ·rw[ih (by omega),Bool.false_and]
theorem Tz (a:ByteArray) (xs:List ByteArray) (h:¬ ((a.size:Int)<=3000)):E9 a xs=false:=by unfold E9;simp only[h,decide_false,Bool.false_and]
theorem T0 (a:ByteArray) (xs:List ByteArray) (h:¬ (xs.length<=20)):E9 a xs=false:=by unfold E9;simp only[h,decide_false,Bool.and_false,Bool.false_and]
theorem Qai (a:ByteArray) (xs:List ByteArray) (h0:(a.size:Int)<=3000) (h:xs.length<=20):E9 a xs=G0 xs xs.length:=by unfold E9;simp only[h0,h,decide_true,Bool.true_and]
theorem O6 {P:Program} {f:FuncId} {args:Array Value} {w:World} {n:Nat} {v:Value}
  (h:Calls P f args (w.drewN n) fun e w'=>e = .returned v/\w.drewN n=w'):Calls P f args (w.drewN n) fun e w''=>e = .returned v/\∃ m,w''=w.drewN m :=
 h.mono fun _ _ ⟨he,hm⟩=>⟨he,n,hm.symm⟩
theorem H8 {B:Nat} {a w:World} (n:Nat) (h:Below B a w):Below B a (w.drewN n):=⟨h.os,h.tape,h.output,h.size,h.block⟩
theorem Lv (s:ByteArray) (b:Bool) (h:Hid (Fw s=b)) (hs:s.size<=1048576) (w:World):Calls Tryz.prog 46 #[.string s] w fun e w'=>e = .returned (.bool b)/\w=w':=by
 rw[<- h.out];exact Qaj s hs w
theorem Lt (s:ByteArray) (b:Bool) (h:Hid (Fw s=b)) (hs:s.size<=1048576) (w:World):Calls Tryz.prog 50 #[.string s] w fun e w'=>e = .returned (.bool b)/\w=w':=by
 rw[<- h.out];exact Qag s hs w
theorem Lu (x y:List UInt8):(Op.bytesLess x y || x == y) = !Op.bytesLess y x:=by
 induction x generalizing y with
 | nil=>cases y with
  | nil=>rfl
  | cons b s=>rfl
 | cons a r ih=>cases y with
  | nil=>rfl
  | cons b s =>
   have h:=ih s
   simp only[Op.bytesLess]
   by_cases h1:a=b
   ·subst h1
    have c:decide (a < a)=false:=by simp
    simp only[c,Bool.false_or,BEq.rfl,Bool.true_and,List.cons_beq_cons]
    exact h
   ·have c:(a == b)=false:=by simpa using h1
    have f:(b == a)=false:=by simpa using fun e=>h1 e.symm
    simp only[c,f,Bool.false_and,Bool.or_false,List.cons_beq_cons]
    have g:a.toNat≠b.toNat:=fun e=>h1 (UInt8.toNat_inj.1 e)
    by_cases h2:a < b
    ·have d:¬ b < a:=by rw[UInt8.lt_iff_toNat_lt]at *;omega
     simp[h2,d]
    ·have d:b < a:=by rw[UInt8.lt_iff_toNat_lt]at *;omega
     simp[h2,d]
theorem Rm {xs:List ByteArray} {i:Nat} (hi:i < xs.length) (h:Fw xs[i]=false):Mx xs i=false:=by
 unfold Mx;rw[List.getElem?_eq_getElem hi];simp only[h,Bool.false_and]
theorem Rn {xs:List ByteArray} (hi:0 < xs.length) (h:Fw xs[0]=true):Mx xs 0=true:=by
 unfold Mx;rw[List.getElem?_eq_getElem hi];simp only[h,Bool.true_and]
theorem Kg {xs:List ByteArray} {k:Nat} (hi:k+1 < xs.length) (h:Fw xs[k+1]=true):Mx xs (k+1)=Op.bytesLess (xs[k]'(by omega)).toList xs[k+1].toList:=by
 unfold Mx;rw[List.getElem?_eq_getElem hi];simp only[h,Bool.true_and];rw[List.getElem?_eq_getElem (by omega:k < xs.length)]
theorem Qak (a:ByteArray) (xs:List ByteArray) (v:Value) (w:World) (ha:a.size<=1048576) (hn:xs.length<=1048576) (hx:∀ d ∈ xs,d.size<=1048576) (hN:Cx w v xs) :
    Calls Tryz.prog 20 #[.agg #[.string a,v]] w fun e w'=>e = .returned (.bool (E9 a xs))/\Below w.heap.size w w':=by
  obtain⟨p,A,rfl,F⟩:=hN
  obtain⟨n,u⟩:∃ n,Hid (xs.length=n):=⟨_,(rfl:xs.length=_)⟩
  have x:Hid (∀ i (J:i < xs.length),∃ g o,p=some ⟨g,o,none⟩/\g < w.heap.size/\w.cell? ⟨g,o+i,none⟩=some (.string xs[i])):=F
  clear F
  rw[u.out]at hn
  by_cases h0:(a.size:Int)<=3000
  · by_cases h1:n<=20
    · have m:Hid (E9 a xs=G0 xs n):=by have e:=Qai a xs h0 (by rw[u.out];exact h1);rw[u.out]at e;exact e
      simp only[u.out]
      go_enter Tryz.func20,Tryz.ntmps20
      go_wp2
      go_loopw [3] (fun t wr => ∃ i:Nat,i<=n/\t = .int .i64 (i:Int)/\G0 xs i=true/\Below (w.heap.size+1) (w.alloc (.cells #[.string a,.slice p n A] 40)) wr) (fun t _=>n - (intOf t).toNat)
      case atStart=>exact⟨0,by omega,rfl,rfl,Below.refl _ _⟩
      case round =>
        obtain⟨i,J,rfl,f,r⟩:=hrel
        have h:Below w.heap.size w wr:=((Below.refl _ w).alloc (Nat.le_refl _) _).trans (r.mono (by omega))
        have R:=h.size
        have P:wr.cell? ⟨w.heap.size,1,none⟩=some (.slice p n A):=(Qb8 r).2
        by_cases hlt:i < n
        · have l:i < xs.length:=by rw[u.out];exact hlt
          obtain⟨g,o,rfl,G,b⟩:=x.out i l
          have M:wr.cell? ⟨g,o+i,none⟩=some (.string xs[i]):=by rw[h.cell (p:=⟨g,o+i,none⟩) G,b]
          have s:=hx xs[i] (List.getElem_mem l)
          cases hnm:Fw xs[i] with
          | false =>
            have q:Hid (E9 a xs=false):=by rw[Hid,m.out];exact Nh xs i n hlt (Rm l hnm)
            have z:Hid (Fw xs[i]=false):=hnm
            generalize xs[i]=xi at *
            clear b x hnm f m
            go_wp2_with fail
            go_quiet (first|(go_at_call 46;refine O6 (Lv _ false z s _)))
            go_wp2
            go_ret
            exact⟨Cu q.out.symm,H8 _ h⟩
          | true =>
            have z:Hid (Fw xs[i]=true):=hnm
            by_cases hi0:i=0
            · subst hi0
              have q:Hid (G0 xs (0+1)=true):=by rw[Hid,G0,f,Rn l hnm];rfl
              generalize xs[0]=xi at *
              clear b x hnm f m
              rw[Nat.add_zero]at M
              go_wp2_with fail
              go_quiet (first|(go_at_call 46;refine O6 (Lv _ true z s _)))
              go_wp2
              go_roundw
              case rel=>exact⟨0+1,by omega,by go_num,q.out,H8 _ r⟩
              case measure=>simp[intOf];omega
            · obtain⟨k,j⟩:∃ k,i=k+1:=⟨i - 1,by omega⟩
              have D:k < xs.length:=by omega
              have L:k < n:=by omega
              have K:IntKind.i64.wrap ((i:Int) - 1)=(k:Int):=by rw[wrap_small _ (by omega) (by omega)];omega
              have H:decide (0 < i)=true:=by simpa using (by omega:0 < i)
              have E:0 < i:=by omega
              have O:IntKind.i64.wrap (k:Int)=(k:Int):=wrap_small _ (by omega) (by omega)
              have y:Hid (i=k+1):=j
              clear j
              obtain⟨Q,S,I,_,c⟩:=x.out k D
              cases I
              have N:wr.cell? ⟨g,o+k,none⟩=some (.string xs[k]):=by rw[h.cell (p:=⟨g,o+k,none⟩) G,c]
              cases hL:Op.bytesLess xs[k].toList xs[i].toList with
              | true =>
                have q:Hid (G0 xs (i+1)=true):=by have j:=y.out;subst j;rw[Hid,G0,f,Kg l hnm,hL];rfl
                generalize xs[i]=xi at *
                generalize xs[k]=xk at *
                have B:Hid ((Op.bytesLess xi.toList xk.toList || xi.toList == xk.toList)=false):=by rw[Hid,Lu,hL];rfl
                clear b c x hnm f m
                go_wp2_with fail
                go_quiet (first|(go_at_call 46;refine O6 (Lv _ true z s _)))
                go_wp2
                go_roundw
                case rel=>exact⟨i+1,by omega,by go_num,q.out,H8 _ r⟩
                case measure=>simp[intOf];omega
              | false =>
                have q:Hid (E9 a xs=false):=by rw[Hid,m.out];have j:=y.out;subst j;exact Nh xs (k+1) n hlt (by rw[Kg l hnm,hL])
                generalize xs[i]=xi at *
                generalize xs[k]=xk at *
                have B:Hid ((Op.bytesLess xi.toList xk.toList || xi.toList == xk.toList)=true):=by rw[Hid,Lu,hL];rfl
                clear b c x hnm f m
                go_wp2_with fail
                go_quiet (first|(go_at_call 46;refine O6 (Lv _ true z s _)))
                go_wp2
                go_ret
                exact⟨Cu q.out.symm,H8 _ h⟩
        · have C:i=n:=by omega
          subst C
          have q:Hid (E9 a xs=true):=by rw[Hid,m.out];exact f
          clear x f m
          go_wp2
          go_ret
          exact⟨Cu q.out.symm,h⟩
    · have m:Hid (E9 a xs=false):=T0 a xs (by rw[u.out];exact h1)
      simp only[u.out]
      go_enter Tryz.func20,Tryz.ntmps20
      go_wp2
      go_ret
      exact⟨Cu m.out.symm,(Below.refl _ w).alloc (Nat.le_refl _) _⟩
  · have m:Hid (E9 a xs=false):=Tz a xs h0
    simp only[u.out]
    go_enter Tryz.func20,Tryz.ntmps20
    go_wp2
    go_ret
    exact⟨Cu m.out.symm,(Below.refl _ w).alloc (Nat.le_refl _) _⟩
theorem Qah (a:ByteArray) (xs:List ByteArray) (v:Value) (w:World) (ha:a.size<=1048576) (hn:xs.length<=1048576) (hx:∀ d ∈ xs,d.size<=1048576) (hN:Cx w v xs) :
    Calls Tryz.prog 27 #[.agg #[.string a,v]] w fun e w'=>e = .returned (.bool (E9 a xs))/\Below w.heap.size w w':=by
  obtain⟨p,C,rfl,J⟩:=hN
  obtain⟨n,u⟩:∃ n,Hid (xs.length=n):=⟨_,(rfl:xs.length=_)⟩
  have x:Hid (∀ i (N:i < xs.length),∃ g o,p=some ⟨g,o,none⟩/\g < w.heap.size/\w.cell? ⟨g,o+i,none⟩=some (.string xs[i])):=J
  clear J
  rw[u.out]at hn
  by_cases h0:(a.size:Int)<=3000
  · by_cases h1:n<=20
    · have m:Hid (E9 a xs=G0 xs n):=by have e:=Qai a xs h0 (by rw[u.out];exact h1);rw[u.out]at e;exact e
      simp only[u.out]
      go_enter Tryz.func27,Tryz.ntmps27
      go_wp2
      go_loopw [18] (fun t wr => ∃ i:Nat,i<=n/\t = .int .i64 (i:Int)/\G0 xs i=true/\Below (w.heap.size+1) (w.alloc (.cells #[.string a,.slice p n C] 40)) wr) (fun t _=>n - (intOf t).toNat)
      case atStart=>exact⟨0,by omega,rfl,rfl,Below.refl _ _⟩
      case round =>
        obtain⟨i,N,rfl,f,r⟩:=hrel
        have h:Below w.heap.size w wr:=((Below.refl _ w).alloc (Nat.le_refl _) _).trans (r.mono (by omega))
        have V:=h.size
        have T:wr.cell? ⟨w.heap.size,1,none⟩=some (.slice p n C):=(Qb8 r).2
        by_cases hlt:i < n
        · have l:i < xs.length:=by rw[u.out];exact hlt
          obtain⟨g,o,rfl,K,b⟩:=x.out i l
          have Q:wr.cell? ⟨g,o+i,none⟩=some (.string xs[i]):=by rw[h.cell (p:=⟨g,o+i,none⟩) K,b]
          have s:=hx xs[i] (List.getElem_mem l)
          cases hnm:Fw xs[i] with
          | false =>
            have q:Hid (E9 a xs=false):=by rw[Hid,m.out];exact Nh xs i n hlt (Rm l hnm)
            have B:Hid (Fw xs[i]=false):=hnm
            generalize xs[i]=xi at *
            clear b x hnm f m
            go_wp2_with (go_at_call 50;refine(Lt _ false B s _).mono ?_;rintro e I ⟨rfl,rfl⟩)
            go_wp2
            go_ret
            exact⟨Cu q.out.symm,h⟩
          | true =>
            have B:Hid (Fw xs[i]=true):=hnm
            by_cases hi0:i=0
            · subst hi0
              have q:Hid (G0 xs (0+1)=true):=by rw[Hid,G0,f,Rn l hnm];rfl
              generalize xs[0]=xi at *
              clear b x hnm f m
              rw[Nat.add_zero]at Q
              go_wp2_with (go_at_call 50;refine(Lt _ true B s _).mono ?_;rintro e I ⟨rfl,rfl⟩)
              go_wp2
              go_roundw
              case rel=>exact⟨0+1,by omega,by go_num,q.out,r⟩
              case measure=>simp[intOf];omega
            · obtain⟨k,j⟩:∃ k,i=k+1:=⟨i - 1,by omega⟩
              have G:k < xs.length:=by omega
              have P:k < n:=by omega
              have O:(i:Int) - 1=(k:Int):=by omega
              have L:decide (0 < i)=true:=by simpa using (by omega:0 < i)
              have H:0 < i:=by omega
              have S:IntKind.i64.wrap (k:Int)=(k:Int):=wrap_small _ (by omega) (by omega)
              have A:Hid (i=k+1):=j
              clear j
              obtain⟨U,W,M,_,c⟩:=x.out k G
              cases M
              have R:wr.cell? ⟨g,o+k,none⟩=some (.string xs[k]):=by rw[h.cell (p:=⟨g,o+k,none⟩) K,c]
              cases hL:Op.bytesLess xs[k].toList xs[i].toList with
              | true =>
                have q:Hid (G0 xs (i+1)=true):=by have j:=A.out;subst j;rw[Hid,G0,f,Kg l hnm,hL];rfl
                generalize xs[i]=xi at *
                generalize xs[k]=xk at *
                have y:Hid ((Op.bytesLess xi.toList xk.toList || xi.toList == xk.toList)=false):=by rw[Hid,Lu,hL];rfl
                clear b c x hnm f m
                obtain⟨D,E⟩:=Bool.or_eq_false_iff.1 y.out
                go_wp2_with (go_at_call 50;refine(Lt _ true B s _).mono ?_;rintro e I ⟨rfl,rfl⟩)
                go_wp2
                go_roundw
                case rel=>exact⟨i+1,by omega,by go_num,q.out,r⟩
                case measure=>simp[intOf];omega
              | false =>
                have q:Hid (E9 a xs=false):=by rw[Hid,m.out];have j:=A.out;subst j;exact Nh xs (k+1) n hlt (by rw[Kg l hnm,hL])
                generalize xs[i]=xi at *
                generalize xs[k]=xk at *
                have y:Hid ((Op.bytesLess xi.toList xk.toList || xi.toList == xk.toList)=true):=by rw[Hid,Lu,hL];rfl
                clear b c x hnm f m
                have z:=y.out
                cases D:Op.bytesLess xi.toList xk.toList <;> cases E:(xi.toList == xk.toList)
                all_goals try (exfalso;rw[D,E]at z;exact absurd z (by decide))
                all_goals try clear z
                all_goals
                  go_wp2_with (go_at_call 50;refine(Lt _ true B s _).mono ?_;rintro e I ⟨rfl,rfl⟩)
                  go_wp2
                  go_ret
                  exact⟨Cu q.out.symm,h⟩
        · have F:i=n:=by omega
          subst F
          have q:Hid (E9 a xs=true):=by rw[Hid,m.out];exact f
          clear x f m
          go_wp2
          go_ret
          exact⟨Cu q.out.symm,h⟩
    · have m:Hid (E9 a xs=false):=T0 a xs (by rw[u.out];exact h1)
      simp only[u.out]
      go_enter Tryz.func27,Tryz.ntmps27
      go_wp2
      go_ret
      exact⟨Cu m.out.symm,(Below.refl _ w).alloc (Nat.le_refl _) _⟩
  · have m:Hid (E9 a xs=false):=Tz a xs h0
    simp only[u.out]
    go_enter Tryz.func27,Tryz.ntmps27
    go_wp2
    go_ret
    exact⟨Cu m.out.symm,(Below.refl _ w).alloc (Nat.le_refl _) _⟩
def Wf (a:ByteArray) (xs:List ByteArray) (l:Int):Int:=if l - (a.size:Int) < 0 then -1 else if l - (a.size:Int) - (xs.length:Int) < 0 then -1 else G1 xs (l - (a.size:Int) - (xs.length:Int))
theorem Qcv (xs:List ByteArray) (l:Int) (h:0<=G1 xs l):G1 xs l<=l/\∀ d ∈ xs,(d.size:Int)<=l:=by
 induction xs generalizing l with
 | nil=>exact⟨Int.le_refl _,fun d a=>by cases a⟩
 | cons x r ih =>
  rw[G1]at h |-
  by_cases hl:l - (x.size:Int) < 0
  ·rw[if_pos hl]at h;omega
  ·rw[if_neg hl]at h |-
   obtain⟨c,b⟩:=ih _ h
   refine⟨by omega,fun d a => ?_⟩
   rcases List.mem_cons.1 a with rfl|a
   ·omega
   ·have:=b d a;omega
theorem Qal (xs:List ByteArray) (l:Int) (h:0<=l):G1 xs l = -1\/0<=G1 xs l:=by
 induction xs generalizing l with
 | nil=>exact .inr h
 | cons x r ih =>
  rw[G1]
  by_cases hl:l - (x.size:Int) < 0
  ·rw[if_pos hl];exact .inl rfl
  ·rw[if_neg hl];exact ih _ (by omega)
theorem Qdk (a:ByteArray) (xs:List ByteArray) (l:Int) (h:0<=Wf a xs l):(a.size:Int)<=l/\(xs.length:Int)<=l/\∀ d ∈ xs,(d.size:Int)<=l:=by
 unfold Wf at h
 by_cases h1:l - (a.size:Int) < 0
 ·rw[if_pos h1]at h;omega
 ·rw[if_neg h1]at h
  by_cases h2:l - (a.size:Int) - (xs.length:Int) < 0
  ·rw[if_pos h2]at h;omega
  ·rw[if_neg h2]at h
   have:=(Qcv xs _ h).2
   exact⟨by omega,by omega,fun d hd=>by have:=this d hd;omega⟩
theorem Xy (a:ByteArray) (xs:List ByteArray) (v:Value) (l:Int) (ha:a.size<=9223372036854775807) (h0:0<=l) (h1:l<=1048576) (hn:xs.length<=9223372036854775807) (hx:∀ d ∈ xs,d.size<=9223372036854775807) (w:World) (hN:Cx w v xs) :
  Calls Tryz.prog 5 #[.agg #[.string a,v],.int .i64 l] w fun e w'=>e = .returned (.int .i64 (Wf a xs l))/\Below w.heap.size w w':=by
 have g:∀ o:Obj,Below w.heap.size w (w.alloc o):=fun o=>(Below.refl _ w).alloc (Nat.le_refl _) o
 unfold Wf
 by_cases hq:l - (a.size:Int) < 0
 ·rw[if_pos hq]
  obtain⟨p,b,rfl,m⟩:=hN
  clear m
  go_enter Tryz.func5,Tryz.ntmps5
  go_wp2
  go_ret
  exact⟨rfl,g _⟩
 ·rw[if_neg hq]
  have i:∀ o,Cx (w.alloc o) v xs:=fun o=>hN.below (g o)
  obtain⟨p,b,t,m⟩:=hN
  clear m
  subst t
  obtain⟨q,j⟩:∃ q,Hid ((if l - (a.size:Int) - (xs.length:Int) < 0 then -1 else G1 xs (l - (a.size:Int) - (xs.length:Int)))=q):=⟨_,(rfl:_=_)⟩
  rw[j.out]
  have k:Hid (∀ w,Cx w (.slice p xs.length b) xs->Calls Tryz.prog 18 #[.slice p xs.length b,.int .i64 (l - (a.size:Int))] w fun e w'=>e = .returned (.int .i64 q)/\Below w.heap.size w w'):=fun w h=>by
   have:=P6 xs (.slice p xs.length b) (l - (a.size:Int)) (by omega) (by omega) hn hx w h
   rw[j.out]at this;exact this
  have s:q = -1\/0<=q:=by
   rw[<- j.out]
   by_cases h2:l - (a.size:Int) - (xs.length:Int) < 0
   ·rw[if_pos h2];exact .inl rfl
   ·rw[if_neg h2];exact Qal xs _ (by omega)
  have f:Hid (∀ o,Cx (w.alloc o) (.slice p xs.length b) xs):=i
  clear j i
  revert k f
  generalize xs.length=n
  intro k f
  by_cases hq2:q < 0
  ·have r:q = -1:=by omega
   subst r
   go_enter Tryz.func5,Tryz.ntmps5
   go_wp2_with (go_at_call 18;(refine(k.out _ (f.out _)).mono ?_;rintro e u ⟨rfl,c⟩;simp only[World.size_alloc]at c))
   go_ret
   exact⟨rfl,(g _).trans (c.mono (by omega))⟩
  ·go_enter Tryz.func5,Tryz.ntmps5
   go_wp2_with (go_at_call 18;(refine(k.out _ (f.out _)).mono ?_;rintro e u ⟨rfl,c⟩;simp only[World.size_alloc]at c))
   go_ret
   exact⟨rfl,(g _).trans (c.mono (by omega))⟩
theorem We {w:World} {B e size n:Nat} {v:Value} {xs:List Value} (h:w.ownsRow B e size v n xs):∃ a b,v = .slice a n b:=by
 rcases h.2 with⟨rfl,d⟩|⟨g,b,c,rfl,_⟩
 ·exact⟨none,0,by rw[d]⟩
 ·exact⟨_,_,rfl⟩
theorem Ih {w:World} {B e:Nat} {v:Value} {xs:List ByteArray} (h:w.ownsRow B e 1 v xs.length (xs.map Value.string)):Cx w v xs:=by
 have f:=h
 rcases h.2 with⟨rfl,d⟩|⟨g,b,c,rfl,j,a,_⟩
 ·exact⟨none,0,by rw[d],fun i hi=>by omega⟩
 ·refine⟨_,_,rfl,fun i hi=>⟨g,0,rfl, ?_, ?_⟩⟩
  ·exact(Array.getElem?_eq_some_iff.1 a).1
  ·rw[Nat.zero_add,f.cellAt i (by omega),List.getElem?_map,List.getElem?_eq_getElem hi];rfl
theorem Qdv (a:ByteArray) (xs:List ByteArray) (v:Value) (w:World) (hN:Cx w v xs) (hl:xs.length<=1048576) :
  Calls Tryz.prog 8 #[.agg #[.string a,v]] w fun e w' => ∃ l,e = .returned (.agg #[.string a,l])/\Cx w' l xs/\Below w.heap.size w w':=by
 have f:∀ o1 o2 o3:Obj,Cx (((w.alloc o1).alloc o2).alloc o3) v xs:=fun o1 o2 o3=>hN.below ((((Below.refl w.heap.size w).alloc (Nat.le_refl _) o1).alloc (by simp) o2).alloc (by simp only[World.size_alloc];omega) o3)
 have k:∃ a c,v = .slice a xs.length c:=by obtain⟨a,c,h,_⟩:=hN;exact⟨a,c,h⟩
 obtain⟨p,c,rfl⟩:=k
 clear hN
 have g:Hid (∀ o1 o2 o3:Obj,Cx (((w.alloc o1).alloc o2).alloc o3) (.slice p xs.length c) xs):=f
 clear f
 go_enter Tryz.func8,Tryz.ntmps8
 go_wp2_with (go_at_call 25;(refine(Lc xs _ _ (g.out _ _ _) hl).mono ?_;rintro e d ⟨l,rfl,own,b⟩;obtain⟨m,n,j⟩:=We own;subst j;simp only[World.size_alloc]at own b;have q:d.cell? ⟨w.heap.size+1,0,none⟩=some (.string ⟨#[]⟩):=(by rw[b.cell (p:=⟨w.heap.size+1,0,none⟩) (by simp only;omega)];simp[go_sem]);have r:d.cell? ⟨w.heap.size+1,1,none⟩=some (.slice none 0 0):=(by rw[b.cell (p:=⟨w.heap.size+1,1,none⟩) (by simp only;omega)];simp[go_sem]);have s:d.cell? ⟨w.heap.size+1+1,0,none⟩=some (.string a):=(by rw[b.cell (p:=⟨w.heap.size+1+1,0,none⟩) (by simp only;omega)];simp[go_sem]);have t:d.cell? ⟨w.heap.size+1+1,1,none⟩=some (.slice none 0 0):=(by rw[b.cell (p:=⟨w.heap.size+1+1,1,none⟩) (by simp only;omega)];simp[go_sem]);have u:d.frozen? ⟨w.heap.size+1,0,none⟩=false:=(by rw[b.frozen (p:=⟨w.heap.size+1,0,none⟩) (by simp only;omega)];simp[go_sem]);have x:d.frozen? ⟨w.heap.size+1,1,none⟩=false:=(by rw[b.frozen (p:=⟨w.heap.size+1,1,none⟩) (by simp only;omega)];simp[go_sem]);have y:d.frozen? ⟨w.heap.size+1+1,1,none⟩=false:=(by rw[b.frozen (p:=⟨w.heap.size+1+1,1,none⟩) (by simp only;omega)];simp[go_sem])))
 have o:=b.size
 simp only[World.size_alloc]at o
 have i:Below w.heap.size w d:=((((Below.refl w.heap.size w).alloc (Nat.le_refl _) _).alloc (by simp) _).alloc (by simp only[World.size_alloc];omega) _).trans (b.mono (by omega))
 refine bodyPost_ret (v:=.agg #[.string a,.slice m xs.length n]) (by simp[results,Tryz.results8,go_sem,q,r]) rfl ⟨_,rfl, ?_, ?_⟩
 ·exact Ih (ownsRow_setCell_below (ownsRow_setCell_below (ownsRow_setCell_below own (a:=⟨w.heap.size+1+1,1,none⟩) (by simp only;omega) _) (a:=⟨w.heap.size+1,0,none⟩) (by simp only;omega) _) (a:=⟨w.heap.size+1,1,none⟩) (by simp only;omega) _)
 ·exact((i.setCell (p:=⟨w.heap.size+1+1,1,none⟩) (by simp only;omega) _).setCell (p:=⟨w.heap.size+1,0,none⟩) (by simp only;omega) _).setCell (p:=⟨w.heap.size+1,1,none⟩) (by simp only;omega) _
theorem Vn (a:ByteArray) (xs:List ByteArray) (v v':Value) (w:World) (hN:Cx w v xs) (hN':Cx w v' xs) (hl:xs.length<=1048576) :
  Calls Tryz.prog 12 #[.agg #[.string a,v],.agg #[.string a,v']] w fun e w'=>e = .returned (.bool true)/\Below w.heap.size w w':=by
 have b:∀ o o2:Obj,Below w.heap.size w ((w.alloc o).alloc o2):=fun o o2=>((Below.refl _ w).alloc (Nat.le_refl _) o).alloc (by simp) o2
 have g:∃ a c,v = .slice a xs.length c:=by obtain⟨a,c,h,_⟩:=hN;exact⟨a,c,h⟩
 have f:∃ a c,v' = .slice a xs.length c:=by obtain⟨a,c,h,_⟩:=hN';exact⟨a,c,h⟩
 obtain⟨p,c,rfl⟩:=g
 obtain⟨l,k,rfl⟩:=f
 have i:Hid (∀ o1 o2:Obj,Cx ((w.alloc o1).alloc o2) (.slice p xs.length c) xs):=fun _ _=>hN.below (b _ _)
 have j:Hid (∀ o1 o2:Obj,Cx ((w.alloc o1).alloc o2) (.slice l xs.length k) xs):=fun _ _=>hN'.below (b _ _)
 clear hN hN'
 go_enter Tryz.func12,Tryz.ntmps12
 go_wp2_with (go_at_call 31;(refine(Ff xs _ _ _ (i.out _ _) (j.out _ _) hl).mono ?_;rintro e m ⟨rfl,d⟩;simp only[World.size_alloc]at d))
 go_ret
 exact⟨rfl,(b _ _).trans (d.mono (by omega))⟩
end Go.Proofs.YtfjkahdghhbpnaaGreatDoor
