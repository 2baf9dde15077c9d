import Derived.Test.YtahibkjkpmdhgaaGreatDoorKValC
import Derived.OwnWalk
import Derived.Maps.AppendAt
import Derived.Deep.Onto
import Derived.Deep.RegionHeld3
import Derived.ProofKit
import Derived.Laws.Cover1
import Derived.Deep.RegionWith
set_option maxRecDepth 100000
set_option maxHeartbeats 2000000
namespace Go.Proofs.YtahibkjkpmdhgaaGreatDoor
open Go.RowKit
def Ej (d:Dy):List Value:=[.int .i64 d.type,.int .i64 d.n,.string d.text]
def D4 (l:List Dy):List Value:=l.flatMap Ej
theorem Sk (ts:List Dy):(D4 ts).length=ts.length * 3:=by
 induction ts with
 | nil=>rfl
 | cons t r ih=>simp[D4,Ej]at ih |-;omega
theorem Sj (ts:List Dy) (i:Nat) (h:i < ts.length) (j:Nat) (hj:j < 3):(D4 ts)[i * 3+j]? = (Ej ts[i])[j]?:=by
 induction ts generalizing i with
 | nil=>simp at h
 | cons t r ih =>
  cases i with
  | zero =>
   simp only[D4,List.flatMap_cons,Nat.zero_mul,Nat.zero_add];rw[List.getElem?_append_left (by simp[Ej];omega)];rfl
  | succ i =>
   simp only[D4,List.flatMap_cons];rw[List.getElem?_append_right (by simp[Ej];omega)];have e:(i+1) * 3+j - (Ej t).length=i * 3+j:=(by simp[Ej];omega);rw[e];exact ih i (by simpa using h)
def Dq (w:World) (v:Value) (ns:List Dy):Prop :=
 ∃ a cap,v = .slice a ns.length cap/\∀ i (hi:i < ns.length),∃ g,a=some ⟨g,0,none⟩/\g < w.heap.size/\∀ j,j < 3->w.cell? ⟨g,i * 3+j,none⟩=(Ej ns[i])[j]?
theorem Hb {w:World} {B:Nat} {v:Value} {ns:List Dy} {e:TypeId} (h:w.ownsRow B e 3 v ns.length (D4 ns)):Dq w v ns:=by
 rcases h.2 with⟨rfl,d⟩|⟨g,b,c,rfl,f,a,_⟩
 ·exact⟨none,0,by rw[d],fun i hi=>by omega⟩
 ·refine⟨_,_,rfl,fun i hi=>⟨g,rfl,(Array.getElem?_eq_some_iff.1 a).1,fun j hj => ?_⟩⟩;rw[h.cellAt (i * 3+j) (by omega),Sj ns i hi j hj]
theorem Ce {w w':World} {v:Value} {ns:List Dy} (h:Dq w v ns) (hb:Below w.heap.size w w'):Dq w' v ns:=by
 obtain⟨a,c,rfl,k⟩:=h;refine⟨a,c,rfl,fun i hi => ?_⟩;obtain⟨g,f,d,b⟩:=k i hi;refine⟨g,f,Nat.lt_of_lt_of_le d hb.size,fun j hj => ?_⟩;rw[hb.cell (p:=⟨g,i * 3+j,none⟩) d];exact b j hj
def E9 (w:World) (v:Value) (ns:List Dy):Prop :=
 ∃ a cap,v = .slice a ns.length cap/\∀ i (hi:i < ns.length),∃ g o,a=some ⟨g,o,none⟩/\g < w.heap.size/\∀ j,j < 3->w.cell? ⟨g,o+i * 3+j,none⟩=(Ej ns[i])[j]?
theorem C2 {w w':World} {v:Value} {ns:List Dy} (h:E9 w v ns) (hb:Below w.heap.size w w'):E9 w' v ns:=by
 obtain⟨a,c,rfl,k⟩:=h;refine⟨a,c,rfl,fun i hi => ?_⟩;obtain⟨g,o,f,d,b⟩:=k i hi;refine⟨g,o,f,Nat.lt_of_lt_of_le d hb.size,fun j hj => ?_⟩;rw[hb.cell (p:=⟨g,o+i * 3+j,none⟩) d];exact b j hj
def Gy : List Dy->Int->Int
 | [],l=>l
 | d::r,l=>if l - (d.text.size:Int) < 0 then -1 else Gy r (l - (d.text.size:Int))
theorem It {w:World} {B e size n:Nat} {v:Value} {xs:List Value} (h:w.ownsRow B e size v n xs):∃ a b,v = .slice a n b:=by
 rcases h.2 with⟨rfl,d⟩|⟨g,b,c,rfl,_⟩
 ·exact⟨none,0,by rw[d]⟩
 ·exact⟨_,_,rfl⟩
theorem Jg {W W':World} {B e size n:Nat} {v:Value} {xs:List Value} (h:W.ownsRow B e size v n xs) (hb:Below W.heap.size W W'):W'.ownsRow B e size v n xs:=by
 refine⟨h.1, ?_⟩;rcases h.2 with f|⟨g,b,c,i,d,a,rest⟩
 ·exact .inl f
 ·exact .inr ⟨g,b,c,i,d,by rw[hb.block g (Array.getElem?_eq_some_iff.1 a).1];exact a,rest⟩
theorem Pb (ns:List Dy) (v:Value) (l:Int) (h0:0<=l) (h1:l<=1048576) (hn:ns.length<=9223372036854775807) (hx:∀ d ∈ ns,d.text.size<=9223372036854775807) (w:World) (hN:E9 w v ns) :
  Calls Tryz.prog 82 #[v,.int .i64 l] w fun e w'=>e = .returned (.int .i64 (if l - (ns.length:Int) < 0 then -1 else Gy ns (l - (ns.length:Int))))/\Below w.heap.size w w':=by
 obtain⟨a,D,rfl,B⟩:=hN;obtain⟨n,x⟩:∃ n,Hid (ns.length=n):=⟨_,(rfl:ns.length=_)⟩;have z:Hid (∀ i (I:i < ns.length),∃ g o,a=some ⟨g,o,none⟩/\g < w.heap.size/\∀ j,j < 3->w.cell? ⟨g,o+i * 3+j,none⟩=(Ej ns[i])[j]?):=B;clear B;rw[x.out]at hn;simp only[x.out];by_cases hl:l - (n:Int) < 0
 ·rw[if_pos hl];go_enter Tryz.func82,Tryz.ntmps82;go_wp2;go_ret;exact⟨rfl,Below.refl _ _⟩
 ·rw[if_neg hl];go_enter Tryz.func82,Tryz.ntmps82;go_wp2;go_loopw [1,5] (fun tl tv wr => ∃ (i:Nat) (q:Int),i<=n/\tv = .int .i64 (i:Int)/\tl = .int .i64 q/\0<=q/\q<=1048576/\Gy (ns.drop i) q=Gy ns (l - (n:Int))/\Below w.heap.size w wr) (fun _ tv _=>n - (intOf tv).toNat);case atStart=>exact⟨0,l - (n:Int),by omega,rfl,rfl,by omega,by omega,rfl,Below.refl _ _⟩
  case round =>
   obtain⟨i,q,I,rfl,rfl,s,t,f,b⟩:=hrel;have C:=b.size;by_cases hlt:i < n
   ·have k:i < ns.length:=(by rw[x.out];exact hlt);obtain⟨g,o,rfl,H,c⟩:=z.out i k;rw[List.drop_eq_getElem_cons k,Gy]at f;have u:=hx ns[i] (List.getElem_mem k);have y:∀ m,m < 3->wr.cell? ⟨g,o+i * 3+m,none⟩=(Ej ns[i])[m]?:=fun m hm=>by rw[b.cell (p:=⟨g,o+i * 3+m,none⟩) H,c m hm]
    generalize ns[i]=d at *;have E:=y 0 (by omega);have F:=y 1 (by omega);have G:=y 2 (by omega);simp only[Ej,Nat.add_zero,List.getElem?_cons_zero,List.getElem?_cons_succ]at E F G;clear y c z;obtain⟨K,L,A⟩:=d;simp only at *;by_cases hlq:q - (A.size:Int) < 0
    ·have r:Hid (Gy ns (l - (n:Int)) = -1):=(by rw[if_pos hlq]at f;exact f.symm);clear f;go_wp2_with (go_at_call 109;(refine(Lx _ _ _ _ u s t _).mono ?_;rintro e J ⟨rfl,h⟩;rw[Xc,if_pos hlq]));go_ret;exact⟨Fw r.out.symm,b.trans (h.mono C)⟩
    ·have r:Hid (Gy (ns.drop (i+1)) (q - (A.size:Int))=Gy ns (l - (n:Int))):=(by rw[if_neg hlq]at f;exact f);clear f;go_wp2_with (go_at_call 109;(refine(Lx _ _ _ _ u s t _).mono ?_;rintro e J ⟨rfl,h⟩;rw[Xc,if_neg hlq]));go_roundw;case rel=>exact⟨i+1,q - (A.size:Int),by omega,by go_num,rfl,by omega,by omega,r.out,b.trans (h.mono C)⟩
     case measure=>simp[intOf];omega
   ·have r:Hid (Gy ns (l - (n:Int))=q):=(by rw[List.drop_of_length_le (by rw[x.out];omega)]at f;exact f.symm);clear f z;go_wp2;go_ret;exact⟨Fw r.out.symm,b⟩
theorem Kd (ns:List Dy) (va vb:Value) (w:World) (ha:Dq w va ns) (hb:Dq w vb ns) (hl:ns.length<=1048576) :
  Calls Tryz.prog 102 #[va,vb] w fun e w'=>e = .returned (.bool true)/\Below w.heap.size w w':=by
 obtain⟨a,K,rfl,H⟩:=ha;obtain⟨b,L,rfl,I⟩:=hb;obtain⟨n,u⟩:∃ n,Hid (ns.length=n):=⟨_,(rfl:ns.length=_)⟩;have r:Hid (∀ i (J:i < ns.length),∃ g,a=some ⟨g,0,none⟩/\g < w.heap.size/\∀ j,j < 3->w.cell? ⟨g,i * 3+j,none⟩=(Ej ns[i])[j]?):=H;have s:Hid (∀ i (J:i < ns.length),∃ g,b=some ⟨g,0,none⟩/\g < w.heap.size/\∀ j,j < 3->w.cell? ⟨g,i * 3+j,none⟩=(Ej ns[i])[j]?):=I;clear H I;rw[u.out]at hl;simp only[u.out];have M:((n:Int) != (n:Int))=false:=by simp
 go_enter Tryz.func102,Tryz.ntmps102;go_wp2;go_loopw [5] (fun t wr => ∃ i:Nat,i<=n/\t = .int .i64 (i:Int)/\Below w.heap.size w wr) (fun t _=>n - (intOf t).toNat);case atStart=>exact⟨0,by omega,rfl,Below.refl _ _⟩
 case round =>
  obtain⟨i,J,rfl,c⟩:=hrel;have N:w.heap.size<=wr.heap.size:=c.size;by_cases hlt:i < n
  ·have l:i < ns.length:=(by rw[u.out];exact hlt);obtain⟨F,rfl,x,h⟩:=r.out i l;obtain⟨G,rfl,y,k⟩:=s.out i l;have o:∀ m,m < 3->wr.cell? ⟨F,i * 3+m,none⟩=(Ej ns[i])[m]?:=fun m hm=>by rw[c.cell (p:=⟨F,i * 3+m,none⟩) x,h m hm]
   have q:∀ m,m < 3->wr.cell? ⟨G,i * 3+m,none⟩=(Ej ns[i])[m]?:=fun m hm=>by rw[c.cell (p:=⟨G,i * 3+m,none⟩) y,k m hm]
   generalize ns[i]=d at *;have z:=o 0 (by omega);have A:=o 1 (by omega);have B:=o 2 (by omega);have C:=q 0 (by omega);have D:=q 1 (by omega);have E:=q 2 (by omega);simp only[Ej,List.getElem?_cons_zero,List.getElem?_cons_succ,Nat.add_zero]at z A B C D E;clear o q h k r s;go_wp2_with fail;go_region_with (go_at_call 134;refine(O2 _ _ _ _).mono ?_;rintro e O ⟨rfl,v⟩);all_goals
    have f:Below w.heap.size w O:=c.trans (by have:=v.mono (B':=w.heap.size) (by simpa using N);exact⟨this.os,this.tape,this.output,this.size,this.block⟩);clear z A B C D E;go_wp2;go_roundw;case rel=>exact⟨i+1,by omega,by go_num,f⟩
    case measure=>simp[intOf];omega
  ·clear r s;go_wp2;go_ret;exact⟨rfl,c⟩
def H4 (c:Nat) (d:Dy) (xs:List Value):List Value:=((xs.set c (.int .i64 d.type)).set (c+1) (.int .i64 d.n)).set (c+2) (.string d.text)
def Fc (ns:List Dy):Nat->List Value->List Value
 | 0,xs=>xs
 | i+1,xs=>match ns[i]? with
  | some d=>H4 (i * 3) d (Fc ns i xs)
  | none=>Fc ns i xs
theorem Ut (c:Nat) (d:Dy) (xs:List Value):(H4 c d xs).length=xs.length:=by simp[H4]
theorem Mm (ns:List Dy) (i:Nat) (xs:List Value):(Fc ns i xs).length=xs.length:=by
 induction i with
 | zero=>rfl
 | succ i ih =>
  rw[Fc];split
  ·rw[Ut,ih]
  ·exact ih
theorem Qx (c:Nat) (d:Dy) (xs:List Value) (j:Nat) (h:j < c\/c+2 < j):(H4 c d xs)[j]? = xs[j]?:=by
 unfold H4;rw[List.getElem?_set_ne (by omega),List.getElem?_set_ne (by omega),List.getElem?_set_ne (by omega)]
theorem Xb (c:Nat) (d:Dy) (xs:List Value) (hc:c+3<=xs.length) (j:Nat) (hj:j < 3):(H4 c d xs)[c+j]? = (Ej d)[j]?:=by
 unfold H4;match j,hj with
 | 0,_=>rw[List.getElem?_set_ne (by omega),List.getElem?_set_ne (by omega)];rw[Nat.add_zero,List.getElem?_set_self (by omega)];rfl
 | 1,_=>rw[List.getElem?_set_ne (by omega)];rw[List.getElem?_set_self (by simp;omega)];rfl
 | 2,_=>rw[List.getElem?_set_self (by simp;omega)];rfl
theorem Up (ns:List Dy) (n:Nat) (xs:List Value) (hn:n * 3<=xs.length) (hl:n<=ns.length) (i:Nat) (hi:i < n) (j:Nat) (hj:j < 3):(Fc ns n xs)[i * 3+j]? = (Ej (ns[i]'(by omega)))[j]?:=by
 induction n with
 | zero=>omega
 | succ n ih =>
  rw[Fc];have a:ns[n]? = some (ns[n]'(by omega)):=List.getElem?_eq_getElem (by omega);rw[a];simp only;by_cases h:i=n
  ·subst h;exact Xb _ _ _ (by rw[Mm];omega) j hj
  ·rw[Qx _ _ _ _ (by omega)];exact ih (by omega) (by omega) (by omega)
theorem Sf (ns:List Dy) (xs:List Value) (h:xs.length=ns.length * 3):Fc ns ns.length xs=D4 ns:=by
 apply List.ext_getElem?;intro j;by_cases hj:j < ns.length * 3
 ·have e:j=j / 3 * 3+j % 3:=by omega
  rw[e,Up ns ns.length xs (by omega) (Nat.le_refl _) (j / 3) (by omega) (j % 3) (by omega),Sj ns (j / 3) (by omega) (j % 3) (by omega)]
 ·rw[List.getElem?_eq_none (by rw[Mm];omega),List.getElem?_eq_none (by rw[Sk];omega)]
theorem Tryz.infoValue : (Tryz.prog.info? 132).map (fun i=>(i.zero,i.size,i.bytes))=some (some (.agg #[.int .i64 0,.int .i64 0,.string ByteArray.empty]),3,32):=by kernel_rfl
theorem Lk {w:World} {B e size n g cap:Nat} {xs:List Value} (h:w.ownsRow B e size (.slice (some ⟨g,0,none⟩) n cap) n xs) (j:Nat) (hj:j < n * size):∃ y,w.cell? ⟨g,j,none⟩=some y:=by
 rw[h.cellAt j hj];exact⟨_,List.getElem?_eq_getElem (by rw[h.1];exact hj)⟩
theorem K9 (ns:List Dy) (v:Value) (w:World) (hN:E9 w v ns) (hl:ns.length<=1048576) :
  Calls Tryz.prog 89 #[v] w fun e w' => ∃ v',e = .returned v'/\w'.ownsRow w.heap.size 132 3 v' ns.length (D4 ns)/\Below w.heap.size w w':=by
 obtain⟨U,E,I,J,K⟩:=info_parts Tryz.infoValue;obtain⟨a,N,rfl,L⟩:=hN;obtain⟨n,s⟩:∃ n,Hid (ns.length=n):=⟨_,(rfl:ns.length=_)⟩;have A:Hid (∀ i (S:i < ns.length),∃ g o,a=some ⟨g,o,none⟩/\g < w.heap.size/\∀ j,j < 3->w.cell? ⟨g,o+i * 3+j,none⟩=(Ej ns[i])[j]?):=L;clear L;rw[s.out]at hl;simp only[s.out];go_enter Tryz.func89,Tryz.ntmps89;go_wp2_with (at_make;(refine wpList_make_full _ rfl _ _ 89 rfl w.heap.size 132 U (.agg #[.int .i64 0,.int .i64 0,.string ByteArray.empty]) 3 Tryz.underlying89 E I J .i64 .i64 _ _ n rfl rfl rfl rfl (by rw[K];omega) (by unfold maxLen;omega) (Nat.le_refl _) ?_;intro V c q));have C:Below w.heap.size w V:=Below.grown (Below.refl _ w) q (Nat.le_refl _) (fun k h=>by cases h);obtain⟨r,M⟩:∃ r,Hid ((madeCells (Value.agg #[.int .i64 0,.int .i64 0,.string ByteArray.empty]).cells (n * 3)).toList=r):=⟨_,(rfl:_=_)⟩;rw[M.out]at c;have H:=c.1;go_loopw [4] (fun t wr => ∃ i:Nat,i<=n/\t = .int .i64 (i:Int)/\wr.ownsRow w.heap.size 132 3 (.slice (some ⟨w.heap.size,0,none⟩) n n) n (Fc ns i r)/\Below w.heap.size w wr) (fun t _=>n - (intOf t).toNat);case atStart=>exact⟨0,by omega,rfl,c,C⟩
 case round =>
  obtain⟨i,S,rfl,G,l⟩:=hrel;have T:=l.size;by_cases hlt:i < n
  ·have x:i < ns.length:=(by rw[s.out];exact hlt);obtain⟨g,o,rfl,R,f⟩:=A.out i x;have z:∀ m,m < 3->wr.cell? ⟨g,o+i * 3+m,none⟩=(Ej ns[i])[m]?:=fun m hm=>by rw[l.cell (p:=⟨g,o+i * 3+m,none⟩) R,f m hm]
   have B:Hid (Fc ns (i+1) r=H4 (i * 3) ns[i] (Fc ns i r)):=(by rw[Hid,Fc,List.getElem?_eq_getElem x]);generalize ns[i]=d at *;have O:=z 0 (by omega);have P:=z 1 (by omega);have Q:=z 2 (by omega);simp only[Ej,Nat.add_zero,List.getElem?_cons_zero,List.getElem?_cons_succ]at O P Q;clear z f A;go_wp2_with (go_at_call 120;(refine(Qy _ _ _ _).mono ?_;rintro e w1 ⟨rfl,u⟩;have b:=Jg G u;obtain⟨y0,W⟩:=Lk b (i * 3) (by omega);obtain⟨y1,X⟩:=Lk b (i * 3+1) (by omega);obtain⟨y2,Y⟩:=Lk b (i * 3+2) (by omega);have Z:=b.frozenAt (i * 3);have f1:=b.frozenAt (i * 3+1);have f2:=b.frozenAt (i * 3+2)));have y:=(((b.stored (i * 3) (.int .i64 d.type)).1.stored (i * 3+1) (.int .i64 d.n)).1.stored (i * 3+2) (.string d.text)).1;have D:=((((l.trans (u.mono T)).setCell (p:=⟨w.heap.size,i * 3,none⟩) (Nat.le_refl _) (.int .i64 d.type)).setCell (p:=⟨w.heap.size,i * 3+1,none⟩) (Nat.le_refl _) (.int .i64 d.n)).setCell (p:=⟨w.heap.size,i * 3+2,none⟩) (Nat.le_refl _) (.string d.text));go_roundw;case rel=>exact⟨i+1,by omega,by go_num,by rw[B.out];exact y,D⟩
   case measure=>simp[intOf];omega
  ·have F:i=n:=(by omega);subst F;have B:Hid (Fc ns i r=D4 ns):=by
    have:=Sf ns r (by rw[s.out];exact H);rw[s.out]at this;exact this
   rw[B.out]at G;clear A;go_wp2;go_ret;exact⟨_,rfl,G,l⟩
theorem Kc {w w1:World} {a0 a1:Value} {t:TypeId} (hb:Below (w.heap.size+1) (w.alloc (.cells #[a0,a1] t)) w1) :
  w1.cell? ⟨w.heap.size,0,none⟩=some a0/\w1.cell? ⟨w.heap.size,1,none⟩=some a1:=by
 have a:=hb.block w.heap.size (by omega);rw[(MapKept.heap_alloc w _).1]at a;simp[World.cell?,a]
theorem Oi (s:ByteArray) (k:Nat) (h:k < s.size):s.data.toList.drop k=s[k]::s.data.toList.drop (k+1):=by
 rw[List.drop_eq_getElem_cons (by simpa using h)];rfl
theorem Bu {a b:Bool} (h:a=b):(Ending.returned (.bool a):Ending) = .returned (.bool b):=by rw[h]
def Fs (c:UInt8):Bool := !(decide ((c.toNat:Int) < 33) || decide (126 < (c.toNat:Int)))
def Cw (s:ByteArray):Bool:=decide (s.size<=60) && s.data.toList.all Fs
def Dc (s:ByteArray):Bool:=decide (1<=s.size) && Cw s
theorem Ng {s:ByteArray} (h:¬ s.size<=60):Cw s=false:=by unfold Cw;simp[h]
theorem Qe {s:ByteArray} (h:s.size<=60):Cw s=s.data.toList.all Fs:=by unfold Cw;simp[h]
theorem Ih (s:ByteArray):s.toList.length=s.size:=by rw[ByteArray.toList_eq];rfl
theorem P9 {c:UInt8} (h:(c.toNat:Int) < 33):Fs c=false:=by unfold Fs;simp[h]
theorem Oh {c:UInt8} (h:126 < (c.toNat:Int)):Fs c=false:=by unfold Fs;simp[h]
theorem R7 {c:UInt8} (h:¬ (c.toNat:Int) < 33) (h2:¬ 126 < (c.toNat:Int)):Fs c=true:=by unfold Fs;simp[h,h2]
theorem Nf (s:ByteArray) (hs:s.size<=1048576) (w:World) :
  Calls Tryz.prog 54 #[.string s] w fun e w'=>e = .returned (.bool (Cw s))/\w=w':=by
 by_cases h:s.size<=60
 ·have c:Hid (Cw s=s.data.toList.all Fs):=Qe h;go_enter Tryz.func54,Tryz.ntmps54;go_wp2;go_loop [3] (fun t => ∃ k:Nat,k<=s.size/\t = .int .i64 (k:Int)/\(s.data.toList.drop k).all Fs=s.data.toList.all Fs) (fun t=>s.size - (intOf t).toNat);case atStart=>exact⟨0,by omega,rfl,rfl⟩
  case round =>
   obtain⟨k,d,rfl,a⟩:=hrel;by_cases hlt:k < s.size
   ·rw[Oi s k hlt,List.all_cons]at a;by_cases hl:(s[k].toNat:Int) < 33
    ·have b:Hid (Cw s=false):=(by rw[P9 hl]at a;rw[Hid,c.out,<- a];rfl);clear a;go_wp2;go_ret;exact⟨Bu b.out.symm,rfl⟩
    ·by_cases hh:126 < (s[k].toNat:Int)
     ·have b:Hid (Cw s=false):=(by rw[Oh hh]at a;rw[Hid,c.out,<- a];rfl);clear a;go_wp2;go_ret;exact⟨Bu b.out.symm,rfl⟩
     ·have b:Hid ((s.data.toList.drop (k+1)).all Fs=s.data.toList.all Fs):=(by rw[R7 hl hh]at a;exact a);clear a;go_wp2;go_round;case rel=>exact⟨k+1,by omega,by go_num,b.out⟩
      case measure=>simp[intOf];omega
   ·have b:Hid (Cw s=true):=by
     rw[List.drop_of_length_le (by simp;omega)]at a;rw[Hid,c.out,<- a];rfl
    clear a;go_wp2;go_ret;exact⟨Bu b.out.symm,rfl⟩
 ·have c:Hid (Cw s=false):=Ng h;go_enter Tryz.func54,Tryz.ntmps54;go_wp2;go_ret;exact⟨Bu c.out.symm,rfl⟩
theorem Oj (s:ByteArray) (hs:s.size<=1048576) (w:World) :
  Calls Tryz.prog 93 #[.string s] w fun e w'=>e = .returned (.bool (Cw s))/\w=w':=by
 by_cases h:s.size<=60
 ·have c:Hid (Cw s=s.data.toList.all Fs):=Qe h;go_enter Tryz.func93,Tryz.ntmps93;go_wp2;go_loop [9] (fun t => ∃ k:Nat,k<=s.size/\t = .int .i64 (k:Int)/\(s.data.toList.drop k).all Fs=s.data.toList.all Fs) (fun t=>s.size - (intOf t).toNat);case atStart=>exact⟨0,by omega,rfl,rfl⟩
  case round =>
   obtain⟨k,d,rfl,a⟩:=hrel;by_cases hlt:k < s.size
   ·rw[Oi s k hlt,List.all_cons]at a;by_cases hl:(s[k].toNat:Int) < 33
    ·have b:Hid (Cw s=false):=(by rw[P9 hl]at a;rw[Hid,c.out,<- a];rfl);clear a;go_wp2;go_ret;exact⟨Bu b.out.symm,rfl⟩
    ·by_cases hh:126 < (s[k].toNat:Int)
     ·have b:Hid (Cw s=false):=(by rw[Oh hh]at a;rw[Hid,c.out,<- a];rfl);clear a;go_wp2;go_ret;exact⟨Bu b.out.symm,rfl⟩
     ·have b:Hid ((s.data.toList.drop (k+1)).all Fs=s.data.toList.all Fs):=(by rw[R7 hl hh]at a;exact a);clear a;go_wp2;go_round;case rel=>exact⟨k+1,by omega,by go_num,b.out⟩
      case measure=>simp[intOf];omega
   ·have b:Hid (Cw s=true):=by
     rw[List.drop_of_length_le (by simp;omega)]at a;rw[Hid,c.out,<- a];rfl
    clear a;go_wp2;go_ret;exact⟨Bu b.out.symm,rfl⟩
 ·have c:Hid (Cw s=false):=Ng h;go_enter Tryz.func93,Tryz.ntmps93;go_wp2;go_ret;exact⟨Bu c.out.symm,rfl⟩
theorem Qd (s:ByteArray) (hs:s.size<=1048576) (w:World) :
  Calls Tryz.prog 53 #[.string s] w fun e w'=>e = .returned (.bool (Dc s))/\w=w':=by
 obtain⟨b,d⟩:∃ b,Hid (Cw s=b):=⟨_,(rfl:Cw s=_)⟩;unfold Dc;rw[d.out];by_cases h:1<=s.size
 ·have c:s.toList.isEmpty=false:=by have e:=Ih s;cases ht:s.toList with|nil=>(rw[ht]at e;simp at e;omega)|cons a r=>rfl
  simp only[h,decide_true,Bool.true_and];go_enter Tryz.func53,Tryz.ntmps53;go_wp2_with (go_at_call 54;refine(Nf s hs _).mono ?_;rintro e f ⟨rfl,rfl⟩;rw[d.out]);all_goals (go_ret;exact⟨rfl,rfl⟩)
 ·have c:s.toList.isEmpty=true:=by have e:=Ih s;cases ht:s.toList with|nil=>rfl|cons a r=>(rw[ht]at e;simp at e;omega)
  simp only[h,decide_false,Bool.false_and];go_enter Tryz.func53,Tryz.ntmps53;go_wp2;all_goals (go_ret;exact⟨rfl,rfl⟩)
theorem Qa (s:ByteArray) (hs:s.size<=1048576) (w:World) :
  Calls Tryz.prog 90 #[.string s] w fun e w'=>e = .returned (.bool (Dc s))/\w=w':=by
 obtain⟨b,d⟩:∃ b,Hid (Cw s=b):=⟨_,(rfl:Cw s=_)⟩;unfold Dc;rw[d.out];by_cases h:1<=s.size
 ·have c:s.toList.isEmpty=false:=by have e:=Ih s;cases ht:s.toList with|nil=>(rw[ht]at e;simp at e;omega)|cons a r=>rfl
  simp only[h,decide_true,Bool.true_and];go_enter Tryz.func90,Tryz.ntmps90;go_wp2_with (go_at_call 93;refine(Oj s hs _).mono ?_;rintro e f ⟨rfl,rfl⟩;rw[d.out]);all_goals (go_ret;exact⟨rfl,rfl⟩)
 ·have c:s.toList.isEmpty=true:=by have e:=Ih s;cases ht:s.toList with|nil=>rfl|cons a r=>(rw[ht]at e;simp at e;omega)
  simp only[h,decide_false,Bool.false_and];go_enter Tryz.func90,Tryz.ntmps90;go_wp2;all_goals (go_ret;exact⟨rfl,rfl⟩)
def Ep (w:World) (v:Value) (xs:List ByteArray):Prop :=
 ∃ a cap,v = .slice a xs.length cap/\∀ i (hi:i < xs.length),∃ g o,a=some ⟨g,o,none⟩/\g < w.heap.size/\w.cell? ⟨g,o+i,none⟩=some (.string xs[i])
theorem Ep.below {w w':World} {v:Value} {xs:List ByteArray} (h:Ep w v xs) (hb:Below w.heap.size w w'):Ep w' v xs:=by
 obtain⟨a,c,rfl,j⟩:=h;refine⟨a,c,rfl,fun i hi => ?_⟩;obtain⟨g,o,f,d,b⟩:=j i hi;exact⟨g,o,f,Nat.lt_of_lt_of_le d hb.size,by rw[hb.cell (p:=⟨g,o+i,none⟩) d];exact b⟩
def Ig : List ByteArray->Int->Int
 | [],l=>l
 | d::r,l=>if l - (d.size:Int) < 0 then -1 else Ig r (l - (d.size:Int))
theorem Sa {a b:Int} (h:a=b):(Ending.returned (.int .i64 a):Ending) = .returned (.int .i64 b):=by rw[h]
theorem O0 (xs:List ByteArray) (v:Value) (l:Int) (h0:0<=l) (h1:l<=1048576) (hn:xs.length<=9223372036854775807) (hx:∀ d ∈ xs,d.size<=9223372036854775807) (w:World) (hN:Ep w v xs) :
  Calls Tryz.prog 17 #[v,.int .i64 l] w fun e w'=>e = .returned (.int .i64 (if l - (xs.length:Int) < 0 then -1 else Ig xs (l - (xs.length:Int))))/\Below w.heap.size w w':=by
 obtain⟨a,s,rfl,r⟩:=hN;obtain⟨n,k⟩:∃ n,Hid (xs.length=n):=⟨_,(rfl:xs.length=_)⟩;have m:Hid (∀ i (u:i < xs.length),∃ g o,a=some ⟨g,o,none⟩/\g < w.heap.size/\w.cell? ⟨g,o+i,none⟩=some (.string xs[i])):=r;clear r;rw[k.out]at hn;simp only[k.out];by_cases hl:l - (n:Int) < 0
 ·rw[if_pos hl];go_enter Tryz.func17,Tryz.ntmps17;go_wp2;go_ret;exact⟨rfl,Below.refl _ _⟩
 ·rw[if_neg hl];go_enter Tryz.func17,Tryz.ntmps17;go_wp2;go_loopw [1,5] (fun tl tv wr => ∃ (i:Nat) (q:Int),i<=n/\tv = .int .i64 (i:Int)/\tl = .int .i64 q/\0<=q/\q<=1048576/\Ig (xs.drop i) q=Ig xs (l - (n:Int))/\Below w.heap.size w wr) (fun _ tv _=>n - (intOf tv).toNat);case atStart=>exact⟨0,l - (n:Int),by omega,rfl,rfl,by omega,by omega,rfl,Below.refl _ _⟩
  case round =>
   obtain⟨i,q,u,rfl,rfl,x,y,f,b⟩:=hrel;have B:=b.size;by_cases hlt:i < n
   ·have h:i < xs.length:=(by rw[k.out];exact hlt);obtain⟨g,o,rfl,t,c⟩:=m.out i h;rw[List.drop_eq_getElem_cons h,Ig]at f;have z:=hx xs[i] (List.getElem_mem h);have A:wr.cell? ⟨g,o+i,none⟩=some (.string xs[i]):=(by rw[b.cell (p:=⟨g,o+i,none⟩) t,c]);generalize xs[i]=d at *;clear c m;by_cases hlq:q - (d.size:Int) < 0
    ·have j:Hid (Ig xs (l - (n:Int)) = -1):=(by rw[if_pos hlq]at f;exact f.symm);clear f;go_wp2;go_ret;exact⟨Sa j.out.symm,b⟩
    ·have j:Hid (Ig (xs.drop (i+1)) (q - (d.size:Int))=Ig xs (l - (n:Int))):=(by rw[if_neg hlq]at f;exact f);clear f;go_wp2;go_roundw;case rel=>exact⟨i+1,q - (d.size:Int),by omega,by go_num,rfl,by omega,by omega,j.out,b⟩
     case measure=>simp[intOf];omega
   ·have j:Hid (Ig xs (l - (n:Int))=q):=(by rw[List.drop_of_length_le (by rw[k.out];omega)]at f;exact f.symm);clear f m;go_wp2;go_ret;exact⟨Sa j.out.symm,b⟩
theorem If (xs:List ByteArray) (va vb:Value) (w:World) (ha:Ep w va xs) (hb:Ep w vb xs) (hl:xs.length<=1048576) :
  Calls Tryz.prog 39 #[va,vb] w fun e w'=>e = .returned (.bool true)/\Below w.heap.size w w':=by
 obtain⟨a,C,rfl,x⟩:=ha;obtain⟨b,D,rfl,y⟩:=hb;obtain⟨n,m⟩:∃ n,Hid (xs.length=n):=⟨_,(rfl:xs.length=_)⟩;have k:Hid (∀ i (z:i < xs.length),∃ g o,a=some ⟨g,o,none⟩/\g < w.heap.size/\w.cell? ⟨g,o+i,none⟩=some (.string xs[i])):=x;have l:Hid (∀ i (z:i < xs.length),∃ g o,b=some ⟨g,o,none⟩/\g < w.heap.size/\w.cell? ⟨g,o+i,none⟩=some (.string xs[i])):=y;clear x y;rw[m.out]at hl;simp only[m.out];have E:((n:Int) != (n:Int))=false:=by simp
 go_enter Tryz.func39,Tryz.ntmps39;go_wp2;go_loopw [5] (fun t wr => ∃ i:Nat,i<=n/\t = .int .i64 (i:Int)/\Below w.heap.size w wr) (fun t _=>n - (intOf t).toNat);case atStart=>exact⟨0,by omega,rfl,Below.refl _ _⟩
 case round =>
  obtain⟨i,z,rfl,c⟩:=hrel;have H:w.heap.size<=wr.heap.size:=c.size;by_cases hlt:i < n
  ·have j:i < xs.length:=(by rw[m.out];exact hlt);obtain⟨s,A,rfl,q,f⟩:=k.out i j;obtain⟨u,B,rfl,r,h⟩:=l.out i j;have F:wr.cell? ⟨s,A+i,none⟩=some (.string xs[i]):=(by rw[c.cell (p:=⟨s,A+i,none⟩) q,f]);have G:wr.cell? ⟨u,B+i,none⟩=some (.string xs[i]):=(by rw[c.cell (p:=⟨u,B+i,none⟩) r,h]);generalize xs[i]=d at *;clear f h k l;go_wp2;go_region;all_goals
    have v:Below w.heap.size w wr:=c;go_wp2;go_roundw;case rel=>exact⟨i+1,by omega,by go_num,by first|exact c|exact⟨c.os,c.tape,c.output,c.size,c.block⟩⟩
    case measure=>simp[intOf];omega
  ·clear k l;go_wp2;go_ret;exact⟨rfl,c⟩
def E6 (ns:List ByteArray):Nat->List Value->List Value
 | 0,xs=>xs
 | i+1,xs=>match ns[i]? with
  | some d=>(E6 ns i xs).set i (.string d)
  | none=>E6 ns i xs
theorem Kr (ns:List ByteArray) (i:Nat) (xs:List Value):(E6 ns i xs).length=xs.length:=by
 induction i with
 | zero=>rfl
 | succ i ih =>
  rw[E6];split
  ·rw[List.length_set,ih]
  ·exact ih
theorem Wy (ns:List ByteArray) (n:Nat) (xs:List Value) (hn:n<=xs.length) (hl:n<=ns.length) (i:Nat) (hi:i < n):(E6 ns n xs)[i]? = some (.string (ns[i]'(by omega))):=by
 induction n with
 | zero=>omega
 | succ n ih =>
  rw[E6];have a:ns[n]? = some (ns[n]'(by omega)):=List.getElem?_eq_getElem (by omega);rw[a];simp only;by_cases h:i=n
  ·subst h;rw[List.getElem?_set_self (by rw[Kr];omega)]
  ·rw[List.getElem?_set_ne (by omega)];exact ih (by omega) (by omega) (by omega)
theorem Un (ns:List ByteArray) (xs:List Value) (h:xs.length=ns.length):E6 ns ns.length xs=ns.map Value.string:=by
 apply List.ext_getElem?;intro j;by_cases hj:j < ns.length
 ·rw[Wy ns ns.length xs (by omega) (Nat.le_refl _) j hj,List.getElem?_map,List.getElem?_eq_getElem hj];rfl
 ·rw[List.getElem?_eq_none (by rw[Kr];omega),List.getElem?_eq_none (by rw[List.length_map];omega)]
theorem Tryz.infoStr : (Tryz.prog.info? 9).map (fun i=>(i.zero,i.size,i.bytes))=some (some (.string ByteArray.empty),1,16):=by kernel_rfl
theorem Ir (ns:List ByteArray) (v:Value) (w:World) (hN:Ep w v ns) (hl:ns.length<=1048576) :
  Calls Tryz.prog 29 #[v] w fun e w' => ∃ v',e = .returned v'/\w'.ownsRow w.heap.size 9 1 v' ns.length (ns.map Value.string)/\Below w.heap.size w w':=by
 obtain⟨N,A,D,E,F⟩:=info_parts Tryz.infoStr;obtain⟨a,J,rfl,H⟩:=hN;obtain⟨n,m⟩:∃ n,Hid (ns.length=n):=⟨_,(rfl:ns.length=_)⟩;have u:Hid (∀ i (L:i < ns.length),∃ g o,a=some ⟨g,o,none⟩/\g < w.heap.size/\w.cell? ⟨g,o+i,none⟩=some (.string ns[i])):=H;clear H;rw[m.out]at hl;simp only[m.out];go_enter Tryz.func29,Tryz.ntmps29;go_wp2_with (at_make;(refine wpList_make_full _ rfl _ _ 23 rfl w.heap.size 9 N (.string ByteArray.empty) 1 Tryz.underlying23 A D E .i64 .i64 _ _ n rfl rfl rfl rfl (by rw[F];omega) (by unfold maxLen;omega) (Nat.le_refl _) ?_;intro O b j));have y:Below w.heap.size w O:=Below.grown (Below.refl _ w) j (Nat.le_refl _) (fun k h=>by cases h);obtain⟨l,I⟩:∃ l,Hid ((madeCells (Value.string ByteArray.empty).cells (n * 1)).toList=l):=⟨_,(rfl:_=_)⟩;rw[I.out]at b;have M:=b.1;go_loopw [4] (fun t wr => ∃ i:Nat,i<=n/\t = .int .i64 (i:Int)/\wr.ownsRow w.heap.size 9 1 (.slice (some ⟨w.heap.size,0,none⟩) n n) n (E6 ns i l)/\Below w.heap.size w wr) (fun t _=>n - (intOf t).toNat);case atStart=>exact⟨0,by omega,rfl,b,y⟩
 case round =>
  obtain⟨i,L,rfl,r,f⟩:=hrel;have R:=f.size;by_cases hlt:i < n
  ·have q:i < ns.length:=(by rw[m.out];exact hlt);obtain⟨g,o,rfl,K,c⟩:=u.out i q;have Q:wr.cell? ⟨g,o+i,none⟩=some (.string ns[i]):=(by rw[f.cell (p:=⟨g,o+i,none⟩) K,c]);have x:Hid (E6 ns (i+1) l=(E6 ns i l).set i (.string ns[i])):=(by rw[Hid,E6,List.getElem?_eq_getElem q]);generalize ns[i]=d at *;clear c u;have C:i < (E6 ns i l).length:=(by rw[Kr];omega);have G:=r.cellAt i (by omega);rw[List.getElem?_eq_getElem C]at G;generalize (E6 ns i l)[i]=y0 at G;have P:=r.frozenAt i;go_wp2;have s:=(r.stored i (.string d)).1;have z:=f.setCell (p:=⟨w.heap.size,i,none⟩) (Nat.le_refl _) (.string d);go_roundw;case rel=>exact⟨i+1,by omega,by go_num,by rw[x.out];exact s,z⟩
   case measure=>simp[intOf];omega
  ·have B:i=n:=(by omega);subst B;have x:Hid (E6 ns i l=ns.map Value.string):=by
    have:=Un ns l (by rw[m.out];omega);rw[m.out]at this;exact this
   rw[x.out]at r;clear u;go_wp2;go_ret;exact⟨_,rfl,r,f⟩
def Mh (xs:List ByteArray) (i:Nat):Bool :=
 match xs[i]? with
 | none=>true
 | some x=>Dc x && (match i with|0=>true|k+1=>(match xs[k]? with|none=>true|some y=>Op.bytesLess y.toList x.toList))
def G5 (xs:List ByteArray):Nat->Bool
 | 0=>true
 | n+1=>G5 xs n && Mh xs n
def Ft (a:ByteArray) (xs:List ByteArray):Bool:=decide ((a.size:Int)<=3000) && decide (xs.length<=20) && G5 xs xs.length
theorem Mv (xs:List ByteArray) (i n:Nat) (h:i < n) (hi:Mh xs i=false):G5 xs n=false:=by
 induction n with
 | zero=>omega
 | succ n ih =>
  rw[G5];by_cases e:i=n
  ·subst e;rw[hi,Bool.and_false]
  ·rw[ih (by omega),Bool.false_and]
theorem R8 (a:ByteArray) (xs:List ByteArray) (h:¬ ((a.size:Int)<=3000)):Ft a xs=false:=by unfold Ft;simp only[h,decide_false,Bool.false_and]
theorem R9 (a:ByteArray) (xs:List ByteArray) (h:¬ (xs.length<=20)):Ft a xs=false:=by unfold Ft;simp only[h,decide_false,Bool.and_false,Bool.false_and]
theorem Zh (a:ByteArray) (xs:List ByteArray) (h0:(a.size:Int)<=3000) (h:xs.length<=20):Ft a xs=G5 xs xs.length:=by unfold Ft;simp only[h0,h,decide_true,Bool.true_and]
theorem Dx {P:Program} {f:FuncId} {args:Array Value} {w:World} {n:Nat} {v:Value}
  (h:Calls P f args (w.drewN n) fun e w'=>e = .returned v/\w.drewN n=w'):Calls P f args (w.drewN n) fun e w''=>e = .returned v/\∃ m,w''=w.drewN m :=
 h.mono fun _ _ ⟨he,hm⟩=>⟨he,n,hm.symm⟩
theorem Al {B:Nat} {a w:World} (n:Nat) (h:Below B a w):Below B a (w.drewN n):=⟨h.os,h.tape,h.output,h.size,h.block⟩
theorem Gn (s:ByteArray) (b:Bool) (h:Hid (Dc s=b)) (hs:s.size<=1048576) (w:World):Calls Tryz.prog 53 #[.string s] w fun e w'=>e = .returned (.bool b)/\w=w':=by
 rw[<- h.out];exact Qd s hs w
theorem Hx (s:ByteArray) (b:Bool) (h:Hid (Dc s=b)) (hs:s.size<=1048576) (w:World):Calls Tryz.prog 90 #[.string s] w fun e w'=>e = .returned (.bool b)/\w=w':=by
 rw[<- h.out];exact Qa s hs w
theorem Iq (x y:List UInt8):(Op.bytesLess x y || x == y) = !Op.bytesLess y x:=by
 induction x generalizing y with
 | nil=>cases y with
  | nil=>rfl
  | cons b s=>rfl
 | cons a r ih=>cases y with
  | nil=>rfl
  | cons b s =>
   have h:=ih s;simp only[Op.bytesLess];by_cases h1:a=b
   ·subst h1;have c:decide (a < a)=false:=(by simp);simp only[c,Bool.false_or,BEq.rfl,Bool.true_and,List.cons_beq_cons];exact h
   ·have c:(a == b)=false:=(by simpa using h1);have f:(b == a)=false:=by simpa using fun e=>h1 e.symm
    simp only[c,f,Bool.false_and,Bool.or_false,List.cons_beq_cons];have g:a.toNat≠b.toNat:=fun e=>h1 (UInt8.toNat_inj.1 e)
    by_cases h2:a < b
    ·have d:¬ b < a:=(by rw[UInt8.lt_iff_toNat_lt]at *;omega);simp[h2,d]
    ·have d:b < a:=(by rw[UInt8.lt_iff_toNat_lt]at *;omega);simp[h2,d]
theorem Qb {xs:List ByteArray} {i:Nat} (hi:i < xs.length) (h:Dc xs[i]=false):Mh xs i=false:=by
 unfold Mh;rw[List.getElem?_eq_getElem hi];simp only[h,Bool.false_and]
theorem Qc {xs:List ByteArray} (hi:0 < xs.length) (h:Dc xs[0]=true):Mh xs 0=true:=by
 unfold Mh;rw[List.getElem?_eq_getElem hi];simp only[h,Bool.true_and]
theorem Ka {xs:List ByteArray} {k:Nat} (hi:k+1 < xs.length) (h:Dc xs[k+1]=true):Mh xs (k+1)=Op.bytesLess (xs[k]'(by omega)).toList xs[k+1].toList:=by
 unfold Mh;rw[List.getElem?_eq_getElem hi];simp only[h,Bool.true_and];rw[List.getElem?_eq_getElem (by omega:k < xs.length)]
theorem Zi (a:ByteArray) (xs:List ByteArray) (v:Value) (w:World) (ha:a.size<=1048576) (hn:xs.length<=1048576) (hx:∀ d ∈ xs,d.size<=1048576) (hN:Ep w v xs) :
  Calls Tryz.prog 24 #[.agg #[.string a,v]] w fun e w'=>e = .returned (.bool (Ft a xs))/\Below w.heap.size w w':=by
 obtain⟨p,A,rfl,F⟩:=hN;obtain⟨n,u⟩:∃ n,Hid (xs.length=n):=⟨_,(rfl:xs.length=_)⟩;have x:Hid (∀ i (J:i < xs.length),∃ g o,p=some ⟨g,o,none⟩/\g < w.heap.size/\w.cell? ⟨g,o+i,none⟩=some (.string xs[i])):=F;clear F;rw[u.out]at hn;by_cases h0:(a.size:Int)<=3000
 ·by_cases h1:n<=20
  ·have m:Hid (Ft a xs=G5 xs n):=(by have e:=Zh a xs h0 (by rw[u.out];exact h1);rw[u.out]at e;exact e);simp only[u.out];go_enter Tryz.func24,Tryz.ntmps24;go_wp2;go_loopw [3] (fun t wr => ∃ i:Nat,i<=n/\t = .int .i64 (i:Int)/\G5 xs i=true/\Below (w.heap.size+1) (w.alloc (.cells #[.string a,.slice p n A] 53)) wr) (fun t _=>n - (intOf t).toNat);case atStart=>exact⟨0,by omega,rfl,rfl,Below.refl _ _⟩
   case round =>
    obtain⟨i,J,rfl,f,r⟩:=hrel;have h:Below w.heap.size w wr:=((Below.refl _ w).alloc (Nat.le_refl _) _).trans (r.mono (by omega));have R:=h.size;have P:wr.cell? ⟨w.heap.size,1,none⟩=some (.slice p n A):=(Kc r).2;by_cases hlt:i < n
    ·have l:i < xs.length:=(by rw[u.out];exact hlt);obtain⟨g,o,rfl,G,b⟩:=x.out i l;have M:wr.cell? ⟨g,o+i,none⟩=some (.string xs[i]):=(by rw[h.cell (p:=⟨g,o+i,none⟩) G,b]);have s:=hx xs[i] (List.getElem_mem l);cases hnm:Dc xs[i] with
     | false =>
      have q:Hid (Ft a xs=false):=(by rw[Hid,m.out];exact Mv xs i n hlt (Qb l hnm));have z:Hid (Dc xs[i]=false):=hnm;generalize xs[i]=xi at *;clear b x hnm f m;go_wp2_with fail;go_quiet (first|(go_at_call 53;refine Dx (Gn _ false z s _)));go_wp2;go_ret;exact⟨Bu q.out.symm,Al _ h⟩
     | true =>
      have z:Hid (Dc xs[i]=true):=hnm;by_cases hi0:i=0
      ·subst hi0;have q:Hid (G5 xs (0+1)=true):=(by rw[Hid,G5,f,Qc l hnm];rfl);generalize xs[0]=xi at *;clear b x hnm f m;rw[Nat.add_zero]at M;go_wp2_with fail;go_quiet (first|(go_at_call 53;refine Dx (Gn _ true z s _)));go_wp2;go_roundw;case rel=>exact⟨0+1,by omega,by go_num,q.out,Al _ r⟩
       case measure=>simp[intOf];omega
      ·obtain⟨k,j⟩:∃ k,i=k+1:=⟨i - 1,by omega⟩;have D:k < xs.length:=(by omega);have L:k < n:=(by omega);have K:IntKind.i64.wrap ((i:Int) - 1)=(k:Int):=(by rw[wrap_small _ (by omega) (by omega)];omega);have H:decide (0 < i)=true:=(by simpa using (by omega:0 < i));have E:0 < i:=(by omega);have O:IntKind.i64.wrap (k:Int)=(k:Int):=wrap_small _ (by omega) (by omega);have y:Hid (i=k+1):=j;clear j;obtain⟨Q,S,I,_,c⟩:=x.out k D;cases I
       have N:wr.cell? ⟨g,o+k,none⟩=some (.string xs[k]):=(by rw[h.cell (p:=⟨g,o+k,none⟩) G,c]);cases hL:Op.bytesLess xs[k].toList xs[i].toList with
       | true =>
        have q:Hid (G5 xs (i+1)=true):=(by have j:=y.out;subst j;rw[Hid,G5,f,Ka l hnm,hL];rfl);generalize xs[i]=xi at *;generalize xs[k]=xk at *;have B:Hid ((Op.bytesLess xi.toList xk.toList || xi.toList == xk.toList)=false):=(by rw[Hid,Iq,hL];rfl);clear b c x hnm f m;go_wp2_with fail;go_quiet (first|(go_at_call 53;refine Dx (Gn _ true z s _)));go_wp2;go_roundw;case rel=>exact⟨i+1,by omega,by go_num,q.out,Al _ r⟩
        case measure=>simp[intOf];omega
       | false =>
        have q:Hid (Ft a xs=false):=(by rw[Hid,m.out];have j:=y.out;subst j;exact Mv xs (k+1) n hlt (by rw[Ka l hnm,hL]));generalize xs[i]=xi at *;generalize xs[k]=xk at *;have B:Hid ((Op.bytesLess xi.toList xk.toList || xi.toList == xk.toList)=true):=(by rw[Hid,Iq,hL];rfl);clear b c x hnm f m;go_wp2_with fail;go_quiet (first|(go_at_call 53;refine Dx (Gn _ true z s _)));go_wp2;go_ret;exact⟨Bu q.out.symm,Al _ h⟩
    ·have C:i=n:=(by omega);subst C;have q:Hid (Ft a xs=true):=(by rw[Hid,m.out];exact f);clear x f m;go_wp2;go_ret;exact⟨Bu q.out.symm,h⟩
  ·have m:Hid (Ft a xs=false):=R9 a xs (by rw[u.out];exact h1);simp only[u.out];go_enter Tryz.func24,Tryz.ntmps24;go_wp2;go_ret;exact⟨Bu m.out.symm,(Below.refl _ w).alloc (Nat.le_refl _) _⟩
 ·have m:Hid (Ft a xs=false):=R8 a xs h0;simp only[u.out];go_enter Tryz.func24,Tryz.ntmps24;go_wp2;go_ret;exact⟨Bu m.out.symm,(Below.refl _ w).alloc (Nat.le_refl _) _⟩
theorem Zg (a:ByteArray) (xs:List ByteArray) (v:Value) (w:World) (ha:a.size<=1048576) (hn:xs.length<=1048576) (hx:∀ d ∈ xs,d.size<=1048576) (hN:Ep w v xs) :
  Calls Tryz.prog 65 #[.agg #[.string a,v]] w fun e w'=>e = .returned (.bool (Ft a xs))/\Below w.heap.size w w':=by
 obtain⟨p,C,rfl,J⟩:=hN;obtain⟨n,u⟩:∃ n,Hid (xs.length=n):=⟨_,(rfl:xs.length=_)⟩;have x:Hid (∀ i (N:i < xs.length),∃ g o,p=some ⟨g,o,none⟩/\g < w.heap.size/\w.cell? ⟨g,o+i,none⟩=some (.string xs[i])):=J;clear J;rw[u.out]at hn;by_cases h0:(a.size:Int)<=3000
 ·by_cases h1:n<=20
  ·have m:Hid (Ft a xs=G5 xs n):=(by have e:=Zh a xs h0 (by rw[u.out];exact h1);rw[u.out]at e;exact e);simp only[u.out];go_enter Tryz.func65,Tryz.ntmps65;go_wp2;go_loopw [18] (fun t wr => ∃ i:Nat,i<=n/\t = .int .i64 (i:Int)/\G5 xs i=true/\Below (w.heap.size+1) (w.alloc (.cells #[.string a,.slice p n C] 53)) wr) (fun t _=>n - (intOf t).toNat);case atStart=>exact⟨0,by omega,rfl,rfl,Below.refl _ _⟩
   case round =>
    obtain⟨i,N,rfl,f,r⟩:=hrel;have h:Below w.heap.size w wr:=((Below.refl _ w).alloc (Nat.le_refl _) _).trans (r.mono (by omega));have V:=h.size;have T:wr.cell? ⟨w.heap.size,1,none⟩=some (.slice p n C):=(Kc r).2;by_cases hlt:i < n
    ·have l:i < xs.length:=(by rw[u.out];exact hlt);obtain⟨g,o,rfl,K,b⟩:=x.out i l;have Q:wr.cell? ⟨g,o+i,none⟩=some (.string xs[i]):=(by rw[h.cell (p:=⟨g,o+i,none⟩) K,b]);have s:=hx xs[i] (List.getElem_mem l);cases hnm:Dc xs[i] with
     | false =>
      have q:Hid (Ft a xs=false):=(by rw[Hid,m.out];exact Mv xs i n hlt (Qb l hnm));have B:Hid (Dc xs[i]=false):=hnm;generalize xs[i]=xi at *;clear b x hnm f m;go_wp2_with (go_at_call 90;refine(Hx _ false B s _).mono ?_;rintro e I ⟨rfl,rfl⟩);go_wp2;go_ret;exact⟨Bu q.out.symm,h⟩
     | true =>
      have B:Hid (Dc xs[i]=true):=hnm;by_cases hi0:i=0
      ·subst hi0;have q:Hid (G5 xs (0+1)=true):=(by rw[Hid,G5,f,Qc l hnm];rfl);generalize xs[0]=xi at *;clear b x hnm f m;rw[Nat.add_zero]at Q;go_wp2_with (go_at_call 90;refine(Hx _ true B s _).mono ?_;rintro e I ⟨rfl,rfl⟩);go_wp2;go_roundw;case rel=>exact⟨0+1,by omega,by go_num,q.out,r⟩
       case measure=>simp[intOf];omega
      ·obtain⟨k,j⟩:∃ k,i=k+1:=⟨i - 1,by omega⟩;have G:k < xs.length:=(by omega);have P:k < n:=(by omega);have O:(i:Int) - 1=(k:Int):=(by omega);have L:decide (0 < i)=true:=(by simpa using (by omega:0 < i));have H:0 < i:=(by omega);have S:IntKind.i64.wrap (k:Int)=(k:Int):=wrap_small _ (by omega) (by omega);have A:Hid (i=k+1):=j;clear j;obtain⟨U,W,M,_,c⟩:=x.out k G;cases M
       have R:wr.cell? ⟨g,o+k,none⟩=some (.string xs[k]):=(by rw[h.cell (p:=⟨g,o+k,none⟩) K,c]);cases hL:Op.bytesLess xs[k].toList xs[i].toList with
       | true =>
        have q:Hid (G5 xs (i+1)=true):=(by have j:=A.out;subst j;rw[Hid,G5,f,Ka l hnm,hL];rfl);generalize xs[i]=xi at *;generalize xs[k]=xk at *;have y:Hid ((Op.bytesLess xi.toList xk.toList || xi.toList == xk.toList)=false):=(by rw[Hid,Iq,hL];rfl);clear b c x hnm f m;obtain⟨D,E⟩:=Bool.or_eq_false_iff.1 y.out;go_wp2_with (go_at_call 90;refine(Hx _ true B s _).mono ?_;rintro e I ⟨rfl,rfl⟩);go_wp2;go_roundw;case rel=>exact⟨i+1,by omega,by go_num,q.out,r⟩
        case measure=>simp[intOf];omega
       | false =>
        have q:Hid (Ft a xs=false):=(by rw[Hid,m.out];have j:=A.out;subst j;exact Mv xs (k+1) n hlt (by rw[Ka l hnm,hL]));generalize xs[i]=xi at *;generalize xs[k]=xk at *;have y:Hid ((Op.bytesLess xi.toList xk.toList || xi.toList == xk.toList)=true):=(by rw[Hid,Iq,hL];rfl);clear b c x hnm f m;have z:=y.out;cases D:Op.bytesLess xi.toList xk.toList <;> cases E:(xi.toList == xk.toList)
        all_goals try (exfalso;rw[D,E]at z;exact absurd z (by decide))
        all_goals try clear z
        all_goals
         go_wp2_with (go_at_call 90;refine(Hx _ true B s _).mono ?_;rintro e I ⟨rfl,rfl⟩);go_wp2;go_ret;exact⟨Bu q.out.symm,h⟩
    ·have F:i=n:=(by omega);subst F;have q:Hid (Ft a xs=true):=(by rw[Hid,m.out];exact f);clear x f m;go_wp2;go_ret;exact⟨Bu q.out.symm,h⟩
  ·have m:Hid (Ft a xs=false):=R9 a xs (by rw[u.out];exact h1);simp only[u.out];go_enter Tryz.func65,Tryz.ntmps65;go_wp2;go_ret;exact⟨Bu m.out.symm,(Below.refl _ w).alloc (Nat.le_refl _) _⟩
 ·have m:Hid (Ft a xs=false):=R8 a xs h0;simp only[u.out];go_enter Tryz.func65,Tryz.ntmps65;go_wp2;go_ret;exact⟨Bu m.out.symm,(Below.refl _ w).alloc (Nat.le_refl _) _⟩
structure Du where
 name:ByteArray
 text:ByteArray
def Qa9 (f:Du):List Value:=[.string f.name,.string f.text]
def H5 (fs:List Du):List Value:=fs.flatMap Qa9
theorem S8 (fs:List Du):(H5 fs).length=fs.length * 2:=by
 induction fs with
 | nil=>rfl
 | cons a r ih=>unfold H5 at ih |-;rw[List.flatMap_cons,List.length_append,ih];simp only[Qa9,List.length_cons,List.length_nil];omega
theorem Ov (fs:List Du) (i:Nat) (hi:i < fs.length):(H5 fs)[i * 2]? = some (.string fs[i].name)/\(H5 fs)[i * 2+1]? = some (.string fs[i].text):=by
 induction fs generalizing i with
 | nil=>simp at hi
 | cons a r ih =>
  cases i with
  | zero=>exact⟨rfl,rfl⟩
  | succ k =>
   have d:k < r.length:=(by simpa using hi);obtain⟨b,c⟩:=ih k d;have e:H5 (a::r) = .string a.name :: .string a.text::H5 r:=rfl;rw[e,(by omega:(k+1) * 2=k * 2+1+1)];simp only[List.getElem?_cons_succ,List.getElem_cons_succ];exact⟨b,c⟩
def Hg (w:World) (v:Value) (fs:List Du):Prop :=
 ∃ a cap,v = .slice a fs.length cap/\∀ i (hi:i < fs.length),∃ g o,a=some ⟨g,o,none⟩/\g < w.heap.size/\w.cell? ⟨g,o+i * 2,none⟩=some (.string fs[i].name)/\w.cell? ⟨g,o+i * 2+1,none⟩=some (.string fs[i].text)
theorem Hg.below {w w':World} {v:Value} {fs:List Du} (h:Hg w v fs) (hb:Below w.heap.size w w'):Hg w' v fs:=by
 obtain⟨a,b,rfl,k⟩:=h;refine⟨a,b,rfl,fun i hi => ?_⟩;obtain⟨g,o,j,c,d,f⟩:=k i hi;exact⟨g,o,j,Nat.lt_of_lt_of_le c hb.size,by rw[hb.cell (p:=⟨g,o+i * 2,none⟩) c];exact d,by rw[hb.cell (p:=⟨g,o+i * 2+1,none⟩) c];exact f⟩
theorem Nj {a b:Int} (h:a=b):(Ending.returned (.int .i64 a):Ending) = .returned (.int .i64 b):=by rw[h]
def Jl (f:Du) (l:Int):Int:=if l - (f.name.size:Int) < 0 then -1 else if l - (f.name.size:Int) - (f.text.size:Int) < 0 then -1 else l - (f.name.size:Int) - (f.text.size:Int)
def I4 : List Du->Int->Int
 | [],l=>l
 | d::r,l=>if Jl d l < 0 then -1 else I4 r (Jl d l)
def Q2 (fs:List Du) (l:Int):Int:=if l - (fs.length:Int) < 0 then -1 else I4 fs (l - (fs.length:Int))
theorem Ux (f:Du) (l:Int) : -1<=Jl f l/\(0<=Jl f l->Jl f l<=l/\(f.name.size:Int)<=l/\(f.text.size:Int)<=l):=by
 unfold Jl;split
 ·omega
 ·split <;> omega
theorem Uy : ∀ (fs:List Du) (l:Int),0<=l -> -1<=I4 fs l/\I4 fs l<=l/\(0<=I4 fs l->∀ d ∈ fs,(d.name.size:Int)<=l/\(d.text.size:Int)<=l)
 | [],l,h=>by rw[I4];exact⟨by omega,by omega,fun _ d hd=>by simp at hd⟩
 | d::r,l,h=>by
  obtain⟨m,i⟩:=Ux d l
  rw[I4]
  split
  ·exact⟨by omega,by omega,fun h=>by omega⟩
  ·rename_i hn
   obtain⟨j,b,c⟩:=i (by omega)
   obtain⟨f,k,g⟩:=Uy r (Jl d l) (by omega)
   refine⟨f,by omega,fun hp x a => ?_⟩
   rcases List.mem_cons.1 a with rfl|a
   ·exact⟨b,c⟩
   ·obtain⟨n,o⟩:=g hp x a;exact⟨by omega,by omega⟩
theorem Qcn (fs:List Du) (l:Int) (h:0<=l) : -1<=Q2 fs l/\Q2 fs l<=l/\(0<=Q2 fs l->(fs.length:Int)<=l/\∀ d ∈ fs,(d.name.size:Int)<=l/\(d.text.size:Int)<=l):=by
 unfold Q2;split
 ·exact⟨by omega,by omega,fun h=>by omega⟩
 ·obtain⟨a,c,b⟩:=Uy fs (l - (fs.length:Int)) (by omega);exact⟨a,by omega,fun hp=>⟨by omega,fun d hd=>by obtain⟨f,g⟩:=b hp d hd;exact⟨by omega,by omega⟩⟩⟩
theorem M0 (a b:ByteArray) (l:Int) (ha:a.size<=9223372036854775807) (hb:b.size<=9223372036854775807) (h0:0<=l) (h1:l<=1048576) (w:World) :
  Calls Tryz.prog 52 #[.agg #[.string a,.string b],.int .i64 l] w fun e w'=>e = .returned (.int .i64 (Jl ⟨a,b⟩ l))/\Below w.heap.size w w':=by
 unfold Jl;simp only;by_cases h:l - (a.size:Int) < 0
 ·rw[if_pos h];go_enter Tryz.func52,Tryz.ntmps52;go_wp2;go_ret;exact⟨rfl,(Below.refl _ w).alloc (Nat.le_refl _) _⟩
 ·rw[if_neg h];by_cases h2:l - (a.size:Int) - (b.size:Int) < 0
  ·rw[if_pos h2];go_enter Tryz.func52,Tryz.ntmps52;go_wp2;go_ret;exact⟨rfl,(Below.refl _ w).alloc (Nat.le_refl _) _⟩
  ·rw[if_neg h2];go_enter Tryz.func52,Tryz.ntmps52;go_wp2;go_ret;exact⟨rfl,(Below.refl _ w).alloc (Nat.le_refl _) _⟩
theorem Q3 (fs:List Du) (v:Value) (l:Int) (h0:0<=l) (h1:l<=1048576) (hn:fs.length<=9223372036854775807) (hx:∀ d ∈ fs,d.name.size<=9223372036854775807/\d.text.size<=9223372036854775807) (w:World) (hN:Hg w v fs) :
  Calls Tryz.prog 19 #[v,.int .i64 l] w fun e w'=>e = .returned (.int .i64 (Q2 fs l))/\Below w.heap.size w w':=by
 obtain⟨a,L,rfl,I⟩:=hN;obtain⟨x,G⟩:∃ q,Hid (Q2 fs l=q):=⟨_,(rfl:Q2 fs l=_)⟩;have j:Hid ((if l - (fs.length:Int) < 0 then -1 else I4 fs (l - (fs.length:Int)))=x):=G;rw[G.out];clear G;obtain⟨n,C⟩:∃ n,Hid (fs.length=n):=⟨_,(rfl:fs.length=_)⟩;have F:Hid (∀ i (P:i < fs.length),∃ g o,a=some ⟨g,o,none⟩/\g < w.heap.size/\w.cell? ⟨g,o+i * 2,none⟩=some (.string fs[i].name)/\w.cell? ⟨g,o+i * 2+1,none⟩=some (.string fs[i].text)):=I;clear I;rw[C.out]at hn j;simp only[C.out];by_cases hl:l - (n:Int) < 0
 ·have y:Hid (x = -1):=by have h:=j.out;rw[if_pos hl]at h;exact h.symm
  clear j;go_enter Tryz.func19,Tryz.ntmps19;go_wp2;go_ret;exact⟨Nj y.out.symm,Below.refl _ _⟩
 ·have y:Hid (I4 fs (l - (n:Int))=x):=by have h:=j.out;rw[if_neg hl]at h;exact h
  clear j;go_enter Tryz.func19,Tryz.ntmps19;go_wp2;go_loopw [1,5] (fun tl tv wr => ∃ (i:Nat) (q:Int),i<=n/\tv = .int .i64 (i:Int)/\tl = .int .i64 q/\0<=q/\q<=1048576/\I4 (fs.drop i) q=x/\Below w.heap.size w wr) (fun _ tv _=>n - (intOf tv).toNat);case atStart=>exact⟨0,l - (n:Int),by omega,rfl,rfl,by omega,by omega,y.out,Below.refl _ _⟩
  case round =>
   obtain⟨i,q,P,rfl,rfl,A,B,m,f⟩:=hrel;have K:=f.size;by_cases hlt:i < n
   ·have r:i < fs.length:=(by rw[C.out];exact hlt);obtain⟨g,o,rfl,J,k,c⟩:=F.out i r;rw[List.drop_eq_getElem_cons r,I4]at m;obtain⟨t,u⟩:=hx fs[i] (List.getElem_mem r);have b:=(Ux fs[i] q);have M:wr.cell? ⟨g,o+i * 2,none⟩=some (.string fs[i].name):=(by rw[f.cell (p:=⟨g,o+i * 2,none⟩) J,k]);have N:wr.cell? ⟨g,o+i * 2+1,none⟩=some (.string fs[i].text):=(by rw[f.cell (p:=⟨g,o+i * 2+1,none⟩) J,c]);generalize fs[i]=d at *;obtain⟨D,E⟩:=d;simp only at M N t u;clear k c F y;obtain⟨s,H⟩:∃ s,Hid (Jl ⟨D,E⟩ q=s):=⟨_,(rfl:Jl ⟨D,E⟩ q=_)⟩;rw[H.out]at m b;obtain⟨O,b⟩:=b;by_cases hlq:s < 0
    ·have z:Hid (x = -1):=(by rw[if_pos hlq]at m;exact m.symm);clear m b;go_wp2_with (go_at_call 52;(refine(M0 D E q t u A B _).mono ?_;rintro e R ⟨rfl,b⟩;rw[H.out]));go_ret;exact⟨Nj z.out.symm,f.trans (b.mono K)⟩
    ·have z:Hid (I4 (fs.drop (i+1)) s=x):=(by rw[if_neg hlq]at m;exact m);obtain⟨Q,_,_⟩:=b (by omega);clear m b;go_wp2_with (go_at_call 52;(refine(M0 D E q t u A B _).mono ?_;rintro e R ⟨rfl,b⟩;rw[H.out]));go_roundw;case rel=>exact⟨i+1,s,by omega,by go_num,rfl,by omega,by omega,z.out,f.trans (b.mono K)⟩
     case measure=>simp[intOf];omega
   ·have z:Hid (x=q):=(by rw[List.drop_of_length_le (by rw[C.out];omega)]at m;exact m.symm);clear m F y;go_wp2;go_ret;exact⟨Nj z.out.symm,f⟩
theorem Vj (a b c d:ByteArray) (w:World) :
  Calls Tryz.prog 73 #[.agg #[.string a,.string b],.agg #[.string c,.string d]] w fun e w'=>e = .returned (.bool (decide (a=c) && decide (b=d)))/\Below w.heap.size w w':=by
 have f:∀ o1 o2:Obj,Below w.heap.size w ((w.alloc o1).alloc o2):=fun o1 o2=>((Below.refl _ w).alloc (Nat.le_refl _) o1).alloc (by simp) o2
 by_cases h1:a=c
 ·subst h1;by_cases h2:b=d
  ·subst h2;go_enter Tryz.func73,Tryz.ntmps73;go_wp2;all_goals go_ret
   all_goals exact⟨by simp,f _ _⟩
  ·have g:(b.toList == d.toList)=false:=by
    rw[beq_eq_false_iff_ne];intro h;apply h2;rw[ByteArray.toList_eq,ByteArray.toList_eq]at h;exact ByteArray.ext (Array.toList_inj.1 h)
   have i:(b.toList != d.toList)=true:=(by rw[bne,g];rfl);go_enter Tryz.func73,Tryz.ntmps73;go_wp2;all_goals go_ret
   all_goals exact⟨by simp[h2],f _ _⟩
 ·have g:(a.toList == c.toList)=false:=by
   rw[beq_eq_false_iff_ne];intro h;apply h1;rw[ByteArray.toList_eq,ByteArray.toList_eq]at h;exact ByteArray.ext (Array.toList_inj.1 h)
  have i:(a.toList != c.toList)=true:=by rw[bne,g];rfl
  go_enter Tryz.func73,Tryz.ntmps73;go_wp2;all_goals go_ret
  all_goals exact⟨by simp[h1],f _ _⟩
theorem Qk (fs:List Du) (va vb:Value) (w:World) (ha:Hg w va fs) (hb:Hg w vb fs) (hl:fs.length<=1048576) :
  Calls Tryz.prog 41 #[va,vb] w fun e w'=>e = .returned (.bool true)/\Below w.heap.size w w':=by
 obtain⟨a,N,rfl,J⟩:=ha;obtain⟨b,O,rfl,K⟩:=hb;obtain⟨n,E⟩:∃ n,Hid (fs.length=n):=⟨_,(rfl:fs.length=_)⟩;have C:Hid (∀ i (L:i < fs.length),∃ g o,a=some ⟨g,o,none⟩/\g < w.heap.size/\w.cell? ⟨g,o+i * 2,none⟩=some (.string fs[i].name)/\w.cell? ⟨g,o+i * 2+1,none⟩=some (.string fs[i].text)):=J;have D:Hid (∀ i (L:i < fs.length),∃ g o,b=some ⟨g,o,none⟩/\g < w.heap.size/\w.cell? ⟨g,o+i * 2,none⟩=some (.string fs[i].name)/\w.cell? ⟨g,o+i * 2+1,none⟩=some (.string fs[i].text)):=K;clear J K;rw[E.out]at hl;simp only[E.out];have P:((n:Int) != (n:Int))=false:=by simp
 go_enter Tryz.func41,Tryz.ntmps41;go_wp2;go_loopw [5] (fun t wr => ∃ i:Nat,i<=n/\t = .int .i64 (i:Int)/\Below w.heap.size w wr) (fun t _=>n - (intOf t).toNat);case atStart=>exact⟨0,by omega,rfl,Below.refl _ _⟩
 case round =>
  obtain⟨i,L,rfl,c⟩:=hrel;have Q:w.heap.size<=wr.heap.size:=c.size;by_cases hlt:i < n
  ·have x:i < fs.length:=(by rw[E.out];exact hlt);obtain⟨y,A,rfl,u,r,f⟩:=C.out i x;obtain⟨z,B,rfl,v,s,h⟩:=D.out i x;have G:wr.cell? ⟨y,A+i * 2,none⟩=some (.string fs[i].name):=(by rw[c.cell (p:=⟨y,A+i * 2,none⟩) u,r]);have l:wr.cell? ⟨y,A+i * 2+1,none⟩=some (.string fs[i].text):=(by rw[c.cell (p:=⟨y,A+i * 2+1,none⟩) u,f]);have H:wr.cell? ⟨z,B+i * 2,none⟩=some (.string fs[i].name):=(by rw[c.cell (p:=⟨z,B+i * 2,none⟩) v,s]);have m:wr.cell? ⟨z,B+i * 2+1,none⟩=some (.string fs[i].text):=(by rw[c.cell (p:=⟨z,B+i * 2+1,none⟩) v,h]);generalize fs[i]=d at *;obtain⟨j,k⟩:=d;simp only at G l H m;clear r s f h C D;have I:∀ w,Calls Tryz.prog 73 #[.agg #[.string j,.string k],.agg #[.string j,.string k]] w fun e w'=>e = .returned (.bool true)/\Below w.heap.size w w':=fun w=>by
    have:=Vj j k j k w;simpa using this
   have M:Hid (∀ w,Calls Tryz.prog 73 #[.agg #[.string j,.string k],.agg #[.string j,.string k]] w fun e w'=>e = .returned (.bool true)/\Below w.heap.size w w'):=I;clear I;go_wp2_with fail;go_region_with (go_at_call 73;refine(M.out _).mono ?_;rintro e R ⟨rfl,F⟩);all_goals
    have q:Below w.heap.size w R:=c.trans (by have:=F.mono (B':=w.heap.size) (by simpa using Q);exact⟨this.os,this.tape,this.output,this.size,this.block⟩);clear G l H m;go_wp2;go_roundw;case rel=>exact⟨i+1,by omega,by go_num,q⟩
    case measure=>simp[intOf];omega
  ·clear C D;go_wp2;go_ret;exact⟨rfl,c⟩
theorem Tb (a b:ByteArray) (w:World) :
  Calls Tryz.prog 60 #[.agg #[.string a,.string b]] w fun e w'=>e = .returned (.agg #[.string a,.string b])/\Below w.heap.size w w':=by
 go_enter Tryz.func60,Tryz.ntmps60;go_wp2;exact bodyPost_ret (v:=.agg #[.string a,.string b]) (by simp[results,Tryz.results60,go_sem]) rfl ⟨rfl,(((Below.refl _ w).alloc (Nat.le_refl _) _).alloc (by simp) _).alloc (by simp only[World.size_alloc];omega) _⟩
def Mt (c:Nat) (d:Du) (xs:List Value):List Value:=(xs.set c (.string d.name)).set (c+1) (.string d.text)
def Fg (fs:List Du):Nat->List Value->List Value
 | 0,xs=>xs
 | i+1,xs=>match fs[i]? with
  | some d=>Mt (i * 2) d (Fg fs i xs)
  | none=>Fg fs i xs
theorem Xo (c:Nat) (d:Du) (xs:List Value):(Mt c d xs).length=xs.length:=by simp[Mt]
theorem Mz (fs:List Du) (i:Nat) (xs:List Value):(Fg fs i xs).length=xs.length:=by
 induction i with
 | zero=>rfl
 | succ i ih =>
  rw[Fg];split
  ·rw[Xo,ih]
  ·exact ih
theorem Vk (fs:List Du) (n:Nat) (xs:List Value) (hn:n * 2<=xs.length) (hl:n<=fs.length) (i:Nat) (hi:i < n):(Fg fs n xs)[i * 2]? = some (.string (fs[i]'(by omega)).name)/\(Fg fs n xs)[i * 2+1]? = some (.string (fs[i]'(by omega)).text):=by
 induction n with
 | zero=>omega
 | succ n ih =>
  rw[Fg];have a:fs[n]? = some (fs[n]'(by omega)):=List.getElem?_eq_getElem (by omega);rw[a];simp only;have b:=Mz fs n xs;by_cases h:i=n
  ·subst h;unfold Mt;exact⟨by rw[List.getElem?_set_ne (by omega),List.getElem?_set_self (by omega)],by rw[List.getElem?_set_self (by rw[List.length_set];omega)]⟩
  ·obtain⟨c,d⟩:=ih (by omega) (by omega) (by omega);unfold Mt;exact⟨by rw[List.getElem?_set_ne (by omega),List.getElem?_set_ne (by omega)];exact c,by rw[List.getElem?_set_ne (by omega),List.getElem?_set_ne (by omega)];exact d⟩
theorem S9 (fs:List Du) (xs:List Value) (h:xs.length=fs.length * 2):Fg fs fs.length xs=H5 fs:=by
 apply List.ext_getElem?;intro j;by_cases hj:j < fs.length * 2
 ·have a:=Vk fs fs.length xs (by omega) (Nat.le_refl _) (j / 2) (by omega);have b:=Ov fs (j / 2) (by omega);rcases Nat.mod_two_eq_zero_or_one j with e|e
  ·have c:j / 2 * 2=j:=(by omega);rw[c]at a b;rw[a.1,b.1]
  ·have c:j / 2 * 2+1=j:=(by omega);rw[c]at a b;rw[a.2,b.2]
 ·rw[List.getElem?_eq_none (by rw[Mz];omega),List.getElem?_eq_none (by rw[S8];omega)]
theorem Tryz.infoFile : (Tryz.prog.info? 55).map (fun i=>(i.zero,i.size,i.bytes))=some (some (.agg #[.string ByteArray.empty,.string ByteArray.empty]),2,32):=by kernel_rfl
theorem Pg {w:World} {B e size n g cap:Nat} {xs:List Value} (h:w.ownsRow B e size (.slice (some ⟨g,0,none⟩) n cap) n xs) (j:Nat) (hj:j < n * size):∃ y,w.cell? ⟨g,j,none⟩=some y:=by
 rw[h.cellAt j hj];exact⟨_,List.getElem?_eq_getElem (by rw[h.1];exact hj)⟩
theorem Vl {W W':World} {B e size n:Nat} {v:Value} {xs:List Value} (h:W.ownsRow B e size v n xs) (hb:Below W.heap.size W W'):W'.ownsRow B e size v n xs:=by
 refine⟨h.1, ?_⟩;rcases h.2 with f|⟨g,b,c,i,d,a,rest⟩
 ·exact .inl f
 ·exact .inr ⟨g,b,c,i,d,by rw[hb.block g (Array.getElem?_eq_some_iff.1 a).1];exact a,rest⟩
theorem Q4 (fs:List Du) (v:Value) (w:World) (hN:Hg w v fs) (hl:fs.length<=1048576) :
  Calls Tryz.prog 31 #[v] w fun e w' => ∃ v',e = .returned v'/\w'.ownsRow w.heap.size 55 2 v' fs.length (H5 fs)/\Below w.heap.size w w':=by
 obtain⟨P,C,G,H,I⟩:=info_parts Tryz.infoFile;obtain⟨a,M,rfl,J⟩:=hN;obtain⟨n,r⟩:∃ n,Hid (fs.length=n):=⟨_,(rfl:fs.length=_)⟩;have y:Hid (∀ i (N:i < fs.length),∃ g o,a=some ⟨g,o,none⟩/\g < w.heap.size/\w.cell? ⟨g,o+i * 2,none⟩=some (.string fs[i].name)/\w.cell? ⟨g,o+i * 2+1,none⟩=some (.string fs[i].text)):=J;clear J;rw[r.out]at hl;simp only[r.out];go_enter Tryz.func31,Tryz.ntmps31;go_wp2_with (at_make;(refine wpList_make_full _ rfl _ _ 32 rfl w.heap.size 55 P (.agg #[.string ByteArray.empty,.string ByteArray.empty]) 2 Tryz.underlying32 C G H .i64 .i64 _ _ n rfl rfl rfl rfl (by rw[I];omega) (by unfold maxLen;omega) (Nat.le_refl _) ?_;intro Q c m));have A:Below w.heap.size w Q:=Below.grown (Below.refl _ w) m (Nat.le_refl _) (fun k h=>by cases h);obtain⟨q,L⟩:∃ q,Hid ((madeCells (Value.agg #[.string ByteArray.empty,.string ByteArray.empty]).cells (n * 2)).toList=q):=⟨_,(rfl:_=_)⟩;rw[L.out]at c;have F:=c.1;go_loopw [4] (fun t wr => ∃ i:Nat,i<=n/\t = .int .i64 (i:Int)/\wr.ownsRow w.heap.size 55 2 (.slice (some ⟨w.heap.size,0,none⟩) n n) n (Fg fs i q)/\Below w.heap.size w wr) (fun t _=>n - (intOf t).toNat);case atStart=>exact⟨0,by omega,rfl,c,A⟩
 case round =>
  obtain⟨i,N,rfl,E,j⟩:=hrel;have O:=j.size;by_cases hlt:i < n
  ·have u:i < fs.length:=(by rw[r.out];exact hlt);obtain⟨g,o,rfl,K,l,f⟩:=y.out i u;have T:wr.cell? ⟨g,o+i * 2,none⟩=some (.string fs[i].name):=(by rw[j.cell (p:=⟨g,o+i * 2,none⟩) K,l]);have U:wr.cell? ⟨g,o+i * 2+1,none⟩=some (.string fs[i].text):=(by rw[j.cell (p:=⟨g,o+i * 2+1,none⟩) K,f]);have z:Hid (Fg fs (i+1) q=Mt (i * 2) fs[i] (Fg fs i q)):=(by rw[Hid,Fg,List.getElem?_eq_getElem u]);generalize fs[i]=d at *;clear l f y;go_wp2_with (go_at_call 60;(refine(Tb _ _ _).mono ?_;rintro e X ⟨rfl,s⟩;have b:=Vl E s;obtain⟨Y,R⟩:=Pg b (i * 2) (by omega);obtain⟨Z,S⟩:=Pg b (i * 2+1) (by omega);have V:=b.frozenAt (i * 2);have W:=b.frozenAt (i * 2+1)));have x:=((b.stored (i * 2) (.string d.name)).1.stored (i * 2+1) (.string d.text)).1;have B:=(((j.trans (s.mono O)).setCell (p:=⟨w.heap.size,i * 2,none⟩) (Nat.le_refl _) (.string d.name)).setCell (p:=⟨w.heap.size,i * 2+1,none⟩) (Nat.le_refl _) (.string d.text));go_roundw;case rel=>exact⟨i+1,by omega,by go_num,by rw[z.out];exact x,B⟩
   case measure=>simp[intOf];omega
  ·have D:i=n:=(by omega);subst D;have z:Hid (Fg fs i q=H5 fs):=by
    have:=S9 fs q (by rw[r.out];exact F);rw[r.out]at this;exact this
   rw[z.out]at E;clear y;go_wp2;go_ret;exact⟨_,rfl,E,j⟩
end Go.Proofs.YtahibkjkpmdhgaaGreatDoor
