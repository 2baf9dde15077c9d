import Derived.Test.YtahibkjkpmdhgaaGreatDoorKTk
import Derived.Test.YtahibkjkpmdhgaaGreatDoorKValC
import Derived.OwnWalk
import Derived.Maps.AppendAt
import Derived.Deep.Onto
import Derived.Deep.RegionHeld3
import Derived.ProofKit
import Derived.Laws.Cover1
import Derived.Deep.RegionWith
set_option maxRecDepth 100000
set_option maxHeartbeats 2000000
namespace Go.Proofs.YtahibkjkpmdhgaaGreatDoor
open Go.RowKit
def En (d:Ea):List Value:=[.int .i64 d.type,.int .i64 d.n,.string d.text]
def D9 (l:List Ea):List Value:=l.flatMap En
theorem Vr (ts:List Ea):(D9 ts).length=ts.length * 3:=by
 induction ts with
 | nil=>rfl
 | cons t r ih=>simp[D9,En]at ih |-;omega
theorem Vp (ts:List Ea) (i:Nat) (h:i < ts.length) (j:Nat) (hj:j < 3):(D9 ts)[i * 3+j]? = (En ts[i])[j]?:=by
 induction ts generalizing i with
 | nil=>simp at h
 | cons t r ih =>
  cases i with
  | zero =>
   simp only[D9,List.flatMap_cons,Nat.zero_mul,Nat.zero_add];rw[List.getElem?_append_left (by simp[En];omega)];rfl
  | succ i =>
   simp only[D9,List.flatMap_cons];rw[List.getElem?_append_right (by simp[En];omega)];have e:(i+1) * 3+j - (En t).length=i * 3+j:=(by simp[En];omega);rw[e];exact ih i (by simpa using h)
def D6 (w:World) (v:Value) (ns:List Ea):Prop :=
 ∃ a cap,v = .slice a ns.length cap/\∀ i (hi:i < ns.length),∃ g,a=some (OI g 0)/\g < w.heap.size/\∀ j,j < 3->w.cell? (OI g (i * 3+j))=(En ns[i])[j]?
theorem H0 {w:World} {B:Nat} {v:Value} {ns:List Ea} {e:TypeId} (h:w.ownsRow B e 3 v ns.length (D9 ns)):D6 w v ns:=by
 rcases h.2 with⟨rfl,d⟩|⟨g,b,c,rfl,f,a,_⟩
 ·exact⟨none,0,by rw[d],fun i hi=>Ou⟩
 ·refine⟨_,_,rfl,fun i hi=>⟨g,rfl,(Array.getElem?_eq_some_iff.1 a).1,fun j hj => ?_⟩⟩;rw[h.cellAt (i * 3+j) Ou,Vp ns i hi j hj]
theorem Cj {w w':World} {v:Value} {ns:List Ea} (h:D6 w v ns) (hb:OH w w'):D6 w' v ns:=by
 obtain⟨a,c,rfl,k⟩:=h;refine⟨a,c,rfl,fun i hi => ?_⟩;obtain⟨g,f,d,b⟩:=k i hi;refine⟨g,f,Nat.lt_of_lt_of_le d hb.size,fun j hj => ?_⟩;rw[hb.cell (p:=(OI g (i * 3+j))) d];exact b j hj
def Ft (w:World) (v:Value) (ns:List Ea):Prop :=
 ∃ a cap,v = .slice a ns.length cap/\∀ i (hi:i < ns.length),∃ g o,a=some (OI g o)/\g < w.heap.size/\∀ j,j < 3->w.cell? (OI g (o+i * 3+j))=(En ns[i])[j]?
theorem Db {w w':World} {v:Value} {ns:List Ea} (h:Ft w v ns) (hb:OH w w'):Ft w' v ns:=by
 obtain⟨a,c,rfl,k⟩:=h;refine⟨a,c,rfl,fun i hi => ?_⟩;obtain⟨g,o,f,d,b⟩:=k i hi;refine⟨g,o,f,Nat.lt_of_lt_of_le d hb.size,fun j hj => ?_⟩;rw[hb.cell (p:=(OI g (o+i * 3+j))) d];exact b j hj
def Hn : List Ea->Int->Int
 | [],l=>l
 | d::r,l=>if l - (d.text.size:Int) < 0 then -1 else Hn r (l - (d.text.size:Int))
theorem Jp {w:World} {B e size n:Nat} {v:Value} {xs:List Value} (h:w.ownsRow B e size v n xs):∃ a b,v = .slice a n b:=by
 rcases h.2 with⟨rfl,d⟩|⟨g,b,c,rfl,_⟩
 ·exact⟨none,0,by rw[d]⟩
 ·exact⟨_,_,rfl⟩
theorem Kf {W W':World} {B e size n:Nat} {v:Value} {xs:List Value} (h:W.ownsRow B e size v n xs) (hb:OH W W'):W'.ownsRow B e size v n xs:=by
 refine⟨h.1, ?_⟩;rcases h.2 with f|⟨g,b,c,i,d,a,rest⟩
 ·exact .inl f
 ·exact .inr ⟨g,b,c,i,d,by rw[hb.block g (Array.getElem?_eq_some_iff.1 a).1];exact a,rest⟩
theorem Rh (ns:List Ea) (v:Value) (l:Int) (h0:0<=l) (h1:l<=1048576) (hn:ns.length<=9223372036854775807) (hx:∀ d ∈ ns,d.text.size<=9223372036854775807) (w:World) (hN:Ft w v ns) :
  Calls Tryz.prog 82 #[v,.int .i64 l] w fun e w'=>e = .returned (.int .i64 (if l - (ns.length:Int) < 0 then -1 else Hn ns (l - (ns.length:Int))))/\OH w w':=by
 obtain⟨a,D,rfl,B⟩:=hN;obtain⟨n,x⟩:∃ n,Hid (ns.length=n):=⟨_,(rfl:ns.length=_)⟩;have z:Hid (∀ i (I:i < ns.length),∃ g o,a=some (OI g o)/\g < w.heap.size/\∀ j,j < 3->w.cell? (OI g (o+i * 3+j))=(En ns[i])[j]?):=B;clear B;rw[x.out]at hn;simp only[x.out];by_cases hl:l - (n:Int) < 0
 ·rw[if_pos hl];go_enter Tryz.func82,Tryz.ntmps82;go_wp2;go_ret;exact⟨rfl,Below.refl _ _⟩
 ·rw[if_neg hl];go_enter Tryz.func82,Tryz.ntmps82;go_wp2;go_loopw [1,5] (fun tl tv wr => ∃ (i:Nat) (q:Int),i<=n/\tv = .int .i64 (i:Int)/\tl = .int .i64 q/\0<=q/\q<=1048576/\Hn (ns.drop i) q=Hn ns (l - (n:Int))/\OH w wr) (fun _ tv _=>n - (intOf tv).toNat);case atStart=>exact⟨0,l - (n:Int),by omega,rfl,rfl,by omega,by omega,rfl,Below.refl _ _⟩
  case round =>
   obtain⟨i,q,I,rfl,rfl,s,t,f,b⟩:=hrel;have C:=b.size;by_cases hlt:i < n
   ·have k:i < ns.length:=(by rw[x.out];exact hlt);obtain⟨g,o,rfl,H,c⟩:=z.out i k;rw[List.drop_eq_getElem_cons k,Hn]at f;have u:=hx ns[i] (List.getElem_mem k);have y:∀ m,m < 3->wr.cell? (OI g (o+i * 3+m))=(En ns[i])[m]?:=fun m hm=>by rw[b.cell (p:=(OI g (o+i * 3+m))) H,c m hm]
    generalize ns[i]=d at *;have E:=y 0 Ou;have F:=y 1 Ou;have G:=y 2 Ou;simp only[En,Nat.add_zero,List.getElem?_cons_zero,List.getElem?_cons_succ]at E F G;clear y c z;obtain⟨K,L,A⟩:=d;simp only at *;by_cases hlq:q - (A.size:Int) < 0
    ·have r:Hid (Hn ns (l - (n:Int)) = -1):=(by rw[if_pos hlq]at f;exact f.symm);clear f;go_wp2_with (go_at_call 109;(refine(Ng _ _ _ _ u s t _).mono ?_;rintro e J ⟨rfl,h⟩;rw[Qae,if_pos hlq]));go_ret;exact⟨Gg r.out.symm,b.trans (h.mono C)⟩
    ·have r:Hid (Hn (ns.drop (i+1)) (q - (A.size:Int))=Hn ns (l - (n:Int))):=(by rw[if_neg hlq]at f;exact f);clear f;go_wp2_with (go_at_call 109;(refine(Ng _ _ _ _ u s t _).mono ?_;rintro e J ⟨rfl,h⟩;rw[Qae,if_neg hlq]));go_roundw;case rel=>exact⟨i+1,q - (A.size:Int),by omega,by go_num,rfl,by omega,by omega,r.out,b.trans (h.mono C)⟩
     case measure=>simp[intOf];omega
   ·have r:Hid (Hn ns (l - (n:Int))=q):=(by rw[List.drop_of_length_le (by rw[x.out];omega)]at f;exact f.symm);clear f z;go_wp2;go_ret;exact⟨Gg r.out.symm,b⟩
theorem Lm (ns:List Ea) (va vb:Value) (w:World) (ha:D6 w va ns) (hb:D6 w vb ns) (hl:ns.length<=1048576) :
  Calls Tryz.prog 102 #[va,vb] w fun e w'=>e = .returned (.bool true)/\OH w w':=by
 obtain⟨a,K,rfl,H⟩:=ha;obtain⟨b,L,rfl,I⟩:=hb;obtain⟨n,u⟩:∃ n,Hid (ns.length=n):=⟨_,(rfl:ns.length=_)⟩;have r:Hid (∀ i (J:i < ns.length),∃ g,a=some (OI g 0)/\g < w.heap.size/\∀ j,j < 3->w.cell? (OI g (i * 3+j))=(En ns[i])[j]?):=H;have s:Hid (∀ i (J:i < ns.length),∃ g,b=some (OI g 0)/\g < w.heap.size/\∀ j,j < 3->w.cell? (OI g (i * 3+j))=(En ns[i])[j]?):=I;clear H I;rw[u.out]at hl;simp only[u.out];have M:((n:Int) != (n:Int))=false:=by simp
 go_enter Tryz.func102,Tryz.ntmps102;go_wp2;go_loopw [5] (fun t wr => ∃ i:Nat,i<=n/\t = .int .i64 (i:Int)/\OH w wr) (fun t _=>n - (intOf t).toNat);case atStart=>exact⟨0,by omega,rfl,Below.refl _ _⟩
 case round =>
  obtain⟨i,J,rfl,c⟩:=hrel;have N:w.heap.size<=wr.heap.size:=c.size;by_cases hlt:i < n
  ·have l:i < ns.length:=(by rw[u.out];exact hlt);obtain⟨F,rfl,x,h⟩:=r.out i l;obtain⟨G,rfl,y,k⟩:=s.out i l;have o:∀ m,m < 3->wr.cell? (OI F (i * 3+m))=(En ns[i])[m]?:=fun m hm=>by rw[c.cell (p:=(OI F (i * 3+m))) x,h m hm]
   have q:∀ m,m < 3->wr.cell? (OI G (i * 3+m))=(En ns[i])[m]?:=fun m hm=>by rw[c.cell (p:=(OI G (i * 3+m))) y,k m hm]
   generalize ns[i]=d at *;have z:=o 0 Ou;have A:=o 1 Ou;have B:=o 2 Ou;have C:=q 0 Ou;have D:=q 1 Ou;have E:=q 2 Ou;simp only[En,List.getElem?_cons_zero,List.getElem?_cons_succ,Nat.add_zero]at z A B C D E;clear o q h k r s;go_wp2_with fail;go_region_with (go_at_call 134;refine(Q6 _ _ _ _).mono ?_;rintro e O ⟨rfl,v⟩);all_goals
    have f:OH w O:=c.trans (by have:=v.mono (B':=w.heap.size) (by simpa using N);exact⟨this.os,this.tape,this.output,this.size,this.block⟩);clear z A B C D E;go_wp2;go_roundw;case rel=>exact⟨i+1,by omega,by go_num,f⟩
    case measure=>simp[intOf];omega
  ·clear r s;go_wp2;go_ret;exact⟨rfl,c⟩
def I0 (c:Nat) (d:Ea) (xs:List Value):List Value:=((xs.set c (.int .i64 d.type)).set (c+1) (.int .i64 d.n)).set (c+2) (.string d.text)
def Fv (ns:List Ea):Nat->List Value->List Value
 | 0,xs=>xs
 | i+1,xs=>match ns[i]? with
  | some d=>I0 (i * 3) d (Fv ns i xs)
  | none=>Fv ns i xs
theorem Xz (c:Nat) (d:Ea) (xs:List Value):(I0 c d xs).length=xs.length:=by simp[I0]
theorem N8 (ns:List Ea) (i:Nat) (xs:List Value):(Fv ns i xs).length=xs.length:=by
 induction i with
 | zero=>rfl
 | succ i ih =>
  rw[Fv];split
  ·rw[Xz,ih]
  ·exact ih
theorem Tm (c:Nat) (d:Ea) (xs:List Value) (j:Nat) (h:j < c\/c+2 < j):(I0 c d xs)[j]? = xs[j]?:=by
 unfold I0;rw[List.getElem?_set_ne Ou,List.getElem?_set_ne Ou,List.getElem?_set_ne Ou]
theorem Qad (c:Nat) (d:Ea) (xs:List Value) (hc:c+3<=xs.length) (j:Nat) (hj:j < 3):(I0 c d xs)[c+j]? = (En d)[j]?:=by
 unfold I0;match j,hj with
 | 0,_=>rw[List.getElem?_set_ne Ou,List.getElem?_set_ne Ou];rw[Nat.add_zero,List.getElem?_set_self Ou];rfl
 | 1,_=>rw[List.getElem?_set_ne Ou];rw[List.getElem?_set_self OD];rfl
 | 2,_=>rw[List.getElem?_set_self OD];rfl
theorem Xv (ns:List Ea) (n:Nat) (xs:List Value) (hn:n * 3<=xs.length) (hl:n<=ns.length) (i:Nat) (hi:i < n) (j:Nat) (hj:j < 3):(Fv ns n xs)[i * 3+j]? = (En (ns[i]'Ou))[j]?:=by
 induction n with
 | zero=>omega
 | succ n ih =>
  rw[Fv];have a:ns[n]? = some (ns[n]'Ou):=List.getElem?_eq_getElem Ou;rw[a];simp only;by_cases h:i=n
  ·subst h;exact Qad _ _ _ (by rw[N8];omega) j hj
  ·rw[Tm _ _ _ _ Ou];exact ih Ou Ou Ou
theorem Vl (ns:List Ea) (xs:List Value) (h:xs.length=ns.length * 3):Fv ns ns.length xs=D9 ns:=by
 apply List.ext_getElem?;intro j;by_cases hj:j < ns.length * 3
 ·have e:j=j / 3 * 3+j % 3:=Ou
  rw[e,Xv ns ns.length xs Ou (Nat.le_refl _) (j / 3) Ou (j % 3) Ou,Vp ns (j / 3) Ou (j % 3) Ou]
 ·rw[List.getElem?_eq_none (by rw[N8];omega),List.getElem?_eq_none (by rw[Vr];omega)]
theorem Tryz.infoValue : (Tryz.prog.info? 132).map (fun i=>(i.zero,i.size,i.bytes))=some (some (.agg #[.int .i64 0,.int .i64 0,.string ByteArray.empty]),3,32):=OA
theorem Mx {w:World} {B e size n g cap:Nat} {xs:List Value} (h:w.ownsRow B e size (.slice (some (OI g 0)) n cap) n xs) (j:Nat) (hj:j < n * size):∃ y,w.cell? (OI g j)=some y:=by
 rw[h.cellAt j hj];exact⟨_,List.getElem?_eq_getElem (by rw[h.1];exact hj)⟩
theorem Me (ns:List Ea) (v:Value) (w:World) (hN:Ft w v ns) (hl:ns.length<=1048576) :
  Calls Tryz.prog 89 #[v] w fun e w' => ∃ v',e = .returned v'/\w'.ownsRow w.heap.size 132 3 v' ns.length (D9 ns)/\OH w w':=by
 obtain⟨U,E,I,J,K⟩:=info_parts Tryz.infoValue;obtain⟨a,N,rfl,L⟩:=hN;obtain⟨n,s⟩:∃ n,Hid (ns.length=n):=⟨_,(rfl:ns.length=_)⟩;have A:Hid (∀ i (S:i < ns.length),∃ g o,a=some (OI g o)/\g < w.heap.size/\∀ j,j < 3->w.cell? (OI g (o+i * 3+j))=(En ns[i])[j]?):=L;clear L;rw[s.out]at hl;simp only[s.out];go_enter Tryz.func89,Tryz.ntmps89;go_wp2_with (at_make;(refine wpList_make_full _ rfl _ _ 89 rfl w.heap.size 132 U (.agg #[.int .i64 0,.int .i64 0,.string ByteArray.empty]) 3 Tryz.underlying89 E I J .i64 .i64 _ _ n rfl rfl rfl rfl (by rw[K];omega) OF (Nat.le_refl _) ?_;intro V c q));have C:OH w V:=Below.grown (Below.refl _ w) q (Nat.le_refl _) (fun k h=>by cases h);obtain⟨r,M⟩:∃ r,Hid ((madeCells (Value.agg #[.int .i64 0,.int .i64 0,.string ByteArray.empty]).cells (n * 3)).toList=r):=⟨_,(rfl:_=_)⟩;rw[M.out]at c;have H:=c.1;go_loopw [4] (fun t wr => ∃ i:Nat,i<=n/\t = .int .i64 (i:Int)/\wr.ownsRow w.heap.size 132 3 (.slice (some (OK w 0)) n n) n (Fv ns i r)/\OH w wr) (fun t _=>n - (intOf t).toNat);case atStart=>exact⟨0,by omega,rfl,c,C⟩
 case round =>
  obtain⟨i,S,rfl,G,l⟩:=hrel;have T:=l.size;by_cases hlt:i < n
  ·have x:i < ns.length:=(by rw[s.out];exact hlt);obtain⟨g,o,rfl,R,f⟩:=A.out i x;have z:∀ m,m < 3->wr.cell? (OI g (o+i * 3+m))=(En ns[i])[m]?:=fun m hm=>by rw[l.cell (p:=(OI g (o+i * 3+m))) R,f m hm]
   have B:Hid (Fv ns (i+1) r=I0 (i * 3) ns[i] (Fv ns i r)):=(by rw[Hid,Fv,List.getElem?_eq_getElem x]);generalize ns[i]=d at *;have O:=z 0 Ou;have P:=z 1 Ou;have Q:=z 2 Ou;simp only[En,Nat.add_zero,List.getElem?_cons_zero,List.getElem?_cons_succ]at O P Q;clear z f A;go_wp2_with (go_at_call 120;(refine(Tn _ _ _ _).mono ?_;rintro e w1 ⟨rfl,u⟩;have b:=Kf G u;obtain⟨y0,W⟩:=Mx b (i * 3) Ou;obtain⟨y1,X⟩:=Mx b (i * 3+1) Ou;obtain⟨y2,Y⟩:=Mx b (i * 3+2) Ou;have Z:=b.frozenAt (i * 3);have f1:=b.frozenAt (i * 3+1);have f2:=b.frozenAt (i * 3+2)));have y:=(((b.stored (i * 3) (.int .i64 d.type)).1.stored (i * 3+1) (.int .i64 d.n)).1.stored (i * 3+2) (.string d.text)).1;have D:=((((l.trans (u.mono T)).setCell (p:=(OK w (i * 3))) (Nat.le_refl _) (.int .i64 d.type)).setCell (p:=(OK w (i * 3+1))) (Nat.le_refl _) (.int .i64 d.n)).setCell (p:=(OK w (i * 3+2))) (Nat.le_refl _) (.string d.text));go_roundw;case rel=>exact⟨i+1,by omega,by go_num,by rw[B.out];exact y,D⟩
   case measure=>simp[intOf];omega
  ·have F:i=n:=Ou;subst F;have B:Hid (Fv ns i r=D9 ns):=by
    have:=Vl ns r (by rw[s.out];exact H);rw[s.out]at this;exact this
   rw[B.out]at G;clear A;go_wp2;go_ret;exact⟨_,rfl,G,l⟩
theorem Lj {w w1:World} {a0 a1:Value} {t:TypeId} (hb:Below (w.heap.size+1) (w.alloc (.cells #[a0,a1] t)) w1) :
  w1.cell? (OK w 0)=some a0/\w1.cell? (OK w 1)=some a1:=by
 have a:=hb.block w.heap.size Ou;rw[(MapKept.heap_alloc w _).1]at a;simp[World.cell?,a]
theorem Qi (s:ByteArray) (k:Nat) (h:k < s.size):s.data.toList.drop k=s[k]::s.data.toList.drop (k+1):=by
 rw[List.drop_eq_getElem_cons (by simpa using h)];rfl
theorem Bv {a b:Bool} (h:a=b):(Ending.returned (.bool a):Ending) = .returned (.bool b):=by rw[h]
def Ga (c:UInt8):Bool := !(decide ((c.toNat:Int) < 33) || decide (126 < (c.toNat:Int)))
def C4 (s:ByteArray):Bool:=decide (s.size<=60) && s.data.toList.all Ga
def Do (s:ByteArray):Bool:=decide (1<=s.size) && C4 s
theorem Pd {s:ByteArray} (h:¬ s.size<=60):C4 s=false:=by unfold C4;simp[h]
theorem Sv {s:ByteArray} (h:s.size<=60):C4 s=s.data.toList.all Ga:=by unfold C4;simp[h]
theorem I9 (s:ByteArray):s.toList.length=s.size:=by rw[ByteArray.toList_eq];rfl
theorem Sq {c:UInt8} (h:(c.toNat:Int) < 33):Ga c=false:=by unfold Ga;simp[h]
theorem Qh {c:UInt8} (h:126 < (c.toNat:Int)):Ga c=false:=by unfold Ga;simp[h]
theorem U7 {c:UInt8} (h:¬ (c.toNat:Int) < 33) (h2:¬ 126 < (c.toNat:Int)):Ga c=true:=by unfold Ga;simp[h,h2]
theorem Pc (s:ByteArray) (hs:s.size<=1048576) (w:World) :
  Calls Tryz.prog 54 #[.string s] w fun e w'=>e = .returned (.bool (C4 s))/\w=w':=by
 by_cases h:s.size<=60
 ·have c:Hid (C4 s=s.data.toList.all Ga):=Sv h;go_enter Tryz.func54,Tryz.ntmps54;go_wp2;go_loop [3] (fun t => ∃ k:Nat,k<=s.size/\t = .int .i64 (k:Int)/\(s.data.toList.drop k).all Ga=s.data.toList.all Ga) (fun t=>s.size - (intOf t).toNat);case atStart=>exact⟨0,by omega,rfl,rfl⟩
  case round =>
   obtain⟨k,d,rfl,a⟩:=hrel;by_cases hlt:k < s.size
   ·rw[Qi s k hlt,List.all_cons]at a;by_cases hl:(s[k].toNat:Int) < 33
    ·have b:Hid (C4 s=false):=(by rw[Sq hl]at a;rw[Hid,c.out,<- a];rfl);clear a;go_wp2;go_ret;exact⟨Bv b.out.symm,rfl⟩
    ·by_cases hh:126 < (s[k].toNat:Int)
     ·have b:Hid (C4 s=false):=(by rw[Qh hh]at a;rw[Hid,c.out,<- a];rfl);clear a;go_wp2;go_ret;exact⟨Bv b.out.symm,rfl⟩
     ·have b:Hid ((s.data.toList.drop (k+1)).all Ga=s.data.toList.all Ga):=(by rw[U7 hl hh]at a;exact a);clear a;go_wp2;go_round;case rel=>exact⟨k+1,by omega,by go_num,b.out⟩
      case measure=>simp[intOf];omega
   ·have b:Hid (C4 s=true):=by
     rw[List.drop_of_length_le OD]at a;rw[Hid,c.out,<- a];rfl
    clear a;go_wp2;go_ret;exact⟨Bv b.out.symm,rfl⟩
 ·have c:Hid (C4 s=false):=Pd h;go_enter Tryz.func54,Tryz.ntmps54;go_wp2;go_ret;exact⟨Bv c.out.symm,rfl⟩
theorem Qj (s:ByteArray) (hs:s.size<=1048576) (w:World) :
  Calls Tryz.prog 93 #[.string s] w fun e w'=>e = .returned (.bool (C4 s))/\w=w':=by
 by_cases h:s.size<=60
 ·have c:Hid (C4 s=s.data.toList.all Ga):=Sv h;go_enter Tryz.func93,Tryz.ntmps93;go_wp2;go_loop [9] (fun t => ∃ k:Nat,k<=s.size/\t = .int .i64 (k:Int)/\(s.data.toList.drop k).all Ga=s.data.toList.all Ga) (fun t=>s.size - (intOf t).toNat);case atStart=>exact⟨0,by omega,rfl,rfl⟩
  case round =>
   obtain⟨k,d,rfl,a⟩:=hrel;by_cases hlt:k < s.size
   ·rw[Qi s k hlt,List.all_cons]at a;by_cases hl:(s[k].toNat:Int) < 33
    ·have b:Hid (C4 s=false):=(by rw[Sq hl]at a;rw[Hid,c.out,<- a];rfl);clear a;go_wp2;go_ret;exact⟨Bv b.out.symm,rfl⟩
    ·by_cases hh:126 < (s[k].toNat:Int)
     ·have b:Hid (C4 s=false):=(by rw[Qh hh]at a;rw[Hid,c.out,<- a];rfl);clear a;go_wp2;go_ret;exact⟨Bv b.out.symm,rfl⟩
     ·have b:Hid ((s.data.toList.drop (k+1)).all Ga=s.data.toList.all Ga):=(by rw[U7 hl hh]at a;exact a);clear a;go_wp2;go_round;case rel=>exact⟨k+1,by omega,by go_num,b.out⟩
      case measure=>simp[intOf];omega
   ·have b:Hid (C4 s=true):=by
     rw[List.drop_of_length_le OD]at a;rw[Hid,c.out,<- a];rfl
    clear a;go_wp2;go_ret;exact⟨Bv b.out.symm,rfl⟩
 ·have c:Hid (C4 s=false):=Pd h;go_enter Tryz.func93,Tryz.ntmps93;go_wp2;go_ret;exact⟨Bv c.out.symm,rfl⟩
theorem Su (s:ByteArray) (hs:s.size<=1048576) (w:World) :
  Calls Tryz.prog 53 #[.string s] w fun e w'=>e = .returned (.bool (Do s))/\w=w':=by
 obtain⟨b,d⟩:∃ b,Hid (C4 s=b):=⟨_,(rfl:C4 s=_)⟩;unfold Do;rw[d.out];by_cases h:1<=s.size
 ·have c:s.toList.isEmpty=false:=by have e:=I9 s;cases ht:s.toList with|nil=>(rw[ht]at e;simp at e;omega)|cons a r=>rfl
  simp only[h,decide_true,Bool.true_and];go_enter Tryz.func53,Tryz.ntmps53;go_wp2_with (go_at_call 54;refine(Pc s hs _).mono ?_;rintro e f ⟨rfl,rfl⟩;rw[d.out]);all_goals (go_ret;exact⟨rfl,rfl⟩)
 ·have c:s.toList.isEmpty=true:=by have e:=I9 s;cases ht:s.toList with|nil=>rfl|cons a r=>(rw[ht]at e;simp at e;omega)
  simp only[h,decide_false,Bool.false_and];go_enter Tryz.func53,Tryz.ntmps53;go_wp2;all_goals (go_ret;exact⟨rfl,rfl⟩)
theorem Sr (s:ByteArray) (hs:s.size<=1048576) (w:World) :
  Calls Tryz.prog 90 #[.string s] w fun e w'=>e = .returned (.bool (Do s))/\w=w':=by
 obtain⟨b,d⟩:∃ b,Hid (C4 s=b):=⟨_,(rfl:C4 s=_)⟩;unfold Do;rw[d.out];by_cases h:1<=s.size
 ·have c:s.toList.isEmpty=false:=by have e:=I9 s;cases ht:s.toList with|nil=>(rw[ht]at e;simp at e;omega)|cons a r=>rfl
  simp only[h,decide_true,Bool.true_and];go_enter Tryz.func90,Tryz.ntmps90;go_wp2_with (go_at_call 93;refine(Qj s hs _).mono ?_;rintro e f ⟨rfl,rfl⟩;rw[d.out]);all_goals (go_ret;exact⟨rfl,rfl⟩)
 ·have c:s.toList.isEmpty=true:=by have e:=I9 s;cases ht:s.toList with|nil=>rfl|cons a r=>(rw[ht]at e;simp at e;omega)
  simp only[h,decide_false,Bool.false_and];go_enter Tryz.func90,Tryz.ntmps90;go_wp2;all_goals (go_ret;exact⟨rfl,rfl⟩)
def Dw (w:World) (v:Value) (xs:List ByteArray):Prop :=
 ∃ a cap,v = .slice a xs.length cap/\∀ i (hi:i < xs.length),∃ g o,a=some (OI g o)/\g < w.heap.size/\w.cell? (OI g (o+i))=some (.string xs[i])
theorem Dw.below {w w':World} {v:Value} {xs:List ByteArray} (h:Dw w v xs) (hb:OH w w'):Dw w' v xs:=by
 obtain⟨a,c,rfl,j⟩:=h;refine⟨a,c,rfl,fun i hi => ?_⟩;obtain⟨g,o,f,d,b⟩:=j i hi;exact⟨g,o,f,Nat.lt_of_lt_of_le d hb.size,by rw[hb.cell (p:=(OI g (o+i))) d];exact b⟩
def I8 : List ByteArray->Int->Int
 | [],l=>l
 | d::r,l=>if l - (d.size:Int) < 0 then -1 else I8 r (l - (d.size:Int))
theorem Va {a b:Int} (h:a=b):(Ending.returned (.int .i64 a):Ending) = .returned (.int .i64 b):=by rw[h]
theorem Qz (xs:List ByteArray) (v:Value) (l:Int) (h0:0<=l) (h1:l<=1048576) (hn:xs.length<=9223372036854775807) (hx:∀ d ∈ xs,d.size<=9223372036854775807) (w:World) (hN:Dw w v xs) :
  Calls Tryz.prog 17 #[v,.int .i64 l] w fun e w'=>e = .returned (.int .i64 (if l - (xs.length:Int) < 0 then -1 else I8 xs (l - (xs.length:Int))))/\OH w w':=by
 obtain⟨a,s,rfl,r⟩:=hN;obtain⟨n,k⟩:∃ n,Hid (xs.length=n):=⟨_,(rfl:xs.length=_)⟩;have m:Hid (∀ i (u:i < xs.length),∃ g o,a=some (OI g o)/\g < w.heap.size/\w.cell? (OI g (o+i))=some (.string xs[i])):=r;clear r;rw[k.out]at hn;simp only[k.out];by_cases hl:l - (n:Int) < 0
 ·rw[if_pos hl];go_enter Tryz.func17,Tryz.ntmps17;go_wp2;go_ret;exact⟨rfl,Below.refl _ _⟩
 ·rw[if_neg hl];go_enter Tryz.func17,Tryz.ntmps17;go_wp2;go_loopw [1,5] (fun tl tv wr => ∃ (i:Nat) (q:Int),i<=n/\tv = .int .i64 (i:Int)/\tl = .int .i64 q/\0<=q/\q<=1048576/\I8 (xs.drop i) q=I8 xs (l - (n:Int))/\OH w wr) (fun _ tv _=>n - (intOf tv).toNat);case atStart=>exact⟨0,l - (n:Int),by omega,rfl,rfl,by omega,by omega,rfl,Below.refl _ _⟩
  case round =>
   obtain⟨i,q,u,rfl,rfl,x,y,f,b⟩:=hrel;have B:=b.size;by_cases hlt:i < n
   ·have h:i < xs.length:=(by rw[k.out];exact hlt);obtain⟨g,o,rfl,t,c⟩:=m.out i h;rw[List.drop_eq_getElem_cons h,I8]at f;have z:=hx xs[i] (List.getElem_mem h);have A:wr.cell? (OI g (o+i))=some (.string xs[i]):=(by rw[b.cell (p:=(OI g (o+i))) t,c]);generalize xs[i]=d at *;clear c m;by_cases hlq:q - (d.size:Int) < 0
    ·have j:Hid (I8 xs (l - (n:Int)) = -1):=(by rw[if_pos hlq]at f;exact f.symm);clear f;go_wp2;go_ret;exact⟨Va j.out.symm,b⟩
    ·have j:Hid (I8 (xs.drop (i+1)) (q - (d.size:Int))=I8 xs (l - (n:Int))):=(by rw[if_neg hlq]at f;exact f);clear f;go_wp2;go_roundw;case rel=>exact⟨i+1,q - (d.size:Int),by omega,by go_num,rfl,by omega,by omega,j.out,b⟩
     case measure=>simp[intOf];omega
   ·have j:Hid (I8 xs (l - (n:Int))=q):=(by rw[List.drop_of_length_le (by rw[k.out];omega)]at f;exact f.symm);clear f m;go_wp2;go_ret;exact⟨Va j.out.symm,b⟩
theorem Hm (xs:List ByteArray) (va vb:Value) (w:World) (ha:Dw w va xs) (hb:Dw w vb xs) (hl:xs.length<=1048576) :
  Calls Tryz.prog 39 #[va,vb] w fun e w'=>e = .returned (.bool true)/\OH w w':=by
 obtain⟨a,C,rfl,x⟩:=ha;obtain⟨b,D,rfl,y⟩:=hb;obtain⟨n,m⟩:∃ n,Hid (xs.length=n):=⟨_,(rfl:xs.length=_)⟩;have k:Hid (∀ i (z:i < xs.length),∃ g o,a=some (OI g o)/\g < w.heap.size/\w.cell? (OI g (o+i))=some (.string xs[i])):=x;have l:Hid (∀ i (z:i < xs.length),∃ g o,b=some (OI g o)/\g < w.heap.size/\w.cell? (OI g (o+i))=some (.string xs[i])):=y;clear x y;rw[m.out]at hl;simp only[m.out];have E:((n:Int) != (n:Int))=false:=by simp
 go_enter Tryz.func39,Tryz.ntmps39;go_wp2;go_loopw [5] (fun t wr => ∃ i:Nat,i<=n/\t = .int .i64 (i:Int)/\OH w wr) (fun t _=>n - (intOf t).toNat);case atStart=>exact⟨0,by omega,rfl,Below.refl _ _⟩
 case round =>
  obtain⟨i,z,rfl,c⟩:=hrel;have H:w.heap.size<=wr.heap.size:=c.size;by_cases hlt:i < n
  ·have j:i < xs.length:=(by rw[m.out];exact hlt);obtain⟨s,A,rfl,q,f⟩:=k.out i j;obtain⟨u,B,rfl,r,h⟩:=l.out i j;have F:wr.cell? (OI s (A+i))=some (.string xs[i]):=(by rw[c.cell (p:=(OI s (A+i))) q,f]);have G:wr.cell? (OI u (B+i))=some (.string xs[i]):=(by rw[c.cell (p:=(OI u (B+i))) r,h]);generalize xs[i]=d at *;clear f h k l;go_wp2;go_region;all_goals
    have v:OH w wr:=c;go_wp2;go_roundw;case rel=>exact⟨i+1,by omega,by go_num,by first|exact c|exact⟨c.os,c.tape,c.output,c.size,c.block⟩⟩
    case measure=>simp[intOf];omega
  ·clear k l;go_wp2;go_ret;exact⟨rfl,c⟩
def Fp (ns:List ByteArray):Nat->List Value->List Value
 | 0,xs=>xs
 | i+1,xs=>match ns[i]? with
  | some d=>(Fp ns i xs).set i (.string d)
  | none=>Fp ns i xs
theorem Lz (ns:List ByteArray) (i:Nat) (xs:List Value):(Fp ns i xs).length=xs.length:=by
 induction i with
 | zero=>rfl
 | succ i ih =>
  rw[Fp];split
  ·rw[List.length_set,ih]
  ·exact ih
theorem Zx (ns:List ByteArray) (n:Nat) (xs:List Value) (hn:n<=xs.length) (hl:n<=ns.length) (i:Nat) (hi:i < n):(Fp ns n xs)[i]? = some (.string (ns[i]'Ou)):=by
 induction n with
 | zero=>omega
 | succ n ih =>
  rw[Fp];have a:ns[n]? = some (ns[n]'Ou):=List.getElem?_eq_getElem Ou;rw[a];simp only;by_cases h:i=n
  ·subst h;rw[List.getElem?_set_self (by rw[Lz];omega)]
  ·rw[List.getElem?_set_ne Ou];exact ih Ou Ou Ou
theorem Xq (ns:List ByteArray) (xs:List Value) (h:xs.length=ns.length):Fp ns ns.length xs=ns.map Value.string:=by
 apply List.ext_getElem?;intro j;by_cases hj:j < ns.length
 ·rw[Zx ns ns.length xs Ou (Nat.le_refl _) j hj,List.getElem?_map,List.getElem?_eq_getElem hj];rfl
 ·rw[List.getElem?_eq_none (by rw[Lz];omega),List.getElem?_eq_none (by rw[List.length_map];omega)]
theorem Tryz.infoStr : (Tryz.prog.info? 9).map (fun i=>(i.zero,i.size,i.bytes))=some (some (.string ByteArray.empty),1,16):=OA
theorem Jm (ns:List ByteArray) (v:Value) (w:World) (hN:Dw w v ns) (hl:ns.length<=1048576) :
  Calls Tryz.prog 29 #[v] w fun e w' => ∃ v',e = .returned v'/\w'.ownsRow w.heap.size 9 1 v' ns.length (ns.map Value.string)/\OH w w':=by
 obtain⟨N,A,D,E,F⟩:=info_parts Tryz.infoStr;obtain⟨a,J,rfl,H⟩:=hN;obtain⟨n,m⟩:∃ n,Hid (ns.length=n):=⟨_,(rfl:ns.length=_)⟩;have u:Hid (∀ i (L:i < ns.length),∃ g o,a=some (OI g o)/\g < w.heap.size/\w.cell? (OI g (o+i))=some (.string ns[i])):=H;clear H;rw[m.out]at hl;simp only[m.out];go_enter Tryz.func29,Tryz.ntmps29;go_wp2_with (at_make;(refine wpList_make_full _ rfl _ _ 23 rfl w.heap.size 9 N (.string ByteArray.empty) 1 Tryz.underlying23 A D E .i64 .i64 _ _ n rfl rfl rfl rfl (by rw[F];omega) OF (Nat.le_refl _) ?_;intro O b j));have y:OH w O:=Below.grown (Below.refl _ w) j (Nat.le_refl _) (fun k h=>by cases h);obtain⟨l,I⟩:∃ l,Hid ((madeCells (Value.string ByteArray.empty).cells (n * 1)).toList=l):=⟨_,(rfl:_=_)⟩;rw[I.out]at b;have M:=b.1;go_loopw [4] (fun t wr => ∃ i:Nat,i<=n/\t = .int .i64 (i:Int)/\wr.ownsRow w.heap.size 9 1 (.slice (some (OK w 0)) n n) n (Fp ns i l)/\OH w wr) (fun t _=>n - (intOf t).toNat);case atStart=>exact⟨0,by omega,rfl,b,y⟩
 case round =>
  obtain⟨i,L,rfl,r,f⟩:=hrel;have R:=f.size;by_cases hlt:i < n
  ·have q:i < ns.length:=(by rw[m.out];exact hlt);obtain⟨g,o,rfl,K,c⟩:=u.out i q;have Q:wr.cell? (OI g (o+i))=some (.string ns[i]):=(by rw[f.cell (p:=(OI g (o+i))) K,c]);have x:Hid (Fp ns (i+1) l=(Fp ns i l).set i (.string ns[i])):=(by rw[Hid,Fp,List.getElem?_eq_getElem q]);generalize ns[i]=d at *;clear c u;have C:i < (Fp ns i l).length:=(by rw[Lz];omega);have G:=r.cellAt i Ou;rw[List.getElem?_eq_getElem C]at G;generalize (Fp ns i l)[i]=y0 at G;have P:=r.frozenAt i;go_wp2;have s:=(r.stored i (.string d)).1;have z:=f.setCell (p:=(OK w i)) (Nat.le_refl _) (.string d);go_roundw;case rel=>exact⟨i+1,by omega,by go_num,by rw[x.out];exact s,z⟩
   case measure=>simp[intOf];omega
  ·have B:i=n:=Ou;subst B;have x:Hid (Fp ns i l=ns.map Value.string):=by
    have:=Xq ns l (by rw[m.out];omega);rw[m.out]at this;exact this
   rw[x.out]at r;clear u;go_wp2;go_ret;exact⟨_,rfl,r,f⟩
def N0 (xs:List ByteArray) (i:Nat):Bool :=
 match xs[i]? with
 | none=>true
 | some x=>Do x && (match i with|0=>true|k+1=>(match xs[k]? with|none=>true|some y=>Op.bytesLess y.toList x.toList))
def Hu (xs:List ByteArray):Nat->Bool
 | 0=>true
 | n+1=>Hu xs n && N0 xs n
def Gb (a:ByteArray) (xs:List ByteArray):Bool:=decide ((a.size:Int)<=3000) && decide (xs.length<=20) && Hu xs xs.length
theorem Ol (xs:List ByteArray) (i n:Nat) (h:i < n) (hi:N0 xs i=false):Hu xs n=false:=by
 induction n with
 | zero=>omega
 | succ n ih =>
  rw[Hu];by_cases e:i=n
  ·subst e;rw[hi,Bool.and_false]
  ·rw[ih Ou,Bool.false_and]
theorem U8 (a:ByteArray) (xs:List ByteArray) (h:¬ ((a.size:Int)<=3000)):Gb a xs=false:=by unfold Gb;simp only[h,decide_false,Bool.false_and]
theorem U9 (a:ByteArray) (xs:List ByteArray) (h:¬ (xs.length<=20)):Gb a xs=false:=by unfold Gb;simp only[h,decide_false,Bool.and_false,Bool.false_and]
theorem Qb9 (a:ByteArray) (xs:List ByteArray) (h0:(a.size:Int)<=3000) (h:xs.length<=20):Gb a xs=Hu xs xs.length:=by unfold Gb;simp only[h0,h,decide_true,Bool.true_and]
theorem Ee {P:Program} {f:FuncId} {args:Array Value} {w:World} {n:Nat} {v:Value}
  (h:Calls P f args (w.drewN n) fun e w'=>e = .returned v/\w.drewN n=w'):Calls P f args (w.drewN n) fun e w''=>e = .returned v/\∃ m,w''=w.drewN m :=
 h.mono fun _ _ ⟨he,hm⟩=>⟨he,n,hm.symm⟩
theorem Aj {B:Nat} {a w:World} (n:Nat) (h:Below B a w):Below B a (w.drewN n):=⟨h.os,h.tape,h.output,h.size,h.block⟩
theorem Hb (s:ByteArray) (b:Bool) (h:Hid (Do s=b)) (hs:s.size<=1048576) (w:World):Calls Tryz.prog 53 #[.string s] w fun e w'=>e = .returned (.bool b)/\w=w':=by
 rw[<- h.out];exact Su s hs w
theorem Io (s:ByteArray) (b:Bool) (h:Hid (Do s=b)) (hs:s.size<=1048576) (w:World):Calls Tryz.prog 90 #[.string s] w fun e w'=>e = .returned (.bool b)/\w=w':=by
 rw[<- h.out];exact Sr s hs w
theorem Jl (x y:List UInt8):(Op.bytesLess x y || x == y) = !Op.bytesLess y x:=by
 induction x generalizing y with
 | nil=>cases y with
  | nil=>rfl
  | cons b s=>rfl
 | cons a r ih=>cases y with
  | nil=>rfl
  | cons b s =>
   have h:=ih s;simp only[Op.bytesLess];by_cases h1:a=b
   ·subst h1;have c:decide (a < a)=false:=OB;simp only[c,Bool.false_or,BEq.rfl,Bool.true_and,List.cons_beq_cons];exact h
   ·have c:(a == b)=false:=(by simpa using h1);have f:(b == a)=false:=by simpa using fun e=>h1 e.symm
    simp only[c,f,Bool.false_and,Bool.or_false,List.cons_beq_cons];have g:a.toNat≠b.toNat:=fun e=>h1 (UInt8.toNat_inj.1 e)
    by_cases h2:a < b
    ·have d:¬ b < a:=(by rw[UInt8.lt_iff_toNat_lt]at *;omega);simp[h2,d]
    ·have d:b < a:=(by rw[UInt8.lt_iff_toNat_lt]at *;omega);simp[h2,d]
theorem Ss {xs:List ByteArray} {i:Nat} (hi:i < xs.length) (h:Do xs[i]=false):N0 xs i=false:=by
 unfold N0;rw[List.getElem?_eq_getElem hi];simp only[h,Bool.false_and]
theorem St {xs:List ByteArray} (hi:0 < xs.length) (h:Do xs[0]=true):N0 xs 0=true:=by
 unfold N0;rw[List.getElem?_eq_getElem hi];simp only[h,Bool.true_and]
theorem Lh {xs:List ByteArray} {k:Nat} (hi:k+1 < xs.length) (h:Do xs[k+1]=true):N0 xs (k+1)=Op.bytesLess (xs[k]'Ou).toList xs[k+1].toList:=by
 unfold N0;rw[List.getElem?_eq_getElem hi];simp only[h,Bool.true_and];rw[List.getElem?_eq_getElem (by omega:k < xs.length)]
theorem Qca (a:ByteArray) (xs:List ByteArray) (v:Value) (w:World) (ha:a.size<=1048576) (hn:xs.length<=1048576) (hx:∀ d ∈ xs,d.size<=1048576) (hN:Dw w v xs) :
  Calls Tryz.prog 24 #[.agg #[.string a,v]] w fun e w'=>e = .returned (.bool (Gb a xs))/\OH w w':=by
 obtain⟨p,A,rfl,F⟩:=hN;obtain⟨n,u⟩:∃ n,Hid (xs.length=n):=⟨_,(rfl:xs.length=_)⟩;have x:Hid (∀ i (J:i < xs.length),∃ g o,p=some (OI g o)/\g < w.heap.size/\w.cell? (OI g (o+i))=some (.string xs[i])):=F;clear F;rw[u.out]at hn;by_cases h0:(a.size:Int)<=3000
 ·by_cases h1:n<=20
  ·have m:Hid (Gb a xs=Hu xs n):=(by have e:=Qb9 a xs h0 (by rw[u.out];exact h1);rw[u.out]at e;exact e);simp only[u.out];go_enter Tryz.func24,Tryz.ntmps24;go_wp2;go_loopw [3] (fun t wr => ∃ i:Nat,i<=n/\t = .int .i64 (i:Int)/\Hu xs i=true/\Below (w.heap.size+1) (w.alloc (.cells #[.string a,.slice p n A] 53)) wr) (fun t _=>n - (intOf t).toNat);case atStart=>exact⟨0,by omega,rfl,rfl,Below.refl _ _⟩
   case round =>
    obtain⟨i,J,rfl,f,r⟩:=hrel;have h:OH w wr:=((Below.refl _ w).alloc (Nat.le_refl _) _).trans (r.mono Ou);have R:=h.size;have P:wr.cell? (OK w 1)=some (.slice p n A):=(Lj r).2;by_cases hlt:i < n
    ·have l:i < xs.length:=(by rw[u.out];exact hlt);obtain⟨g,o,rfl,G,b⟩:=x.out i l;have M:wr.cell? (OI g (o+i))=some (.string xs[i]):=(by rw[h.cell (p:=(OI g (o+i))) G,b]);have s:=hx xs[i] (List.getElem_mem l);cases hnm:Do xs[i] with
     | false =>
      have q:Hid (Gb a xs=false):=(by rw[Hid,m.out];exact Ol xs i n hlt (Ss l hnm));have z:Hid (Do xs[i]=false):=hnm;generalize xs[i]=xi at *;clear b x hnm f m;go_wp2_with fail;go_quiet (first|(go_at_call 53;refine Ee (Hb _ false z s _)));go_wp2;go_ret;exact⟨Bv q.out.symm,Aj _ h⟩
     | true =>
      have z:Hid (Do xs[i]=true):=hnm;by_cases hi0:i=0
      ·subst hi0;have q:Hid (Hu xs (0+1)=true):=(by rw[Hid,Hu,f,St l hnm];rfl);generalize xs[0]=xi at *;clear b x hnm f m;rw[Nat.add_zero]at M;go_wp2_with fail;go_quiet (first|(go_at_call 53;refine Ee (Hb _ true z s _)));go_wp2;go_roundw;case rel=>exact⟨0+1,by omega,by go_num,q.out,Aj _ r⟩
       case measure=>simp[intOf];omega
      ·obtain⟨k,j⟩:∃ k,i=k+1:=⟨i - 1,by omega⟩;have D:k < xs.length:=Ou;have L:k < n:=Ou;have K:IntKind.i64.wrap ((i:Int) - 1)=(k:Int):=(by rw[wrap_small _ Ou Ou];omega);have H:decide (0 < i)=true:=(by simpa using (by omega:0 < i));have E:0 < i:=Ou;have O:IntKind.i64.wrap (k:Int)=(k:Int):=wrap_small _ Ou Ou;have y:Hid (i=k+1):=j;clear j;obtain⟨Q,S,I,_,c⟩:=x.out k D;cases I
       have N:wr.cell? (OI g (o+k))=some (.string xs[k]):=(by rw[h.cell (p:=(OI g (o+k))) G,c]);cases hL:Op.bytesLess xs[k].toList xs[i].toList with
       | true =>
        have q:Hid (Hu xs (i+1)=true):=(by have j:=y.out;subst j;rw[Hid,Hu,f,Lh l hnm,hL];rfl);generalize xs[i]=xi at *;generalize xs[k]=xk at *;have B:Hid ((Op.bytesLess xi.toList xk.toList || xi.toList == xk.toList)=false):=(by rw[Hid,Jl,hL];rfl);clear b c x hnm f m;go_wp2_with fail;go_quiet (first|(go_at_call 53;refine Ee (Hb _ true z s _)));go_wp2;go_roundw;case rel=>exact⟨i+1,by omega,by go_num,q.out,Aj _ r⟩
        case measure=>simp[intOf];omega
       | false =>
        have q:Hid (Gb a xs=false):=(by rw[Hid,m.out];have j:=y.out;subst j;exact Ol xs (k+1) n hlt (by rw[Lh l hnm,hL]));generalize xs[i]=xi at *;generalize xs[k]=xk at *;have B:Hid ((Op.bytesLess xi.toList xk.toList || xi.toList == xk.toList)=true):=(by rw[Hid,Jl,hL];rfl);clear b c x hnm f m;go_wp2_with fail;go_quiet (first|(go_at_call 53;refine Ee (Hb _ true z s _)));go_wp2;go_ret;exact⟨Bv q.out.symm,Aj _ h⟩
    ·have C:i=n:=Ou;subst C;have q:Hid (Gb a xs=true):=(by rw[Hid,m.out];exact f);clear x f m;go_wp2;go_ret;exact⟨Bv q.out.symm,h⟩
  ·have m:Hid (Gb a xs=false):=U9 a xs (by rw[u.out];exact h1);simp only[u.out];go_enter Tryz.func24,Tryz.ntmps24;go_wp2;go_ret;exact⟨Bv m.out.symm,(Below.refl _ w).alloc (Nat.le_refl _) _⟩
 ·have m:Hid (Gb a xs=false):=U8 a xs h0;simp only[u.out];go_enter Tryz.func24,Tryz.ntmps24;go_wp2;go_ret;exact⟨Bv m.out.symm,(Below.refl _ w).alloc (Nat.le_refl _) _⟩
theorem Qb8 (a:ByteArray) (xs:List ByteArray) (v:Value) (w:World) (ha:a.size<=1048576) (hn:xs.length<=1048576) (hx:∀ d ∈ xs,d.size<=1048576) (hN:Dw w v xs) :
  Calls Tryz.prog 65 #[.agg #[.string a,v]] w fun e w'=>e = .returned (.bool (Gb a xs))/\OH w w':=by
 obtain⟨p,C,rfl,J⟩:=hN;obtain⟨n,u⟩:∃ n,Hid (xs.length=n):=⟨_,(rfl:xs.length=_)⟩;have x:Hid (∀ i (N:i < xs.length),∃ g o,p=some (OI g o)/\g < w.heap.size/\w.cell? (OI g (o+i))=some (.string xs[i])):=J;clear J;rw[u.out]at hn;by_cases h0:(a.size:Int)<=3000
 ·by_cases h1:n<=20
  ·have m:Hid (Gb a xs=Hu xs n):=(by have e:=Qb9 a xs h0 (by rw[u.out];exact h1);rw[u.out]at e;exact e);simp only[u.out];go_enter Tryz.func65,Tryz.ntmps65;go_wp2;go_loopw [18] (fun t wr => ∃ i:Nat,i<=n/\t = .int .i64 (i:Int)/\Hu xs i=true/\Below (w.heap.size+1) (w.alloc (.cells #[.string a,.slice p n C] 53)) wr) (fun t _=>n - (intOf t).toNat);case atStart=>exact⟨0,by omega,rfl,rfl,Below.refl _ _⟩
   case round =>
    obtain⟨i,N,rfl,f,r⟩:=hrel;have h:OH w wr:=((Below.refl _ w).alloc (Nat.le_refl _) _).trans (r.mono Ou);have V:=h.size;have T:wr.cell? (OK w 1)=some (.slice p n C):=(Lj r).2;by_cases hlt:i < n
    ·have l:i < xs.length:=(by rw[u.out];exact hlt);obtain⟨g,o,rfl,K,b⟩:=x.out i l;have Q:wr.cell? (OI g (o+i))=some (.string xs[i]):=(by rw[h.cell (p:=(OI g (o+i))) K,b]);have s:=hx xs[i] (List.getElem_mem l);cases hnm:Do xs[i] with
     | false =>
      have q:Hid (Gb a xs=false):=(by rw[Hid,m.out];exact Ol xs i n hlt (Ss l hnm));have B:Hid (Do xs[i]=false):=hnm;generalize xs[i]=xi at *;clear b x hnm f m;go_wp2_with (go_at_call 90;refine(Io _ false B s _).mono ?_;rintro e I ⟨rfl,rfl⟩);go_wp2;go_ret;exact⟨Bv q.out.symm,h⟩
     | true =>
      have B:Hid (Do xs[i]=true):=hnm;by_cases hi0:i=0
      ·subst hi0;have q:Hid (Hu xs (0+1)=true):=(by rw[Hid,Hu,f,St l hnm];rfl);generalize xs[0]=xi at *;clear b x hnm f m;rw[Nat.add_zero]at Q;go_wp2_with (go_at_call 90;refine(Io _ true B s _).mono ?_;rintro e I ⟨rfl,rfl⟩);go_wp2;go_roundw;case rel=>exact⟨0+1,by omega,by go_num,q.out,r⟩
       case measure=>simp[intOf];omega
      ·obtain⟨k,j⟩:∃ k,i=k+1:=⟨i - 1,by omega⟩;have G:k < xs.length:=Ou;have P:k < n:=Ou;have O:(i:Int) - 1=(k:Int):=Ou;have L:decide (0 < i)=true:=(by simpa using (by omega:0 < i));have H:0 < i:=Ou;have S:IntKind.i64.wrap (k:Int)=(k:Int):=wrap_small _ Ou Ou;have A:Hid (i=k+1):=j;clear j;obtain⟨U,W,M,_,c⟩:=x.out k G;cases M
       have R:wr.cell? (OI g (o+k))=some (.string xs[k]):=(by rw[h.cell (p:=(OI g (o+k))) K,c]);cases hL:Op.bytesLess xs[k].toList xs[i].toList with
       | true =>
        have q:Hid (Hu xs (i+1)=true):=(by have j:=A.out;subst j;rw[Hid,Hu,f,Lh l hnm,hL];rfl);generalize xs[i]=xi at *;generalize xs[k]=xk at *;have y:Hid ((Op.bytesLess xi.toList xk.toList || xi.toList == xk.toList)=false):=(by rw[Hid,Jl,hL];rfl);clear b c x hnm f m;obtain⟨D,E⟩:=Bool.or_eq_false_iff.1 y.out;go_wp2_with (go_at_call 90;refine(Io _ true B s _).mono ?_;rintro e I ⟨rfl,rfl⟩);go_wp2;go_roundw;case rel=>exact⟨i+1,by omega,by go_num,q.out,r⟩
        case measure=>simp[intOf];omega
       | false =>
        have q:Hid (Gb a xs=false):=(by rw[Hid,m.out];have j:=A.out;subst j;exact Ol xs (k+1) n hlt (by rw[Lh l hnm,hL]));generalize xs[i]=xi at *;generalize xs[k]=xk at *;have y:Hid ((Op.bytesLess xi.toList xk.toList || xi.toList == xk.toList)=true):=(by rw[Hid,Jl,hL];rfl);clear b c x hnm f m;have z:=y.out;cases D:Op.bytesLess xi.toList xk.toList <;> cases E:(xi.toList == xk.toList)
        all_goals try (exfalso;rw[D,E]at z;exact absurd z Ov)
        all_goals try clear z
        all_goals
         go_wp2_with (go_at_call 90;refine(Io _ true B s _).mono ?_;rintro e I ⟨rfl,rfl⟩);go_wp2;go_ret;exact⟨Bv q.out.symm,h⟩
    ·have F:i=n:=Ou;subst F;have q:Hid (Gb a xs=true):=(by rw[Hid,m.out];exact f);clear x f m;go_wp2;go_ret;exact⟨Bv q.out.symm,h⟩
  ·have m:Hid (Gb a xs=false):=U9 a xs (by rw[u.out];exact h1);simp only[u.out];go_enter Tryz.func65,Tryz.ntmps65;go_wp2;go_ret;exact⟨Bv m.out.symm,(Below.refl _ w).alloc (Nat.le_refl _) _⟩
 ·have m:Hid (Gb a xs=false):=U8 a xs h0;simp only[u.out];go_enter Tryz.func65,Tryz.ntmps65;go_wp2;go_ret;exact⟨Bv m.out.symm,(Below.refl _ w).alloc (Nat.le_refl _) _⟩
structure Dg where
 name:ByteArray
 text:ByteArray
def Tp (f:Dg):List Value:=[.string f.name,.string f.text]
def Di (fs:List Dg):List Value:=fs.flatMap Tp
theorem Ls (fs:List Dg):(Di fs).length=fs.length * 2:=by
 induction fs with
 | nil=>rfl
 | cons a r ih=>unfold Di at ih |-;rw[List.flatMap_cons,List.length_append,ih];simp only[Tp,List.length_cons,List.length_nil];omega
theorem Oi (fs:List Dg) (i:Nat) (hi:i < fs.length):(Di fs)[i * 2]? = some (.string fs[i].name)/\(Di fs)[i * 2+1]? = some (.string fs[i].text):=by
 induction fs generalizing i with
 | nil=>simp at hi
 | cons a r ih =>
  cases i with
  | zero=>exact⟨rfl,rfl⟩
  | succ k =>
   have d:k < r.length:=(by simpa using hi);obtain⟨b,c⟩:=ih k d;have e:Di (a::r) = .string a.name :: .string a.text::Di r:=rfl;rw[e,(by omega:(k+1) * 2=k * 2+1+1)];simp only[List.getElem?_cons_succ,List.getElem_cons_succ];exact⟨b,c⟩
def Gc (w:World) (v:Value) (fs:List Dg):Prop :=
 ∃ a cap,v = .slice a fs.length cap/\∀ i (hi:i < fs.length),∃ g o,a=some (OI g o)/\g < w.heap.size/\w.cell? (OI g (o+i * 2))=some (.string fs[i].name)/\w.cell? (OI g (o+i * 2+1))=some (.string fs[i].text)
theorem Gc.below {w w':World} {v:Value} {fs:List Dg} (h:Gc w v fs) (hb:OH w w'):Gc w' v fs:=by
 obtain⟨a,b,rfl,k⟩:=h;refine⟨a,b,rfl,fun i hi => ?_⟩;obtain⟨g,o,j,c,d,f⟩:=k i hi;exact⟨g,o,j,Nat.lt_of_lt_of_le c hb.size,by rw[hb.cell (p:=(OI g (o+i * 2))) c];exact d,by rw[hb.cell (p:=(OI g (o+i * 2+1))) c];exact f⟩
theorem Ph {a b:Int} (h:a=b):(Ending.returned (.int .i64 a):Ending) = .returned (.int .i64 b):=by rw[h]
def Kk (f:Dg) (l:Int):Int:=if l - (f.name.size:Int) < 0 then -1 else if l - (f.name.size:Int) - (f.text.size:Int) < 0 then -1 else l - (f.name.size:Int) - (f.text.size:Int)
def J3 : List Dg->Int->Int
 | [],l=>l
 | d::r,l=>if Kk d l < 0 then -1 else J3 r (Kk d l)
def Tt (fs:List Dg) (l:Int):Int:=if l - (fs.length:Int) < 0 then -1 else J3 fs (l - (fs.length:Int))
theorem X6 (f:Dg) (l:Int) : -1<=Kk f l/\(0<=Kk f l->Kk f l<=l/\(f.name.size:Int)<=l/\(f.text.size:Int)<=l):=by
 unfold Kk;split
 ·omega
 ·split <;> omega
theorem X7 : ∀ (fs:List Dg) (l:Int),0<=l -> -1<=J3 fs l/\J3 fs l<=l/\(0<=J3 fs l->∀ d ∈ fs,(d.name.size:Int)<=l/\(d.text.size:Int)<=l)
 | [],l,h=>by rw[J3];exact⟨by omega,by omega,fun _ d hd=>by simp at hd⟩
 | d::r,l,h=>by
  obtain⟨m,i⟩:=X6 d l
  rw[J3]
  split
  ·exact⟨by omega,by omega,fun h=>Ou⟩
  ·rename_i hn
   obtain⟨j,b,c⟩:=i Ou
   obtain⟨f,k,g⟩:=X7 r (Kk d l) Ou
   refine⟨f,by omega,fun hp x a => ?_⟩
   rcases List.mem_cons.1 a with rfl|a
   ·exact⟨b,c⟩
   ·obtain⟨n,o⟩:=g hp x a;exact⟨by omega,by omega⟩
theorem Qf1 (fs:List Dg) (l:Int) (h:0<=l) : -1<=Tt fs l/\Tt fs l<=l/\(0<=Tt fs l->(fs.length:Int)<=l/\∀ d ∈ fs,(d.name.size:Int)<=l/\(d.text.size:Int)<=l):=by
 unfold Tt;split
 ·exact⟨by omega,by omega,fun h=>Ou⟩
 ·obtain⟨a,c,b⟩:=X7 fs (l - (fs.length:Int)) Ou;exact⟨a,by omega,fun hp=>⟨by omega,fun d hd=>by obtain⟨f,g⟩:=b hp d hd;exact⟨by omega,by omega⟩⟩⟩
theorem Oq (a b:ByteArray) (l:Int) (ha:a.size<=9223372036854775807) (hb:b.size<=9223372036854775807) (h0:0<=l) (h1:l<=1048576) (w:World) :
  Calls Tryz.prog 52 #[.agg #[.string a,.string b],.int .i64 l] w fun e w'=>e = .returned (.int .i64 (Kk ⟨a,b⟩ l))/\OH w w':=by
 unfold Kk;simp only;by_cases h:l - (a.size:Int) < 0
 ·rw[if_pos h];go_enter Tryz.func52,Tryz.ntmps52;go_wp2;go_ret;exact⟨rfl,(Below.refl _ w).alloc (Nat.le_refl _) _⟩
 ·rw[if_neg h];by_cases h2:l - (a.size:Int) - (b.size:Int) < 0
  ·rw[if_pos h2];go_enter Tryz.func52,Tryz.ntmps52;go_wp2;go_ret;exact⟨rfl,(Below.refl _ w).alloc (Nat.le_refl _) _⟩
  ·rw[if_neg h2];go_enter Tryz.func52,Tryz.ntmps52;go_wp2;go_ret;exact⟨rfl,(Below.refl _ w).alloc (Nat.le_refl _) _⟩
theorem Tu (fs:List Dg) (v:Value) (l:Int) (h0:0<=l) (h1:l<=1048576) (hn:fs.length<=9223372036854775807) (hx:∀ d ∈ fs,d.name.size<=9223372036854775807/\d.text.size<=9223372036854775807) (w:World) (hN:Gc w v fs) :
  Calls Tryz.prog 19 #[v,.int .i64 l] w fun e w'=>e = .returned (.int .i64 (Tt fs l))/\OH w w':=by
 obtain⟨a,L,rfl,I⟩:=hN;obtain⟨x,G⟩:∃ q,Hid (Tt fs l=q):=⟨_,(rfl:Tt fs l=_)⟩;have j:Hid ((if l - (fs.length:Int) < 0 then -1 else J3 fs (l - (fs.length:Int)))=x):=G;rw[G.out];clear G;obtain⟨n,C⟩:∃ n,Hid (fs.length=n):=⟨_,(rfl:fs.length=_)⟩;have F:Hid (∀ i (P:i < fs.length),∃ g o,a=some (OI g o)/\g < w.heap.size/\w.cell? (OI g (o+i * 2))=some (.string fs[i].name)/\w.cell? (OI g (o+i * 2+1))=some (.string fs[i].text)):=I;clear I;rw[C.out]at hn j;simp only[C.out];by_cases hl:l - (n:Int) < 0
 ·have y:Hid (x = -1):=by have h:=j.out;rw[if_pos hl]at h;exact h.symm
  clear j;go_enter Tryz.func19,Tryz.ntmps19;go_wp2;go_ret;exact⟨Ph y.out.symm,Below.refl _ _⟩
 ·have y:Hid (J3 fs (l - (n:Int))=x):=by have h:=j.out;rw[if_neg hl]at h;exact h
  clear j;go_enter Tryz.func19,Tryz.ntmps19;go_wp2;go_loopw [1,5] (fun tl tv wr => ∃ (i:Nat) (q:Int),i<=n/\tv = .int .i64 (i:Int)/\tl = .int .i64 q/\0<=q/\q<=1048576/\J3 (fs.drop i) q=x/\OH w wr) (fun _ tv _=>n - (intOf tv).toNat);case atStart=>exact⟨0,l - (n:Int),by omega,rfl,rfl,by omega,by omega,y.out,Below.refl _ _⟩
  case round =>
   obtain⟨i,q,P,rfl,rfl,A,B,m,f⟩:=hrel;have K:=f.size;by_cases hlt:i < n
   ·have r:i < fs.length:=(by rw[C.out];exact hlt);obtain⟨g,o,rfl,J,k,c⟩:=F.out i r;rw[List.drop_eq_getElem_cons r,J3]at m;obtain⟨t,u⟩:=hx fs[i] (List.getElem_mem r);have b:=(X6 fs[i] q);have M:wr.cell? (OI g (o+i * 2))=some (.string fs[i].name):=(by rw[f.cell (p:=(OI g (o+i * 2))) J,k]);have N:wr.cell? (OI g (o+i * 2+1))=some (.string fs[i].text):=(by rw[f.cell (p:=(OI g (o+i * 2+1))) J,c]);generalize fs[i]=d at *;obtain⟨D,E⟩:=d;simp only at M N t u;clear k c F y;obtain⟨s,H⟩:∃ s,Hid (Kk ⟨D,E⟩ q=s):=⟨_,(rfl:Kk ⟨D,E⟩ q=_)⟩;rw[H.out]at m b;obtain⟨O,b⟩:=b;by_cases hlq:s < 0
    ·have z:Hid (x = -1):=(by rw[if_pos hlq]at m;exact m.symm);clear m b;go_wp2_with (go_at_call 52;(refine(Oq D E q t u A B _).mono ?_;rintro e R ⟨rfl,b⟩;rw[H.out]));go_ret;exact⟨Ph z.out.symm,f.trans (b.mono K)⟩
    ·have z:Hid (J3 (fs.drop (i+1)) s=x):=(by rw[if_neg hlq]at m;exact m);obtain⟨Q,_,_⟩:=b Ou;clear m b;go_wp2_with (go_at_call 52;(refine(Oq D E q t u A B _).mono ?_;rintro e R ⟨rfl,b⟩;rw[H.out]));go_roundw;case rel=>exact⟨i+1,s,by omega,by go_num,rfl,by omega,by omega,z.out,f.trans (b.mono K)⟩
     case measure=>simp[intOf];omega
   ·have z:Hid (x=q):=(by rw[List.drop_of_length_le (by rw[C.out];omega)]at m;exact m.symm);clear m F y;go_wp2;go_ret;exact⟨Ph z.out.symm,f⟩
theorem Yo (a b c d:ByteArray) (w:World) :
  Calls Tryz.prog 73 #[.agg #[.string a,.string b],.agg #[.string c,.string d]] w fun e w'=>e = .returned (.bool (decide (a=c) && decide (b=d)))/\OH w w':=by
 have f:∀ o1 o2:Obj,OH w ((w.alloc o1).alloc o2):=fun o1 o2=>((Below.refl _ w).alloc (Nat.le_refl _) o1).alloc OB o2
 by_cases h1:a=c
 ·subst h1;by_cases h2:b=d
  ·subst h2;go_enter Tryz.func73,Tryz.ntmps73;go_wp2;all_goals go_ret
   all_goals exact⟨by simp,f _ _⟩
  ·have g:(b.toList == d.toList)=false:=by
    rw[beq_eq_false_iff_ne];intro h;apply h2;rw[ByteArray.toList_eq,ByteArray.toList_eq]at h;exact ByteArray.ext (Array.toList_inj.1 h)
   have i:(b.toList != d.toList)=true:=(by rw[bne,g];rfl);go_enter Tryz.func73,Tryz.ntmps73;go_wp2;all_goals go_ret
   all_goals exact⟨by simp[h2],f _ _⟩
 ·have g:(a.toList == c.toList)=false:=by
   rw[beq_eq_false_iff_ne];intro h;apply h1;rw[ByteArray.toList_eq,ByteArray.toList_eq]at h;exact ByteArray.ext (Array.toList_inj.1 h)
  have i:(a.toList != c.toList)=true:=by rw[bne,g];rfl
  go_enter Tryz.func73,Tryz.ntmps73;go_wp2;all_goals go_ret
  all_goals exact⟨by simp[h1],f _ _⟩
theorem M6 (fs:List Dg) (va vb:Value) (w:World) (ha:Gc w va fs) (hb:Gc w vb fs) (hl:fs.length<=1048576) :
  Calls Tryz.prog 41 #[va,vb] w fun e w'=>e = .returned (.bool true)/\OH w w':=by
 obtain⟨a,N,rfl,J⟩:=ha;obtain⟨b,O,rfl,K⟩:=hb;obtain⟨n,E⟩:∃ n,Hid (fs.length=n):=⟨_,(rfl:fs.length=_)⟩;have C:Hid (∀ i (L:i < fs.length),∃ g o,a=some (OI g o)/\g < w.heap.size/\w.cell? (OI g (o+i * 2))=some (.string fs[i].name)/\w.cell? (OI g (o+i * 2+1))=some (.string fs[i].text)):=J;have D:Hid (∀ i (L:i < fs.length),∃ g o,b=some (OI g o)/\g < w.heap.size/\w.cell? (OI g (o+i * 2))=some (.string fs[i].name)/\w.cell? (OI g (o+i * 2+1))=some (.string fs[i].text)):=K;clear J K;rw[E.out]at hl;simp only[E.out];have P:((n:Int) != (n:Int))=false:=by simp
 go_enter Tryz.func41,Tryz.ntmps41;go_wp2;go_loopw [5] (fun t wr => ∃ i:Nat,i<=n/\t = .int .i64 (i:Int)/\OH w wr) (fun t _=>n - (intOf t).toNat);case atStart=>exact⟨0,by omega,rfl,Below.refl _ _⟩
 case round =>
  obtain⟨i,L,rfl,c⟩:=hrel;have Q:w.heap.size<=wr.heap.size:=c.size;by_cases hlt:i < n
  ·have x:i < fs.length:=(by rw[E.out];exact hlt);obtain⟨y,A,rfl,u,r,f⟩:=C.out i x;obtain⟨z,B,rfl,v,s,h⟩:=D.out i x;have G:wr.cell? (OI y (A+i * 2))=some (.string fs[i].name):=(by rw[c.cell (p:=(OI y (A+i * 2))) u,r]);have l:wr.cell? (OI y (A+i * 2+1))=some (.string fs[i].text):=(by rw[c.cell (p:=(OI y (A+i * 2+1))) u,f]);have H:wr.cell? (OI z (B+i * 2))=some (.string fs[i].name):=(by rw[c.cell (p:=(OI z (B+i * 2))) v,s]);have m:wr.cell? (OI z (B+i * 2+1))=some (.string fs[i].text):=(by rw[c.cell (p:=(OI z (B+i * 2+1))) v,h]);generalize fs[i]=d at *;obtain⟨j,k⟩:=d;simp only at G l H m;clear r s f h C D;have I:∀ w,Calls Tryz.prog 73 #[.agg #[.string j,.string k],.agg #[.string j,.string k]] w fun e w'=>e = .returned (.bool true)/\OH w w':=fun w=>by
    have:=Yo j k j k w;simpa using this
   have M:Hid (∀ w,Calls Tryz.prog 73 #[.agg #[.string j,.string k],.agg #[.string j,.string k]] w fun e w'=>e = .returned (.bool true)/\OH w w'):=I;clear I;go_wp2_with fail;go_region_with (go_at_call 73;refine(M.out _).mono ?_;rintro e R ⟨rfl,F⟩);all_goals
    have q:OH w R:=c.trans (by have:=F.mono (B':=w.heap.size) (by simpa using Q);exact⟨this.os,this.tape,this.output,this.size,this.block⟩);clear G l H m;go_wp2;go_roundw;case rel=>exact⟨i+1,by omega,by go_num,q⟩
    case measure=>simp[intOf];omega
  ·clear C D;go_wp2;go_ret;exact⟨rfl,c⟩
theorem We (a b:ByteArray) (w:World) :
  Calls Tryz.prog 60 #[.agg #[.string a,.string b]] w fun e w'=>e = .returned (.agg #[.string a,.string b])/\OH w w':=by
 go_enter Tryz.func60,Tryz.ntmps60;go_wp2;exact bodyPost_ret (v:=.agg #[.string a,.string b]) (by simp[results,Tryz.results60,go_sem]) rfl ⟨rfl,(((Below.refl _ w).alloc (Nat.le_refl _) _).alloc OB _).alloc (by simp only[World.size_alloc];omega) _⟩
def Oj (c:Nat) (d:Dg) (xs:List Value):List Value:=(xs.set c (.string d.name)).set (c+1) (.string d.text)
def Fz (fs:List Dg):Nat->List Value->List Value
 | 0,xs=>xs
 | i+1,xs=>match fs[i]? with
  | some d=>Oj (i * 2) d (Fz fs i xs)
  | none=>Fz fs i xs
theorem Qao (c:Nat) (d:Dg) (xs:List Value):(Oj c d xs).length=xs.length:=by simp[Oj]
theorem Oo (fs:List Dg) (i:Nat) (xs:List Value):(Fz fs i xs).length=xs.length:=by
 induction i with
 | zero=>rfl
 | succ i ih =>
  rw[Fz];split
  ·rw[Qao,ih]
  ·exact ih
theorem Yp (fs:List Dg) (n:Nat) (xs:List Value) (hn:n * 2<=xs.length) (hl:n<=fs.length) (i:Nat) (hi:i < n):(Fz fs n xs)[i * 2]? = some (.string (fs[i]'Ou).name)/\(Fz fs n xs)[i * 2+1]? = some (.string (fs[i]'Ou).text):=by
 induction n with
 | zero=>omega
 | succ n ih =>
  rw[Fz];have a:fs[n]? = some (fs[n]'Ou):=List.getElem?_eq_getElem Ou;rw[a];simp only;have b:=Oo fs n xs;by_cases h:i=n
  ·subst h;unfold Oj;exact⟨by rw[List.getElem?_set_ne Ou,List.getElem?_set_self Ou],by rw[List.getElem?_set_self (by rw[List.length_set];omega)]⟩
  ·obtain⟨c,d⟩:=ih Ou Ou Ou;unfold Oj;exact⟨by rw[List.getElem?_set_ne Ou,List.getElem?_set_ne Ou];exact c,by rw[List.getElem?_set_ne Ou,List.getElem?_set_ne Ou];exact d⟩
theorem Wc (fs:List Dg) (xs:List Value) (h:xs.length=fs.length * 2):Fz fs fs.length xs=Di fs:=by
 apply List.ext_getElem?;intro j;by_cases hj:j < fs.length * 2
 ·have a:=Yp fs fs.length xs Ou (Nat.le_refl _) (j / 2) Ou;have b:=Oi fs (j / 2) Ou;rcases Nat.mod_two_eq_zero_or_one j with e|e
  ·have c:j / 2 * 2=j:=Ou;rw[c]at a b;rw[a.1,b.1]
  ·have c:j / 2 * 2+1=j:=Ou;rw[c]at a b;rw[a.2,b.2]
 ·rw[List.getElem?_eq_none (by rw[Oo];omega),List.getElem?_eq_none (by rw[Ls];omega)]
theorem Tryz.infoFile : (Tryz.prog.info? 55).map (fun i=>(i.zero,i.size,i.bytes))=some (some (.agg #[.string ByteArray.empty,.string ByteArray.empty]),2,32):=OA
theorem Ro {w:World} {B e size n g cap:Nat} {xs:List Value} (h:w.ownsRow B e size (.slice (some (OI g 0)) n cap) n xs) (j:Nat) (hj:j < n * size):∃ y,w.cell? (OI g j)=some y:=by
 rw[h.cellAt j hj];exact⟨_,List.getElem?_eq_getElem (by rw[h.1];exact hj)⟩
theorem Yq {W W':World} {B e size n:Nat} {v:Value} {xs:List Value} (h:W.ownsRow B e size v n xs) (hb:OH W W'):W'.ownsRow B e size v n xs:=by
 refine⟨h.1, ?_⟩;rcases h.2 with f|⟨g,b,c,i,d,a,rest⟩
 ·exact .inl f
 ·exact .inr ⟨g,b,c,i,d,by rw[hb.block g (Array.getElem?_eq_some_iff.1 a).1];exact a,rest⟩
theorem Tx (fs:List Dg) (v:Value) (w:World) (hN:Gc w v fs) (hl:fs.length<=1048576) :
  Calls Tryz.prog 31 #[v] w fun e w' => ∃ v',e = .returned v'/\w'.ownsRow w.heap.size 55 2 v' fs.length (Di fs)/\OH w w':=by
 obtain⟨P,C,G,H,I⟩:=info_parts Tryz.infoFile;obtain⟨a,M,rfl,J⟩:=hN;obtain⟨n,r⟩:∃ n,Hid (fs.length=n):=⟨_,(rfl:fs.length=_)⟩;have y:Hid (∀ i (N:i < fs.length),∃ g o,a=some (OI g o)/\g < w.heap.size/\w.cell? (OI g (o+i * 2))=some (.string fs[i].name)/\w.cell? (OI g (o+i * 2+1))=some (.string fs[i].text)):=J;clear J;rw[r.out]at hl;simp only[r.out];go_enter Tryz.func31,Tryz.ntmps31;go_wp2_with (at_make;(refine wpList_make_full _ rfl _ _ 32 rfl w.heap.size 55 P (.agg #[.string ByteArray.empty,.string ByteArray.empty]) 2 Tryz.underlying32 C G H .i64 .i64 _ _ n rfl rfl rfl rfl (by rw[I];omega) OF (Nat.le_refl _) ?_;intro Q c m));have A:OH w Q:=Below.grown (Below.refl _ w) m (Nat.le_refl _) (fun k h=>by cases h);obtain⟨q,L⟩:∃ q,Hid ((madeCells (Value.agg #[.string ByteArray.empty,.string ByteArray.empty]).cells (n * 2)).toList=q):=⟨_,(rfl:_=_)⟩;rw[L.out]at c;have F:=c.1;go_loopw [4] (fun t wr => ∃ i:Nat,i<=n/\t = .int .i64 (i:Int)/\wr.ownsRow w.heap.size 55 2 (.slice (some (OK w 0)) n n) n (Fz fs i q)/\OH w wr) (fun t _=>n - (intOf t).toNat);case atStart=>exact⟨0,by omega,rfl,c,A⟩
 case round =>
  obtain⟨i,N,rfl,E,j⟩:=hrel;have O:=j.size;by_cases hlt:i < n
  ·have u:i < fs.length:=(by rw[r.out];exact hlt);obtain⟨g,o,rfl,K,l,f⟩:=y.out i u;have T:wr.cell? (OI g (o+i * 2))=some (.string fs[i].name):=(by rw[j.cell (p:=(OI g (o+i * 2))) K,l]);have U:wr.cell? (OI g (o+i * 2+1))=some (.string fs[i].text):=(by rw[j.cell (p:=(OI g (o+i * 2+1))) K,f]);have z:Hid (Fz fs (i+1) q=Oj (i * 2) fs[i] (Fz fs i q)):=(by rw[Hid,Fz,List.getElem?_eq_getElem u]);generalize fs[i]=d at *;clear l f y;go_wp2_with (go_at_call 60;(refine(We _ _ _).mono ?_;rintro e X ⟨rfl,s⟩;have b:=Yq E s;obtain⟨Y,R⟩:=Ro b (i * 2) Ou;obtain⟨Z,S⟩:=Ro b (i * 2+1) Ou;have V:=b.frozenAt (i * 2);have W:=b.frozenAt (i * 2+1)));have x:=((b.stored (i * 2) (.string d.name)).1.stored (i * 2+1) (.string d.text)).1;have B:=(((j.trans (s.mono O)).setCell (p:=(OK w (i * 2))) (Nat.le_refl _) (.string d.name)).setCell (p:=(OK w (i * 2+1))) (Nat.le_refl _) (.string d.text));go_roundw;case rel=>exact⟨i+1,by omega,by go_num,by rw[z.out];exact x,B⟩
   case measure=>simp[intOf];omega
  ·have D:i=n:=Ou;subst D;have z:Hid (Fz fs i q=Di fs):=by
    have:=Wc fs q (by rw[r.out];exact F);rw[r.out]at this;exact this
   rw[z.out]at E;clear y;go_wp2;go_ret;exact⟨_,rfl,E,j⟩
end Go.Proofs.YtahibkjkpmdhgaaGreatDoor
