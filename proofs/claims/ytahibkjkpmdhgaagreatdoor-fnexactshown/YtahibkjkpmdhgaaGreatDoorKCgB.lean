import Derived.Test.YtahibkjkpmdhgaaGreatDoorKTk
import Derived.Deep.RegionWith
import Derived.Test.YtahibkjkpmdhgaaGreatDoorKCdT
set_option maxRecDepth 100000
set_option maxHeartbeats 2000000
namespace Go.Proofs.YtahibkjkpmdhgaaGreatDoor
open Go.RowKit
def E0 (w:World) (v:Value) (l:List Az):Prop :=
 ∃ a cap,v = .slice a l.length cap/\∀ i (hi:i < l.length),∃ g o,a=some (OI g o)/\g < w.heap.size/\w.cell? (OI g (o+i * 4))=some (.int .i64 l[i].op)/\w.cell? (OI g (o+i * 4+1))=some (.int .i64 l[i].a)/\w.cell? (OI g (o+i * 4+2))=some (.int .i64 l[i].n)/\w.cell? (OI g (o+i * 4+3))=some (.string l[i].text)
theorem E0.below {w w':World} {v:Value} {l:List Az} (h:E0 w v l) (hb:OH w w'):E0 w' v l:=by
 obtain⟨a,c,rfl,n⟩:=h;refine⟨a,c,rfl,fun i hi => ?_⟩;obtain⟨g,o,m,b,d,f,j,k⟩:=n i hi;exact⟨g,o,m,Nat.lt_of_lt_of_le b hb.size,by rw[hb.cell (p:=(OI g (o+i * 4))) b];exact d,by rw[hb.cell (p:=(OI g (o+i * 4+1))) b];exact f,by rw[hb.cell (p:=(OI g (o+i * 4+2))) b];exact j,by rw[hb.cell (p:=(OI g (o+i * 4+3))) b];exact k⟩
def Ez (w:World) (v:Value) (c:List Af):Prop :=
 ∃ a cap,v = .slice a c.length cap/\∀ k (hk:k < c.length),∃ g o pa pc ia ic,a=some (OI g o)/\g < w.heap.size/\(w.cell? (OI g (o+k * 5))=some (.string c[k].name)/\w.cell? (OI g (o+k * 5+1))=some (.slice pa c[k].params.length pc)/\w.cell? (OI g (o+k * 5+2))=some (.int .i64 c[k].result)/\w.cell? (OI g (o+k * 5+3))=some (.int .i64 c[k].slots)/\w.cell? (OI g (o+k * 5+4))=some (.slice ia c[k].ins.length ic))/\Ac w.heap.size w (.slice pa c[k].params.length pc) c[k].params/\E0 w (.slice ia c[k].ins.length ic) c[k].ins
theorem Ez.below {w w':World} {v:Value} {c:List Af} (h:Ez w v c) (hb:OH w w'):Ez w' v c:=by
 obtain⟨a,d,rfl,s⟩:=h;refine⟨a,d,rfl,fun i hi => ?_⟩;obtain⟨g,o,x,y,t,u,r,b,⟨f,j,k,l,m⟩,n,q⟩:=s i hi;exact⟨g,o,x,y,t,u,r,Nat.lt_of_lt_of_le b hb.size,⟨by rw[hb.cell (p:=(OI g (o+i * 5))) b];exact f,by rw[hb.cell (p:=(OI g (o+i * 5+1))) b];exact j,by rw[hb.cell (p:=(OI g (o+i * 5+2))) b];exact k,by rw[hb.cell (p:=(OI g (o+i * 5+3))) b];exact l,by rw[hb.cell (p:=(OI g (o+i * 5+4))) b];exact m⟩,Ac.mono (n.below hb) hb.size,q.below hb⟩
theorem Ez.slice {w:World} {v:Value} {c:List Af} (h:Ez w v c):∃ p k,v = .slice p c.length k:=by
 obtain⟨p,k,h,_⟩:=h;exact⟨p,k,h⟩
def I7 (n:Nat) (l:Int):Int:=if l - (n:Int) < 0 then -1 else l - (n:Int)
def Nz : List Az->Int->Int
 | [],l=>l
 | i::r,l=>if I7 i.text.size l < 0 then -1 else Nz r (I7 i.text.size l)
def Kz (is:List Az) (l:Int):Int:=if l - (is.length:Int) < 0 then -1 else Nz is (l - (is.length:Int))
def Nb (f:Af) (l:Int):Int :=
 if l - (f.name.size:Int) < 0 then -1 else if I7 f.params.length (l - (f.name.size:Int)) < 0 then -1 else Kz f.ins (I7 f.params.length (l - (f.name.size:Int)))
def Nc : List Af->Int->Int
 | [],l=>l
 | f::r,l=>if Nb f l < 0 then -1 else Nc r (Nb f l)
def Pb (c:List Af) (l:Int):Int:=if l - (c.length:Int) < 0 then -1 else Nc c (l - (c.length:Int))
theorem Qg (n:Nat) (l:Int) : -1<=I7 n l/\(0<=I7 n l->I7 n l<=l/\(n:Int)<=l):=by
 unfold I7;split <;> omega
theorem Qb6 : ∀ (is:List Az) (l:Int),0<=l -> -1<=Nz is l/\Nz is l<=l
 | [],l,h=>by rw[Nz];exact⟨by omega,by omega⟩
 | i::r,l,h=>by
  obtain⟨g,b⟩:=Qg i.text.size l
  rw[Nz]
  split
  ·exact⟨by omega,by omega⟩
  ·obtain⟨c,d⟩:=b Ou
   obtain⟨a,f⟩:=Qb6 r (I7 i.text.size l) Ou
   exact⟨a,by omega⟩
theorem Yf (is:List Az) (l:Int) (h:0<=l) : -1<=Kz is l/\Kz is l<=l/\(0<=Kz is l->(is.length:Int)<=l):=by
 unfold Kz;split
 ·exact⟨by omega,by omega,fun h=>Ou⟩
 ·obtain⟨a,b⟩:=Qb6 is (l - (is.length:Int)) Ou;exact⟨a,by omega,fun hp=>Ou⟩
def Ys (f:Af) (l:Int):Prop:=(f.name.size:Int)<=l/\(f.params.length:Int)<=l/\(f.ins.length:Int)<=l
theorem Qb5 (f:Af) (l:Int) (h:0<=l) : -1<=Nb f l/\Nb f l<=l/\(0<=Nb f l->Ys f l):=by
 unfold Nb Ys;split
 ·exact⟨by omega,by omega,fun h=>Ou⟩
 ·obtain⟨j,c⟩:=Qg f.params.length (l - (f.name.size:Int));split
  ·exact⟨by omega,by omega,fun h=>Ou⟩
  ·obtain⟨d,g⟩:=c Ou;obtain⟨a,i,b⟩:=Yf f.ins (I7 f.params.length (l - (f.name.size:Int))) Ou;exact⟨a,by omega,fun hp=>⟨by omega,by omega,by have:=b hp;omega⟩⟩
theorem Qb7 : ∀ (c:List Af) (l:Int),0<=l -> -1<=Nc c l/\Nc c l<=l/\(0<=Nc c l->∀ f ∈ c,Ys f l)
 | [],l,h=>by rw[Nc];exact⟨by omega,by omega,fun _ d hd=>by simp at hd⟩
 | f::r,l,h=>by
  obtain⟨k,m,i⟩:=Qb5 f l h
  rw[Nc]
  split
  ·exact⟨by omega,by omega,fun h=>Ou⟩
  ·obtain⟨b,j,g⟩:=Qb7 r (Nb f l) Ou
   refine⟨b,by omega,fun hp x a => ?_⟩
   rcases List.mem_cons.1 a with rfl|a
   ·exact i Ou
   ·obtain⟨n,o,p⟩:=g hp x a;exact⟨by omega,by omega,by omega⟩
theorem Qb4 (c:List Af) (l:Int) (h:0<=l) : -1<=Pb c l/\Pb c l<=l/\(0<=Pb c l->(c.length:Int)<=l/\∀ f ∈ c,Ys f l):=by
 unfold Pb;split
 ·exact⟨by omega,by omega,fun h=>Ou⟩
 ·obtain⟨a,g,b⟩:=Qb7 c (l - (c.length:Int)) Ou;exact⟨a,by omega,fun hp=>⟨by omega,fun d hd=>by obtain⟨i,j,k⟩:=b hp d hd;exact⟨by omega,by omega,by omega⟩⟩⟩
theorem Xm (a:Option Addr) (n cap:Nat) (l:Int) (hn:n<=9223372036854775807) (h0:0<=l) (h1:l<=1048576) (w:World) :
  Calls Tryz.prog 135 #[.slice a n cap,.int .i64 l] w fun e w'=>e = .returned (.int .i64 (I7 n l))/\OH w w':=by
 unfold I7;by_cases h:l - (n:Int) < 0
 ·rw[if_pos h];go_enter Tryz.func135,Tryz.ntmps135;go_wp2;go_ret;exact⟨rfl,Below.refl _ w⟩
 ·rw[if_neg h];go_enter Tryz.func135,Tryz.ntmps135;go_wp2;go_ret;exact⟨rfl,Below.refl _ w⟩
theorem Qe (op a n:Int) (t:ByteArray) (l:Int) (hn:t.size<=9223372036854775807) (h0:0<=l) (h1:l<=1048576) (w:World) :
  Calls Tryz.prog 164 #[.agg #[.int .i64 op,.int .i64 a,.int .i64 n,.string t],.int .i64 l] w fun e w'=>e = .returned (.int .i64 (I7 t.size l))/\OH w w':=by
 unfold I7;by_cases h:l - (t.size:Int) < 0
 ·rw[if_pos h];go_enter Tryz.func164,Tryz.ntmps164;go_wp2;go_ret;exact⟨rfl,(Below.refl _ w).alloc (Nat.le_refl _) _⟩
 ·rw[if_neg h];go_enter Tryz.func164,Tryz.ntmps164;go_wp2;go_ret;exact⟨rfl,(Below.refl _ w).alloc (Nat.le_refl _) _⟩
theorem Xl (is:List Az) (v:Value) (l:Int) (h0:0<=l) (h1:l<=1048576) (hn:is.length<=9223372036854775807) (hx:∀ d ∈ is,d.text.size<=9223372036854775807) (w:World) (hN:E0 w v is) :
  Calls Tryz.prog 136 #[v,.int .i64 l] w fun e w'=>e = .returned (.int .i64 (Kz is l))/\OH w w':=by
 obtain⟨a,O,rfl,M⟩:=hN;obtain⟨y,I⟩:∃ q,Hid (Kz is l=q):=⟨_,(rfl:Kz is l=_)⟩;have r:Hid ((if l - (is.length:Int) < 0 then -1 else Nz is (l - (is.length:Int)))=y):=I;rw[I.out];clear I;obtain⟨n,E⟩:∃ n,Hid (is.length=n):=⟨_,(rfl:is.length=_)⟩;have H:Hid (∀ i (U:i < is.length),∃ g o,a=some (OI g o)/\g < w.heap.size/\w.cell? (OI g (o+i * 4))=some (.int .i64 is[i].op)/\w.cell? (OI g (o+i * 4+1))=some (.int .i64 is[i].a)/\w.cell? (OI g (o+i * 4+2))=some (.int .i64 is[i].n)/\w.cell? (OI g (o+i * 4+3))=some (.string is[i].text)):=M;clear M;rw[E.out]at hn r;simp only[E.out];by_cases hl:l - (n:Int) < 0
 ·have z:Hid (y = -1):=by have h:=r.out;rw[if_pos hl]at h;exact h.symm
  clear r;go_enter Tryz.func136,Tryz.ntmps136;go_wp2;go_ret;exact⟨C9 z.out.symm,Below.refl _ _⟩
 ·have z:Hid (Nz is (l - (n:Int))=y):=by have h:=r.out;rw[if_neg hl]at h;exact h
  clear r;go_enter Tryz.func136,Tryz.ntmps136;go_wp2;go_loopw [1,5] (fun tl tv wr => ∃ (i:Nat) (q:Int),i<=n/\tv = .int .i64 (i:Int)/\tl = .int .i64 q/\0<=q/\q<=1048576/\Nz (is.drop i) q=y/\OH w wr) (fun _ tv _=>n - (intOf tv).toNat);case atStart=>exact⟨0,l - (n:Int),by omega,rfl,rfl,by omega,by omega,z.out,Below.refl _ _⟩
  case round =>
   obtain⟨i,q,U,rfl,rfl,C,D,m,c⟩:=hrel;have N:=c.size;by_cases hlt:i < n
   ·have u:i < is.length:=(by rw[E.out];exact hlt);obtain⟨g,o,rfl,G,t,f,j,k⟩:=H.out i u;rw[List.drop_eq_getElem_cons u,Nz]at m;have x:=hx is[i] (List.getElem_mem u);have b:=(Qg is[i].text.size q);have P:wr.cell? (OI g (o+i * 4))=some (.int .i64 is[i].op):=(by rw[c.cell (p:=(OI g (o+i * 4))) G,t]);have Q:wr.cell? (OI g (o+i * 4+1))=some (.int .i64 is[i].a):=(by rw[c.cell (p:=(OI g (o+i * 4+1))) G,f]);have R:wr.cell? (OI g (o+i * 4+2))=some (.int .i64 is[i].n):=(by rw[c.cell (p:=(OI g (o+i * 4+2))) G,j]);have S:wr.cell? (OI g (o+i * 4+3))=some (.string is[i].text):=(by rw[c.cell (p:=(OI g (o+i * 4+3))) G,k]);generalize is[i]=d at *;obtain⟨B,K,L,F⟩:=d;simp only at P Q R S x m b;clear t f j k H z;obtain⟨s,J⟩:∃ s,Hid (I7 F.size q=s):=⟨_,(rfl:I7 F.size q=_)⟩;rw[J.out]at m b;obtain⟨T,b⟩:=b;by_cases hlq:s < 0
    ·have A:Hid (y = -1):=(by rw[if_pos hlq]at m;exact m.symm);clear m b;go_wp2_with (go_at_call 164;(refine(Qe B K L F q x C D _).mono ?_;rintro e W ⟨rfl,b⟩;rw[J.out]));go_ret;exact⟨C9 A.out.symm,c.trans (b.mono N)⟩
    ·have A:Hid (Nz (is.drop (i+1)) s=y):=(by rw[if_neg hlq]at m;exact m);obtain⟨V,_⟩:=b Ou;clear m b;go_wp2_with (go_at_call 164;(refine(Qe B K L F q x C D _).mono ?_;rintro e W ⟨rfl,b⟩;rw[J.out]));go_roundw;case rel=>exact⟨i+1,s,by omega,by go_num,rfl,by omega,by omega,A.out,c.trans (b.mono N)⟩
     case measure=>simp[intOf];omega
   ·have A:Hid (y=q):=(by rw[List.drop_of_length_le (by rw[E.out];omega)]at m;exact m.symm);clear m H z;go_wp2;go_ret;exact⟨C9 A.out.symm,c⟩
theorem Qb0 (f:Af) (pa:Option Addr) (pc:Nat) (ia:Option Addr) (ic:Nat) (l:Int) (h0:0<=l) (h1:l<=1048576) (hn:f.name.size<=9223372036854775807) (hp:f.params.length<=9223372036854775807) (hi:f.ins.length<=9223372036854775807) (hx:∀ d ∈ f.ins,d.text.size<=9223372036854775807) (w:World) (hN:E0 w (.slice ia f.ins.length ic) f.ins) :
  Calls Tryz.prog 108 #[.agg #[.string f.name,.slice pa f.params.length pc,.int .i64 f.result,.int .i64 f.slots,.slice ia f.ins.length ic],.int .i64 l] w fun e w'=>e = .returned (.int .i64 (Nb f l))/\OH w w':=by
 obtain⟨j,k⟩:∃ Y,w.alloc (.cells #[.string f.name,.slice pa f.params.length pc,.int .i64 f.result,.int .i64 f.slots,.slice ia f.ins.length ic] 163)=Y:=⟨_,rfl⟩;have g:OH w j:=by rw[<- k];exact Ao w _
 have D:j.heap.size=w.heap.size+1:=by rw[<- k];exact World.size_alloc _ _
 have s:j.heap[w.heap.size]? = some (.cells #[.string f.name,.slice pa f.params.length pc,.int .i64 f.result,.int .i64 f.slots,.slice ia f.ins.length ic] 163):=by rw[<- k];exact Ae w _
 have F:j.cell? (OI w.heap.size 0)=some (.string f.name):=by rw[Lib.cell_of_heap s];rfl
 have G:j.cell? (OI w.heap.size 1)=some (.slice pa f.params.length pc):=by rw[Lib.cell_of_heap s];rfl
 have C:j.cell? (OI w.heap.size 4)=some (.slice ia f.ins.length ic):=by rw[Lib.cell_of_heap s];rfl
 have t:Hid (∀ U,OH j U->U.cell? (OI w.heap.size 4)=some (.slice ia f.ins.length ic)/\E0 U (.slice ia f.ins.length ic) f.ins/\OH w U):=fun U hU=>⟨(hU.cell (p:=(OI w.heap.size 4)) (by show w.heap.size < _;omega)).trans C,(hN.below g).below hU,g.trans (hU.mono g.size)⟩
 clear hN s;unfold Nb;by_cases hl:l - (f.name.size:Int) < 0
 ·rw[if_pos hl];go_enter Tryz.func108,Tryz.ntmps108;go_wp2;go_ret;exact⟨rfl,g⟩
 ·rw[if_neg hl];have o:Hid (∀ U,Calls Tryz.prog 135 #[.slice pa f.params.length pc,.int .i64 (l - (f.name.size:Int))] U fun e w'=>e = .returned (.int .i64 (I7 f.params.length (l - (f.name.size:Int))))/\OH U w'):=fun U=>Xm pa f.params.length pc (l - (f.name.size:Int)) hp Ou Ou U
  have m:=Qg f.params.length (l - (f.name.size:Int));obtain⟨q,B⟩:∃ q,Hid (I7 f.params.length (l - (f.name.size:Int))=q):=⟨_,(rfl:I7 f.params.length (l - (f.name.size:Int))=_)⟩;rw[B.out]at o m |-
  by_cases hq:q < 0
  ·have z:Hid (-1=q):=(by omega : -1=q);rw[if_pos hq];clear m;go_enter Tryz.func108,Tryz.ntmps108;go_wp2_with (first|(go_at_call 135;refine(o.out _).mono ?_;rintro e n ⟨rfl,b⟩;obtain⟨A,c,a⟩:=t.out n b));go_ret;exact⟨rfl,a⟩
  ·rw[if_neg hq];obtain⟨-,m⟩:=m;obtain⟨i,-⟩:=m Ou;have v:Hid (∀ U,E0 U (.slice ia f.ins.length ic) f.ins->Calls Tryz.prog 136 #[.slice ia f.ins.length ic,.int .i64 q] U fun e w'=>e = .returned (.int .i64 (Kz f.ins q))/\OH U w'):=fun U h=>Xl f.ins _ q Ou Ou hi hx U h
   obtain⟨x,y,-⟩:=Yf f.ins q Ou;obtain⟨r,z⟩:∃ r,Hid (Kz f.ins q=r):=⟨_,(rfl:Kz f.ins q=_)⟩;rw[z.out]at v x y |-
   by_cases hr:r < 0
   ·have u:Hid (-1=r):=(by omega : -1=r);go_enter Tryz.func108,Tryz.ntmps108;go_wp2_with (first|(go_at_call 135;refine(o.out _).mono ?_;rintro e n ⟨rfl,b⟩;obtain⟨A,c,a⟩:=t.out n b)|(go_at_call 136;refine(v.out _ c).mono ?_;rintro e E ⟨rfl,i⟩));go_ret;exact⟨C9 u.out,a.trans (i.mono a.size)⟩
   ·go_enter Tryz.func108,Tryz.ntmps108;go_wp2_with (first|(go_at_call 135;refine(o.out _).mono ?_;rintro e n ⟨rfl,b⟩;obtain⟨A,c,a⟩:=t.out n b)|(go_at_call 136;refine(v.out _ c).mono ?_;rintro e E ⟨rfl,i⟩));go_ret;exact⟨rfl,a.trans (i.mono a.size)⟩
def Lv (f:Af):Prop:=f.name.size<=9223372036854775807/\f.params.length<=9223372036854775807/\f.ins.length<=9223372036854775807/\∀ d ∈ f.ins,d.text.size<=9223372036854775807
theorem Zs (c:List Af) (v:Value) (l:Int) (h0:0<=l) (K:l<=1048576) (hn:c.length<=9223372036854775807) (hx:∀ f ∈ c,Lv f) (w:World) (hN:Ez w v c) :
  Calls Tryz.prog 81 #[v,.int .i64 l] w fun e w'=>e = .returned (.int .i64 (Pb c l))/\OH w w':=by
 have C:Hid (Ez w v c):=hN;obtain⟨a,S,Z⟩:=hN.slice;subst Z;clear hN;obtain⟨t,D⟩:∃ q,Hid (Pb c l=q):=⟨_,(rfl:Pb c l=_)⟩;have k:Hid ((if l - (c.length:Int) < 0 then -1 else Nc c (l - (c.length:Int)))=t):=D;rw[D.out];clear D;by_cases hl:l - (c.length:Int) < 0
 ·have E:Hid (t = -1):=by have h:=k.out;rw[if_pos hl]at h;exact h.symm
  clear k;go_enter Tryz.func81,Tryz.ntmps81;go_wp2;go_ret;exact⟨C9 E.out.symm,Below.refl _ _⟩
 ·have E:Hid (Nc c (l - (c.length:Int))=t):=by have h:=k.out;rw[if_neg hl]at h;exact h
  clear k;go_enter Tryz.func81,Tryz.ntmps81;go_wp2;go_loopw [1,5] (fun tl tv wr => ∃ (i:Nat) (q:Int),i<=c.length/\tv = .int .i64 (i:Int)/\tl = .int .i64 q/\0<=q/\q<=1048576/\Hid (Nc (c.drop i) q=t)/\OH w wr) (fun _ tv _=>c.length - (intOf tv).toNat);case atStart=>exact⟨0,l - (c.length:Int),by omega,rfl,rfl,by omega,by omega,E.out,Below.refl _ _⟩
  case round =>
   obtain⟨i,q,hi,rfl,rfl,B,I,z,b⟩:=hrel;have L:=b.size;by_cases hlt:i < c.length
   ·have A:(i:Int) < (c.length:Int):=Ou;obtain⟨g,o,u,x,n,r,G,m,e0,e1,e2,e3,e4,Q⟩:∃ g o u x n r,a=some (OI g o)/\g < w.heap.size/\wr.cell? (OI g (o+i * 5))=some (.string c[i].name)/\wr.cell? (OI g (o+i * 5+1))=some (.slice u c[i].params.length x)/\wr.cell? (OI g (o+i * 5+2))=some (.int .i64 c[i].result)/\wr.cell? (OI g (o+i * 5+3))=some (.int .i64 c[i].slots)/\wr.cell? (OI g (o+i * 5+4))=some (.slice n c[i].ins.length r)/\Hid (E0 wr (.slice n c[i].ins.length r) c[i].ins):=by
     obtain⟨a',J,e,h⟩:=C.out;injection e with e;subst e;obtain⟨g,o,u,x,n,r,Y,m,⟨K,T,U,V,W⟩,h6,X⟩:=h i hlt;exact⟨g,o,u,x,n,r,Y,m,by rw[b.cell (p:=(OI g (o+i * 5))) m];exact K,by rw[b.cell (p:=(OI g (o+i * 5+1))) m];exact T,by rw[b.cell (p:=(OI g (o+i * 5+2))) m];exact U,by rw[b.cell (p:=(OI g (o+i * 5+3))) m];exact V,by rw[b.cell (p:=(OI g (o+i * 5+4))) m];exact W,X.below b⟩
    subst G;obtain⟨M,N,O,P⟩:=hx c[i] (List.getElem_mem hlt);have F:Hid (Calls Tryz.prog 108 #[.agg #[.string c[i].name,.slice u c[i].params.length x,.int .i64 c[i].result,.int .i64 c[i].slots,.slice n c[i].ins.length r],.int .i64 q] wr fun e w'=>e = .returned (.int .i64 (Nb c[i] q))/\OH wr w'):=Qb0 c[i] u x n r q B I M N O P wr Q.out;have j:=z.out;rw[List.drop_eq_getElem_cons hlt,Nc]at j;obtain⟨H,d,-⟩:=Qb5 c[i] q B;obtain⟨s,R⟩:∃ s,Hid (Nb c[i] q=s):=⟨_,(rfl:Nb c[i] q=_)⟩;rw[R.out]at j H d F;clear M N O P;by_cases hlq:s < 0
    ·have y:Hid (t = -1):=(by rw[if_pos hlq]at j;exact j.symm);clear j;go_wp2_with (first|(go_at_call 108;(refine F.out.mono ?_;rintro e w1 ⟨rfl,d⟩)));go_ret;exact⟨C9 y.out.symm,b.trans (d.mono L)⟩
    ·have y:Hid (Nc (c.drop (i+1)) s=t):=(by rw[if_neg hlq]at j;exact j);clear j;go_wp2_with (first|(go_at_call 108;(refine F.out.mono ?_;rintro e w1 ⟨rfl,d⟩)));go_roundw;case rel=>exact⟨i+1,s,by omega,by go_num,rfl,by omega,by omega,y,b.trans (d.mono L)⟩
     case measure=>simp[intOf];omega
   ·have A:¬ (i:Int) < (c.length:Int):=Ou;have y:Hid (t=q):=(by have j:=z.out;rw[List.drop_of_length_le Ou]at j;exact j.symm);go_wp2;go_ret;exact⟨C9 y.out.symm,b⟩
theorem Xk (c:List Af) (a:Option Addr) (cap:Nat) (l:Int) (h0:0<=l) (h1:l<=1048576) (hn:c.length<=9223372036854775807) (hx:∀ f ∈ c,Lv f) (w:World) (hN:Ez w (.slice a c.length cap) c) :
  Calls Tryz.prog 50 #[.agg #[.slice a c.length cap],.int .i64 l] w fun e w'=>e = .returned (.int .i64 (Pb c l))/\OH w w':=by
 obtain⟨d,g,-⟩:=Qb4 c l h0;obtain⟨q,j⟩:∃ q,Hid (Pb c l=q):=⟨_,(rfl:Pb c l=_)⟩;rw[j.out]at d g |-
 have k:Hid (∀ o,Calls Tryz.prog 81 #[.slice a c.length cap,.int .i64 l] (w.alloc o) fun e w'=>e = .returned (.int .i64 q)/\OH w w'):=fun o=>by
  have b:=Ao w o;have h:=Zs c _ l h0 h1 hn hx (w.alloc o) (hN.below b);rw[j.out]at h;exact h.mono (fun e w' h=>⟨h.1,b.trans (h.2.mono b.size)⟩)
 clear hN hx;by_cases hq:q < 0
 ·have i:Hid (-1=q):=(by omega : -1=q);go_enter Tryz.func50,Tryz.ntmps50;go_wp2_with (first|(go_at_call 81;(refine(k.out _).mono ?_;rintro e m ⟨rfl,b⟩)));go_ret;exact⟨C9 i.out,b⟩
 ·go_enter Tryz.func50,Tryz.ntmps50;go_wp2_with (first|(go_at_call 81;(refine(k.out _).mono ?_;rintro e m ⟨rfl,b⟩)));go_ret;exact⟨rfl,b⟩
structure Gx (g:Nat) (e:TypeId) (N:Nat) (w:World) (cur:Array Value):Prop where
 blk:w.heap[g]? = some (.cells cur e (0,0))
 size:cur.size=N
theorem Gx.lt {g:Nat} {e:TypeId} {N:Nat} {w:World} {cur:Array Value} (h:Gx g e N w cur):g < w.heap.size:=(Array.getElem?_eq_some_iff.1 h.blk).1
theorem Gx.below {g:Nat} {e:TypeId} {N:Nat} {w w':World} {cur:Array Value} (h:Gx g e N w cur) (hb:OH w w'):Gx g e N w' cur:=⟨(hb.block g h.lt).trans h.blk,h.size⟩
theorem Gx.cell {g:Nat} {e:TypeId} {N:Nat} {w:World} {cur:Array Value} (h:Gx g e N w cur) (j:Nat) (hj:j < N):(∃ y,w.cell? (OI g j)=some y)/\w.frozen? (OI g j)=false:=by
 refine⟨⟨_,(Lib.cell_of_heap h.blk j).trans (Array.getElem?_eq_getElem (by rw[h.size];exact hj))⟩,by simp[World.frozen?,h.blk]⟩
theorem Gx.store {g:Nat} {e:TypeId} {N:Nat} {w:World} {cur:Array Value} (h:Gx g e N w cur) (j:Nat) (v:Value):Gx g e N (w.setCell (OI g j) v) (cur.setIfInBounds j v) :=
 ⟨by simp[World.setCell,Array.getElem?_modify,h.blk],by rw[Array.size_setIfInBounds];exact h.size⟩
def C8 (A:Nat) (w:World) (e:TypeId) (N:Nat) (v:Value):Prop := ∃ g n cap cur,v = .slice (some (OI g 0)) n cap/\A<=g/\Gx g e N w cur
theorem C8.keep {A:Nat} {w w':World} {e:TypeId} {N:Nat} {v:Value} (h:C8 A w e N v) (hk:∀ k,v.ownBlock=some k->w'.heap[k]? = w.heap[k]?):C8 A w' e N v:=by
 obtain⟨g,n,a,b,rfl,d,c⟩:=h;exact⟨g,n,a,b,rfl,d,(hk g rfl).trans c.blk,c.size⟩
theorem C8.below {A:Nat} {w w':World} {e:TypeId} {N:Nat} {v:Value} (h:C8 A w e N v) (hb:OH w w'):C8 A w' e N v:=by
 obtain⟨g,n,a,b,rfl,c,d⟩:=h;exact⟨g,n,a,b,rfl,c,d.below hb⟩
theorem C8.mono {A A':Nat} {w:World} {e:TypeId} {N:Nat} {v:Value} (h:C8 A w e N v) (hA:A'<=A):C8 A' w e N v:=by
 obtain⟨g,n,a,b,rfl,d,c⟩:=h;exact⟨g,n,a,b,rfl,by omega,c⟩
theorem Tryz.infoIns : (Tryz.prog.info? 107).map (fun i=>(i.zero,i.size,i.bytes))=some (some (.agg #[.int .i64 0,.int .i64 0,.int .i64 0,.string ⟨#[]⟩]),4,40):=OA
theorem Kv {P:Program} {t e:TypeId} {z:Value} {sz bytes:Nat} (hinfo:(P.info? e).map (fun i=>(i.zero,i.size,i.bytes))=some (some z,sz,bytes)) (ht:P.underlying t=some (.slice e)) (n:Nat) (hb:bytes * n<=281474976710656) (h63:n<=9223372036854775807) (W:World):(Instr.makeSlice t (.int .i64 (n:Int)) (.int .i64 (n:Int))).run P W = .ok (.slice (some (OI W.heap.size 0)) n n) (W.alloc (.cells (madeCells z.cells (n * sz)) e)):=by
 obtain⟨i,d,a⟩:=Option.map_eq_some_iff.1 hinfo;simp only[Prod.mk.injEq]at a;obtain⟨f,hs,c⟩:=a;have b:(i.bytes:Int) * (n:Int)<=281474976710656:=by
  rw[c];have h:((bytes * n:Nat):Int)<=281474976710656:=Ou
  rwa [Int.natCast_mul]at h
 have h:=run_make (P:=P) W t e i z ht d f .i64 .i64 n n Ou (Int.le_refl _) b Ou;simp only[Int.toNat_natCast,hs]at h;exact h
theorem Xo (l:List Int) (a:Option Addr) (cap:Nat) (hl:l.length<=1048576) (w:World) (B:Nat) (hB:B<=w.heap.size) (hN:Ac B w (.slice a l.length cap) l) :
  Calls Tryz.prog 146 #[.slice a l.length cap] w fun e w'=>e = .returned (.slice (some (OI w.heap.size 0)) l.length l.length)/\Ac w'.heap.size w' (.slice (some (OI w.heap.size 0)) l.length l.length) l/\C8 w.heap.size w' 3 l.length (.slice (some (OI w.heap.size 0)) l.length l.length)/\OH w w':=by
 have H:Hid (Ac B w (.slice a l.length cap) l):=hN;clear hN;have v:=Kv (P:=Tryz.prog) Tryz.infoIntC Tryz.underlying124 l.length Ou Ou;obtain⟨x,n⟩:∃ m,madeCells (Value.int .i64 0).cells (l.length * 1)=m:=⟨_,rfl⟩;have C:Hid (x.size=l.length):=by rw[Hid,<- n,size_madeCells,Nat.mul_one]
 rw[n]at v;clear n;go_enter Tryz.func146,Tryz.ntmps146;go_wp2_with fail;obtain⟨G,d⟩:∃ V,w.alloc (.cells x 3)=V:=⟨_,rfl⟩;rw[d];have s:Hid (Gx w.heap.size 3 l.length G x/\OH w G):=⟨⟨by rw[<- d];exact Ae w _,C.out⟩,by rw[<- d];exact Ao w _⟩;clear d v;go_loopw [4] (fun t wr => ∃ (i:Nat) (c:Array Value),i<=l.length/\t = .int .i64 (i:Int)/\Gx w.heap.size 3 l.length wr c/\Hid (∀ j (hj:j < l.length),j < i->c[j]? = some (.int .i64 l[j]))/\OH w wr) (fun t _=>l.length - (intOf t).toNat);case atStart=>exact⟨0,x,by omega,rfl,s.out.1,fun j hj h=>Ou,s.out.2⟩
 case round =>
  obtain⟨i,c,N,rfl,b,q,f⟩:=hrel;by_cases hlt:i < l.length
  ·have u:(i:Int) < (l.length:Int):=Ou;obtain⟨g,o,E,k⟩:∃ g o,a=some (OI g o)/\wr.cell? (OI g (o+i))=some (.int .i64 l[i]):=by
    obtain⟨K,L,e,h⟩:=H.out.below (f.mono hB);injection e with e1;subst e1;obtain⟨g,o,I,-,J⟩:=h i hlt;exact⟨g,o,I,J⟩
   subst E;obtain⟨z,F⟩:∃ z,l[i]=z:=⟨_,rfl⟩;rw[F]at k;obtain⟨⟨Q,O⟩,M⟩:=b.cell i hlt;have D:Hid (Gx w.heap.size 3 l.length (wr.setCell (OI w.heap.size i) (.int .i64 z)) (c.setIfInBounds i (.int .i64 z))):=b.store i _;have y:Hid (∀ j (hj:j < l.length),j < i+1->(c.setIfInBounds i (.int .i64 z))[j]? = some (.int .i64 l[j])):=fun j hj h=>by
    rw[Array.getElem?_setIfInBounds];by_cases e:i=j
    ·subst e;rw[if_pos rfl,if_pos (by rw[b.size];exact hlt),F]
    ·rw[if_neg e];exact q.out j hj Ou
   clear F b;go_wp2_with fail;go_roundw;case rel=>exact⟨i+1,_,by omega,by go_num,D.out,y,f.setCell (p:=(OI w.heap.size i)) (Nat.le_refl _) _⟩
   case measure=>simp[intOf];omega
  ·have u:¬ (i:Int) < (l.length:Int):=Ou;have r:Hid (Ac wr.heap.size wr (.slice (some (OI w.heap.size 0)) l.length l.length) l):=⟨_,_,rfl,fun j hj=>⟨w.heap.size,0,rfl,b.lt,by rw[Nat.zero_add,Lib.cell_of_heap b.blk];exact q.out j hj Ou⟩⟩;have A:Hid (C8 w.heap.size wr 3 (l.length) (.slice (some (OI w.heap.size 0)) l.length l.length)):=⟨_,_,_,c,rfl,Nat.le_refl _,b⟩;clear b;go_wp2_with fail;go_ret;exact⟨rfl,r.out,A.out,f⟩
theorem Zv (op a n:Int) (t:ByteArray) (w:World) :
  Calls Tryz.prog 168 #[.agg #[.int .i64 op,.int .i64 a,.int .i64 n,.string t]] w fun e w'=>e = .returned (.agg #[.int .i64 op,.int .i64 a,.int .i64 n,.string t])/\OH w w':=by
 go_enter Tryz.func168,Tryz.ntmps168;go_wp2;exact bodyPost_ret (v:=.agg #[.int .i64 op,.int .i64 a,.int .i64 n,.string t]) (by simp[results,Tryz.results168,go_sem]) rfl ⟨rfl,Gy w _ _ _⟩
theorem Xn (l:List Az) (a:Option Addr) (cap:Nat) (hl:l.length<=1048576) (w:World) (hN:E0 w (.slice a l.length cap) l) :
  Calls Tryz.prog 147 #[.slice a l.length cap] w fun e w'=>e = .returned (.slice (some (OI w.heap.size 0)) l.length l.length)/\Ba w'.heap.size w' (.slice (some (OI w.heap.size 0)) l.length l.length) l/\C8 w.heap.size w' 107 (l.length * 4) (.slice (some (OI w.heap.size 0)) l.length l.length)/\OH w w':=by
 have Y:Hid (E0 w (.slice a l.length cap) l):=hN;clear hN;have F:=Kv (P:=Tryz.prog) Tryz.infoIns Tryz.underlying128 l.length Ou Ou;obtain⟨H,z⟩:∃ m,madeCells (Value.agg #[.int .i64 0,.int .i64 0,.int .i64 0,.string ⟨#[]⟩]).cells (l.length * 4)=m:=⟨_,rfl⟩;have K:Hid (H.size=l.length * 4):=by rw[Hid,<- z,size_madeCells]
 rw[z]at F;clear z;go_enter Tryz.func147,Tryz.ntmps147;go_wp2_with fail;obtain⟨T,s⟩:∃ V,w.alloc (.cells H 107)=V:=⟨_,rfl⟩;rw[s];have D:Hid (Gx w.heap.size 107 (l.length * 4) T H/\OH w T):=⟨⟨by rw[<- s];exact Ae w _,K.out⟩,by rw[<- s];exact Ao w _⟩;clear s F;go_loopw [4] (fun t wr => ∃ (i:Nat) (n:Array Value),i<=l.length/\t = .int .i64 (i:Int)/\Gx w.heap.size 107 (l.length * 4) wr n/\Hid (∀ j (hj:j < l.length),j < i->∀ q,q < 4->n[j * 4+q]? = (G9 l[j])[q]?)/\OH w wr) (fun t _=>l.length - (intOf t).toNat);case atStart=>exact⟨0,H,by omega,rfl,D.out.1,fun j hj h=>Ou,D.out.2⟩
 case round =>
  obtain⟨i,n,hi,rfl,k,A,u⟩:=hrel;by_cases hlt:i < l.length
  ·have E:(i:Int) < (l.length:Int):=Ou;obtain⟨g,o,O,U,G,W,X⟩:∃ g o,a=some (OI g o)/\wr.cell? (OI g (o+i * 4))=some (.int .i64 l[i].op)/\wr.cell? (OI g (o+i * 4+1))=some (.int .i64 l[i].a)/\wr.cell? (OI g (o+i * 4+2))=some (.int .i64 l[i].n)/\wr.cell? (OI g (o+i * 4+3))=some (.string l[i].text):=by
    obtain⟨a',cp,e,h⟩:=Y.out.below u;injection e with G;subst G;obtain⟨g,o,h1,-,h2⟩:=h i hlt;exact⟨g,o,h1,h2⟩
   subst O;have v:Hid (Gx w.heap.size 107 (l.length * 4) wr n):=k;obtain⟨d,S⟩:∃ d,Hid (l[i]=d):=⟨_,(rfl:l[i]=_)⟩;rw[S.out]at U G W X;obtain⟨x,L,M,N⟩:=d;simp only at U G W X;have C:Hid (∀ c,OH wr c->(∃ b,Gx w.heap.size 107 (l.length * 4) ((((c.setCell (OI w.heap.size (i * 4)) (.int .i64 x)).setCell (OI w.heap.size (i * 4+1)) (.int .i64 L)).setCell (OI w.heap.size (i * 4+2)) (.int .i64 M)).setCell (OI w.heap.size (i * 4+3)) (.string N)) b/\Hid (∀ j (hj:j < l.length),j < i+1->∀ q,q < 4->b[j * 4+q]? = (G9 l[j])[q]?))):=fun c hb=>by
    have h:=((((v.out.below hb).store (i * 4) (.int .i64 x)).store (i * 4+1) (.int .i64 L)).store (i * 4+2) (.int .i64 M)).store (i * 4+3) (.string N);refine⟨_,h,fun j hj hji q hq => ?_⟩;simp only[Array.getElem?_setIfInBounds,Array.size_setIfInBounds,v.out.size];by_cases e:j=i
    ·subst e;have Q:q=0\/q=1\/q=2\/q=3:=Ou;rw[S.out];rcases Q with rfl|rfl|rfl|rfl
     ·rw[if_neg Ou,if_neg Ou,if_neg Ou,if_pos Ou,if_pos Ou];rfl
     ·rw[if_neg Ou,if_neg Ou,if_pos Ou,if_pos Ou];rfl
     ·rw[if_neg Ou,if_pos Ou,if_pos Ou];rfl
     ·rw[if_pos Ou,if_pos Ou];rfl
    ·rw[if_neg Ou,if_neg Ou,if_neg Ou,if_neg Ou];exact A.out j hj Ou q hq
   have r:Hid (∀ c,OH wr c->∀ q,q < 4->(∃ y,c.cell? (OI w.heap.size (i * 4+q))=some y)/\c.frozen? (OI w.heap.size (i * 4+q))=false):=fun c hb q hq=>(v.out.below hb).cell (i * 4+q) Ou
   clear k;go_wp2_with (first|(go_at_call 168;refine(Zv x L M N _).mono ?_;rintro e c ⟨rfl,f⟩;obtain⟨⟨y0,Z⟩,f0⟩:=r.out c f 0 Ou;obtain⟨⟨y1,c1⟩,f1⟩:=r.out c f 1 Ou;obtain⟨⟨y2,c2⟩,f2⟩:=r.out c f 2 Ou;obtain⟨⟨y3,c3⟩,f3⟩:=r.out c f 3 Ou;rw[Nat.add_zero]at Z f0));obtain⟨b,R,I⟩:=C.out c f;go_roundw;case rel=>exact⟨i+1,b,by omega,by go_num,R,I,((((u.trans (f.mono u.size)).setCell (p:=(OI w.heap.size (i * 4))) (Nat.le_refl _) _).setCell (p:=(OI w.heap.size (i * 4+1))) (Nat.le_refl _) _).setCell (p:=(OI w.heap.size (i * 4+2))) (Nat.le_refl _) _).setCell (p:=(OI w.heap.size (i * 4+3))) (Nat.le_refl _) _⟩
   case measure=>simp[intOf];omega
  ·have E:¬ (i:Int) < (l.length:Int):=Ou;have B:Hid (Ba wr.heap.size wr (.slice (some (OI w.heap.size 0)) l.length l.length) l):=⟨_,_,rfl,fun j hj=>⟨w.heap.size,rfl,k.lt,fun q hq=>by rw[Lib.cell_of_heap k.blk];exact A.out j hj Ou q hq⟩⟩;have J:Hid (C8 w.heap.size wr 107 (l.length * 4) (.slice (some (OI w.heap.size 0)) l.length l.length)):=⟨_,_,_,n,rfl,Nat.le_refl _,k⟩;clear k;go_wp2_with fail;go_ret;exact⟨rfl,B.out,J.out,u⟩
theorem De {w:World} {g i:Nat} {arr:Array Value} {t:TypeId} {v:Value} (h:w.heap[g]? = some (.cells arr t)):(w.setCell (OI g i) v).heap[g]? = some (.cells (arr.setIfInBounds i v) t):=by
 simp[World.setCell,Array.getElem?_modify,h]
theorem Fk {w:World} {g:Nat} {a b c d e:Value} {t:TypeId} (h:w.heap[g]? = some (.cells #[a,b,c,d,e] t)):(w.cell? (OI g 0)=some a/\w.cell? (OI g 1)=some b/\w.cell? (OI g 2)=some c/\w.cell? (OI g 3)=some d/\w.cell? (OI g 4)=some e)/\(w.frozen? (OI g 0)=false/\w.frozen? (OI g 1)=false/\w.frozen? (OI g 2)=false/\w.frozen? (OI g 3)=false/\w.frozen? (OI g 4)=false):=by
 refine⟨⟨?_, ?_, ?_, ?_, ?_⟩, ?_, ?_, ?_, ?_, ?_⟩ <;> simp[World.cell?,World.frozen?,h]
theorem Ba.keep {B C:Nat} {w w':World} {v:Value} {l:List Az} (h:Ba B w v l) (hk:∀ k,v.ownBlock=some k->w'.heap[k]? = w.heap[k]?) (hC:B<=C):Ba C w' v l:=by
 obtain⟨a,c,rfl,f⟩:=h;refine⟨a,c,rfl,fun i hi => ?_⟩;obtain⟨g,d,m,b⟩:=f i hi;refine⟨g,d,by omega,fun j hj => ?_⟩;rw[World.cell?_of_block (hk g (by rw[d];rfl))];exact b j hj
theorem P9 (V:World) (g o:Nat) (x0 x1 x2 x3 x4:Value) (k:Nat) (hk:k≠g):(((((V.setCell (OI g o) x0).setCell (OI g (o+1)) x1).setCell (OI g (o+2)) x2).setCell (OI g (o+3)) x3).setCell (OI g (o+4)) x4).heap[k]? = V.heap[k]?:=by
 simp[World.setCell,Array.getElem?_modify,Ne.symm hk]
def Rr (f:Af) (w:World) (e:Ending) (w':World):Prop :=
 ∃ pa pc ia ic,e = .returned (.agg #[.string f.name,.slice pa f.params.length pc,.int .i64 f.result,.int .i64 f.slots,.slice ia f.ins.length ic])/\Ac w'.heap.size w' (.slice pa f.params.length pc) f.params/\Ba w'.heap.size w' (.slice ia f.ins.length ic) f.ins/\(∀ k,(Value.slice pa f.params.length pc).ownBlock=some k->w.heap.size<=k)/\(∀ k,(Value.slice ia f.ins.length ic).ownBlock=some k->w.heap.size<=k)/\C8 w.heap.size w' 3 f.params.length (.slice pa f.params.length pc)/\C8 w.heap.size w' 107 (f.ins.length * 4) (.slice ia f.ins.length ic)/\OH w w'
theorem Qb1 (f:Af) (pa:Option Addr) (pc:Nat) (ia:Option Addr) (ic:Nat) (hp:f.params.length<=1048576) (hi:f.ins.length<=1048576) (w:World) (hP:Ac w.heap.size w (.slice pa f.params.length pc) f.params) (hN:E0 w (.slice ia f.ins.length ic) f.ins) :
  Calls Tryz.prog 119 #[.agg #[.string f.name,.slice pa f.params.length pc,.int .i64 f.result,.int .i64 f.slots,.slice ia f.ins.length ic]] w (Rr f w):=by
 have T:Hid (∀ U,OH w U->Calls Tryz.prog 146 #[.slice pa f.params.length pc] U fun e w'=>e = .returned (.slice (some (OI U.heap.size 0)) f.params.length f.params.length)/\Ac w'.heap.size w' (.slice (some (OI U.heap.size 0)) f.params.length f.params.length) f.params/\C8 U.heap.size w' 3 f.params.length (.slice (some (OI U.heap.size 0)) f.params.length f.params.length)/\OH U w'):=fun U hU=>Xo f.params pa pc hp U w.heap.size hU.size (hP.below hU)
 have W:Hid (∀ U,OH w U->Calls Tryz.prog 147 #[.slice ia f.ins.length ic] U fun e w'=>e = .returned (.slice (some (OI U.heap.size 0)) f.ins.length f.ins.length)/\Ba w'.heap.size w' (.slice (some (OI U.heap.size 0)) f.ins.length f.ins.length) f.ins/\C8 U.heap.size w' 107 (f.ins.length * 4) (.slice (some (OI U.heap.size 0)) f.ins.length f.ins.length)/\OH U w'):=fun U hU=>Xn f.ins ia ic hi U (hN.below hU)
 clear hP hN;have s:Hid (∀ V:World,V.heap[w.heap.size]? = some (.cells #[.string f.name,.slice pa f.params.length pc,.int .i64 f.result,.int .i64 f.slots,.slice ia f.ins.length ic] 163)->V.cell? (OI w.heap.size 2)=some (.int .i64 f.result)/\V.cell? (OI w.heap.size 3)=some (.int .i64 f.slots)/\V.cell? (OI w.heap.size 4)=some (.slice ia f.ins.length ic)):=fun V h=>⟨(Fk h).1.2.2.1,(Fk h).1.2.2.2.1,(Fk h).1.2.2.2.2⟩
 go_enter Tryz.func119,Tryz.ntmps119;go_wp2_with (first
  | (go_at_call 146;obtain⟨x,g⟩:∃ Y,(((w.alloc (.cells #[.string f.name,.slice pa f.params.length pc,.int .i64 f.result,.int .i64 f.slots,.slice ia f.ins.length ic] 163)).alloc (.cells #[.string ⟨#[]⟩,.slice none 0 0,.int .i64 0,.int .i64 0,.slice none 0 0] 130)).alloc (.cells #[.string f.name,.slice none 0 0,.int .i64 0,.int .i64 0,.slice none 0 0] 130))=Y:=⟨_,rfl⟩;rw[g];have Z:x.heap.size=w.heap.size+3:=(by rw[<- g,World.size_alloc,World.size_alloc,World.size_alloc]);have q:Hid (OH w x):=(by rw[Hid,<- g];exact Gy w _ _ _);have K:x.heap[w.heap.size]? = some (.cells #[.string f.name,.slice pa f.params.length pc,.int .i64 f.result,.int .i64 f.slots,.slice ia f.ins.length ic] 163):=(by rw[<- g];exact Ak _ (Ak _ (Ae w _)));have L:x.heap[w.heap.size+1]? = some (.cells #[.string ⟨#[]⟩,.slice none 0 0,.int .i64 0,.int .i64 0,.slice none 0 0] 130):=(by rw[<- g];have h:=Ae (w.alloc (.cells #[.string f.name,.slice pa f.params.length pc,.int .i64 f.result,.int .i64 f.slots,.slice ia f.ins.length ic] 163)) (.cells #[.string ⟨#[]⟩,.slice none 0 0,.int .i64 0,.int .i64 0,.slice none 0 0] 130);rw[World.size_alloc]at h;exact Ak _ h);have H:x.heap[w.heap.size+1+1]? = some (.cells #[.string f.name,.slice none 0 0,.int .i64 0,.int .i64 0,.slice none 0 0] 130):=(by rw[<- g];have h:=Ae ((w.alloc (.cells #[.string f.name,.slice pa f.params.length pc,.int .i64 f.result,.int .i64 f.slots,.slice ia f.ins.length ic] 163)).alloc (.cells #[.string ⟨#[]⟩,.slice none 0 0,.int .i64 0,.int .i64 0,.slice none 0 0] 130)) (.cells #[.string f.name,.slice none 0 0,.int .i64 0,.int .i64 0,.slice none 0 0] 130);rw[World.size_alloc,World.size_alloc]at h;exact h);refine(T.out x q.out).mono ?_;rintro e M ⟨rfl,t,u,n⟩;rw[Z]at t u |-;have Q:Hid (C8 (w.heap.size+3) M 3 f.params.length (.slice (some (OI (w.heap.size+3) 0)) f.params.length f.params.length)):=u;clear u;have N:Hid (Ac M.heap.size M (.slice (some (OI (w.heap.size+3) 0)) f.params.length f.params.length) f.params):=t;clear t;replace K:=(n.block _ Ou).trans K;replace L:=(n.block _ Ou).trans L;replace H:=(n.block _ Ou).trans H;obtain⟨z,b⟩:∃ V,M.setCell (OI (w.heap.size+1+1) 1) (.slice (some (OI (w.heap.size+3) 0)) f.params.length f.params.length)=V:=⟨_,rfl⟩;have r0:z.heap[w.heap.size]? = some (.cells #[.string f.name,.slice pa f.params.length pc,.int .i64 f.result,.int .i64 f.slots,.slice ia f.ins.length ic] 163):=(by rw[<- b,Below.heap_setCell _ _ _ _ (by show w.heap.size≠w.heap.size+1+1;omega)];exact K);have r1:z.heap[w.heap.size+1]? = some (.cells #[.string ⟨#[]⟩,.slice none 0 0,.int .i64 0,.int .i64 0,.slice none 0 0] 130):=(by rw[<- b,Below.heap_setCell _ _ _ _ (by show w.heap.size+1≠w.heap.size+1+1;omega)];exact L);have r2:z.heap[w.heap.size+1+1]? = some (.cells #[.string f.name,.slice (some (OI (w.heap.size+3) 0)) f.params.length f.params.length,.int .i64 0,.int .i64 0,.slice none 0 0] 130):=(by rw[<- b];exact(De H).trans rfl);obtain⟨A,c⟩:∃ V,z.setCell (OI (w.heap.size+1+1) 2) (.int .i64 f.result)=V:=⟨_,rfl⟩;have t0:A.heap[w.heap.size]? = some (.cells #[.string f.name,.slice pa f.params.length pc,.int .i64 f.result,.int .i64 f.slots,.slice ia f.ins.length ic] 163):=(by rw[<- c,Below.heap_setCell _ _ _ _ (by show w.heap.size≠w.heap.size+1+1;omega)];exact r0);have t1:A.heap[w.heap.size+1]? = some (.cells #[.string ⟨#[]⟩,.slice none 0 0,.int .i64 0,.int .i64 0,.slice none 0 0] 130):=(by rw[<- c,Below.heap_setCell _ _ _ _ (by show w.heap.size+1≠w.heap.size+1+1;omega)];exact r1);have t2:A.heap[w.heap.size+1+1]? = some (.cells #[.string f.name,.slice (some (OI (w.heap.size+3) 0)) f.params.length f.params.length,.int .i64 f.result,.int .i64 0,.slice none 0 0] 130):=(by rw[<- c];exact(De r2).trans rfl);obtain⟨a,d⟩:∃ V,A.setCell (OI (w.heap.size+1+1) 3) (.int .i64 f.slots)=V:=⟨_,rfl⟩;have u0:a.heap[w.heap.size]? = some (.cells #[.string f.name,.slice pa f.params.length pc,.int .i64 f.result,.int .i64 f.slots,.slice ia f.ins.length ic] 163):=(by rw[<- d,Below.heap_setCell _ _ _ _ (by show w.heap.size≠w.heap.size+1+1;omega)];exact t0);have u1:a.heap[w.heap.size+1]? = some (.cells #[.string ⟨#[]⟩,.slice none 0 0,.int .i64 0,.int .i64 0,.slice none 0 0] 130):=(by rw[<- d,Below.heap_setCell _ _ _ _ (by show w.heap.size+1≠w.heap.size+1+1;omega)];exact t1);have u2:a.heap[w.heap.size+1+1]? = some (.cells #[.string f.name,.slice (some (OI (w.heap.size+3) 0)) f.params.length f.params.length,.int .i64 f.result,.int .i64 f.slots,.slice none 0 0] 130):=(by rw[<- d];exact(De t2).trans rfl);obtain⟨⟨-,k1,-,-,-⟩,-,f1,-,-,-⟩:=Fk H;obtain⟨⟨-,-,k2,-,-⟩,-,-,f2,-,-⟩:=Fk r2;obtain⟨⟨-,-,-,k3,-⟩,-,-,-,f3,-⟩:=Fk t2;obtain⟨a2,-,-⟩:=s.out z r0;obtain⟨-,a3,-⟩:=s.out A t0;obtain⟨-,-,a4⟩:=s.out a u0;have r:Hid (OH w a):=(by rw[Hid,<- d,<- c,<- b];exact(((q.out.trans (n.mono q.out.size)).setCell (p:=(OI (w.heap.size+1+1) 1)) (by show w.heap.size<=w.heap.size+1+1;omega) _).setCell (p:=(OI (w.heap.size+1+1) 2)) (by show w.heap.size<=w.heap.size+1+1;omega) _).setCell (p:=(OI (w.heap.size+1+1) 3)) (by show w.heap.size<=w.heap.size+1+1;omega) _);have P:Hid (Ac a.heap.size a (.slice (some (OI (w.heap.size+3) 0)) f.params.length f.params.length) f.params):=(by refine N.out.keep (fun k hk => ?_) (by rw[<- d,<- c,<- b];simp);have i:w.heap.size+3=k:=(by simpa[Value.ownBlock]using hk);rw[<- d,<- c,<- b,Below.heap_setCell _ _ _ _ (by show k≠w.heap.size+1+1;omega),Below.heap_setCell _ _ _ _ (by show k≠w.heap.size+1+1;omega),Below.heap_setCell _ _ _ _ (by show k≠w.heap.size+1+1;omega)]);have S:Hid (C8 (w.heap.size+3) a 3 f.params.length (.slice (some (OI (w.heap.size+3) 0)) f.params.length f.params.length)):=(by refine Q.out.keep (fun k hk => ?_);have i:w.heap.size+3=k:=(by simpa[Value.ownBlock]using hk);rw[<- d,<- c,<- b,Below.heap_setCell _ _ _ _ (by show k≠w.heap.size+1+1;omega),Below.heap_setCell _ _ _ _ (by show k≠w.heap.size+1+1;omega),Below.heap_setCell _ _ _ _ (by show k≠w.heap.size+1+1;omega)]);clear K L H r0 r1 r2 t0 t1 t2 g)
  | (go_at_call 147;refine(W.out a r.out).mono ?_;rintro e y ⟨rfl,B,C,j⟩;have R:Hid (C8 a.heap.size y 107 (f.ins.length * 4) (.slice (some (OI a.heap.size 0)) f.ins.length f.ins.length)):=C;clear C;have O:Hid (Ba y.heap.size y (.slice (some (OI a.heap.size 0)) f.ins.length f.ins.length) f.ins):=B;clear B;have E:w.heap.size+1 < a.heap.size:=(Array.getElem?_eq_some_iff.1 u1).1;have F:w.heap.size+1+1 < a.heap.size:=(Array.getElem?_eq_some_iff.1 u2).1;have x1:=(j.block _ E).trans u1;have x2:=(j.block _ F).trans u2;obtain⟨I,l⟩:∃ V,y.setCell (OI (w.heap.size+1+1) 4) (.slice (some (OI a.heap.size 0)) f.ins.length f.ins.length)=V:=⟨_,rfl⟩;have y1:I.heap[w.heap.size+1]? = some (.cells #[.string ⟨#[]⟩,.slice none 0 0,.int .i64 0,.int .i64 0,.slice none 0 0] 130):=(by rw[<- l,Below.heap_setCell _ _ _ _ (by show w.heap.size+1≠w.heap.size+1+1;omega)];exact x1);have y2:I.heap[w.heap.size+1+1]? = some (.cells #[.string f.name,.slice (some (OI (w.heap.size+3) 0)) f.params.length f.params.length,.int .i64 f.result,.int .i64 f.slots,.slice (some (OI a.heap.size 0)) f.ins.length f.ins.length] 130):=(by rw[<- l];exact(De x2).trans rfl);obtain⟨⟨-,-,-,-,k4⟩,-,-,-,-,f4⟩:=Fk x2;obtain⟨⟨z0,z1,z2,z3,z4⟩,-⟩:=Fk y2;obtain⟨⟨v0,v1,v2,v3,v4⟩,g0,g1,g2,g3,g4⟩:=Fk y1))
 obtain⟨J,m⟩:∃ V,(((((I.setCell (OI (w.heap.size+1) 0) (.string f.name)).setCell (OI (w.heap.size+1) 1) (.slice (some (OI (w.heap.size+3) 0)) f.params.length f.params.length)).setCell (OI (w.heap.size+1) 2) (.int .i64 f.result)).setCell (OI (w.heap.size+1) 3) (.int .i64 f.slots)).setCell (OI (w.heap.size+1) 4) (.slice (some (OI a.heap.size 0)) f.ins.length f.ins.length))=V:=⟨_,rfl⟩;rw[m];have j1:J.heap[w.heap.size+1]? = some (.cells #[.string f.name,.slice (some (OI (w.heap.size+3) 0)) f.params.length f.params.length,.int .i64 f.result,.int .i64 f.slots,.slice (some (OI a.heap.size 0)) f.ins.length f.ins.length] 130):=by
  rw[<- m];exact(De (De (De (De (De y1))))).trans rfl
 have o:∀ k,k≠w.heap.size+1->k≠w.heap.size+1+1->J.heap[k]? = y.heap[k]?:=fun k h1 h2=>by
  rw[<- m];have h:=P9 I (w.heap.size+1) 0 (.string f.name) (.slice (some (OI (w.heap.size+3) 0)) f.params.length f.params.length) (.int .i64 f.result) (.int .i64 f.slots) (.slice (some (OI a.heap.size 0)) f.ins.length f.ins.length) k h1;refine h.trans ?_;rw[<- l,Below.heap_setCell _ _ _ _ (by exact h2)]
 have G:J.heap.size=y.heap.size:=by rw[<- m,<- l];simp
 have X:OH w J:=by
  have D:=r.out.trans (j.mono r.out.size);rw[<- m,<- l];exact(((((D.setCell (p:=(OI (w.heap.size+1+1) 4)) (by show w.heap.size<=w.heap.size+1+1;omega) _).setCell (p:=(OI (w.heap.size+1) 0)) (by show w.heap.size<=w.heap.size+1;omega) _).setCell (p:=(OI (w.heap.size+1) 1)) (by show w.heap.size<=w.heap.size+1;omega) _).setCell (p:=(OI (w.heap.size+1) 2)) (by show w.heap.size<=w.heap.size+1;omega) _).setCell (p:=(OI (w.heap.size+1) 3)) (by show w.heap.size<=w.heap.size+1;omega) _).setCell (p:=(OI (w.heap.size+1) 4)) (by show w.heap.size<=w.heap.size+1;omega) _
 obtain⟨⟨n0,n1,n2,n3,n4⟩,-⟩:=Fk j1;refine bodyPost_ret (v:=.agg #[.string f.name,.slice (some (OI (w.heap.size+3) 0)) f.params.length f.params.length,.int .i64 f.result,.int .i64 f.slots,.slice (some (OI a.heap.size 0)) f.ins.length f.ins.length]) (by simp[results,Tryz.results119,go_sem,n0,n1,n2,n3,n4]) rfl ⟨_,_,_,_,rfl, ?_, ?_,fun k hk => ?_,fun k hk => ?_, ?_, ?_,X⟩
 ·refine(P.out.below j).keep (fun k hk => ?_) (by rw[G];exact j.size);have i:w.heap.size+3=k:=by simpa[Value.ownBlock]using hk
  exact o k Ou Ou
 ·refine O.out.keep (fun k hk => ?_) (by rw[G];exact Nat.le_refl _);have i:a.heap.size=k:=by simpa[Value.ownBlock]using hk
  exact o k Ou Ou
 ·have i:w.heap.size+3=k:=by simpa[Value.ownBlock]using hk
  omega
 ·have i:a.heap.size=k:=by simpa[Value.ownBlock]using hk
  omega
 ·refine C8.mono ((S.out.below j).keep (fun k hk => ?_)) Ou;have i:w.heap.size+3=k:=by simpa[Value.ownBlock]using hk
  exact o k Ou Ou
 ·refine C8.mono (R.out.keep (fun k hk => ?_)) Ou;have i:a.heap.size=k:=by simpa[Value.ownBlock]using hk
  exact o k Ou Ou
structure Hp (g:Nat) (w:World) (c:List Af) (i:Nat):Prop where
 row:∃ cur,Gx g 130 (c.length * 5) w cur
 each:∀ k (hk:k < c.length),k < i->∃ pa pc ia ic,(∀ q,q < 5->w.cell? (OI g (k * 5+q))=(Uk c[k] (.slice pa c[k].params.length pc) (.slice ia c[k].ins.length ic))[q]?)/\Ac w.heap.size w (.slice pa c[k].params.length pc) c[k].params/\Ba w.heap.size w (.slice ia c[k].ins.length ic) c[k].ins/\(∀ j,(Value.slice pa c[k].params.length pc).ownBlock=some j->g < j)/\(∀ j,(Value.slice ia c[k].ins.length ic).ownBlock=some j->g < j)/\C8 g w 3 c[k].params.length (.slice pa c[k].params.length pc)/\C8 g w 107 (c[k].ins.length * 4) (.slice ia c[k].ins.length ic)
theorem Hp.below {g:Nat} {w w':World} {c:List Af} {i:Nat} (h:Hp g w c i) (hb:OH w w'):Hp g w' c i:=by
 obtain⟨a,b⟩:=h.row;refine⟨⟨a,b.below hb⟩,fun k hk hki => ?_⟩;obtain⟨t,u,r,s,d,f,j,l,m,n,o⟩:=h.each k hk hki;exact⟨t,u,r,s,fun q hq=>by rw[hb.cell (p:=(OI g (k * 5+q))) b.lt];exact d q hq,Ac.mono (f.below hb) hb.size,Ba.mono (j.below hb) hb.size,l,m,n.below hb,o.below hb⟩
def Qd (w:World) (g o:Nat) (x0 x1 x2 x3 x4:Value):World:=((((w.setCell (OI g o) x0).setCell (OI g (o+1)) x1).setCell (OI g (o+2)) x2).setCell (OI g (o+3)) x3).setCell (OI g (o+4)) x4
theorem Hp.store {g:Nat} {w:World} {c:List Af} {i:Nat} (h:Hp g w c i) (hi:i < c.length) {pa:Option Addr} {pc:Nat} {ia:Option Addr} {ic:Nat} (h2:Ac w.heap.size w (.slice pa c[i].params.length pc) c[i].params) (h3:Ba w.heap.size w (.slice ia c[i].ins.length ic) c[i].ins) (h4:∀ j,(Value.slice pa c[i].params.length pc).ownBlock=some j->g < j) (h5:∀ j,(Value.slice ia c[i].ins.length ic).ownBlock=some j->g < j) (h6:C8 g w 3 c[i].params.length (.slice pa c[i].params.length pc)) (h7:C8 g w 107 (c[i].ins.length * 4) (.slice ia c[i].ins.length ic)) :
  Hp g (Qd w g (i * 5) (.string c[i].name) (.slice pa c[i].params.length pc) (.int .i64 c[i].result) (.int .i64 c[i].slots) (.slice ia c[i].ins.length ic)) c (i+1):=by
 obtain⟨t,n⟩:=h.row;have l:=((((n.store (i * 5) (.string c[i].name)).store (i * 5+1) (.slice pa c[i].params.length pc)).store (i * 5+2) (.int .i64 c[i].result)).store (i * 5+3) (.int .i64 c[i].slots)).store (i * 5+4) (.slice ia c[i].ins.length ic);have a:∀ k,k≠g->(Qd w g (i * 5) (.string c[i].name) (.slice pa c[i].params.length pc) (.int .i64 c[i].result) (.int .i64 c[i].slots) (.slice ia c[i].ins.length ic)).heap[k]? = w.heap[k]?:=fun k hk=>P9 w g (i * 5) _ _ _ _ _ k hk
 have b:(Qd w g (i * 5) (.string c[i].name) (.slice pa c[i].params.length pc) (.int .i64 c[i].result) (.int .i64 c[i].slots) (.slice ia c[i].ins.length ic)).heap.size=w.heap.size:=by simp[Qd]
 refine⟨⟨_,l⟩,fun k hk hki => ?_⟩;by_cases e:k=i
 ·subst e;refine⟨pa,pc,ia,ic,fun q hq => ?_,h2.keep (fun j hj=>a j (by have:=h4 j hj;omega)) (by rw[b];exact Nat.le_refl _),h3.keep (fun j hj=>a j (by have:=h5 j hj;omega)) (by rw[b];exact Nat.le_refl _),h4,h5,h6.keep (fun j hj=>a j (by have:=h4 j hj;omega)),h7.keep (fun j hj=>a j (by have:=h5 j hj;omega))⟩;refine(Lib.cell_of_heap l.blk _).trans ?_;simp only[Array.getElem?_setIfInBounds,Array.size_setIfInBounds,n.size];have m:q=0\/q=1\/q=2\/q=3\/q=4:=Ou
  rcases m with rfl|rfl|rfl|rfl|rfl
  ·rw[if_neg Ou,if_neg Ou,if_neg Ou,if_neg Ou,if_pos Ou,if_pos Ou];rfl
  ·rw[if_neg Ou,if_neg Ou,if_neg Ou,if_pos Ou,if_pos Ou];rfl
  ·rw[if_neg Ou,if_neg Ou,if_pos Ou,if_pos Ou];rfl
  ·rw[if_neg Ou,if_pos Ou,if_pos Ou];rfl
  ·rw[if_pos Ou,if_pos Ou];rfl
 ·obtain⟨r,s,o,p,u,v,x,d,f,y,z⟩:=h.each k hk Ou;refine⟨r,s,o,p,fun q hq => ?_,v.keep (fun j hj=>a j (by have:=d j hj;omega)) (by rw[b];exact Nat.le_refl _),x.keep (fun j hj=>a j (by have:=f j hj;omega)) (by rw[b];exact Nat.le_refl _),d,f,y.keep (fun j hj=>a j (by have:=d j hj;omega)),z.keep (fun j hj=>a j (by have:=f j hj;omega))⟩;rw[<- u q hq,Lib.cell_of_heap n.blk];refine(Lib.cell_of_heap l.blk _).trans ?_;simp only[Array.getElem?_setIfInBounds];rw[if_neg Ou,if_neg Ou,if_neg Ou,if_neg Ou,if_neg Ou]
def Dd (A B:Nat) (w:World) (v:Value) (c:List Af):Prop :=
 ∃ a cap,v = .slice a c.length cap/\∀ k (hk:k < c.length),∃ g pv iv,a=some (OI g 0)/\A<=g/\g < B/\(∀ j,j < 5->w.cell? (OI g (k * 5+j))=(Uk c[k] pv iv)[j]?)/\Ac B w pv c[k].params/\Ba B w iv c[k].ins/\(∀ j,pv.ownBlock=some j->A<=j)/\(∀ j,iv.ownBlock=some j->A<=j)/\(∃ cur,Gx g 130 (c.length * 5) w cur)/\C8 A w 3 c[k].params.length pv/\C8 A w 107 (c[k].ins.length * 4) iv
theorem Dd.code {A B:Nat} {w:World} {v:Value} {c:List Af} (h:Dd A B w v c):Al B w v c:=by
 obtain⟨a,b,rfl,m⟩:=h;refine⟨a,b,rfl,fun k hk => ?_⟩;obtain⟨g,o,n,d,-,f,i,j,l,-⟩:=m k hk;exact⟨g,o,n,d,f,i,j,l⟩
theorem Dd.keep {A B C:Nat} {w w':World} {v:Value} {c:List Af} (h:Dd A B w v c) (hs:∀ k,A<=k->w'.heap[k]? = w.heap[k]?) (hC:B<=C):Dd A C w' v c:=by
 obtain⟨a,b,rfl,t⟩:=h;refine⟨a,b,rfl,fun k hk => ?_⟩;obtain⟨g,x,u,o,f,y,p,q,r,l,m,⟨d,n⟩,s,i⟩:=t k hk;exact⟨g,x,u,o,f,by omega,fun j hj=>by rw[World.cell?_of_block (a:=(OI g (k * 5+j))) (hs g f)];exact p j hj,q.keep (fun j hj=>hs j (l j hj)) hC,r.keep (fun j hj=>hs j (m j hj)) hC,l,m,⟨d,(hs g f).trans n.blk,n.size⟩,s.keep (fun j hj=>hs j (l j hj)),i.keep (fun j hj=>hs j (m j hj))⟩
theorem Hp.code {g:Nat} {w:World} {c:List Af} {i:Nat} (h:Hp g w c i) (hi:c.length<=i):Dd g w.heap.size w (.slice (some (OI g 0)) c.length c.length) c:=by
 obtain⟨a,b⟩:=h.row;refine⟨_,_,rfl,fun k hk => ?_⟩;obtain⟨s,t,q,r,d,f,l,m,n,o,p⟩:=h.each k hk Ou;exact⟨g,_,_,rfl,Nat.le_refl _,b.lt,d,f,l,fun j hj=>Nat.le_of_lt (m j hj),fun j hj=>Nat.le_of_lt (n j hj),⟨a,b⟩,o,p⟩
theorem Tryz.infoFn : (Tryz.prog.info? 130).map (fun i=>(i.zero,i.size,i.bytes))=some (some (.agg #[.string ⟨#[]⟩,.slice none 0 0,.int .i64 0,.int .i64 0,.slice none 0 0]),5,80):=OA
theorem Zu (c:List Af) (a:Option Addr) (cap:Nat) (hl:c.length<=1048576) (hx:∀ k (hk:k < c.length),c[k].params.length<=1048576/\c[k].ins.length<=1048576) (w:World) (hN:Ez w (.slice a c.length cap) c) :
  Calls Tryz.prog 88 #[.slice a c.length cap] w fun e w'=>e = .returned (.slice (some (OI w.heap.size 0)) c.length c.length)/\Dd w.heap.size w'.heap.size w' (.slice (some (OI w.heap.size 0)) c.length c.length) c/\OH w w':=by
 have HN:Hid (Ez w (.slice a c.length cap) c):=hN;clear hN;have R:=Kv (P:=Tryz.prog) Tryz.infoFn Tryz.underlying57 c.length Ou Ou;obtain⟨Z,u⟩:∃ m,madeCells (Value.agg #[.string ⟨#[]⟩,.slice none 0 0,.int .i64 0,.int .i64 0,.slice none 0 0]).cells (c.length * 5)=m:=⟨_,rfl⟩;have T:Hid (Z.size=c.length * 5):=by rw[Hid,<- u,size_madeCells]
 rw[u]at R;clear u;go_enter Tryz.func88,Tryz.ntmps88;go_wp2_with fail;obtain⟨V0,r⟩:∃ V,w.alloc (.cells Z 130)=V:=⟨_,rfl⟩;rw[r];have I:Hid (Hp w.heap.size V0 c 0/\OH w V0):=⟨⟨⟨Z,by rw[<- r];exact Ae w _,T.out⟩,fun k hk h=>Ou⟩,by rw[<- r];exact Ao w _⟩;clear r R;go_loopw [4] (fun t wr => ∃ i:Nat,i<=c.length/\t = .int .i64 (i:Int)/\Hp w.heap.size wr c i/\OH w wr) (fun t _=>c.length - (intOf t).toNat);case atStart=>exact⟨0,by omega,rfl,I.out.1,I.out.2⟩
 case round =>
  obtain⟨i,hi,rfl,l,s⟩:=hrel;by_cases hlt:i < c.length
  ·have N:(i:Int) < (c.length:Int):=Ou;obtain⟨g,o,B,D,v,z,X,e0,e1,e2,e3,e4,HP,HI⟩:∃ g o B D v z,a=some (OI g o)/\wr.cell? (OI g (o+i * 5))=some (.string c[i].name)/\wr.cell? (OI g (o+i * 5+1))=some (.slice B c[i].params.length D)/\wr.cell? (OI g (o+i * 5+2))=some (.int .i64 c[i].result)/\wr.cell? (OI g (o+i * 5+3))=some (.int .i64 c[i].slots)/\wr.cell? (OI g (o+i * 5+4))=some (.slice v c[i].ins.length z)/\Hid (Ac wr.heap.size wr (.slice B c[i].params.length D) c[i].params)/\Hid (E0 wr (.slice v c[i].ins.length z) c[i].ins):=by
    obtain⟨a',cp,e,h⟩:=HN.out.below s;injection e with e1;subst e1;obtain⟨g,o,B,D,v,z,h1,-,⟨h2,h3,h4,h5,h6⟩,h7,h8⟩:=h i hlt;exact⟨g,o,B,D,v,z,h1,h2,h3,h4,h5,h6,h7,h8⟩
   subst X;have U:Hid (Calls Tryz.prog 119 #[.agg #[.string c[i].name,.slice B c[i].params.length D,.int .i64 c[i].result,.int .i64 c[i].slots,.slice v c[i].ins.length z]] wr (Rr c[i] wr)):=Qb1 c[i] B D v z (hx i hlt).1 (hx i hlt).2 wr HP.out HI.out;have H:Hid (Hp w.heap.size wr c i):=l;have L:w.heap.size < wr.heap.size:=(by obtain⟨W,Y⟩:=l.row;exact Y.lt);have f:Hid (∀ b,OH wr b->∀ q,q < 5->(∃ y,b.cell? (OI w.heap.size (i * 5+q))=some y)/\b.frozen? (OI w.heap.size (i * 5+q))=false):=fun b hb q hq=>by
    obtain⟨W,Y⟩:=H.out.row;exact(Y.below hb).cell (i * 5+q) Ou
   clear l;go_wp2_with (first|(go_at_call 119;refine U.out.mono ?_;rintro e b ⟨C,E,x,A,rfl,K,J,S,M,O,Q,d⟩;have G:Hid (C8 w.heap.size b 3 c[i].params.length (.slice C c[i].params.length E)/\C8 w.heap.size b 107 (c[i].ins.length * 4) (.slice x c[i].ins.length A)):=⟨O.mono Ou,Q.mono Ou⟩;clear O Q;have n:Hid (Ac b.heap.size b (.slice C c[i].params.length E) c[i].params/\Ba b.heap.size b (.slice x c[i].ins.length A) c[i].ins/\(∀ j,(Value.slice C c[i].params.length E).ownBlock=some j->w.heap.size < j)/\(∀ j,(Value.slice x c[i].ins.length A).ownBlock=some j->w.heap.size < j)):=⟨K,J,fun j e=>Nat.lt_of_lt_of_le L (S j e),fun j e=>Nat.lt_of_lt_of_le L (M j e)⟩;clear K J S M;obtain⟨⟨y0,c0⟩,f0⟩:=f.out b d 0 Ou;obtain⟨⟨y1,c1⟩,f1⟩:=f.out b d 1 Ou;obtain⟨⟨y2,c2⟩,f2⟩:=f.out b d 2 Ou;obtain⟨⟨y3,c3⟩,f3⟩:=f.out b d 3 Ou;obtain⟨⟨y4,c4⟩,f4⟩:=f.out b d 4 Ou;rw[Nat.add_zero]at c0 f0));go_roundw;case rel =>
    have hS:=(H.out.below d).store hlt n.out.1 n.out.2.1 n.out.2.2.1 n.out.2.2.2 G.out.1 G.out.2;unfold Qd at hS;exact⟨i+1,by omega,by go_num,hS,(((((s.trans (d.mono s.size)).setCell (p:=(OI w.heap.size (i * 5))) (Nat.le_refl _) _).setCell (p:=(OI w.heap.size (i * 5+1))) (Nat.le_refl _) _).setCell (p:=(OI w.heap.size (i * 5+2))) (Nat.le_refl _) _).setCell (p:=(OI w.heap.size (i * 5+3))) (Nat.le_refl _) _).setCell (p:=(OI w.heap.size (i * 5+4))) (Nat.le_refl _) _⟩
   case measure=>simp[intOf];omega
  ·have N:¬ (i:Int) < (c.length:Int):=Ou;have F:Hid (Dd w.heap.size wr.heap.size wr (.slice (some (OI w.heap.size 0)) c.length c.length) c):=l.code Ou;clear l;go_wp2_with fail;go_ret;exact⟨rfl,F.out,s⟩
theorem Zt (c:List Af) (a:Option Addr) (cap:Nat) (hl:c.length<=1048576) (hx:∀ k (hk:k < c.length),c[k].params.length<=1048576/\c[k].ins.length<=1048576) (w:World) (hN:Ez w (.slice a c.length cap) c) :
  Calls Tryz.prog 58 #[.agg #[.slice a c.length cap]] w fun e w' => ∃ p,e = .returned (.agg #[.slice p c.length c.length])/\Dd (w.heap.size+3) w'.heap.size w' (.slice p c.length c.length) c/\OH w w':=by
 have o:Hid (∀ U,OH w U->Calls Tryz.prog 88 #[.slice a c.length cap] U fun e w'=>e = .returned (.slice (some (OI U.heap.size 0)) c.length c.length)/\Dd U.heap.size w'.heap.size w' (.slice (some (OI U.heap.size 0)) c.length c.length) c/\OH U w'):=fun U hU=>Zu c a cap hl hx U (hN.below hU)
 clear hN;obtain⟨f,b⟩:∃ Y,(((w.alloc (.cells #[.slice a c.length cap] 79)).alloc (.cells #[.slice none 0 0] 59)).alloc (.cells #[.slice none 0 0] 59))=Y:=⟨_,rfl⟩;have r:f.heap.size=w.heap.size+3:=by rw[<- b,World.size_alloc,World.size_alloc,World.size_alloc]
 have d:Hid (OH w f):=by rw[Hid,<- b];exact Gy w _ _ _
 have s:f.heap[w.heap.size]? = some (.cells #[.slice a c.length cap] 79):=by rw[<- b];exact Ak _ (Ak _ (Ae w _))
 have l:f.heap[w.heap.size+1]? = some (.cells #[.slice none 0 0] 59):=by
  rw[<- b];have h:=Ae (w.alloc (.cells #[.slice a c.length cap] 79)) (.cells #[.slice none 0 0] 59);rw[World.size_alloc]at h;exact Ak _ h
 have m:f.heap[w.heap.size+1+1]? = some (.cells #[.slice none 0 0] 59):=by
  rw[<- b];have h:=Ae ((w.alloc (.cells #[.slice a c.length cap] 79)).alloc (.cells #[.slice none 0 0] 59)) (.cells #[.slice none 0 0] 59);rw[World.size_alloc,World.size_alloc]at h;exact h
 have u:f.cell? (OI w.heap.size 0)=some (.slice a c.length cap):=by rw[Lib.cell_of_heap s];rfl
 go_enter Tryz.func58,Tryz.ntmps58;go_wp2_with (first
  | (go_at_call 88;refine(o.out f d.out).mono ?_;rintro e j ⟨rfl,g,i⟩;rw[r]at g |-;have n:Hid (Dd (w.heap.size+3) j.heap.size j (.slice (some (OI (w.heap.size+3) 0)) c.length c.length) c):=g;clear g;replace l:=(i.block _ Ou).trans l;replace m:=(i.block _ Ou).trans m;have t:j.cell? (OI (w.heap.size+1) 0)=some (.slice none 0 0):=(by rw[Lib.cell_of_heap l];rfl);have x:j.cell? (OI (w.heap.size+1+1) 0)=some (.slice none 0 0):=(by rw[Lib.cell_of_heap m];rfl);have y:j.frozen? (OI (w.heap.size+1) 0)=false:=(by simp[World.frozen?,l]);have z:j.frozen? (OI (w.heap.size+1+1) 0)=false:=(by simp[World.frozen?,m])))
 have q:OH w ((j.setCell (OI (w.heap.size+1+1) 0) (.slice (some (OI (w.heap.size+3) 0)) c.length c.length)).setCell (OI (w.heap.size+1) 0) (.slice (some (OI (w.heap.size+3) 0)) c.length c.length)):=((d.out.trans (i.mono d.out.size)).setCell (p:=(OI (w.heap.size+1+1) 0)) (by show w.heap.size<=w.heap.size+1+1;omega) _).setCell (p:=(OI (w.heap.size+1) 0)) (by show w.heap.size<=w.heap.size+1;omega) _;refine bodyPost_ret (v:=.agg #[.slice (some (OI (w.heap.size+3) 0)) c.length c.length]) (by simp[results,Tryz.results58,go_sem,t]) rfl ⟨_,rfl, ?_,q⟩;refine n.out.keep (fun k hk => ?_) OB;rw[Below.heap_setCell _ _ _ _ (by show k≠w.heap.size+1;omega),Below.heap_setCell _ _ _ _ (by show k≠w.heap.size+1+1;omega)]
theorem Ui (xs:List Int) (B:Nat) (va vb:Value) (w:World) (C:B<=w.heap.size) (ha:Ac B w va xs) (hb:Ac B w vb xs) (hl:xs.length<=1048576) :
  Calls Tryz.prog 162 #[va,vb] w fun e w'=>e = .returned (.bool true)/\OH w w':=by
 obtain⟨a,z,rfl,s⟩:=ha;obtain⟨b,A,rfl,u⟩:=hb;obtain⟨n,m⟩:∃ n,Hid (xs.length=n):=⟨_,(rfl:xs.length=_)⟩;have k:Hid (∀ i (v:i < xs.length),∃ g o,a=some (OI g o)/\g < B/\w.cell? (OI g (o+i))=some (.int .i64 xs[i])):=s;have l:Hid (∀ i (v:i < xs.length),∃ g o,b=some (OI g o)/\g < B/\w.cell? (OI g (o+i))=some (.int .i64 xs[i])):=u;clear s u;rw[m.out]at hl;simp only[m.out];have G:((n:Int) != (n:Int))=false:=by simp
 go_enter Tryz.func162,Tryz.ntmps162;go_wp2;go_loopw [5] (fun t wr => ∃ i:Nat,i<=n/\t = .int .i64 (i:Int)/\OH w wr) (fun t _=>n - (intOf t).toNat);case atStart=>exact⟨0,by omega,rfl,Below.refl _ _⟩
 case round =>
  obtain⟨i,v,rfl,c⟩:=hrel;have I:w.heap.size<=wr.heap.size:=c.size;by_cases hlt:i < n
  ·have j:i < xs.length:=(by rw[m.out];exact hlt);obtain⟨q,x,rfl,D,f⟩:=k.out i j;obtain⟨r,y,rfl,E,h⟩:=l.out i j;have H:wr.cell? (OI q (x+i))=some (.int .i64 xs[i]):=(by rw[c.cell (p:=(OI q (x+i))) (by show q < w.heap.size;omega),f]);have C:wr.cell? (OI r (y+i))=some (.int .i64 xs[i]):=(by rw[c.cell (p:=(OI r (y+i))) (by show r < w.heap.size;omega),h]);generalize xs[i]=d at *;clear f h k l;have F:(d != d)=false:=OB;go_wp2;go_region;all_goals
    go_wp2;go_roundw;case rel=>exact⟨i+1,by omega,by go_num,by first|exact c|exact⟨c.os,c.tape,c.output,c.size,c.block⟩⟩
    case measure=>simp[intOf];omega
  ·clear k l;go_wp2;go_ret;exact⟨rfl,c⟩
theorem Wn (op a n:Int) (t:ByteArray) (w:World) :
  Calls Tryz.prog 177 #[.agg #[.int .i64 op,.int .i64 a,.int .i64 n,.string t],.agg #[.int .i64 op,.int .i64 a,.int .i64 n,.string t]] w fun e w'=>e = .returned (.bool true)/\OH w w':=by
 have b:(op != op)=false:=by simp
 have c:(a != a)=false:=by simp
 have d:(n != n)=false:=by simp
 go_enter Tryz.func177,Tryz.ntmps177;go_wp2;all_goals go_ret
 all_goals exact⟨rfl,Ka w _ _⟩
theorem Uh (xs:List Az) (B:Nat) (va vb:Value) (w:World) (hB:B<=w.heap.size) (ha:Ba B w va xs) (hb:Ba B w vb xs) (hl:xs.length<=1048576) :
  Calls Tryz.prog 163 #[va,vb] w fun e w'=>e = .returned (.bool true)/\OH w w':=by
 have D:Hid (Ba B w va xs):=ha;have E:Hid (Ba B w vb xs):=hb;obtain⟨a,F,rfl,-⟩:=ha;obtain⟨b,G,rfl,-⟩:=hb;have J:((xs.length:Int) != (xs.length:Int))=false:=by simp
 go_enter Tryz.func163,Tryz.ntmps163;go_wp2;go_loopw [5] (fun t wr => ∃ i:Nat,i<=xs.length/\t = .int .i64 (i:Int)/\OH w wr) (fun t _=>xs.length - (intOf t).toNat);case atStart=>exact⟨0,by omega,rfl,Below.refl _ _⟩
 case round =>
  obtain⟨i,T,rfl,c⟩:=hrel;have K:w.heap.size<=wr.heap.size:=c.size;by_cases hlt:i < xs.length
  ·have k:(i:Int) < (xs.length:Int):=Ou;have f:∀ {p:Option Addr} {q:Nat},Ba B w (.slice p xs.length q) xs->∃ g,p=some (OI g 0)/\wr.cell? (OI g (i * 4))=some (.int .i64 xs[i].op)/\wr.cell? (OI g (i * 4+1))=some (.int .i64 xs[i].a)/\wr.cell? (OI g (i * 4+2))=some (.int .i64 xs[i].n)/\wr.cell? (OI g (i * 4+3))=some (.string xs[i].text):=fun {p q} h=>by
    obtain⟨M,N,e,h⟩:=h.below (c.mono hB);injection e with e1;subst e1;obtain⟨g,I,-,l⟩:=h i hlt;exact⟨g,I,l 0 Ou,l 1 Ou,l 2 Ou,l 3 Ou⟩
   obtain⟨R,y,m,n,o,r⟩:=f D.out;obtain⟨S,A,s,u,v,x⟩:=f E.out;clear f;subst y A;obtain⟨d,C⟩:∃ d,Hid (xs[i]=d):=⟨_,(rfl:xs[i]=_)⟩;rw[C.out]at m n o r s u v x;obtain⟨H,O,P,Q⟩:=d;simp only at m n o r s u v x;clear C;go_wp2_with fail;go_region_with (go_at_call 177;refine(Wn _ _ _ _ _).mono ?_;rintro e L ⟨rfl,z⟩);all_goals
    have j:OH w L:=c.trans (by have:=z.mono (B':=w.heap.size) (by simpa using K);exact⟨this.os,this.tape,this.output,this.size,this.block⟩);clear m n o r s u v x;go_wp2;go_roundw;case rel=>exact⟨i+1,by omega,by go_num,j⟩
    case measure=>simp[intOf];omega
  ·have k:¬ (i:Int) < (xs.length:Int):=Ou;go_wp2;go_ret;exact⟨rfl,c⟩
theorem Yv (f:Af) (B:Nat) (pa pb ia ib:Option Addr) (pc pd ic id':Nat) (w:World) (hB:B<=w.heap.size) (hp:Ac B w (.slice pa f.params.length pc) f.params) (hq:Ac B w (.slice pb f.params.length pd) f.params) (hi:Ba B w (.slice ia f.ins.length ic) f.ins) (hj:Ba B w (.slice ib f.ins.length id') f.ins) (h1:f.params.length<=1048576) (h2:f.ins.length<=1048576) :
  Calls Tryz.prog 133 #[.agg #[.string f.name,.slice pa f.params.length pc,.int .i64 f.result,.int .i64 f.slots,.slice ia f.ins.length ic],.agg #[.string f.name,.slice pb f.params.length pd,.int .i64 f.result,.int .i64 f.slots,.slice ib f.ins.length id']] w fun e w'=>e = .returned (.bool true)/\OH w w':=by
 have C:(f.result != f.result)=false:=by simp
 have D:(f.slots != f.slots)=false:=by simp
 have s:Hid (∀ U,OH w U->Calls Tryz.prog 162 #[.slice pa f.params.length pc,.slice pb f.params.length pd] U fun e w'=>e = .returned (.bool true)/\OH U w'):=fun U hU=>Ui f.params B _ _ U (Nat.le_trans hB hU.size) (hp.below (hU.mono hB)) (hq.below (hU.mono hB)) h1
 have t:Hid (∀ U,OH w U->Calls Tryz.prog 163 #[.slice ia f.ins.length ic,.slice ib f.ins.length id'] U fun e w'=>e = .returned (.bool true)/\OH U w'):=fun U hU=>Uh f.ins B _ _ U (Nat.le_trans hB hU.size) (hi.below (hU.mono hB)) (hj.below (hU.mono hB)) h2
 obtain⟨g,c⟩:∃ Y,(w.alloc (.cells #[.string f.name,.slice pa f.params.length pc,.int .i64 f.result,.int .i64 f.slots,.slice ia f.ins.length ic] 130)).alloc (.cells #[.string f.name,.slice pb f.params.length pd,.int .i64 f.result,.int .i64 f.slots,.slice ib f.ins.length id'] 130)=Y:=⟨_,rfl⟩;have b:OH w g:=by rw[<- c];exact Ka w _ _
 have u:g.heap.size=w.heap.size+2:=by rw[<- c,World.size_alloc,World.size_alloc]
 have j:g.heap[w.heap.size]? = some (.cells #[.string f.name,.slice pa f.params.length pc,.int .i64 f.result,.int .i64 f.slots,.slice ia f.ins.length ic] 130):=by rw[<- c];exact Ak _ (Ae w _)
 have k:g.heap[w.heap.size+1]? = some (.cells #[.string f.name,.slice pb f.params.length pd,.int .i64 f.result,.int .i64 f.slots,.slice ib f.ins.length id'] 130):=by
  rw[<- c];have h:=Ae (w.alloc (.cells #[.string f.name,.slice pa f.params.length pc,.int .i64 f.result,.int .i64 f.slots,.slice ia f.ins.length ic] 130)) (.cells #[.string f.name,.slice pb f.params.length pd,.int .i64 f.result,.int .i64 f.slots,.slice ib f.ins.length id'] 130);rw[World.size_alloc]at h;exact h
 have r:Hid (∀ U,OH g U->(U.cell? (OI w.heap.size 2)=some (.int .i64 f.result)/\U.cell? (OI w.heap.size 3)=some (.int .i64 f.slots)/\U.cell? (OI w.heap.size 4)=some (.slice ia f.ins.length ic))/\(U.cell? (OI (w.heap.size+1) 2)=some (.int .i64 f.result)/\U.cell? (OI (w.heap.size+1) 3)=some (.int .i64 f.slots)/\U.cell? (OI (w.heap.size+1) 4)=some (.slice ib f.ins.length id'))/\OH w U):=fun U hU=>by
  obtain⟨⟨-,-,l,m,n⟩,-⟩:=Fk ((hU.block _ Ou).trans j);obtain⟨⟨-,-,o,p,q⟩,-⟩:=Fk ((hU.block _ Ou).trans k);exact⟨⟨l,m,n⟩,⟨o,p,q⟩,b.trans (hU.mono b.size)⟩
 obtain⟨⟨x,y,-,-,-⟩,-⟩:=Fk j;obtain⟨⟨z,A,-,-,-⟩,-⟩:=Fk k;clear hp hq hi hj j k;go_enter Tryz.func133,Tryz.ntmps133;go_wp2_with (first
  | (go_at_call 162;refine(s.out _ (by first|exact b|exact b.drew|exact B9 _ b)).mono ?_;rintro e v ⟨rfl,a⟩;obtain⟨⟨l,m,n⟩,⟨o,p,q⟩,d⟩:=r.out v (⟨a.os,a.tape,a.output,a.size,a.block⟩))
  | (go_at_call 163;refine(t.out _ d).mono ?_;rintro e E ⟨rfl,i⟩))
 all_goals go_ret
 all_goals exact⟨rfl,d.trans (i.mono d.size)⟩
theorem Wl (c:List Af) (B:Nat) (pa pb:Option Addr) (ca cb:Nat) (w:World) (hB:B<=w.heap.size) (ha:Al B w (.slice pa c.length ca) c) (hb:Al B w (.slice pb c.length cb) c) (hl:c.length<=1048576) (hx:∀ k (hk:k < c.length),c[k].params.length<=1048576/\c[k].ins.length<=1048576) :
  Calls Tryz.prog 101 #[.slice pa c.length ca,.slice pb c.length cb] w fun e w'=>e = .returned (.bool true)/\OH w w':=by
 have x:Hid (Al B w (.slice pa c.length ca) c):=ha;have y:Hid (Al B w (.slice pb c.length cb) c):=hb;clear ha hb;have P:((c.length:Int) != (c.length:Int))=false:=by simp
 go_enter Tryz.func101,Tryz.ntmps101;go_wp2;go_loopw [5] (fun t wr => ∃ i:Nat,i<=c.length/\t = .int .i64 (i:Int)/\OH w wr) (fun t _=>c.length - (intOf t).toNat);case atStart=>exact⟨0,by omega,rfl,Below.refl _ _⟩
 case round =>
  obtain⟨i,V,rfl,a⟩:=hrel;have Q:w.heap.size<=wr.heap.size:=a.size;by_cases hlt:i < c.length
  ·have l:(i:Int) < (c.length:Int):=Ou;obtain⟨S,W,q,r,m,n,L,N,A,C,D,E,F,g,d⟩:=(x.out.below (a.mono hB)).fn i hlt;obtain⟨T,X,s,u,o,p,M,O,G,H,I,J,K,h,f⟩:=(y.out.below (a.mono hB)).fn i hlt;injection L with ea1 ea2 ea3;injection M with eb1 eb2 eb3;subst ea1 ea3 eb1 eb3;have z:Hid (∀ U,OH wr U->Calls Tryz.prog 133 #[.agg #[.string c[i].name,.slice q c[i].params.length r,.int .i64 c[i].result,.int .i64 c[i].slots,.slice m c[i].ins.length n],.agg #[.string c[i].name,.slice s c[i].params.length u,.int .i64 c[i].result,.int .i64 c[i].slots,.slice o c[i].ins.length p]] U fun e w'=>e = .returned (.bool true)/\OH U w'):=fun U hU=>by
    have b:Below B wr U:=hU.mono Ou;exact Yv c[i] B q s m o r u n p U (by have:=hU.size;omega) (g.below b) (h.below b) (d.below b) (f.below b) (hx i hlt).1 (hx i hlt).2
   clear g h d f ea2 eb2;go_wp2_with fail;go_region_with (go_at_call 133;refine(z.out _ (by first|exact Below.refl _ _|exact(Below.refl _ _).drew|exact(Below.refl _ _).drew.drew|exact B9 _ (Below.refl _ _))).mono ?_;rintro e R ⟨rfl,v⟩);all_goals
    have j:OH w R:=a.trans (by have:=v.mono (B':=w.heap.size) (by simpa using Q);exact⟨this.os,this.tape,this.output,this.size,this.block⟩);clear A C D E F G H I J K;go_wp2;go_roundw;case rel=>exact⟨i+1,by omega,by go_num,j⟩
    case measure=>simp[intOf];omega
  ·have l:¬ (i:Int) < (c.length:Int):=Ou;go_wp2;go_ret;exact⟨rfl,a⟩
theorem Ug (c:List Af) (B:Nat) (pa pb:Option Addr) (ca cb:Nat) (w:World) (hB:B<=w.heap.size) (ha:Al B w (.slice pa c.length ca) c) (hb:Al B w (.slice pb c.length cb) c) (hl:c.length<=1048576) (hx:∀ k (hk:k < c.length),c[k].params.length<=1048576/\c[k].ins.length<=1048576) :
  Calls Tryz.prog 71 #[.agg #[.slice pa c.length ca],.agg #[.slice pb c.length cb]] w fun e w'=>e = .returned (.bool true)/\OH w w':=by
 have d:Hid (∀ o1 o2,Calls Tryz.prog 101 #[.slice pa c.length ca,.slice pb c.length cb] ((w.alloc o1).alloc o2) fun e w'=>e = .returned (.bool true)/\OH w w'):=fun o1 o2=>by
  have a:=Ka w o1 o2;exact(Wl c B pa pb ca cb _ (Nat.le_trans hB a.size) (ha.below (a.mono hB)) (hb.below (a.mono hB)) hl hx).mono (fun e w' h=>⟨h.1,a.trans (h.2.mono a.size)⟩)
 clear ha hb;go_enter Tryz.func71,Tryz.ntmps71;go_wp2_with (first|(go_at_call 101;refine(d.out _ _).mono ?_;rintro e f ⟨rfl,b⟩));go_ret;exact⟨rfl,b⟩
end Go.Proofs.YtahibkjkpmdhgaaGreatDoor
