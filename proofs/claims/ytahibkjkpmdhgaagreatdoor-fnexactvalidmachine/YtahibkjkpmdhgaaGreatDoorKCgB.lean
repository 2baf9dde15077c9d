import Derived.Deep.RegionWith
import Derived.Test.YtahibkjkpmdhgaaGreatDoorKCdT
set_option maxRecDepth 100000
set_option maxHeartbeats 2000000
namespace Go.Proofs.YtahibkjkpmdhgaaGreatDoor
open Go.RowKit
def Em (w:World) (v:Value) (l:List Ay):Prop :=
 ∃ a cap,v = .slice a l.length cap/\∀ i (hi:i < l.length),∃ g o,a=some ⟨g,o,none⟩/\g < w.heap.size/\w.cell? ⟨g,o+i * 4,none⟩=some (.int .i64 l[i].op)/\w.cell? ⟨g,o+i * 4+1,none⟩=some (.int .i64 l[i].a)/\w.cell? ⟨g,o+i * 4+2,none⟩=some (.int .i64 l[i].n)/\w.cell? ⟨g,o+i * 4+3,none⟩=some (.string l[i].text)
theorem Em.below {w w':World} {v:Value} {l:List Ay} (h:Em w v l) (hb:Below w.heap.size w w'):Em w' v l:=by
 obtain⟨a,c,rfl,n⟩:=h;refine⟨a,c,rfl,fun i hi => ?_⟩;obtain⟨g,o,m,b,d,f,j,k⟩:=n i hi;exact⟨g,o,m,Nat.lt_of_lt_of_le b hb.size,by rw[hb.cell (p:=⟨g,o+i * 4,none⟩) b];exact d,by rw[hb.cell (p:=⟨g,o+i * 4+1,none⟩) b];exact f,by rw[hb.cell (p:=⟨g,o+i * 4+2,none⟩) b];exact j,by rw[hb.cell (p:=⟨g,o+i * 4+3,none⟩) b];exact k⟩
def El (w:World) (v:Value) (c:List Ae):Prop :=
 ∃ a cap,v = .slice a c.length cap/\∀ k (hk:k < c.length),∃ g o pa pc ia ic,a=some ⟨g,o,none⟩/\g < w.heap.size/\(w.cell? ⟨g,o+k * 5,none⟩=some (.string c[k].name)/\w.cell? ⟨g,o+k * 5+1,none⟩=some (.slice pa c[k].params.length pc)/\w.cell? ⟨g,o+k * 5+2,none⟩=some (.int .i64 c[k].result)/\w.cell? ⟨g,o+k * 5+3,none⟩=some (.int .i64 c[k].slots)/\w.cell? ⟨g,o+k * 5+4,none⟩=some (.slice ia c[k].ins.length ic))/\Ab w.heap.size w (.slice pa c[k].params.length pc) c[k].params/\Em w (.slice ia c[k].ins.length ic) c[k].ins
theorem El.below {w w':World} {v:Value} {c:List Ae} (h:El w v c) (hb:Below w.heap.size w w'):El w' v c:=by
 obtain⟨a,d,rfl,s⟩:=h;refine⟨a,d,rfl,fun i hi => ?_⟩;obtain⟨g,o,x,y,t,u,r,b,⟨f,j,k,l,m⟩,n,q⟩:=s i hi;exact⟨g,o,x,y,t,u,r,Nat.lt_of_lt_of_le b hb.size,⟨by rw[hb.cell (p:=⟨g,o+i * 5,none⟩) b];exact f,by rw[hb.cell (p:=⟨g,o+i * 5+1,none⟩) b];exact j,by rw[hb.cell (p:=⟨g,o+i * 5+2,none⟩) b];exact k,by rw[hb.cell (p:=⟨g,o+i * 5+3,none⟩) b];exact l,by rw[hb.cell (p:=⟨g,o+i * 5+4,none⟩) b];exact m⟩,Ab.mono (n.below hb) hb.size,q.below hb⟩
theorem El.slice {w:World} {v:Value} {c:List Ae} (h:El w v c):∃ p k,v = .slice p c.length k:=by
 obtain⟨p,k,h,_⟩:=h;exact⟨p,k,h⟩
def Ie (n:Nat) (l:Int):Int:=if l - (n:Int) < 0 then -1 else l - (n:Int)
def Mg : List Ay->Int->Int
 | [],l=>l
 | i::r,l=>if Ie i.text.size l < 0 then -1 else Mg r (Ie i.text.size l)
def Jw (is:List Ay) (l:Int):Int:=if l - (is.length:Int) < 0 then -1 else Mg is (l - (is.length:Int))
def Lu (f:Ae) (l:Int):Int :=
 if l - (f.name.size:Int) < 0 then -1 else if Ie f.params.length (l - (f.name.size:Int)) < 0 then -1 else Jw f.ins (Ie f.params.length (l - (f.name.size:Int)))
def Lv : List Ae->Int->Int
 | [],l=>l
 | f::r,l=>if Lu f l < 0 then -1 else Lv r (Lu f l)
def Nd (c:List Ae) (l:Int):Int:=if l - (c.length:Int) < 0 then -1 else Lv c (l - (c.length:Int))
theorem Of (n:Nat) (l:Int) : -1<=Ie n l/\(0<=Ie n l->Ie n l<=l/\(n:Int)<=l):=by
 unfold Ie;split <;> omega
theorem Ze : ∀ (is:List Ay) (l:Int),0<=l -> -1<=Mg is l/\Mg is l<=l
 | [],l,h=>by rw[Mg];exact⟨by omega,by omega⟩
 | i::r,l,h=>by
  obtain⟨g,b⟩:=Of i.text.size l
  rw[Mg]
  split
  ·exact⟨by omega,by omega⟩
  ·obtain⟨c,d⟩:=b (by omega)
   obtain⟨a,f⟩:=Ze r (Ie i.text.size l) (by omega)
   exact⟨a,by omega⟩
theorem Vb (is:List Ay) (l:Int) (h:0<=l) : -1<=Jw is l/\Jw is l<=l/\(0<=Jw is l->(is.length:Int)<=l):=by
 unfold Jw;split
 ·exact⟨by omega,by omega,fun h=>by omega⟩
 ·obtain⟨a,b⟩:=Ze is (l - (is.length:Int)) (by omega);exact⟨a,by omega,fun hp=>by omega⟩
def Vo (f:Ae) (l:Int):Prop:=(f.name.size:Int)<=l/\(f.params.length:Int)<=l/\(f.ins.length:Int)<=l
theorem Zd (f:Ae) (l:Int) (h:0<=l) : -1<=Lu f l/\Lu f l<=l/\(0<=Lu f l->Vo f l):=by
 unfold Lu Vo;split
 ·exact⟨by omega,by omega,fun h=>by omega⟩
 ·obtain⟨j,c⟩:=Of f.params.length (l - (f.name.size:Int));split
  ·exact⟨by omega,by omega,fun h=>by omega⟩
  ·obtain⟨d,g⟩:=c (by omega);obtain⟨a,i,b⟩:=Vb f.ins (Ie f.params.length (l - (f.name.size:Int))) (by omega);exact⟨a,by omega,fun hp=>⟨by omega,by omega,by have:=b hp;omega⟩⟩
theorem Zf : ∀ (c:List Ae) (l:Int),0<=l -> -1<=Lv c l/\Lv c l<=l/\(0<=Lv c l->∀ f ∈ c,Vo f l)
 | [],l,h=>by rw[Lv];exact⟨by omega,by omega,fun _ d hd=>by simp at hd⟩
 | f::r,l,h=>by
  obtain⟨k,m,i⟩:=Zd f l h
  rw[Lv]
  split
  ·exact⟨by omega,by omega,fun h=>by omega⟩
  ·obtain⟨b,j,g⟩:=Zf r (Lu f l) (by omega)
   refine⟨b,by omega,fun hp x a => ?_⟩
   rcases List.mem_cons.1 a with rfl|a
   ·exact i (by omega)
   ·obtain⟨n,o,p⟩:=g hp x a;exact⟨by omega,by omega,by omega⟩
theorem Zc (c:List Ae) (l:Int) (h:0<=l) : -1<=Nd c l/\Nd c l<=l/\(0<=Nd c l->(c.length:Int)<=l/\∀ f ∈ c,Vo f l):=by
 unfold Nd;split
 ·exact⟨by omega,by omega,fun h=>by omega⟩
 ·obtain⟨a,g,b⟩:=Zf c (l - (c.length:Int)) (by omega);exact⟨a,by omega,fun hp=>⟨by omega,fun d hd=>by obtain⟨i,j,k⟩:=b hp d hd;exact⟨by omega,by omega,by omega⟩⟩⟩
theorem Uj (a:Option Addr) (n cap:Nat) (l:Int) (hn:n<=9223372036854775807) (h0:0<=l) (h1:l<=1048576) (w:World) :
  Calls Tryz.prog 135 #[.slice a n cap,.int .i64 l] w fun e w'=>e = .returned (.int .i64 (Ie n l))/\Below w.heap.size w w':=by
 unfold Ie;by_cases h:l - (n:Int) < 0
 ·rw[if_pos h];go_enter Tryz.func135,Tryz.ntmps135;go_wp2;go_ret;exact⟨rfl,Below.refl _ w⟩
 ·rw[if_neg h];go_enter Tryz.func135,Tryz.ntmps135;go_wp2;go_ret;exact⟨rfl,Below.refl _ w⟩
theorem Od (op a n:Int) (t:ByteArray) (l:Int) (hn:t.size<=9223372036854775807) (h0:0<=l) (h1:l<=1048576) (w:World) :
  Calls Tryz.prog 164 #[.agg #[.int .i64 op,.int .i64 a,.int .i64 n,.string t],.int .i64 l] w fun e w'=>e = .returned (.int .i64 (Ie t.size l))/\Below w.heap.size w w':=by
 unfold Ie;by_cases h:l - (t.size:Int) < 0
 ·rw[if_pos h];go_enter Tryz.func164,Tryz.ntmps164;go_wp2;go_ret;exact⟨rfl,(Below.refl _ w).alloc (Nat.le_refl _) _⟩
 ·rw[if_neg h];go_enter Tryz.func164,Tryz.ntmps164;go_wp2;go_ret;exact⟨rfl,(Below.refl _ w).alloc (Nat.le_refl _) _⟩
theorem Ui (is:List Ay) (v:Value) (l:Int) (h0:0<=l) (h1:l<=1048576) (hn:is.length<=9223372036854775807) (hx:∀ d ∈ is,d.text.size<=9223372036854775807) (w:World) (hN:Em w v is) :
  Calls Tryz.prog 136 #[v,.int .i64 l] w fun e w'=>e = .returned (.int .i64 (Jw is l))/\Below w.heap.size w w':=by
 obtain⟨a,O,rfl,M⟩:=hN;obtain⟨y,I⟩:∃ q,Hid (Jw is l=q):=⟨_,(rfl:Jw is l=_)⟩;have r:Hid ((if l - (is.length:Int) < 0 then -1 else Mg is (l - (is.length:Int)))=y):=I;rw[I.out];clear I;obtain⟨n,E⟩:∃ n,Hid (is.length=n):=⟨_,(rfl:is.length=_)⟩;have H:Hid (∀ i (U:i < is.length),∃ g o,a=some ⟨g,o,none⟩/\g < w.heap.size/\w.cell? ⟨g,o+i * 4,none⟩=some (.int .i64 is[i].op)/\w.cell? ⟨g,o+i * 4+1,none⟩=some (.int .i64 is[i].a)/\w.cell? ⟨g,o+i * 4+2,none⟩=some (.int .i64 is[i].n)/\w.cell? ⟨g,o+i * 4+3,none⟩=some (.string is[i].text)):=M;clear M;rw[E.out]at hn r;simp only[E.out];by_cases hl:l - (n:Int) < 0
 ·have z:Hid (y = -1):=by have h:=r.out;rw[if_pos hl]at h;exact h.symm
  clear r;go_enter Tryz.func136,Tryz.ntmps136;go_wp2;go_ret;exact⟨C0 z.out.symm,Below.refl _ _⟩
 ·have z:Hid (Mg is (l - (n:Int))=y):=by have h:=r.out;rw[if_neg hl]at h;exact h
  clear r;go_enter Tryz.func136,Tryz.ntmps136;go_wp2;go_loopw [1,5] (fun tl tv wr => ∃ (i:Nat) (q:Int),i<=n/\tv = .int .i64 (i:Int)/\tl = .int .i64 q/\0<=q/\q<=1048576/\Mg (is.drop i) q=y/\Below w.heap.size w wr) (fun _ tv _=>n - (intOf tv).toNat);case atStart=>exact⟨0,l - (n:Int),by omega,rfl,rfl,by omega,by omega,z.out,Below.refl _ _⟩
  case round =>
   obtain⟨i,q,U,rfl,rfl,C,D,m,c⟩:=hrel;have N:=c.size;by_cases hlt:i < n
   ·have u:i < is.length:=(by rw[E.out];exact hlt);obtain⟨g,o,rfl,G,t,f,j,k⟩:=H.out i u;rw[List.drop_eq_getElem_cons u,Mg]at m;have x:=hx is[i] (List.getElem_mem u);have b:=(Of is[i].text.size q);have P:wr.cell? ⟨g,o+i * 4,none⟩=some (.int .i64 is[i].op):=(by rw[c.cell (p:=⟨g,o+i * 4,none⟩) G,t]);have Q:wr.cell? ⟨g,o+i * 4+1,none⟩=some (.int .i64 is[i].a):=(by rw[c.cell (p:=⟨g,o+i * 4+1,none⟩) G,f]);have R:wr.cell? ⟨g,o+i * 4+2,none⟩=some (.int .i64 is[i].n):=(by rw[c.cell (p:=⟨g,o+i * 4+2,none⟩) G,j]);have S:wr.cell? ⟨g,o+i * 4+3,none⟩=some (.string is[i].text):=(by rw[c.cell (p:=⟨g,o+i * 4+3,none⟩) G,k]);generalize is[i]=d at *;obtain⟨B,K,L,F⟩:=d;simp only at P Q R S x m b;clear t f j k H z;obtain⟨s,J⟩:∃ s,Hid (Ie F.size q=s):=⟨_,(rfl:Ie F.size q=_)⟩;rw[J.out]at m b;obtain⟨T,b⟩:=b;by_cases hlq:s < 0
    ·have A:Hid (y = -1):=(by rw[if_pos hlq]at m;exact m.symm);clear m b;go_wp2_with (go_at_call 164;(refine(Od B K L F q x C D _).mono ?_;rintro e W ⟨rfl,b⟩;rw[J.out]));go_ret;exact⟨C0 A.out.symm,c.trans (b.mono N)⟩
    ·have A:Hid (Mg (is.drop (i+1)) s=y):=(by rw[if_neg hlq]at m;exact m);obtain⟨V,_⟩:=b (by omega);clear m b;go_wp2_with (go_at_call 164;(refine(Od B K L F q x C D _).mono ?_;rintro e W ⟨rfl,b⟩;rw[J.out]));go_roundw;case rel=>exact⟨i+1,s,by omega,by go_num,rfl,by omega,by omega,A.out,c.trans (b.mono N)⟩
     case measure=>simp[intOf];omega
   ·have A:Hid (y=q):=(by rw[List.drop_of_length_le (by rw[E.out];omega)]at m;exact m.symm);clear m H z;go_wp2;go_ret;exact⟨C0 A.out.symm,c⟩
theorem Y8 (f:Ae) (pa:Option Addr) (pc:Nat) (ia:Option Addr) (ic:Nat) (l:Int) (h0:0<=l) (h1:l<=1048576) (hn:f.name.size<=9223372036854775807) (hp:f.params.length<=9223372036854775807) (hi:f.ins.length<=9223372036854775807) (hx:∀ d ∈ f.ins,d.text.size<=9223372036854775807) (w:World) (hN:Em w (.slice ia f.ins.length ic) f.ins) :
  Calls Tryz.prog 108 #[.agg #[.string f.name,.slice pa f.params.length pc,.int .i64 f.result,.int .i64 f.slots,.slice ia f.ins.length ic],.int .i64 l] w fun e w'=>e = .returned (.int .i64 (Lu f l))/\Below w.heap.size w w':=by
 obtain⟨j,k⟩:∃ Y,w.alloc (.cells #[.string f.name,.slice pa f.params.length pc,.int .i64 f.result,.int .i64 f.slots,.slice ia f.ins.length ic] 163)=Y:=⟨_,rfl⟩;have g:Below w.heap.size w j:=by rw[<- k];exact Au w _
 have D:j.heap.size=w.heap.size+1:=by rw[<- k];exact World.size_alloc _ _
 have s:j.heap[w.heap.size]? = some (.cells #[.string f.name,.slice pa f.params.length pc,.int .i64 f.result,.int .i64 f.slots,.slice ia f.ins.length ic] 163):=by rw[<- k];exact Af w _
 have F:j.cell? ⟨w.heap.size,0,none⟩=some (.string f.name):=by rw[Lib.cell_of_heap s];rfl
 have G:j.cell? ⟨w.heap.size,1,none⟩=some (.slice pa f.params.length pc):=by rw[Lib.cell_of_heap s];rfl
 have C:j.cell? ⟨w.heap.size,4,none⟩=some (.slice ia f.ins.length ic):=by rw[Lib.cell_of_heap s];rfl
 have t:Hid (∀ U,Below j.heap.size j U->U.cell? ⟨w.heap.size,4,none⟩=some (.slice ia f.ins.length ic)/\Em U (.slice ia f.ins.length ic) f.ins/\Below w.heap.size w U):=fun U hU=>⟨(hU.cell (p:=⟨w.heap.size,4,none⟩) (by show w.heap.size < _;omega)).trans C,(hN.below g).below hU,g.trans (hU.mono g.size)⟩
 clear hN s;unfold Lu;by_cases hl:l - (f.name.size:Int) < 0
 ·rw[if_pos hl];go_enter Tryz.func108,Tryz.ntmps108;go_wp2;go_ret;exact⟨rfl,g⟩
 ·rw[if_neg hl];have o:Hid (∀ U,Calls Tryz.prog 135 #[.slice pa f.params.length pc,.int .i64 (l - (f.name.size:Int))] U fun e w'=>e = .returned (.int .i64 (Ie f.params.length (l - (f.name.size:Int))))/\Below U.heap.size U w'):=fun U=>Uj pa f.params.length pc (l - (f.name.size:Int)) hp (by omega) (by omega) U
  have m:=Of f.params.length (l - (f.name.size:Int));obtain⟨q,B⟩:∃ q,Hid (Ie f.params.length (l - (f.name.size:Int))=q):=⟨_,(rfl:Ie f.params.length (l - (f.name.size:Int))=_)⟩;rw[B.out]at o m |-
  by_cases hq:q < 0
  ·have z:Hid (-1=q):=(by omega : -1=q);rw[if_pos hq];clear m;go_enter Tryz.func108,Tryz.ntmps108;go_wp2_with (first|(go_at_call 135;refine(o.out _).mono ?_;rintro e n ⟨rfl,b⟩;obtain⟨A,c,a⟩:=t.out n b));go_ret;exact⟨rfl,a⟩
  ·rw[if_neg hq];obtain⟨-,m⟩:=m;obtain⟨i,-⟩:=m (by omega);have v:Hid (∀ U,Em U (.slice ia f.ins.length ic) f.ins->Calls Tryz.prog 136 #[.slice ia f.ins.length ic,.int .i64 q] U fun e w'=>e = .returned (.int .i64 (Jw f.ins q))/\Below U.heap.size U w'):=fun U h=>Ui f.ins _ q (by omega) (by omega) hi hx U h
   obtain⟨x,y,-⟩:=Vb f.ins q (by omega);obtain⟨r,z⟩:∃ r,Hid (Jw f.ins q=r):=⟨_,(rfl:Jw f.ins q=_)⟩;rw[z.out]at v x y |-
   by_cases hr:r < 0
   ·have u:Hid (-1=r):=(by omega : -1=r);go_enter Tryz.func108,Tryz.ntmps108;go_wp2_with (first|(go_at_call 135;refine(o.out _).mono ?_;rintro e n ⟨rfl,b⟩;obtain⟨A,c,a⟩:=t.out n b)|(go_at_call 136;refine(v.out _ c).mono ?_;rintro e E ⟨rfl,i⟩));go_ret;exact⟨C0 u.out,a.trans (i.mono a.size)⟩
   ·go_enter Tryz.func108,Tryz.ntmps108;go_wp2_with (first|(go_at_call 135;refine(o.out _).mono ?_;rintro e n ⟨rfl,b⟩;obtain⟨A,c,a⟩:=t.out n b)|(go_at_call 136;refine(v.out _ c).mono ?_;rintro e E ⟨rfl,i⟩));go_ret;exact⟨rfl,a.trans (i.mono a.size)⟩
def Kl (f:Ae):Prop:=f.name.size<=9223372036854775807/\f.params.length<=9223372036854775807/\f.ins.length<=9223372036854775807/\∀ d ∈ f.ins,d.text.size<=9223372036854775807
theorem Ws (c:List Ae) (v:Value) (l:Int) (h0:0<=l) (K:l<=1048576) (hn:c.length<=9223372036854775807) (hx:∀ f ∈ c,Kl f) (w:World) (hN:El w v c) :
  Calls Tryz.prog 81 #[v,.int .i64 l] w fun e w'=>e = .returned (.int .i64 (Nd c l))/\Below w.heap.size w w':=by
 have C:Hid (El w v c):=hN;obtain⟨a,S,Z⟩:=hN.slice;subst Z;clear hN;obtain⟨t,D⟩:∃ q,Hid (Nd c l=q):=⟨_,(rfl:Nd c l=_)⟩;have k:Hid ((if l - (c.length:Int) < 0 then -1 else Lv c (l - (c.length:Int)))=t):=D;rw[D.out];clear D;by_cases hl:l - (c.length:Int) < 0
 ·have E:Hid (t = -1):=by have h:=k.out;rw[if_pos hl]at h;exact h.symm
  clear k;go_enter Tryz.func81,Tryz.ntmps81;go_wp2;go_ret;exact⟨C0 E.out.symm,Below.refl _ _⟩
 ·have E:Hid (Lv c (l - (c.length:Int))=t):=by have h:=k.out;rw[if_neg hl]at h;exact h
  clear k;go_enter Tryz.func81,Tryz.ntmps81;go_wp2;go_loopw [1,5] (fun tl tv wr => ∃ (i:Nat) (q:Int),i<=c.length/\tv = .int .i64 (i:Int)/\tl = .int .i64 q/\0<=q/\q<=1048576/\Hid (Lv (c.drop i) q=t)/\Below w.heap.size w wr) (fun _ tv _=>c.length - (intOf tv).toNat);case atStart=>exact⟨0,l - (c.length:Int),by omega,rfl,rfl,by omega,by omega,E.out,Below.refl _ _⟩
  case round =>
   obtain⟨i,q,hi,rfl,rfl,B,I,z,b⟩:=hrel;have L:=b.size;by_cases hlt:i < c.length
   ·have A:(i:Int) < (c.length:Int):=(by omega);obtain⟨g,o,u,x,n,r,G,m,e0,e1,e2,e3,e4,Q⟩:∃ g o u x n r,a=some ⟨g,o,none⟩/\g < w.heap.size/\wr.cell? ⟨g,o+i * 5,none⟩=some (.string c[i].name)/\wr.cell? ⟨g,o+i * 5+1,none⟩=some (.slice u c[i].params.length x)/\wr.cell? ⟨g,o+i * 5+2,none⟩=some (.int .i64 c[i].result)/\wr.cell? ⟨g,o+i * 5+3,none⟩=some (.int .i64 c[i].slots)/\wr.cell? ⟨g,o+i * 5+4,none⟩=some (.slice n c[i].ins.length r)/\Hid (Em wr (.slice n c[i].ins.length r) c[i].ins):=by
     obtain⟨a',J,e,h⟩:=C.out;injection e with e;subst e;obtain⟨g,o,u,x,n,r,Y,m,⟨K,T,U,V,W⟩,h6,X⟩:=h i hlt;exact⟨g,o,u,x,n,r,Y,m,by rw[b.cell (p:=⟨g,o+i * 5,none⟩) m];exact K,by rw[b.cell (p:=⟨g,o+i * 5+1,none⟩) m];exact T,by rw[b.cell (p:=⟨g,o+i * 5+2,none⟩) m];exact U,by rw[b.cell (p:=⟨g,o+i * 5+3,none⟩) m];exact V,by rw[b.cell (p:=⟨g,o+i * 5+4,none⟩) m];exact W,X.below b⟩
    subst G;obtain⟨M,N,O,P⟩:=hx c[i] (List.getElem_mem hlt);have F:Hid (Calls Tryz.prog 108 #[.agg #[.string c[i].name,.slice u c[i].params.length x,.int .i64 c[i].result,.int .i64 c[i].slots,.slice n c[i].ins.length r],.int .i64 q] wr fun e w'=>e = .returned (.int .i64 (Lu c[i] q))/\Below wr.heap.size wr w'):=Y8 c[i] u x n r q B I M N O P wr Q.out;have j:=z.out;rw[List.drop_eq_getElem_cons hlt,Lv]at j;obtain⟨H,d,-⟩:=Zd c[i] q B;obtain⟨s,R⟩:∃ s,Hid (Lu c[i] q=s):=⟨_,(rfl:Lu c[i] q=_)⟩;rw[R.out]at j H d F;clear M N O P;by_cases hlq:s < 0
    ·have y:Hid (t = -1):=(by rw[if_pos hlq]at j;exact j.symm);clear j;go_wp2_with (first|(go_at_call 108;(refine F.out.mono ?_;rintro e w1 ⟨rfl,d⟩)));go_ret;exact⟨C0 y.out.symm,b.trans (d.mono L)⟩
    ·have y:Hid (Lv (c.drop (i+1)) s=t):=(by rw[if_neg hlq]at j;exact j);clear j;go_wp2_with (first|(go_at_call 108;(refine F.out.mono ?_;rintro e w1 ⟨rfl,d⟩)));go_roundw;case rel=>exact⟨i+1,s,by omega,by go_num,rfl,by omega,by omega,y,b.trans (d.mono L)⟩
     case measure=>simp[intOf];omega
   ·have A:¬ (i:Int) < (c.length:Int):=(by omega);have y:Hid (t=q):=(by have j:=z.out;rw[List.drop_of_length_le (by omega)]at j;exact j.symm);go_wp2;go_ret;exact⟨C0 y.out.symm,b⟩
theorem Uh (c:List Ae) (a:Option Addr) (cap:Nat) (l:Int) (h0:0<=l) (h1:l<=1048576) (hn:c.length<=9223372036854775807) (hx:∀ f ∈ c,Kl f) (w:World) (hN:El w (.slice a c.length cap) c) :
  Calls Tryz.prog 50 #[.agg #[.slice a c.length cap],.int .i64 l] w fun e w'=>e = .returned (.int .i64 (Nd c l))/\Below w.heap.size w w':=by
 obtain⟨d,g,-⟩:=Zc c l h0;obtain⟨q,j⟩:∃ q,Hid (Nd c l=q):=⟨_,(rfl:Nd c l=_)⟩;rw[j.out]at d g |-
 have k:Hid (∀ o,Calls Tryz.prog 81 #[.slice a c.length cap,.int .i64 l] (w.alloc o) fun e w'=>e = .returned (.int .i64 q)/\Below w.heap.size w w'):=fun o=>by
  have b:=Au w o;have h:=Ws c _ l h0 h1 hn hx (w.alloc o) (hN.below b);rw[j.out]at h;exact h.mono (fun e w' h=>⟨h.1,b.trans (h.2.mono b.size)⟩)
 clear hN hx;by_cases hq:q < 0
 ·have i:Hid (-1=q):=(by omega : -1=q);go_enter Tryz.func50,Tryz.ntmps50;go_wp2_with (first|(go_at_call 81;(refine(k.out _).mono ?_;rintro e m ⟨rfl,b⟩)));go_ret;exact⟨C0 i.out,b⟩
 ·go_enter Tryz.func50,Tryz.ntmps50;go_wp2_with (first|(go_at_call 81;(refine(k.out _).mono ?_;rintro e m ⟨rfl,b⟩)));go_ret;exact⟨rfl,b⟩
structure Hf (g:Nat) (e:TypeId) (N:Nat) (w:World) (cur:Array Value):Prop where
 blk:w.heap[g]? = some (.cells cur e (0,0))
 size:cur.size=N
theorem Hf.lt {g:Nat} {e:TypeId} {N:Nat} {w:World} {cur:Array Value} (h:Hf g e N w cur):g < w.heap.size:=(Array.getElem?_eq_some_iff.1 h.blk).1
theorem Hf.below {g:Nat} {e:TypeId} {N:Nat} {w w':World} {cur:Array Value} (h:Hf g e N w cur) (hb:Below w.heap.size w w'):Hf g e N w' cur:=⟨(hb.block g h.lt).trans h.blk,h.size⟩
theorem Hf.cell {g:Nat} {e:TypeId} {N:Nat} {w:World} {cur:Array Value} (h:Hf g e N w cur) (j:Nat) (hj:j < N):(∃ y,w.cell? ⟨g,j,none⟩=some y)/\w.frozen? ⟨g,j,none⟩=false:=by
 refine⟨⟨_,(Lib.cell_of_heap h.blk j).trans (Array.getElem?_eq_getElem (by rw[h.size];exact hj))⟩,by simp[World.frozen?,h.blk]⟩
theorem Hf.store {g:Nat} {e:TypeId} {N:Nat} {w:World} {cur:Array Value} (h:Hf g e N w cur) (j:Nat) (v:Value):Hf g e N (w.setCell ⟨g,j,none⟩ v) (cur.setIfInBounds j v) :=
 ⟨by simp[World.setCell,Array.getElem?_modify,h.blk],by rw[Array.size_setIfInBounds];exact h.size⟩
def Cz (A:Nat) (w:World) (e:TypeId) (N:Nat) (v:Value):Prop := ∃ g n cap cur,v = .slice (some ⟨g,0,none⟩) n cap/\A<=g/\Hf g e N w cur
theorem Cz.keep {A:Nat} {w w':World} {e:TypeId} {N:Nat} {v:Value} (h:Cz A w e N v) (hk:∀ k,v.ownBlock=some k->w'.heap[k]? = w.heap[k]?):Cz A w' e N v:=by
 obtain⟨g,n,a,b,rfl,d,c⟩:=h;exact⟨g,n,a,b,rfl,d,(hk g rfl).trans c.blk,c.size⟩
theorem Cz.below {A:Nat} {w w':World} {e:TypeId} {N:Nat} {v:Value} (h:Cz A w e N v) (hb:Below w.heap.size w w'):Cz A w' e N v:=by
 obtain⟨g,n,a,b,rfl,c,d⟩:=h;exact⟨g,n,a,b,rfl,c,d.below hb⟩
theorem Cz.mono {A A':Nat} {w:World} {e:TypeId} {N:Nat} {v:Value} (h:Cz A w e N v) (hA:A'<=A):Cz A' w e N v:=by
 obtain⟨g,n,a,b,rfl,d,c⟩:=h;exact⟨g,n,a,b,rfl,by omega,c⟩
theorem Tryz.infoIns : (Tryz.prog.info? 107).map (fun i=>(i.zero,i.size,i.bytes))=some (some (.agg #[.int .i64 0,.int .i64 0,.int .i64 0,.string ⟨#[]⟩]),4,40):=by kernel_rfl
theorem Jt {P:Program} {t e:TypeId} {z:Value} {sz bytes:Nat} (hinfo:(P.info? e).map (fun i=>(i.zero,i.size,i.bytes))=some (some z,sz,bytes)) (ht:P.underlying t=some (.slice e)) (n:Nat) (hb:bytes * n<=281474976710656) (h63:n<=9223372036854775807) (W:World):(Instr.makeSlice t (.int .i64 (n:Int)) (.int .i64 (n:Int))).run P W = .ok (.slice (some ⟨W.heap.size,0,none⟩) n n) (W.alloc (.cells (madeCells z.cells (n * sz)) e)):=by
 obtain⟨i,d,a⟩:=Option.map_eq_some_iff.1 hinfo;simp only[Prod.mk.injEq]at a;obtain⟨f,hs,c⟩:=a;have b:(i.bytes:Int) * (n:Int)<=281474976710656:=by
  rw[c];have h:((bytes * n:Nat):Int)<=281474976710656:=by omega
  rwa [Int.natCast_mul]at h
 have h:=run_make (P:=P) W t e i z ht d f .i64 .i64 n n (by omega) (Int.le_refl _) b (by omega);simp only[Int.toNat_natCast,hs]at h;exact h
theorem Ul (l:List Int) (a:Option Addr) (cap:Nat) (hl:l.length<=1048576) (w:World) (B:Nat) (hB:B<=w.heap.size) (hN:Ab B w (.slice a l.length cap) l) :
  Calls Tryz.prog 146 #[.slice a l.length cap] w fun e w'=>e = .returned (.slice (some ⟨w.heap.size,0,none⟩) l.length l.length)/\Ab w'.heap.size w' (.slice (some ⟨w.heap.size,0,none⟩) l.length l.length) l/\Cz w.heap.size w' 3 l.length (.slice (some ⟨w.heap.size,0,none⟩) l.length l.length)/\Below w.heap.size w w':=by
 have H:Hid (Ab B w (.slice a l.length cap) l):=hN;clear hN;have v:=Jt (P:=Tryz.prog) Tryz.infoIntC Tryz.underlying124 l.length (by omega) (by omega);obtain⟨x,n⟩:∃ m,madeCells (Value.int .i64 0).cells (l.length * 1)=m:=⟨_,rfl⟩;have C:Hid (x.size=l.length):=by rw[Hid,<- n,size_madeCells,Nat.mul_one]
 rw[n]at v;clear n;go_enter Tryz.func146,Tryz.ntmps146;go_wp2_with fail;obtain⟨G,d⟩:∃ V,w.alloc (.cells x 3)=V:=⟨_,rfl⟩;rw[d];have s:Hid (Hf w.heap.size 3 l.length G x/\Below w.heap.size w G):=⟨⟨by rw[<- d];exact Af w _,C.out⟩,by rw[<- d];exact Au w _⟩;clear d v;go_loopw [4] (fun t wr => ∃ (i:Nat) (c:Array Value),i<=l.length/\t = .int .i64 (i:Int)/\Hf w.heap.size 3 l.length wr c/\Hid (∀ j (hj:j < l.length),j < i->c[j]? = some (.int .i64 l[j]))/\Below w.heap.size w wr) (fun t _=>l.length - (intOf t).toNat);case atStart=>exact⟨0,x,by omega,rfl,s.out.1,fun j hj h=>by omega,s.out.2⟩
 case round =>
  obtain⟨i,c,N,rfl,b,q,f⟩:=hrel;by_cases hlt:i < l.length
  ·have u:(i:Int) < (l.length:Int):=(by omega);obtain⟨g,o,E,k⟩:∃ g o,a=some ⟨g,o,none⟩/\wr.cell? ⟨g,o+i,none⟩=some (.int .i64 l[i]):=by
    obtain⟨K,L,e,h⟩:=H.out.below (f.mono hB);injection e with e1;subst e1;obtain⟨g,o,I,-,J⟩:=h i hlt;exact⟨g,o,I,J⟩
   subst E;obtain⟨z,F⟩:∃ z,l[i]=z:=⟨_,rfl⟩;rw[F]at k;obtain⟨⟨Q,O⟩,M⟩:=b.cell i hlt;have D:Hid (Hf w.heap.size 3 l.length (wr.setCell ⟨w.heap.size,i,none⟩ (.int .i64 z)) (c.setIfInBounds i (.int .i64 z))):=b.store i _;have y:Hid (∀ j (hj:j < l.length),j < i+1->(c.setIfInBounds i (.int .i64 z))[j]? = some (.int .i64 l[j])):=fun j hj h=>by
    rw[Array.getElem?_setIfInBounds];by_cases e:i=j
    ·subst e;rw[if_pos rfl,if_pos (by rw[b.size];exact hlt),F]
    ·rw[if_neg e];exact q.out j hj (by omega)
   clear F b;go_wp2_with fail;go_roundw;case rel=>exact⟨i+1,_,by omega,by go_num,D.out,y,f.setCell (p:=⟨w.heap.size,i,none⟩) (Nat.le_refl _) _⟩
   case measure=>simp[intOf];omega
  ·have u:¬ (i:Int) < (l.length:Int):=(by omega);have r:Hid (Ab wr.heap.size wr (.slice (some ⟨w.heap.size,0,none⟩) l.length l.length) l):=⟨_,_,rfl,fun j hj=>⟨w.heap.size,0,rfl,b.lt,by rw[Nat.zero_add,Lib.cell_of_heap b.blk];exact q.out j hj (by omega)⟩⟩;have A:Hid (Cz w.heap.size wr 3 (l.length) (.slice (some ⟨w.heap.size,0,none⟩) l.length l.length)):=⟨_,_,_,c,rfl,Nat.le_refl _,b⟩;clear b;go_wp2_with fail;go_ret;exact⟨rfl,r.out,A.out,f⟩
theorem Wv (op a n:Int) (t:ByteArray) (w:World) :
  Calls Tryz.prog 168 #[.agg #[.int .i64 op,.int .i64 a,.int .i64 n,.string t]] w fun e w'=>e = .returned (.agg #[.int .i64 op,.int .i64 a,.int .i64 n,.string t])/\Below w.heap.size w w':=by
 go_enter Tryz.func168,Tryz.ntmps168;go_wp2;exact bodyPost_ret (v:=.agg #[.int .i64 op,.int .i64 a,.int .i64 n,.string t]) (by simp[results,Tryz.results168,go_sem]) rfl ⟨rfl,Ga w _ _ _⟩
theorem Uk (l:List Ay) (a:Option Addr) (cap:Nat) (hl:l.length<=1048576) (w:World) (hN:Em w (.slice a l.length cap) l) :
  Calls Tryz.prog 147 #[.slice a l.length cap] w fun e w'=>e = .returned (.slice (some ⟨w.heap.size,0,none⟩) l.length l.length)/\Bb w'.heap.size w' (.slice (some ⟨w.heap.size,0,none⟩) l.length l.length) l/\Cz w.heap.size w' 107 (l.length * 4) (.slice (some ⟨w.heap.size,0,none⟩) l.length l.length)/\Below w.heap.size w w':=by
 have Y:Hid (Em w (.slice a l.length cap) l):=hN;clear hN;have F:=Jt (P:=Tryz.prog) Tryz.infoIns Tryz.underlying128 l.length (by omega) (by omega);obtain⟨H,z⟩:∃ m,madeCells (Value.agg #[.int .i64 0,.int .i64 0,.int .i64 0,.string ⟨#[]⟩]).cells (l.length * 4)=m:=⟨_,rfl⟩;have K:Hid (H.size=l.length * 4):=by rw[Hid,<- z,size_madeCells]
 rw[z]at F;clear z;go_enter Tryz.func147,Tryz.ntmps147;go_wp2_with fail;obtain⟨T,s⟩:∃ V,w.alloc (.cells H 107)=V:=⟨_,rfl⟩;rw[s];have D:Hid (Hf w.heap.size 107 (l.length * 4) T H/\Below w.heap.size w T):=⟨⟨by rw[<- s];exact Af w _,K.out⟩,by rw[<- s];exact Au w _⟩;clear s F;go_loopw [4] (fun t wr => ∃ (i:Nat) (n:Array Value),i<=l.length/\t = .int .i64 (i:Int)/\Hf w.heap.size 107 (l.length * 4) wr n/\Hid (∀ j (hj:j < l.length),j < i->∀ q,q < 4->n[j * 4+q]? = (Gl l[j])[q]?)/\Below w.heap.size w wr) (fun t _=>l.length - (intOf t).toNat);case atStart=>exact⟨0,H,by omega,rfl,D.out.1,fun j hj h=>by omega,D.out.2⟩
 case round =>
  obtain⟨i,n,hi,rfl,k,A,u⟩:=hrel;by_cases hlt:i < l.length
  ·have E:(i:Int) < (l.length:Int):=(by omega);obtain⟨g,o,O,U,G,W,X⟩:∃ g o,a=some ⟨g,o,none⟩/\wr.cell? ⟨g,o+i * 4,none⟩=some (.int .i64 l[i].op)/\wr.cell? ⟨g,o+i * 4+1,none⟩=some (.int .i64 l[i].a)/\wr.cell? ⟨g,o+i * 4+2,none⟩=some (.int .i64 l[i].n)/\wr.cell? ⟨g,o+i * 4+3,none⟩=some (.string l[i].text):=by
    obtain⟨a',cp,e,h⟩:=Y.out.below u;injection e with G;subst G;obtain⟨g,o,h1,-,h2⟩:=h i hlt;exact⟨g,o,h1,h2⟩
   subst O;have v:Hid (Hf w.heap.size 107 (l.length * 4) wr n):=k;obtain⟨d,S⟩:∃ d,Hid (l[i]=d):=⟨_,(rfl:l[i]=_)⟩;rw[S.out]at U G W X;obtain⟨x,L,M,N⟩:=d;simp only at U G W X;have C:Hid (∀ c,Below wr.heap.size wr c->(∃ b,Hf w.heap.size 107 (l.length * 4) ((((c.setCell ⟨w.heap.size,i * 4,none⟩ (.int .i64 x)).setCell ⟨w.heap.size,i * 4+1,none⟩ (.int .i64 L)).setCell ⟨w.heap.size,i * 4+2,none⟩ (.int .i64 M)).setCell ⟨w.heap.size,i * 4+3,none⟩ (.string N)) b/\Hid (∀ j (hj:j < l.length),j < i+1->∀ q,q < 4->b[j * 4+q]? = (Gl l[j])[q]?))):=fun c hb=>by
    have h:=((((v.out.below hb).store (i * 4) (.int .i64 x)).store (i * 4+1) (.int .i64 L)).store (i * 4+2) (.int .i64 M)).store (i * 4+3) (.string N);refine⟨_,h,fun j hj hji q hq => ?_⟩;simp only[Array.getElem?_setIfInBounds,Array.size_setIfInBounds,v.out.size];by_cases e:j=i
    ·subst e;have Q:q=0\/q=1\/q=2\/q=3:=(by omega);rw[S.out];rcases Q with rfl|rfl|rfl|rfl
     ·rw[if_neg (by omega),if_neg (by omega),if_neg (by omega),if_pos (by omega),if_pos (by omega)];rfl
     ·rw[if_neg (by omega),if_neg (by omega),if_pos (by omega),if_pos (by omega)];rfl
     ·rw[if_neg (by omega),if_pos (by omega),if_pos (by omega)];rfl
     ·rw[if_pos (by omega),if_pos (by omega)];rfl
    ·rw[if_neg (by omega),if_neg (by omega),if_neg (by omega),if_neg (by omega)];exact A.out j hj (by omega) q hq
   have r:Hid (∀ c,Below wr.heap.size wr c->∀ q,q < 4->(∃ y,c.cell? ⟨w.heap.size,i * 4+q,none⟩=some y)/\c.frozen? ⟨w.heap.size,i * 4+q,none⟩=false):=fun c hb q hq=>(v.out.below hb).cell (i * 4+q) (by omega)
   clear k;go_wp2_with (first|(go_at_call 168;refine(Wv x L M N _).mono ?_;rintro e c ⟨rfl,f⟩;obtain⟨⟨y0,Z⟩,f0⟩:=r.out c f 0 (by omega);obtain⟨⟨y1,c1⟩,f1⟩:=r.out c f 1 (by omega);obtain⟨⟨y2,c2⟩,f2⟩:=r.out c f 2 (by omega);obtain⟨⟨y3,c3⟩,f3⟩:=r.out c f 3 (by omega);rw[Nat.add_zero]at Z f0));obtain⟨b,R,I⟩:=C.out c f;go_roundw;case rel=>exact⟨i+1,b,by omega,by go_num,R,I,((((u.trans (f.mono u.size)).setCell (p:=⟨w.heap.size,i * 4,none⟩) (Nat.le_refl _) _).setCell (p:=⟨w.heap.size,i * 4+1,none⟩) (Nat.le_refl _) _).setCell (p:=⟨w.heap.size,i * 4+2,none⟩) (Nat.le_refl _) _).setCell (p:=⟨w.heap.size,i * 4+3,none⟩) (Nat.le_refl _) _⟩
   case measure=>simp[intOf];omega
  ·have E:¬ (i:Int) < (l.length:Int):=(by omega);have B:Hid (Bb wr.heap.size wr (.slice (some ⟨w.heap.size,0,none⟩) l.length l.length) l):=⟨_,_,rfl,fun j hj=>⟨w.heap.size,rfl,k.lt,fun q hq=>by rw[Lib.cell_of_heap k.blk];exact A.out j hj (by omega) q hq⟩⟩;have J:Hid (Cz w.heap.size wr 107 (l.length * 4) (.slice (some ⟨w.heap.size,0,none⟩) l.length l.length)):=⟨_,_,_,n,rfl,Nat.le_refl _,k⟩;clear k;go_wp2_with fail;go_ret;exact⟨rfl,B.out,J.out,u⟩
theorem A3 {w:World} {g i:Nat} {arr:Array Value} {t:TypeId} {v:Value} (h:w.heap[g]? = some (.cells arr t)):(w.setCell ⟨g,i,none⟩ v).heap[g]? = some (.cells (arr.setIfInBounds i v) t):=by
 simp[World.setCell,Array.getElem?_modify,h]
theorem E0 {w:World} {g:Nat} {a b c d e:Value} {t:TypeId} (h:w.heap[g]? = some (.cells #[a,b,c,d,e] t)):(w.cell? ⟨g,0,none⟩=some a/\w.cell? ⟨g,1,none⟩=some b/\w.cell? ⟨g,2,none⟩=some c/\w.cell? ⟨g,3,none⟩=some d/\w.cell? ⟨g,4,none⟩=some e)/\(w.frozen? ⟨g,0,none⟩=false/\w.frozen? ⟨g,1,none⟩=false/\w.frozen? ⟨g,2,none⟩=false/\w.frozen? ⟨g,3,none⟩=false/\w.frozen? ⟨g,4,none⟩=false):=by
 refine⟨⟨?_, ?_, ?_, ?_, ?_⟩, ?_, ?_, ?_, ?_, ?_⟩ <;> simp[World.cell?,World.frozen?,h]
theorem Bb.keep {B C:Nat} {w w':World} {v:Value} {l:List Ay} (h:Bb B w v l) (hk:∀ k,v.ownBlock=some k->w'.heap[k]? = w.heap[k]?) (hC:B<=C):Bb C w' v l:=by
 obtain⟨a,c,rfl,f⟩:=h;refine⟨a,c,rfl,fun i hi => ?_⟩;obtain⟨g,d,m,b⟩:=f i hi;refine⟨g,d,by omega,fun j hj => ?_⟩;rw[World.cell?_of_block (hk g (by rw[d];rfl))];exact b j hj
theorem N8 (V:World) (g o:Nat) (x0 x1 x2 x3 x4:Value) (k:Nat) (hk:k≠g):(((((V.setCell ⟨g,o,none⟩ x0).setCell ⟨g,o+1,none⟩ x1).setCell ⟨g,o+2,none⟩ x2).setCell ⟨g,o+3,none⟩ x3).setCell ⟨g,o+4,none⟩ x4).heap[k]? = V.heap[k]?:=by
 simp[World.setCell,Array.getElem?_modify,Ne.symm hk]
def Pi (f:Ae) (w:World) (e:Ending) (w':World):Prop :=
 ∃ pa pc ia ic,e = .returned (.agg #[.string f.name,.slice pa f.params.length pc,.int .i64 f.result,.int .i64 f.slots,.slice ia f.ins.length ic])/\Ab w'.heap.size w' (.slice pa f.params.length pc) f.params/\Bb w'.heap.size w' (.slice ia f.ins.length ic) f.ins/\(∀ k,(Value.slice pa f.params.length pc).ownBlock=some k->w.heap.size<=k)/\(∀ k,(Value.slice ia f.ins.length ic).ownBlock=some k->w.heap.size<=k)/\Cz w.heap.size w' 3 f.params.length (.slice pa f.params.length pc)/\Cz w.heap.size w' 107 (f.ins.length * 4) (.slice ia f.ins.length ic)/\Below w.heap.size w w'
theorem Y9 (f:Ae) (pa:Option Addr) (pc:Nat) (ia:Option Addr) (ic:Nat) (hp:f.params.length<=1048576) (hi:f.ins.length<=1048576) (w:World) (hP:Ab w.heap.size w (.slice pa f.params.length pc) f.params) (hN:Em w (.slice ia f.ins.length ic) f.ins) :
  Calls Tryz.prog 119 #[.agg #[.string f.name,.slice pa f.params.length pc,.int .i64 f.result,.int .i64 f.slots,.slice ia f.ins.length ic]] w (Pi f w):=by
 have T:Hid (∀ U,Below w.heap.size w U->Calls Tryz.prog 146 #[.slice pa f.params.length pc] U fun e w'=>e = .returned (.slice (some ⟨U.heap.size,0,none⟩) f.params.length f.params.length)/\Ab w'.heap.size w' (.slice (some ⟨U.heap.size,0,none⟩) f.params.length f.params.length) f.params/\Cz U.heap.size w' 3 f.params.length (.slice (some ⟨U.heap.size,0,none⟩) f.params.length f.params.length)/\Below U.heap.size U w'):=fun U hU=>Ul f.params pa pc hp U w.heap.size hU.size (hP.below hU)
 have W:Hid (∀ U,Below w.heap.size w U->Calls Tryz.prog 147 #[.slice ia f.ins.length ic] U fun e w'=>e = .returned (.slice (some ⟨U.heap.size,0,none⟩) f.ins.length f.ins.length)/\Bb w'.heap.size w' (.slice (some ⟨U.heap.size,0,none⟩) f.ins.length f.ins.length) f.ins/\Cz U.heap.size w' 107 (f.ins.length * 4) (.slice (some ⟨U.heap.size,0,none⟩) f.ins.length f.ins.length)/\Below U.heap.size U w'):=fun U hU=>Uk f.ins ia ic hi U (hN.below hU)
 clear hP hN;have s:Hid (∀ V:World,V.heap[w.heap.size]? = some (.cells #[.string f.name,.slice pa f.params.length pc,.int .i64 f.result,.int .i64 f.slots,.slice ia f.ins.length ic] 163)->V.cell? ⟨w.heap.size,2,none⟩=some (.int .i64 f.result)/\V.cell? ⟨w.heap.size,3,none⟩=some (.int .i64 f.slots)/\V.cell? ⟨w.heap.size,4,none⟩=some (.slice ia f.ins.length ic)):=fun V h=>⟨(E0 h).1.2.2.1,(E0 h).1.2.2.2.1,(E0 h).1.2.2.2.2⟩
 go_enter Tryz.func119,Tryz.ntmps119;go_wp2_with (first
  | (go_at_call 146;obtain⟨x,g⟩:∃ Y,(((w.alloc (.cells #[.string f.name,.slice pa f.params.length pc,.int .i64 f.result,.int .i64 f.slots,.slice ia f.ins.length ic] 163)).alloc (.cells #[.string ⟨#[]⟩,.slice none 0 0,.int .i64 0,.int .i64 0,.slice none 0 0] 130)).alloc (.cells #[.string f.name,.slice none 0 0,.int .i64 0,.int .i64 0,.slice none 0 0] 130))=Y:=⟨_,rfl⟩;rw[g];have Z:x.heap.size=w.heap.size+3:=(by rw[<- g,World.size_alloc,World.size_alloc,World.size_alloc]);have q:Hid (Below w.heap.size w x):=(by rw[Hid,<- g];exact Ga w _ _ _);have K:x.heap[w.heap.size]? = some (.cells #[.string f.name,.slice pa f.params.length pc,.int .i64 f.result,.int .i64 f.slots,.slice ia f.ins.length ic] 163):=(by rw[<- g];exact Am _ (Am _ (Af w _)));have L:x.heap[w.heap.size+1]? = some (.cells #[.string ⟨#[]⟩,.slice none 0 0,.int .i64 0,.int .i64 0,.slice none 0 0] 130):=(by rw[<- g];have h:=Af (w.alloc (.cells #[.string f.name,.slice pa f.params.length pc,.int .i64 f.result,.int .i64 f.slots,.slice ia f.ins.length ic] 163)) (.cells #[.string ⟨#[]⟩,.slice none 0 0,.int .i64 0,.int .i64 0,.slice none 0 0] 130);rw[World.size_alloc]at h;exact Am _ h);have H:x.heap[w.heap.size+1+1]? = some (.cells #[.string f.name,.slice none 0 0,.int .i64 0,.int .i64 0,.slice none 0 0] 130):=(by rw[<- g];have h:=Af ((w.alloc (.cells #[.string f.name,.slice pa f.params.length pc,.int .i64 f.result,.int .i64 f.slots,.slice ia f.ins.length ic] 163)).alloc (.cells #[.string ⟨#[]⟩,.slice none 0 0,.int .i64 0,.int .i64 0,.slice none 0 0] 130)) (.cells #[.string f.name,.slice none 0 0,.int .i64 0,.int .i64 0,.slice none 0 0] 130);rw[World.size_alloc,World.size_alloc]at h;exact h);refine(T.out x q.out).mono ?_;rintro e M ⟨rfl,t,u,n⟩;rw[Z]at t u |-;have Q:Hid (Cz (w.heap.size+3) M 3 f.params.length (.slice (some ⟨w.heap.size+3,0,none⟩) f.params.length f.params.length)):=u;clear u;have N:Hid (Ab M.heap.size M (.slice (some ⟨w.heap.size+3,0,none⟩) f.params.length f.params.length) f.params):=t;clear t;replace K:=(n.block _ (by omega)).trans K;replace L:=(n.block _ (by omega)).trans L;replace H:=(n.block _ (by omega)).trans H;obtain⟨z,b⟩:∃ V,M.setCell ⟨w.heap.size+1+1,1,none⟩ (.slice (some ⟨w.heap.size+3,0,none⟩) f.params.length f.params.length)=V:=⟨_,rfl⟩;have r0:z.heap[w.heap.size]? = some (.cells #[.string f.name,.slice pa f.params.length pc,.int .i64 f.result,.int .i64 f.slots,.slice ia f.ins.length ic] 163):=(by rw[<- b,Below.heap_setCell _ _ _ _ (by show w.heap.size≠w.heap.size+1+1;omega)];exact K);have r1:z.heap[w.heap.size+1]? = some (.cells #[.string ⟨#[]⟩,.slice none 0 0,.int .i64 0,.int .i64 0,.slice none 0 0] 130):=(by rw[<- b,Below.heap_setCell _ _ _ _ (by show w.heap.size+1≠w.heap.size+1+1;omega)];exact L);have r2:z.heap[w.heap.size+1+1]? = some (.cells #[.string f.name,.slice (some ⟨w.heap.size+3,0,none⟩) f.params.length f.params.length,.int .i64 0,.int .i64 0,.slice none 0 0] 130):=(by rw[<- b];exact(A3 H).trans rfl);obtain⟨A,c⟩:∃ V,z.setCell ⟨w.heap.size+1+1,2,none⟩ (.int .i64 f.result)=V:=⟨_,rfl⟩;have t0:A.heap[w.heap.size]? = some (.cells #[.string f.name,.slice pa f.params.length pc,.int .i64 f.result,.int .i64 f.slots,.slice ia f.ins.length ic] 163):=(by rw[<- c,Below.heap_setCell _ _ _ _ (by show w.heap.size≠w.heap.size+1+1;omega)];exact r0);have t1:A.heap[w.heap.size+1]? = some (.cells #[.string ⟨#[]⟩,.slice none 0 0,.int .i64 0,.int .i64 0,.slice none 0 0] 130):=(by rw[<- c,Below.heap_setCell _ _ _ _ (by show w.heap.size+1≠w.heap.size+1+1;omega)];exact r1);have t2:A.heap[w.heap.size+1+1]? = some (.cells #[.string f.name,.slice (some ⟨w.heap.size+3,0,none⟩) f.params.length f.params.length,.int .i64 f.result,.int .i64 0,.slice none 0 0] 130):=(by rw[<- c];exact(A3 r2).trans rfl);obtain⟨a,d⟩:∃ V,A.setCell ⟨w.heap.size+1+1,3,none⟩ (.int .i64 f.slots)=V:=⟨_,rfl⟩;have u0:a.heap[w.heap.size]? = some (.cells #[.string f.name,.slice pa f.params.length pc,.int .i64 f.result,.int .i64 f.slots,.slice ia f.ins.length ic] 163):=(by rw[<- d,Below.heap_setCell _ _ _ _ (by show w.heap.size≠w.heap.size+1+1;omega)];exact t0);have u1:a.heap[w.heap.size+1]? = some (.cells #[.string ⟨#[]⟩,.slice none 0 0,.int .i64 0,.int .i64 0,.slice none 0 0] 130):=(by rw[<- d,Below.heap_setCell _ _ _ _ (by show w.heap.size+1≠w.heap.size+1+1;omega)];exact t1);have u2:a.heap[w.heap.size+1+1]? = some (.cells #[.string f.name,.slice (some ⟨w.heap.size+3,0,none⟩) f.params.length f.params.length,.int .i64 f.result,.int .i64 f.slots,.slice none 0 0] 130):=(by rw[<- d];exact(A3 t2).trans rfl);obtain⟨⟨-,k1,-,-,-⟩,-,f1,-,-,-⟩:=E0 H;obtain⟨⟨-,-,k2,-,-⟩,-,-,f2,-,-⟩:=E0 r2;obtain⟨⟨-,-,-,k3,-⟩,-,-,-,f3,-⟩:=E0 t2;obtain⟨a2,-,-⟩:=s.out z r0;obtain⟨-,a3,-⟩:=s.out A t0;obtain⟨-,-,a4⟩:=s.out a u0;have r:Hid (Below w.heap.size w a):=(by rw[Hid,<- d,<- c,<- b];exact(((q.out.trans (n.mono q.out.size)).setCell (p:=⟨w.heap.size+1+1,1,none⟩) (by show w.heap.size<=w.heap.size+1+1;omega) _).setCell (p:=⟨w.heap.size+1+1,2,none⟩) (by show w.heap.size<=w.heap.size+1+1;omega) _).setCell (p:=⟨w.heap.size+1+1,3,none⟩) (by show w.heap.size<=w.heap.size+1+1;omega) _);have P:Hid (Ab a.heap.size a (.slice (some ⟨w.heap.size+3,0,none⟩) f.params.length f.params.length) f.params):=(by refine N.out.keep (fun k hk => ?_) (by rw[<- d,<- c,<- b];simp);have i:w.heap.size+3=k:=(by simpa[Value.ownBlock]using hk);rw[<- d,<- c,<- b,Below.heap_setCell _ _ _ _ (by show k≠w.heap.size+1+1;omega),Below.heap_setCell _ _ _ _ (by show k≠w.heap.size+1+1;omega),Below.heap_setCell _ _ _ _ (by show k≠w.heap.size+1+1;omega)]);have S:Hid (Cz (w.heap.size+3) a 3 f.params.length (.slice (some ⟨w.heap.size+3,0,none⟩) f.params.length f.params.length)):=(by refine Q.out.keep (fun k hk => ?_);have i:w.heap.size+3=k:=(by simpa[Value.ownBlock]using hk);rw[<- d,<- c,<- b,Below.heap_setCell _ _ _ _ (by show k≠w.heap.size+1+1;omega),Below.heap_setCell _ _ _ _ (by show k≠w.heap.size+1+1;omega),Below.heap_setCell _ _ _ _ (by show k≠w.heap.size+1+1;omega)]);clear K L H r0 r1 r2 t0 t1 t2 g)
  | (go_at_call 147;refine(W.out a r.out).mono ?_;rintro e y ⟨rfl,B,C,j⟩;have R:Hid (Cz a.heap.size y 107 (f.ins.length * 4) (.slice (some ⟨a.heap.size,0,none⟩) f.ins.length f.ins.length)):=C;clear C;have O:Hid (Bb y.heap.size y (.slice (some ⟨a.heap.size,0,none⟩) f.ins.length f.ins.length) f.ins):=B;clear B;have E:w.heap.size+1 < a.heap.size:=(Array.getElem?_eq_some_iff.1 u1).1;have F:w.heap.size+1+1 < a.heap.size:=(Array.getElem?_eq_some_iff.1 u2).1;have x1:=(j.block _ E).trans u1;have x2:=(j.block _ F).trans u2;obtain⟨I,l⟩:∃ V,y.setCell ⟨w.heap.size+1+1,4,none⟩ (.slice (some ⟨a.heap.size,0,none⟩) f.ins.length f.ins.length)=V:=⟨_,rfl⟩;have y1:I.heap[w.heap.size+1]? = some (.cells #[.string ⟨#[]⟩,.slice none 0 0,.int .i64 0,.int .i64 0,.slice none 0 0] 130):=(by rw[<- l,Below.heap_setCell _ _ _ _ (by show w.heap.size+1≠w.heap.size+1+1;omega)];exact x1);have y2:I.heap[w.heap.size+1+1]? = some (.cells #[.string f.name,.slice (some ⟨w.heap.size+3,0,none⟩) f.params.length f.params.length,.int .i64 f.result,.int .i64 f.slots,.slice (some ⟨a.heap.size,0,none⟩) f.ins.length f.ins.length] 130):=(by rw[<- l];exact(A3 x2).trans rfl);obtain⟨⟨-,-,-,-,k4⟩,-,-,-,-,f4⟩:=E0 x2;obtain⟨⟨z0,z1,z2,z3,z4⟩,-⟩:=E0 y2;obtain⟨⟨v0,v1,v2,v3,v4⟩,g0,g1,g2,g3,g4⟩:=E0 y1))
 obtain⟨J,m⟩:∃ V,(((((I.setCell ⟨w.heap.size+1,0,none⟩ (.string f.name)).setCell ⟨w.heap.size+1,1,none⟩ (.slice (some ⟨w.heap.size+3,0,none⟩) f.params.length f.params.length)).setCell ⟨w.heap.size+1,2,none⟩ (.int .i64 f.result)).setCell ⟨w.heap.size+1,3,none⟩ (.int .i64 f.slots)).setCell ⟨w.heap.size+1,4,none⟩ (.slice (some ⟨a.heap.size,0,none⟩) f.ins.length f.ins.length))=V:=⟨_,rfl⟩;rw[m];have j1:J.heap[w.heap.size+1]? = some (.cells #[.string f.name,.slice (some ⟨w.heap.size+3,0,none⟩) f.params.length f.params.length,.int .i64 f.result,.int .i64 f.slots,.slice (some ⟨a.heap.size,0,none⟩) f.ins.length f.ins.length] 130):=by
  rw[<- m];exact(A3 (A3 (A3 (A3 (A3 y1))))).trans rfl
 have o:∀ k,k≠w.heap.size+1->k≠w.heap.size+1+1->J.heap[k]? = y.heap[k]?:=fun k h1 h2=>by
  rw[<- m];have h:=N8 I (w.heap.size+1) 0 (.string f.name) (.slice (some ⟨w.heap.size+3,0,none⟩) f.params.length f.params.length) (.int .i64 f.result) (.int .i64 f.slots) (.slice (some ⟨a.heap.size,0,none⟩) f.ins.length f.ins.length) k h1;refine h.trans ?_;rw[<- l,Below.heap_setCell _ _ _ _ (by exact h2)]
 have G:J.heap.size=y.heap.size:=by rw[<- m,<- l];simp
 have X:Below w.heap.size w J:=by
  have D:=r.out.trans (j.mono r.out.size);rw[<- m,<- l];exact(((((D.setCell (p:=⟨w.heap.size+1+1,4,none⟩) (by show w.heap.size<=w.heap.size+1+1;omega) _).setCell (p:=⟨w.heap.size+1,0,none⟩) (by show w.heap.size<=w.heap.size+1;omega) _).setCell (p:=⟨w.heap.size+1,1,none⟩) (by show w.heap.size<=w.heap.size+1;omega) _).setCell (p:=⟨w.heap.size+1,2,none⟩) (by show w.heap.size<=w.heap.size+1;omega) _).setCell (p:=⟨w.heap.size+1,3,none⟩) (by show w.heap.size<=w.heap.size+1;omega) _).setCell (p:=⟨w.heap.size+1,4,none⟩) (by show w.heap.size<=w.heap.size+1;omega) _
 obtain⟨⟨n0,n1,n2,n3,n4⟩,-⟩:=E0 j1;refine bodyPost_ret (v:=.agg #[.string f.name,.slice (some ⟨w.heap.size+3,0,none⟩) f.params.length f.params.length,.int .i64 f.result,.int .i64 f.slots,.slice (some ⟨a.heap.size,0,none⟩) f.ins.length f.ins.length]) (by simp[results,Tryz.results119,go_sem,n0,n1,n2,n3,n4]) rfl ⟨_,_,_,_,rfl, ?_, ?_,fun k hk => ?_,fun k hk => ?_, ?_, ?_,X⟩
 ·refine(P.out.below j).keep (fun k hk => ?_) (by rw[G];exact j.size);have i:w.heap.size+3=k:=by simpa[Value.ownBlock]using hk
  exact o k (by omega) (by omega)
 ·refine O.out.keep (fun k hk => ?_) (by rw[G];exact Nat.le_refl _);have i:a.heap.size=k:=by simpa[Value.ownBlock]using hk
  exact o k (by omega) (by omega)
 ·have i:w.heap.size+3=k:=by simpa[Value.ownBlock]using hk
  omega
 ·have i:a.heap.size=k:=by simpa[Value.ownBlock]using hk
  omega
 ·refine Cz.mono ((S.out.below j).keep (fun k hk => ?_)) (by omega);have i:w.heap.size+3=k:=by simpa[Value.ownBlock]using hk
  exact o k (by omega) (by omega)
 ·refine Cz.mono (R.out.keep (fun k hk => ?_)) (by omega);have i:a.heap.size=k:=by simpa[Value.ownBlock]using hk
  exact o k (by omega) (by omega)
structure G0 (g:Nat) (w:World) (c:List Ae) (i:Nat):Prop where
 row:∃ cur,Hf g 130 (c.length * 5) w cur
 each:∀ k (hk:k < c.length),k < i->∃ pa pc ia ic,(∀ q,q < 5->w.cell? ⟨g,k * 5+q,none⟩=(Rn c[k] (.slice pa c[k].params.length pc) (.slice ia c[k].ins.length ic))[q]?)/\Ab w.heap.size w (.slice pa c[k].params.length pc) c[k].params/\Bb w.heap.size w (.slice ia c[k].ins.length ic) c[k].ins/\(∀ j,(Value.slice pa c[k].params.length pc).ownBlock=some j->g < j)/\(∀ j,(Value.slice ia c[k].ins.length ic).ownBlock=some j->g < j)/\Cz g w 3 c[k].params.length (.slice pa c[k].params.length pc)/\Cz g w 107 (c[k].ins.length * 4) (.slice ia c[k].ins.length ic)
theorem G0.below {g:Nat} {w w':World} {c:List Ae} {i:Nat} (h:G0 g w c i) (hb:Below w.heap.size w w'):G0 g w' c i:=by
 obtain⟨a,b⟩:=h.row;refine⟨⟨a,b.below hb⟩,fun k hk hki => ?_⟩;obtain⟨t,u,r,s,d,f,j,l,m,n,o⟩:=h.each k hk hki;exact⟨t,u,r,s,fun q hq=>by rw[hb.cell (p:=⟨g,k * 5+q,none⟩) b.lt];exact d q hq,Ab.mono (f.below hb) hb.size,Bb.mono (j.below hb) hb.size,l,m,n.below hb,o.below hb⟩
def Oc (w:World) (g o:Nat) (x0 x1 x2 x3 x4:Value):World:=((((w.setCell ⟨g,o,none⟩ x0).setCell ⟨g,o+1,none⟩ x1).setCell ⟨g,o+2,none⟩ x2).setCell ⟨g,o+3,none⟩ x3).setCell ⟨g,o+4,none⟩ x4
theorem G0.store {g:Nat} {w:World} {c:List Ae} {i:Nat} (h:G0 g w c i) (hi:i < c.length) {pa:Option Addr} {pc:Nat} {ia:Option Addr} {ic:Nat} (h2:Ab w.heap.size w (.slice pa c[i].params.length pc) c[i].params) (h3:Bb w.heap.size w (.slice ia c[i].ins.length ic) c[i].ins) (h4:∀ j,(Value.slice pa c[i].params.length pc).ownBlock=some j->g < j) (h5:∀ j,(Value.slice ia c[i].ins.length ic).ownBlock=some j->g < j) (h6:Cz g w 3 c[i].params.length (.slice pa c[i].params.length pc)) (h7:Cz g w 107 (c[i].ins.length * 4) (.slice ia c[i].ins.length ic)) :
  G0 g (Oc w g (i * 5) (.string c[i].name) (.slice pa c[i].params.length pc) (.int .i64 c[i].result) (.int .i64 c[i].slots) (.slice ia c[i].ins.length ic)) c (i+1):=by
 obtain⟨t,n⟩:=h.row;have l:=((((n.store (i * 5) (.string c[i].name)).store (i * 5+1) (.slice pa c[i].params.length pc)).store (i * 5+2) (.int .i64 c[i].result)).store (i * 5+3) (.int .i64 c[i].slots)).store (i * 5+4) (.slice ia c[i].ins.length ic);have a:∀ k,k≠g->(Oc w g (i * 5) (.string c[i].name) (.slice pa c[i].params.length pc) (.int .i64 c[i].result) (.int .i64 c[i].slots) (.slice ia c[i].ins.length ic)).heap[k]? = w.heap[k]?:=fun k hk=>N8 w g (i * 5) _ _ _ _ _ k hk
 have b:(Oc w g (i * 5) (.string c[i].name) (.slice pa c[i].params.length pc) (.int .i64 c[i].result) (.int .i64 c[i].slots) (.slice ia c[i].ins.length ic)).heap.size=w.heap.size:=by simp[Oc]
 refine⟨⟨_,l⟩,fun k hk hki => ?_⟩;by_cases e:k=i
 ·subst e;refine⟨pa,pc,ia,ic,fun q hq => ?_,h2.keep (fun j hj=>a j (by have:=h4 j hj;omega)) (by rw[b];exact Nat.le_refl _),h3.keep (fun j hj=>a j (by have:=h5 j hj;omega)) (by rw[b];exact Nat.le_refl _),h4,h5,h6.keep (fun j hj=>a j (by have:=h4 j hj;omega)),h7.keep (fun j hj=>a j (by have:=h5 j hj;omega))⟩;refine(Lib.cell_of_heap l.blk _).trans ?_;simp only[Array.getElem?_setIfInBounds,Array.size_setIfInBounds,n.size];have m:q=0\/q=1\/q=2\/q=3\/q=4:=by omega
  rcases m with rfl|rfl|rfl|rfl|rfl
  ·rw[if_neg (by omega),if_neg (by omega),if_neg (by omega),if_neg (by omega),if_pos (by omega),if_pos (by omega)];rfl
  ·rw[if_neg (by omega),if_neg (by omega),if_neg (by omega),if_pos (by omega),if_pos (by omega)];rfl
  ·rw[if_neg (by omega),if_neg (by omega),if_pos (by omega),if_pos (by omega)];rfl
  ·rw[if_neg (by omega),if_pos (by omega),if_pos (by omega)];rfl
  ·rw[if_pos (by omega),if_pos (by omega)];rfl
 ·obtain⟨r,s,o,p,u,v,x,d,f,y,z⟩:=h.each k hk (by omega);refine⟨r,s,o,p,fun q hq => ?_,v.keep (fun j hj=>a j (by have:=d j hj;omega)) (by rw[b];exact Nat.le_refl _),x.keep (fun j hj=>a j (by have:=f j hj;omega)) (by rw[b];exact Nat.le_refl _),d,f,y.keep (fun j hj=>a j (by have:=d j hj;omega)),z.keep (fun j hj=>a j (by have:=f j hj;omega))⟩;rw[<- u q hq,Lib.cell_of_heap n.blk];refine(Lib.cell_of_heap l.blk _).trans ?_;simp only[Array.getElem?_setIfInBounds];rw[if_neg (by omega),if_neg (by omega),if_neg (by omega),if_neg (by omega),if_neg (by omega)]
def C6 (A B:Nat) (w:World) (v:Value) (c:List Ae):Prop :=
 ∃ a cap,v = .slice a c.length cap/\∀ k (hk:k < c.length),∃ g pv iv,a=some ⟨g,0,none⟩/\A<=g/\g < B/\(∀ j,j < 5->w.cell? ⟨g,k * 5+j,none⟩=(Rn c[k] pv iv)[j]?)/\Ab B w pv c[k].params/\Bb B w iv c[k].ins/\(∀ j,pv.ownBlock=some j->A<=j)/\(∀ j,iv.ownBlock=some j->A<=j)/\(∃ cur,Hf g 130 (c.length * 5) w cur)/\Cz A w 3 c[k].params.length pv/\Cz A w 107 (c[k].ins.length * 4) iv
theorem C6.code {A B:Nat} {w:World} {v:Value} {c:List Ae} (h:C6 A B w v c):An B w v c:=by
 obtain⟨a,b,rfl,m⟩:=h;refine⟨a,b,rfl,fun k hk => ?_⟩;obtain⟨g,o,n,d,-,f,i,j,l,-⟩:=m k hk;exact⟨g,o,n,d,f,i,j,l⟩
theorem C6.keep {A B C:Nat} {w w':World} {v:Value} {c:List Ae} (h:C6 A B w v c) (hs:∀ k,A<=k->w'.heap[k]? = w.heap[k]?) (hC:B<=C):C6 A C w' v c:=by
 obtain⟨a,b,rfl,t⟩:=h;refine⟨a,b,rfl,fun k hk => ?_⟩;obtain⟨g,x,u,o,f,y,p,q,r,l,m,⟨d,n⟩,s,i⟩:=t k hk;exact⟨g,x,u,o,f,by omega,fun j hj=>by rw[World.cell?_of_block (a:=⟨g,k * 5+j,none⟩) (hs g f)];exact p j hj,q.keep (fun j hj=>hs j (l j hj)) hC,r.keep (fun j hj=>hs j (m j hj)) hC,l,m,⟨d,(hs g f).trans n.blk,n.size⟩,s.keep (fun j hj=>hs j (l j hj)),i.keep (fun j hj=>hs j (m j hj))⟩
theorem G0.code {g:Nat} {w:World} {c:List Ae} {i:Nat} (h:G0 g w c i) (hi:c.length<=i):C6 g w.heap.size w (.slice (some ⟨g,0,none⟩) c.length c.length) c:=by
 obtain⟨a,b⟩:=h.row;refine⟨_,_,rfl,fun k hk => ?_⟩;obtain⟨s,t,q,r,d,f,l,m,n,o,p⟩:=h.each k hk (by omega);exact⟨g,_,_,rfl,Nat.le_refl _,b.lt,d,f,l,fun j hj=>Nat.le_of_lt (m j hj),fun j hj=>Nat.le_of_lt (n j hj),⟨a,b⟩,o,p⟩
theorem Tryz.infoFn : (Tryz.prog.info? 130).map (fun i=>(i.zero,i.size,i.bytes))=some (some (.agg #[.string ⟨#[]⟩,.slice none 0 0,.int .i64 0,.int .i64 0,.slice none 0 0]),5,80):=by kernel_rfl
theorem Wu (c:List Ae) (a:Option Addr) (cap:Nat) (hl:c.length<=1048576) (hx:∀ k (hk:k < c.length),c[k].params.length<=1048576/\c[k].ins.length<=1048576) (w:World) (hN:El w (.slice a c.length cap) c) :
  Calls Tryz.prog 88 #[.slice a c.length cap] w fun e w'=>e = .returned (.slice (some ⟨w.heap.size,0,none⟩) c.length c.length)/\C6 w.heap.size w'.heap.size w' (.slice (some ⟨w.heap.size,0,none⟩) c.length c.length) c/\Below w.heap.size w w':=by
 have HN:Hid (El w (.slice a c.length cap) c):=hN;clear hN;have R:=Jt (P:=Tryz.prog) Tryz.infoFn Tryz.underlying57 c.length (by omega) (by omega);obtain⟨Z,u⟩:∃ m,madeCells (Value.agg #[.string ⟨#[]⟩,.slice none 0 0,.int .i64 0,.int .i64 0,.slice none 0 0]).cells (c.length * 5)=m:=⟨_,rfl⟩;have T:Hid (Z.size=c.length * 5):=by rw[Hid,<- u,size_madeCells]
 rw[u]at R;clear u;go_enter Tryz.func88,Tryz.ntmps88;go_wp2_with fail;obtain⟨V0,r⟩:∃ V,w.alloc (.cells Z 130)=V:=⟨_,rfl⟩;rw[r];have I:Hid (G0 w.heap.size V0 c 0/\Below w.heap.size w V0):=⟨⟨⟨Z,by rw[<- r];exact Af w _,T.out⟩,fun k hk h=>by omega⟩,by rw[<- r];exact Au w _⟩;clear r R;go_loopw [4] (fun t wr => ∃ i:Nat,i<=c.length/\t = .int .i64 (i:Int)/\G0 w.heap.size wr c i/\Below w.heap.size w wr) (fun t _=>c.length - (intOf t).toNat);case atStart=>exact⟨0,by omega,rfl,I.out.1,I.out.2⟩
 case round =>
  obtain⟨i,hi,rfl,l,s⟩:=hrel;by_cases hlt:i < c.length
  ·have N:(i:Int) < (c.length:Int):=(by omega);obtain⟨g,o,B,D,v,z,X,e0,e1,e2,e3,e4,HP,HI⟩:∃ g o B D v z,a=some ⟨g,o,none⟩/\wr.cell? ⟨g,o+i * 5,none⟩=some (.string c[i].name)/\wr.cell? ⟨g,o+i * 5+1,none⟩=some (.slice B c[i].params.length D)/\wr.cell? ⟨g,o+i * 5+2,none⟩=some (.int .i64 c[i].result)/\wr.cell? ⟨g,o+i * 5+3,none⟩=some (.int .i64 c[i].slots)/\wr.cell? ⟨g,o+i * 5+4,none⟩=some (.slice v c[i].ins.length z)/\Hid (Ab wr.heap.size wr (.slice B c[i].params.length D) c[i].params)/\Hid (Em wr (.slice v c[i].ins.length z) c[i].ins):=by
    obtain⟨a',cp,e,h⟩:=HN.out.below s;injection e with e1;subst e1;obtain⟨g,o,B,D,v,z,h1,-,⟨h2,h3,h4,h5,h6⟩,h7,h8⟩:=h i hlt;exact⟨g,o,B,D,v,z,h1,h2,h3,h4,h5,h6,h7,h8⟩
   subst X;have U:Hid (Calls Tryz.prog 119 #[.agg #[.string c[i].name,.slice B c[i].params.length D,.int .i64 c[i].result,.int .i64 c[i].slots,.slice v c[i].ins.length z]] wr (Pi c[i] wr)):=Y9 c[i] B D v z (hx i hlt).1 (hx i hlt).2 wr HP.out HI.out;have H:Hid (G0 w.heap.size wr c i):=l;have L:w.heap.size < wr.heap.size:=(by obtain⟨W,Y⟩:=l.row;exact Y.lt);have f:Hid (∀ b,Below wr.heap.size wr b->∀ q,q < 5->(∃ y,b.cell? ⟨w.heap.size,i * 5+q,none⟩=some y)/\b.frozen? ⟨w.heap.size,i * 5+q,none⟩=false):=fun b hb q hq=>by
    obtain⟨W,Y⟩:=H.out.row;exact(Y.below hb).cell (i * 5+q) (by omega)
   clear l;go_wp2_with (first|(go_at_call 119;refine U.out.mono ?_;rintro e b ⟨C,E,x,A,rfl,K,J,S,M,O,Q,d⟩;have G:Hid (Cz w.heap.size b 3 c[i].params.length (.slice C c[i].params.length E)/\Cz w.heap.size b 107 (c[i].ins.length * 4) (.slice x c[i].ins.length A)):=⟨O.mono (by omega),Q.mono (by omega)⟩;clear O Q;have n:Hid (Ab b.heap.size b (.slice C c[i].params.length E) c[i].params/\Bb b.heap.size b (.slice x c[i].ins.length A) c[i].ins/\(∀ j,(Value.slice C c[i].params.length E).ownBlock=some j->w.heap.size < j)/\(∀ j,(Value.slice x c[i].ins.length A).ownBlock=some j->w.heap.size < j)):=⟨K,J,fun j e=>Nat.lt_of_lt_of_le L (S j e),fun j e=>Nat.lt_of_lt_of_le L (M j e)⟩;clear K J S M;obtain⟨⟨y0,c0⟩,f0⟩:=f.out b d 0 (by omega);obtain⟨⟨y1,c1⟩,f1⟩:=f.out b d 1 (by omega);obtain⟨⟨y2,c2⟩,f2⟩:=f.out b d 2 (by omega);obtain⟨⟨y3,c3⟩,f3⟩:=f.out b d 3 (by omega);obtain⟨⟨y4,c4⟩,f4⟩:=f.out b d 4 (by omega);rw[Nat.add_zero]at c0 f0));go_roundw;case rel =>
    have hS:=(H.out.below d).store hlt n.out.1 n.out.2.1 n.out.2.2.1 n.out.2.2.2 G.out.1 G.out.2;unfold Oc at hS;exact⟨i+1,by omega,by go_num,hS,(((((s.trans (d.mono s.size)).setCell (p:=⟨w.heap.size,i * 5,none⟩) (Nat.le_refl _) _).setCell (p:=⟨w.heap.size,i * 5+1,none⟩) (Nat.le_refl _) _).setCell (p:=⟨w.heap.size,i * 5+2,none⟩) (Nat.le_refl _) _).setCell (p:=⟨w.heap.size,i * 5+3,none⟩) (Nat.le_refl _) _).setCell (p:=⟨w.heap.size,i * 5+4,none⟩) (Nat.le_refl _) _⟩
   case measure=>simp[intOf];omega
  ·have N:¬ (i:Int) < (c.length:Int):=(by omega);have F:Hid (C6 w.heap.size wr.heap.size wr (.slice (some ⟨w.heap.size,0,none⟩) c.length c.length) c):=l.code (by omega);clear l;go_wp2_with fail;go_ret;exact⟨rfl,F.out,s⟩
theorem Wt (c:List Ae) (a:Option Addr) (cap:Nat) (hl:c.length<=1048576) (hx:∀ k (hk:k < c.length),c[k].params.length<=1048576/\c[k].ins.length<=1048576) (w:World) (hN:El w (.slice a c.length cap) c) :
  Calls Tryz.prog 58 #[.agg #[.slice a c.length cap]] w fun e w' => ∃ p,e = .returned (.agg #[.slice p c.length c.length])/\C6 (w.heap.size+3) w'.heap.size w' (.slice p c.length c.length) c/\Below w.heap.size w w':=by
 have o:Hid (∀ U,Below w.heap.size w U->Calls Tryz.prog 88 #[.slice a c.length cap] U fun e w'=>e = .returned (.slice (some ⟨U.heap.size,0,none⟩) c.length c.length)/\C6 U.heap.size w'.heap.size w' (.slice (some ⟨U.heap.size,0,none⟩) c.length c.length) c/\Below U.heap.size U w'):=fun U hU=>Wu c a cap hl hx U (hN.below hU)
 clear hN;obtain⟨f,b⟩:∃ Y,(((w.alloc (.cells #[.slice a c.length cap] 79)).alloc (.cells #[.slice none 0 0] 59)).alloc (.cells #[.slice none 0 0] 59))=Y:=⟨_,rfl⟩;have r:f.heap.size=w.heap.size+3:=by rw[<- b,World.size_alloc,World.size_alloc,World.size_alloc]
 have d:Hid (Below w.heap.size w f):=by rw[Hid,<- b];exact Ga w _ _ _
 have s:f.heap[w.heap.size]? = some (.cells #[.slice a c.length cap] 79):=by rw[<- b];exact Am _ (Am _ (Af w _))
 have l:f.heap[w.heap.size+1]? = some (.cells #[.slice none 0 0] 59):=by
  rw[<- b];have h:=Af (w.alloc (.cells #[.slice a c.length cap] 79)) (.cells #[.slice none 0 0] 59);rw[World.size_alloc]at h;exact Am _ h
 have m:f.heap[w.heap.size+1+1]? = some (.cells #[.slice none 0 0] 59):=by
  rw[<- b];have h:=Af ((w.alloc (.cells #[.slice a c.length cap] 79)).alloc (.cells #[.slice none 0 0] 59)) (.cells #[.slice none 0 0] 59);rw[World.size_alloc,World.size_alloc]at h;exact h
 have u:f.cell? ⟨w.heap.size,0,none⟩=some (.slice a c.length cap):=by rw[Lib.cell_of_heap s];rfl
 go_enter Tryz.func58,Tryz.ntmps58;go_wp2_with (first
  | (go_at_call 88;refine(o.out f d.out).mono ?_;rintro e j ⟨rfl,g,i⟩;rw[r]at g |-;have n:Hid (C6 (w.heap.size+3) j.heap.size j (.slice (some ⟨w.heap.size+3,0,none⟩) c.length c.length) c):=g;clear g;replace l:=(i.block _ (by omega)).trans l;replace m:=(i.block _ (by omega)).trans m;have t:j.cell? ⟨w.heap.size+1,0,none⟩=some (.slice none 0 0):=(by rw[Lib.cell_of_heap l];rfl);have x:j.cell? ⟨w.heap.size+1+1,0,none⟩=some (.slice none 0 0):=(by rw[Lib.cell_of_heap m];rfl);have y:j.frozen? ⟨w.heap.size+1,0,none⟩=false:=(by simp[World.frozen?,l]);have z:j.frozen? ⟨w.heap.size+1+1,0,none⟩=false:=(by simp[World.frozen?,m])))
 have q:Below w.heap.size w ((j.setCell ⟨w.heap.size+1+1,0,none⟩ (.slice (some ⟨w.heap.size+3,0,none⟩) c.length c.length)).setCell ⟨w.heap.size+1,0,none⟩ (.slice (some ⟨w.heap.size+3,0,none⟩) c.length c.length)):=((d.out.trans (i.mono d.out.size)).setCell (p:=⟨w.heap.size+1+1,0,none⟩) (by show w.heap.size<=w.heap.size+1+1;omega) _).setCell (p:=⟨w.heap.size+1,0,none⟩) (by show w.heap.size<=w.heap.size+1;omega) _;refine bodyPost_ret (v:=.agg #[.slice (some ⟨w.heap.size+3,0,none⟩) c.length c.length]) (by simp[results,Tryz.results58,go_sem,t]) rfl ⟨_,rfl, ?_,q⟩;refine n.out.keep (fun k hk => ?_) (by simp);rw[Below.heap_setCell _ _ _ _ (by show k≠w.heap.size+1;omega),Below.heap_setCell _ _ _ _ (by show k≠w.heap.size+1+1;omega)]
theorem Rl (xs:List Int) (B:Nat) (va vb:Value) (w:World) (C:B<=w.heap.size) (ha:Ab B w va xs) (hb:Ab B w vb xs) (hl:xs.length<=1048576) :
  Calls Tryz.prog 162 #[va,vb] w fun e w'=>e = .returned (.bool true)/\Below w.heap.size w w':=by
 obtain⟨a,z,rfl,s⟩:=ha;obtain⟨b,A,rfl,u⟩:=hb;obtain⟨n,m⟩:∃ n,Hid (xs.length=n):=⟨_,(rfl:xs.length=_)⟩;have k:Hid (∀ i (v:i < xs.length),∃ g o,a=some ⟨g,o,none⟩/\g < B/\w.cell? ⟨g,o+i,none⟩=some (.int .i64 xs[i])):=s;have l:Hid (∀ i (v:i < xs.length),∃ g o,b=some ⟨g,o,none⟩/\g < B/\w.cell? ⟨g,o+i,none⟩=some (.int .i64 xs[i])):=u;clear s u;rw[m.out]at hl;simp only[m.out];have G:((n:Int) != (n:Int))=false:=by simp
 go_enter Tryz.func162,Tryz.ntmps162;go_wp2;go_loopw [5] (fun t wr => ∃ i:Nat,i<=n/\t = .int .i64 (i:Int)/\Below w.heap.size w wr) (fun t _=>n - (intOf t).toNat);case atStart=>exact⟨0,by omega,rfl,Below.refl _ _⟩
 case round =>
  obtain⟨i,v,rfl,c⟩:=hrel;have I:w.heap.size<=wr.heap.size:=c.size;by_cases hlt:i < n
  ·have j:i < xs.length:=(by rw[m.out];exact hlt);obtain⟨q,x,rfl,D,f⟩:=k.out i j;obtain⟨r,y,rfl,E,h⟩:=l.out i j;have H:wr.cell? ⟨q,x+i,none⟩=some (.int .i64 xs[i]):=(by rw[c.cell (p:=⟨q,x+i,none⟩) (by show q < w.heap.size;omega),f]);have C:wr.cell? ⟨r,y+i,none⟩=some (.int .i64 xs[i]):=(by rw[c.cell (p:=⟨r,y+i,none⟩) (by show r < w.heap.size;omega),h]);generalize xs[i]=d at *;clear f h k l;have F:(d != d)=false:=(by simp);go_wp2;go_region;all_goals
    go_wp2;go_roundw;case rel=>exact⟨i+1,by omega,by go_num,by first|exact c|exact⟨c.os,c.tape,c.output,c.size,c.block⟩⟩
    case measure=>simp[intOf];omega
  ·clear k l;go_wp2;go_ret;exact⟨rfl,c⟩
theorem Tj (op a n:Int) (t:ByteArray) (w:World) :
  Calls Tryz.prog 177 #[.agg #[.int .i64 op,.int .i64 a,.int .i64 n,.string t],.agg #[.int .i64 op,.int .i64 a,.int .i64 n,.string t]] w fun e w'=>e = .returned (.bool true)/\Below w.heap.size w w':=by
 have b:(op != op)=false:=by simp
 have c:(a != a)=false:=by simp
 have d:(n != n)=false:=by simp
 go_enter Tryz.func177,Tryz.ntmps177;go_wp2;all_goals go_ret
 all_goals exact⟨rfl,Jc w _ _⟩
theorem Rj (xs:List Ay) (B:Nat) (va vb:Value) (w:World) (hB:B<=w.heap.size) (ha:Bb B w va xs) (hb:Bb B w vb xs) (hl:xs.length<=1048576) :
  Calls Tryz.prog 163 #[va,vb] w fun e w'=>e = .returned (.bool true)/\Below w.heap.size w w':=by
 have D:Hid (Bb B w va xs):=ha;have E:Hid (Bb B w vb xs):=hb;obtain⟨a,F,rfl,-⟩:=ha;obtain⟨b,G,rfl,-⟩:=hb;have J:((xs.length:Int) != (xs.length:Int))=false:=by simp
 go_enter Tryz.func163,Tryz.ntmps163;go_wp2;go_loopw [5] (fun t wr => ∃ i:Nat,i<=xs.length/\t = .int .i64 (i:Int)/\Below w.heap.size w wr) (fun t _=>xs.length - (intOf t).toNat);case atStart=>exact⟨0,by omega,rfl,Below.refl _ _⟩
 case round =>
  obtain⟨i,T,rfl,c⟩:=hrel;have K:w.heap.size<=wr.heap.size:=c.size;by_cases hlt:i < xs.length
  ·have k:(i:Int) < (xs.length:Int):=(by omega);have f:∀ {p:Option Addr} {q:Nat},Bb B w (.slice p xs.length q) xs->∃ g,p=some ⟨g,0,none⟩/\wr.cell? ⟨g,i * 4,none⟩=some (.int .i64 xs[i].op)/\wr.cell? ⟨g,i * 4+1,none⟩=some (.int .i64 xs[i].a)/\wr.cell? ⟨g,i * 4+2,none⟩=some (.int .i64 xs[i].n)/\wr.cell? ⟨g,i * 4+3,none⟩=some (.string xs[i].text):=fun {p q} h=>by
    obtain⟨M,N,e,h⟩:=h.below (c.mono hB);injection e with e1;subst e1;obtain⟨g,I,-,l⟩:=h i hlt;exact⟨g,I,l 0 (by omega),l 1 (by omega),l 2 (by omega),l 3 (by omega)⟩
   obtain⟨R,y,m,n,o,r⟩:=f D.out;obtain⟨S,A,s,u,v,x⟩:=f E.out;clear f;subst y A;obtain⟨d,C⟩:∃ d,Hid (xs[i]=d):=⟨_,(rfl:xs[i]=_)⟩;rw[C.out]at m n o r s u v x;obtain⟨H,O,P,Q⟩:=d;simp only at m n o r s u v x;clear C;go_wp2_with fail;go_region_with (go_at_call 177;refine(Tj _ _ _ _ _).mono ?_;rintro e L ⟨rfl,z⟩);all_goals
    have j:Below w.heap.size w L:=c.trans (by have:=z.mono (B':=w.heap.size) (by simpa using K);exact⟨this.os,this.tape,this.output,this.size,this.block⟩);clear m n o r s u v x;go_wp2;go_roundw;case rel=>exact⟨i+1,by omega,by go_num,j⟩
    case measure=>simp[intOf];omega
  ·have k:¬ (i:Int) < (xs.length:Int):=(by omega);go_wp2;go_ret;exact⟨rfl,c⟩
theorem Vs (f:Ae) (B:Nat) (pa pb ia ib:Option Addr) (pc pd ic id':Nat) (w:World) (hB:B<=w.heap.size) (hp:Ab B w (.slice pa f.params.length pc) f.params) (hq:Ab B w (.slice pb f.params.length pd) f.params) (hi:Bb B w (.slice ia f.ins.length ic) f.ins) (hj:Bb B w (.slice ib f.ins.length id') f.ins) (h1:f.params.length<=1048576) (h2:f.ins.length<=1048576) :
  Calls Tryz.prog 133 #[.agg #[.string f.name,.slice pa f.params.length pc,.int .i64 f.result,.int .i64 f.slots,.slice ia f.ins.length ic],.agg #[.string f.name,.slice pb f.params.length pd,.int .i64 f.result,.int .i64 f.slots,.slice ib f.ins.length id']] w fun e w'=>e = .returned (.bool true)/\Below w.heap.size w w':=by
 have C:(f.result != f.result)=false:=by simp
 have D:(f.slots != f.slots)=false:=by simp
 have s:Hid (∀ U,Below w.heap.size w U->Calls Tryz.prog 162 #[.slice pa f.params.length pc,.slice pb f.params.length pd] U fun e w'=>e = .returned (.bool true)/\Below U.heap.size U w'):=fun U hU=>Rl f.params B _ _ U (Nat.le_trans hB hU.size) (hp.below (hU.mono hB)) (hq.below (hU.mono hB)) h1
 have t:Hid (∀ U,Below w.heap.size w U->Calls Tryz.prog 163 #[.slice ia f.ins.length ic,.slice ib f.ins.length id'] U fun e w'=>e = .returned (.bool true)/\Below U.heap.size U w'):=fun U hU=>Rj f.ins B _ _ U (Nat.le_trans hB hU.size) (hi.below (hU.mono hB)) (hj.below (hU.mono hB)) h2
 obtain⟨g,c⟩:∃ Y,(w.alloc (.cells #[.string f.name,.slice pa f.params.length pc,.int .i64 f.result,.int .i64 f.slots,.slice ia f.ins.length ic] 130)).alloc (.cells #[.string f.name,.slice pb f.params.length pd,.int .i64 f.result,.int .i64 f.slots,.slice ib f.ins.length id'] 130)=Y:=⟨_,rfl⟩;have b:Below w.heap.size w g:=by rw[<- c];exact Jc w _ _
 have u:g.heap.size=w.heap.size+2:=by rw[<- c,World.size_alloc,World.size_alloc]
 have j:g.heap[w.heap.size]? = some (.cells #[.string f.name,.slice pa f.params.length pc,.int .i64 f.result,.int .i64 f.slots,.slice ia f.ins.length ic] 130):=by rw[<- c];exact Am _ (Af w _)
 have k:g.heap[w.heap.size+1]? = some (.cells #[.string f.name,.slice pb f.params.length pd,.int .i64 f.result,.int .i64 f.slots,.slice ib f.ins.length id'] 130):=by
  rw[<- c];have h:=Af (w.alloc (.cells #[.string f.name,.slice pa f.params.length pc,.int .i64 f.result,.int .i64 f.slots,.slice ia f.ins.length ic] 130)) (.cells #[.string f.name,.slice pb f.params.length pd,.int .i64 f.result,.int .i64 f.slots,.slice ib f.ins.length id'] 130);rw[World.size_alloc]at h;exact h
 have r:Hid (∀ U,Below g.heap.size g U->(U.cell? ⟨w.heap.size,2,none⟩=some (.int .i64 f.result)/\U.cell? ⟨w.heap.size,3,none⟩=some (.int .i64 f.slots)/\U.cell? ⟨w.heap.size,4,none⟩=some (.slice ia f.ins.length ic))/\(U.cell? ⟨w.heap.size+1,2,none⟩=some (.int .i64 f.result)/\U.cell? ⟨w.heap.size+1,3,none⟩=some (.int .i64 f.slots)/\U.cell? ⟨w.heap.size+1,4,none⟩=some (.slice ib f.ins.length id'))/\Below w.heap.size w U):=fun U hU=>by
  obtain⟨⟨-,-,l,m,n⟩,-⟩:=E0 ((hU.block _ (by omega)).trans j);obtain⟨⟨-,-,o,p,q⟩,-⟩:=E0 ((hU.block _ (by omega)).trans k);exact⟨⟨l,m,n⟩,⟨o,p,q⟩,b.trans (hU.mono b.size)⟩
 obtain⟨⟨x,y,-,-,-⟩,-⟩:=E0 j;obtain⟨⟨z,A,-,-,-⟩,-⟩:=E0 k;clear hp hq hi hj j k;go_enter Tryz.func133,Tryz.ntmps133;go_wp2_with (first
  | (go_at_call 162;refine(s.out _ (by first|exact b|exact b.drew|exact B5 _ b)).mono ?_;rintro e v ⟨rfl,a⟩;obtain⟨⟨l,m,n⟩,⟨o,p,q⟩,d⟩:=r.out v (⟨a.os,a.tape,a.output,a.size,a.block⟩))
  | (go_at_call 163;refine(t.out _ d).mono ?_;rintro e E ⟨rfl,i⟩))
 all_goals go_ret
 all_goals exact⟨rfl,d.trans (i.mono d.size)⟩
theorem Ti (c:List Ae) (B:Nat) (pa pb:Option Addr) (ca cb:Nat) (w:World) (hB:B<=w.heap.size) (ha:An B w (.slice pa c.length ca) c) (hb:An B w (.slice pb c.length cb) c) (hl:c.length<=1048576) (hx:∀ k (hk:k < c.length),c[k].params.length<=1048576/\c[k].ins.length<=1048576) :
  Calls Tryz.prog 101 #[.slice pa c.length ca,.slice pb c.length cb] w fun e w'=>e = .returned (.bool true)/\Below w.heap.size w w':=by
 have x:Hid (An B w (.slice pa c.length ca) c):=ha;have y:Hid (An B w (.slice pb c.length cb) c):=hb;clear ha hb;have P:((c.length:Int) != (c.length:Int))=false:=by simp
 go_enter Tryz.func101,Tryz.ntmps101;go_wp2;go_loopw [5] (fun t wr => ∃ i:Nat,i<=c.length/\t = .int .i64 (i:Int)/\Below w.heap.size w wr) (fun t _=>c.length - (intOf t).toNat);case atStart=>exact⟨0,by omega,rfl,Below.refl _ _⟩
 case round =>
  obtain⟨i,V,rfl,a⟩:=hrel;have Q:w.heap.size<=wr.heap.size:=a.size;by_cases hlt:i < c.length
  ·have l:(i:Int) < (c.length:Int):=(by omega);obtain⟨S,W,q,r,m,n,L,N,A,C,D,E,F,g,d⟩:=(x.out.below (a.mono hB)).fn i hlt;obtain⟨T,X,s,u,o,p,M,O,G,H,I,J,K,h,f⟩:=(y.out.below (a.mono hB)).fn i hlt;injection L with ea1 ea2 ea3;injection M with eb1 eb2 eb3;subst ea1 ea3 eb1 eb3;have z:Hid (∀ U,Below wr.heap.size wr U->Calls Tryz.prog 133 #[.agg #[.string c[i].name,.slice q c[i].params.length r,.int .i64 c[i].result,.int .i64 c[i].slots,.slice m c[i].ins.length n],.agg #[.string c[i].name,.slice s c[i].params.length u,.int .i64 c[i].result,.int .i64 c[i].slots,.slice o c[i].ins.length p]] U fun e w'=>e = .returned (.bool true)/\Below U.heap.size U w'):=fun U hU=>by
    have b:Below B wr U:=hU.mono (by omega);exact Vs c[i] B q s m o r u n p U (by have:=hU.size;omega) (g.below b) (h.below b) (d.below b) (f.below b) (hx i hlt).1 (hx i hlt).2
   clear g h d f ea2 eb2;go_wp2_with fail;go_region_with (go_at_call 133;refine(z.out _ (by first|exact Below.refl _ _|exact(Below.refl _ _).drew|exact(Below.refl _ _).drew.drew|exact B5 _ (Below.refl _ _))).mono ?_;rintro e R ⟨rfl,v⟩);all_goals
    have j:Below w.heap.size w R:=a.trans (by have:=v.mono (B':=w.heap.size) (by simpa using Q);exact⟨this.os,this.tape,this.output,this.size,this.block⟩);clear A C D E F G H I J K;go_wp2;go_roundw;case rel=>exact⟨i+1,by omega,by go_num,j⟩
    case measure=>simp[intOf];omega
  ·have l:¬ (i:Int) < (c.length:Int):=(by omega);go_wp2;go_ret;exact⟨rfl,a⟩
theorem Ri (c:List Ae) (B:Nat) (pa pb:Option Addr) (ca cb:Nat) (w:World) (hB:B<=w.heap.size) (ha:An B w (.slice pa c.length ca) c) (hb:An B w (.slice pb c.length cb) c) (hl:c.length<=1048576) (hx:∀ k (hk:k < c.length),c[k].params.length<=1048576/\c[k].ins.length<=1048576) :
  Calls Tryz.prog 71 #[.agg #[.slice pa c.length ca],.agg #[.slice pb c.length cb]] w fun e w'=>e = .returned (.bool true)/\Below w.heap.size w w':=by
 have d:Hid (∀ o1 o2,Calls Tryz.prog 101 #[.slice pa c.length ca,.slice pb c.length cb] ((w.alloc o1).alloc o2) fun e w'=>e = .returned (.bool true)/\Below w.heap.size w w'):=fun o1 o2=>by
  have a:=Jc w o1 o2;exact(Ti c B pa pb ca cb _ (Nat.le_trans hB a.size) (ha.below (a.mono hB)) (hb.below (a.mono hB)) hl hx).mono (fun e w' h=>⟨h.1,a.trans (h.2.mono a.size)⟩)
 clear ha hb;go_enter Tryz.func71,Tryz.ntmps71;go_wp2_with (first|(go_at_call 101;refine(d.out _ _).mono ?_;rintro e f ⟨rfl,b⟩));go_ret;exact⟨rfl,b⟩
end Go.Proofs.YtahibkjkpmdhgaaGreatDoor
