import Derived.Test.YtjlaedokfbcbpaaGreatDoorKTk
import Derived.Test.YtjlaedokfbcbpaaGreatDoorKValA
set_option maxRecDepth 100000
set_option maxHeartbeats 2000000
namespace Go.Proofs.YtjlaedokfbcbpaaGreatDoor
open Go.RowKit Proofs.Tryz
theorem Qox (w:World) (R p:Nat) (hR:Dn w R p) (hp:p < 1099511627776) :
  Calls prog 26 #[.pointer (some (OK R 0)),.int .i64 0] w fun e w'=>e = .returned (.int .i64 0)/\Dn w' R (p+1)/\Cp R w w':=by
 obtain⟨v,m,a,g,c⟩:=hR.box;have d:w.cell? (OK R 1)=some (.int .i64 (p:Int)):=by simp[World.cell?,a]
 have f:w.frozen? (OK R 1)=false:=by simp[World.frozen?,a]
 have h:wrap64 ((p:Int)+1)=(p:Int)+1:=IntWalk.wrap64_in _ OC;have b:Hid (Dn (w.setCell (OK R 1) (.int .i64 ((p:Int)+1))) R (p+1)):=hR.next ⟨rfl,rfl,rfl⟩
 clear c a hR;go_enter func26,ntmps26;go_wp2;go_ret;refine⟨rfl,b.out,rfl,rfl,rfl,by simp[World.setCell],fun k _ hk=>Below.heap_setCell _ _ _ _ hk⟩
theorem Bn {B g R P:Nat} {w:World} {nv:Value} {nl:List (ByteArray × Int)} {fv:Value} {F:List Ca} {ret loops count size:Int} (h:Aw B g R P w nv nl fv F ret loops count size) (n:Int) (h1:1<=n) (h2:n<=1000000000) (hP:P<=1000000000) :
  Calls prog 26 #[.pointer (some (OK R 0)),.int .i64 n] w fun e w' => ∃ v:Nat,e = .returned (.int .i64 (v:Int))/\(v:Int) < n/\Aw B g R (P+1) w' nv nl fv F ret loops count size/\Bg B w w':=by
 obtain⟨p,j,f⟩:=h.rd;obtain⟨m,rfl⟩:=Int.eq_ofNat_of_zero_le (show 0<=n by omega);refine(pick_dr w R p m f OC OC OC).mono ?_;rintro e w' ⟨v,c,k,a,b⟩;obtain⟨i,d⟩:=h.but (P':=P+1) ⟨p+1,by omega,a⟩ OC b;exact⟨v,c,by omega,i,d⟩
theorem Xa {B g R P:Nat} {w:World} {nv:Value} {nl:List (ByteArray × Int)} {fv:Value} {F:List Ca} {ret loops count size:Int} (h:Aw B g R P w nv nl fv F ret loops count size) (n:Nat) (h2:n<=1000000000) (hP:P<=1000000000) :
  Calls prog 26 #[.pointer (some (OK R 0)),.int .i64 (n:Int)] w fun e w' => ∃ v:Nat,e = .returned (.int .i64 (v:Int))/\(0 < n->v < n)/\v<=n/\Aw B g R (P+1) w' nv nl fv F ret loops count size/\Bg B w w':=by
 by_cases h0:n=0
 ·subst h0;obtain⟨p,j,i⟩:=h.rd;refine(Qox w R p i OC).mono ?_;rintro e w' ⟨a,c,f⟩;obtain⟨d,b⟩:=h.but (P':=P+1) ⟨p+1,by omega,c⟩ OC f;exact⟨0,a,by omega,by omega,d,b⟩
 ·refine(Bn h (n:Int) OC OC hP).mono ?_;rintro e w' ⟨v,a,k,d,b⟩;exact⟨v,a,by omega,by omega,d,b⟩
theorem Aw.dr {B g R P:Nat} {w:World} {nv:Value} {nl:List (ByteArray × Int)} {fv:Value} {F:List Ca} {ret loops count size:Int} (h:Aw B g R P w nv nl fv F ret loops count size):∃ p,p<=P/\El R p 0 w w:=by
 obtain⟨p,a,b⟩:=h.rd;exact⟨p,a,El.refl b⟩
theorem Aw.of_dr {B g R P K p:Nat} {w w':World} {nv:Value} {nl:List (ByteArray × Int)} {fv:Value} {F:List Ca} {ret loops count size:Int} (h:Aw B g R P w nv nl fv F ret loops count size) (hp:p<=P) (hd:El R p K w w'):Aw B g R (P+K) w' nv nl fv F ret loops count size/\Bg B w w':=by
 obtain⟨b,c,d,a⟩:=hd.at_;exact h.but ⟨b,by omega,a⟩ OC hd.but
theorem Qae {B g R P:Nat} {w:World} {nv:Value} {nl:List (ByteArray × Int)} {fv:Value} {F:List Ca} {ret loops count size:Int} (h:Aw B g R P w nv nl fv F ret loops count size) (hP:P<=1000000000) :
  Calls prog 165 #[.pointer (some (OK R 0))] w fun e w' => ∃ t:ByteArray,e = .returned (.string t)/\t.size<=100/\Aw B g R (P+8) w' nv nl fv F ret loops count size/\Bg B w w':=by
 obtain⟨p,f,b⟩:=h.dr;refine(text_D b OC).mono ?_;rintro e w' ⟨t,c,j,a,-⟩;obtain⟨i,d⟩:=h.of_dr f a;exact⟨t,c,by omega,by simpa using i,d⟩
theorem Qiw {B g R P:Nat} {w:World} {nv:Value} {nl:List (ByteArray × Int)} {fv:Value} {F:List Ca} {ret loops count size:Int} (h:Aw B g R P w nv nl fv F ret loops count size) (hP:P<=1000000000) :
  Calls prog 185 #[.pointer (some (OK R 0))] w fun e w' => ∃ t:ByteArray,e = .returned (.string t)/\t.size<=100/\Aw B g R (P+1) w' nv nl fv F ret loops count size/\Bg B w w':=by
 obtain⟨p,f,b⟩:=h.dr;refine(path_D b OC).mono ?_;rintro e w' ⟨t,c,j,a,-⟩;obtain⟨i,d⟩:=h.of_dr f a;exact⟨t,c,by omega,by simpa using i,d⟩
theorem U8 {B g R P:Nat} {w:World} {nv:Value} {nl:List (ByteArray × Int)} {fv:Value} {F:List Ca} {ret loops count size:Int} (h:Aw B g R P w nv nl fv F ret loops count size) (hP:P<=1000000000) (t:Int) :
  Calls prog 166 #[.pointer (some (OK R 0)),.int .i64 t] w fun e w' => ∃ n:Int,e = .returned (.int .i64 n)/\(-9223372036854775808<=n/\n<=9223372036854775807)/\Aw B g R (P+4) w' nv nl fv F ret loops count size/\Bg B w w':=by
 obtain⟨p,f,b⟩:=h.dr;refine(number_D t b OC).mono ?_;rintro e w' ⟨n,c,j,k,a,-⟩;obtain⟨i,d⟩:=h.of_dr f a;exact⟨n,c,⟨j,k⟩,by simpa using i,d⟩
theorem Aw.cells {B g R P:Nat} {w:World} {nv:Value} {nl:List (ByteArray × Int)} {fv:Value} {F:List Ca} {ret loops count size:Int} (h:Aw B g R P w nv nl fv F ret loops count size):w.cell? (OK g 0)=some (.pointer (some (OK R 0)))/\w.cell? (OK g 1)=some nv/\w.cell? (OK g 2)=some fv/\w.cell? (OK g 3)=some (.int .i64 ret)/\w.cell? (OK g 4)=some (.int .i64 loops)/\w.cell? (OK g 5)=some (.int .i64 count)/\w.cell? (OK g 6)=some (.int .i64 size):=by
 have a:=h.box;refine⟨?_, ?_, ?_, ?_, ?_, ?_, ?_⟩ <;> (rw[Lib.cell_of_heap a];rfl)
theorem K3 {B g R P:Nat} {w:World} {nv:Value} {nl:List (ByteArray × Int)} {fv:Value} {F:List Ca} {ret loops count size:Int} (h:Aw B g R P w nv nl fv F ret loops count size) (hP:P<=900000000) :
  Calls prog 60 #[.pointer (some (OK g 0))] w fun e w' => ∃ t:Int,e = .returned (.int .i64 t)/\(1<=t/\t<=10)/\Aw B g R (P+2) w' nv nl fv F ret loops count size/\Bg B w w':=by
 have l:Hid (Aw B g R P w nv nl fv F ret loops count size):=h;have m:=h.cells.1;clear h;go_enter func60,ntmps60;go_wp2_with fail;refine(Bn l.out 6 OC OC OC).mono ?_;rintro e k ⟨v,rfl,j,c,d⟩;have b:Hid (Aw B g R (P+1) k nv nl fv F ret loops count size):=c;have a:Hid (Bg B w k):=d;have o:=c.cells.1;clear c d m;have n:v=0\/v=1\/v=2\/v=3\/v=4\/v=5:=OC
 clear j;rcases n with rfl|rfl|rfl|rfl|rfl|rfl
 all_goals go_wp2_with (go_at_call 26;refine(Bn b.out 8 OC OC OC).mono ?_;rintro e p ⟨v,rfl,j,i,f⟩)
 ·go_ret;exact⟨1,rfl,by omega,b.out.mono OC,a.out⟩
 ·go_ret;exact⟨2,rfl,by omega,b.out.mono OC,a.out⟩
 ·go_ret;exact⟨2,rfl,by omega,b.out.mono OC,a.out⟩
 ·go_ret;exact⟨10,rfl,by omega,b.out.mono OC,a.out⟩
 ·go_ret;exact⟨3+(v:Int),rfl,by omega,i,a.out.trans f⟩
 ·go_ret;exact⟨3+(v:Int),rfl,by omega,i,a.out.trans f⟩
theorem Ge {W:World} {a:Addr} {v:Value} {o:Obj} (h:W.cell? a=some v):(W.alloc o).cell? a=some v:=(World.cell?_alloc_lt _ _ _ (World.block_lt_of_cell? _ _ h)).trans h
theorem Wc {α:Type} (f:α->List Value) (m:Nat) (hm:∀ a,(f a).length=m):∀ (l:List α) (u:Nat) (hu:u < l.length) (j:Nat),j < m->(l.flatMap f)[u * m+j]? = (f l[u])[j]?
 | [],u,hu,_,_=>by simp at hu
 | x::l,0,_,j,hj=>by
  rw[List.flatMap_cons,List.getElem?_append_left (by rw[hm];omega)];simp
 | x::l,u+1,hu,j,hj=>by
  rw[List.flatMap_cons,List.getElem?_append_right (by rw[hm,Nat.add_mul];omega),hm,show (u+1) * m+j - m=u * m+j by rw[Nat.add_mul];omega]
  exact Wc f m hm l u (by simpa using hu) j hj
theorem Rt {B:Nat} {w:World} {a:Option Addr} {n c:Nat} {nl:List (ByteArray × Int)} (h:w.ownsRow B 162 2 (.slice a n c) nl.length (Ov nl)) (hn:nl.length=n) (i:Nat) (hi:i < n):∃ b,a=some (OK b 0)/\w.cell? (OK b (i * 2))=some (.string (nl[i]'OC).1)/\w.cell? (OK b (i * 2+1))=some (.int .i64 (nl[i]'OC).2):=by
 rcases h.2 with⟨d,m⟩|⟨g,k,l,d,_⟩
 ·injection d with e1 e2 e3;omega
 ·injection d with e1 e2 e3;subst e1;subst e3;have f:=fun j hj=>Wc Qgi 2 (fun _=>rfl) nl i OC j hj
  refine⟨g,rfl,G7 h rfl _ _ ?_,G7 h rfl _ _ ?_⟩
  ·exact f 0 OC
  ·exact f 1 OC
def Qga (B g R P:Nat) (w:World) (nv:Value) (nl:List (ByteArray × Int)) (fv:Value) (F:List Ca) (ret loops count size:Int) (e:Ending) (w':World):Prop := ∃ a n c b,e = .returned (.tuple #[.slice a n c,.bool b])/\As w.heap.size w' (.slice a n c) 1/\Aw B g R P w' nv nl fv F ret loops count size/\Bg B w w'
theorem Mg (w:World):As w.heap.size (w.alloc (.cells #[] 62)) (.slice (some (OK w.heap.size 0)) 0 0) 0:=⟨[],by simp,by simp,L2 w w.heap.size ON [] OF⟩
theorem Qgg {B g R P:Nat} {w:World} {nv:Value} {nl:List (ByteArray × Int)} {fv:Value} {F:List Ca} {ret loops count size:Int} (h:Aw B g R P w nv nl fv F ret loops count size) (hP:P<=900000000) (t:Int) :
  Calls prog 163 #[.pointer (some (OK g 0)),.int .i64 t] w (Qga B g R (P+1) w nv nl fv F ret loops count size):=by
 obtain⟨E,s,rfl⟩:=B3 h.names;have HS:Hid (Aw B g R P w (.slice E nl.length s) nl fv F ret loops count size):=h;obtain⟨g0,g1,-⟩:=h.cells;have N:nl.length<=P:=h.nbd.1;have G:Hid (∀ x ∈ nl,x.1.size<=30):=fun x hx=>(h.nbd.2 x hx).1
 clear h;obtain⟨n,H⟩:∃ n,Hid (nl.length=n):=⟨_,(rfl:nl.length=_)⟩;rw[H.out]at HS g1 N |-
 go_enter func163,ntmps163;go_wp2_with fail;refine(Xa HS.out n OC OC).mono ?_;rintro e f ⟨v,rfl,Y,af,C,o⟩;have m:Hid (Aw B g R (P+1) f (.slice E n s) nl fv F ret loops count size):=C;have u:Hid (Bg B w f):=o;have ag:=o.size;clear C o g0 g1;go_wp2_with fail;go_loopw [8] (fun t wr => ∃ j:Nat,j<=n/\t = .int .i64 (j:Int)/\Aw B g R (P+1) wr (.slice E n s) nl fv F ret loops count size/\Below f.heap.size f wr) (fun t _=>n - (intOf t).toNat);case atStart=>exact⟨0,by omega,rfl,m.out,OO _⟩
 case round =>
  obtain⟨j,hj,rfl,d,k⟩:=hrel;have J:Hid (Aw B g R (P+1) wr (.slice E n s) nl fv F ret loops count size):=d;have l:Hid (Below f.heap.size f wr):=k;have r:=k.size;by_cases hlt:j < n
  ·have z:(j:Int) < (n:Int):=OC;have Z:=Y OC;obtain⟨q,I⟩:∃ q,Hid ((v+j) % n=q):=⟨_,(rfl:(v+j) % n=_)⟩;have A:q < n:=(by rw[<- I.out];exact Nat.mod_lt _ OC);have T:q < nl.length:=(by rw[H.out];exact A);obtain⟨b,rfl,O,Q⟩:=Rt d.names H.out q A;have M:=d.cells.2.1;have X:nl[q].1.size<=100:=(by have:=G.out nl[q] (List.getElem_mem T);omega);have ad:(q:Int) < (n:Int):=OC;have hw:IntKind.i64.wrap ((v:Int)+(j:Int))=(v:Int)+(j:Int):=(IntWalk.i64_left _).trans (IntWalk.wrap64_in _ OC);have ac:((n:Int) == 0)=false:=OH;have ab:¬ n=0:=OC;have ae:((v:Int)+(j:Int)).tmod (n:Int)=(q:Int):=(by rw[<- I.out,Int.tmod_eq_emod_of_nonneg OC];push_cast;rfl);clear d k hlt Z I Y;go_wp2_with fail;refine wp_region_held_drew (S:=(fun W=>W.cell? (OK g 1)=some (.slice (some (OK b 0)) n s)/\W.cell? (OK b (q * 2))=some (.string nl[q].1)/\W.cell? (OK b (q * 2+1))=some (.int .i64 nl[q].2))) OE (⟨M,O,Q⟩) (fun hHeld => ?_);refine Tk 0 (.pointer (some (OK g 0))) ?_;refine Tk 1 (.pointer (some (OK g 0))) ?_;refine Tk 2 (.pointer (some (OK g 1))) ?_;(try simp[Act.put]);refine Tk 3 (.slice (some (OK b 0)) n s) ?_;refine Tk 4 (.int .i64 (v:Int)) ?_;refine Tk 5 (.int .i64 (j:Int)) ?_;(try simp[Act.put]);refine Tk 6 (.int .i64 ((v:Int)+(j:Int))) ?_;refine Tk 7 (.int .i64 (n:Int)) ?_;refine Tk 8 (.int .i64 (q:Int)) ?_;(try simp[Act.put]);refine Tk 9 (.pointer (some (OK b (q * 2)))) ?_;refine Tk 10 (.agg #[.string nl[q].1,.int .i64 nl[q].2]) ?_;(try simp[Act.put]);have a:=hHeld;refine Tr 11 rfl fun KK hK=>?_
   go_simp;refine hK.out _ _ (⟨Ge hHeld.1,Ge hHeld.2.1,Ge hHeld.2.2⟩) (fun hHeld => ?_);clear hK;(try simp[Act.put]);refine Tr 12 rfl fun KK hK=>?_
   go_simp;refine hK.out _ _ (⟨Ge a.1,Ge a.2.1,Ge a.2.2⟩) (fun hHeld => ?_);clear hK;(try simp[Act.put]);refine wpAnyH_done OE ?_ _;obtain⟨V,D⟩:∃ V,(wr.alloc (.cells #[.string nl[q].1,.int .i64 nl[q].2] 162)).drew=V:=⟨_,rfl⟩;have y:Below wr.heap.size wr V:=(by rw[<- D];exact(OP wr _).drew);have p:V.heap[wr.heap.size]? = some (.cells #[.string nl[q].1,.int .i64 nl[q].2] 162):=(by rw[<- D];exact World.alloc_heap_new wr _);have x0:V.cell? (OK wr.heap.size 0)=some (.string nl[q].1):=(by rw[Lib.cell_of_heap p];rfl);have x1:V.cell? (OK wr.heap.size 1)=some (.int .i64 nl[q].2):=(by rw[Lib.cell_of_heap p];rfl);rw[D];have i:Hid (Below wr.heap.size wr V):=y;clear hHeld a p y D;obtain⟨b,HE⟩:∃ b,Hid ((nl[q].2 == t)=b):=⟨_,(rfl:(nl[q].2 == t)=_)⟩;have he:=HE.out;cases b with
   | true =>
    go_wp2_with fail;refine(Qi 4 nl[q].1 X V).mono ?_;rintro e w5 ⟨a5,n5,c5,rfl,U,L⟩;have aa:=i.out.size;have c:Below f.heap.size f w5:=l.out.trans ((i.out.trans (L.mono aa)).mono r);go_wp2_with fail;exact bodyPost_ret (v:=.tuple #[.slice a5 n5 c5,.bool true]) (by simp[results,results163,go_sem]) rfl ⟨a5,n5,c5,true,rfl,U.mono OC ON,m.out.below c,u.out.trans (Bg.of_below c)⟩
   | false =>
    have K:Hid (Aw B g R (P+1) V (.slice (some (OK _ 0)) n s) nl fv F ret loops count size):=J.out.below i.out;go_wp2_with fail;go_roundw;case rel=>exact⟨j+1,by omega,by go_num,K.out,l.out.trans (i.out.mono r)⟩
    case measure=>simp[intOf];omega
  ·have z:¬ (j:Int) < (n:Int):=OC;clear d k Y;go_wp2_with fail;have c:Below f.heap.size f (wr.alloc (.cells #[] 62)):=l.out.alloc r _;exact bodyPost_ret (v:=.tuple #[.slice (some (OK wr.heap.size 0)) 0 0,.bool false]) (by simp[results,results163,go_sem]) rfl ⟨_,_,_,false,rfl,(Mg wr).mono OC OC,m.out.below c,u.out.trans (Bg.of_below c)⟩
def Qid (B g R P K:Nat) (w:World) (nv:Value) (nl:List (ByteArray × Int)) (fv:Value) (F:List Ca) (ret loops count size:Int) (e:Ending) (w':World):Prop := ∃ a n c,e = .returned (.slice a n c)/\As w.heap.size w' (.slice a n c) K/\Aw B g R P w' nv nl fv F ret loops count size/\Bg B w w'
theorem Rs {B g R P:Nat} {w:World} {nv:Value} {nl:List (ByteArray × Int)} {fv:Value} {F:List Ca} {ret loops count size:Int} (h:Aw B g R P w nv nl fv F ret loops count size) (hP:P<=800000000) (t:Int) :
  Calls prog 131 #[.pointer (some (OK g 0)),.int .i64 t] w (Qid B g R (P+20) 1 w nv nl fv F ret loops count size):=by
 have HS:Hid (Aw B g R P w nv nl fv F ret loops count size):=h;clear h;go_enter func131,ntmps131;go_wp2_with fail;refine(Qgg HS.out OC t).mono ?_;rintro e W ⟨a,n,c,b,rfl,I,l,z⟩;have H:Hid (Aw B g R (P+1) W nv nl fv F ret loops count size):=l;have p:Hid (Bg B w W):=z;have L:Hid (As w.heap.size W (.slice a n c) 1):=I;have g0:=l.cells.1;have aa:=z.size;clear l z I;have l:=H.out;have Y:t=1\/t=2\/(t≠1/\t≠2):=OC
 cases b with
 | true =>
  go_wp2_with fail;refine(Bn H.out 3 OC OC OC).mono ?_;rintro e Z ⟨v,rfl,K,s,u⟩;have q2:=s.cells.1;have ab:=u.size;have q:Hid (Bg B w Z):=p.out.trans u;have M:Hid (As w.heap.size Z (.slice a n c) 1):=L.out.fr u;clear g0 l u;by_cases hv0:v=0
  ·subst hv0;rcases Y with rfl|rfl|⟨O,Q⟩
   ·go_wp2_with fail;refine(Bn s 2 OC OC OC).mono ?_;rintro e x ⟨v3,rfl,D,k,d⟩;have E:=d.size;go_wp2_with fail;go_ret;exact⟨_,_,_,rfl,(Fj x ⟨3,0,0,(v3:Int),⟨#[]⟩,0⟩ (Qot OC)).mono OC ON,(k.below (OP x _)).mono OC,(q.out.trans d).alloc _⟩
   ·go_wp2_with fail;refine(Bn s 5 OC OC OC).mono ?_;rintro e x ⟨v3,rfl,D,k,d⟩;have E:=d.size;have q3:=k.cells.1;by_cases hv0:v3=0
    ·subst hv0;go_wp2_with fail;refine(Tl 5 [] 0 none 0 x (fun i v hi=>by simp at hi) (fun v K=>by simp at K) OF OF).mono ?_;rintro e y ⟨a4,n4,c4,rfl,A,r⟩;go_wp2_with fail;go_ret;exact⟨_,_,_,rfl,A.mono OC OF,(k.below r).mono OC,(q.out.trans d).trans (Bg.of_below r)⟩
    ·have J:((v3:Int) == 0)=false:=OH;go_wp2_with fail;refine(Qae k OC).mono ?_;rintro e y ⟨V,rfl,C,o,j⟩;have G:=j.size;go_wp2_with fail;refine(D8 V C y).mono ?_;rintro e X ⟨N,T,c5,rfl,m,f⟩;go_wp2_with fail;go_ret;exact⟨_,_,_,rfl,m.mono OC ON,(o.below f).mono OC,((q.out.trans d).trans j).trans (Bg.of_below f)⟩
   ·have e1:(t == 1)=false:=(by simpa using O);have e2:(t == 2)=false:=(by simpa using Q);go_wp2_with fail;refine(U8 s OC t).mono ?_;rintro e y ⟨U,rfl,S,o,j⟩;have G:=j.size;go_wp2_with fail;refine(J5 t U y).mono ?_;rintro e X ⟨N,T,c5,rfl,m,f⟩;go_wp2_with fail;go_ret;exact⟨_,_,_,rfl,m.mono OC ON,(o.below f).mono OC,(q.out.trans j).trans (Bg.of_below f)⟩
  ·have J:(0:Int) < (v:Int):=OC;go_wp2_with fail;go_ret;exact⟨a,n,c,rfl,M.out,s.mono OC,q.out⟩
 | false =>
  rcases Y with rfl|rfl|⟨O,Q⟩
  ·go_wp2_with fail;refine(Bn l 2 OC OC OC).mono ?_;rintro e x ⟨v3,rfl,D,k,d⟩;have E:=d.size;go_wp2_with fail;go_ret;exact⟨_,_,_,rfl,(Fj x ⟨3,0,0,(v3:Int),⟨#[]⟩,0⟩ (Qot OC)).mono OC ON,(k.below (OP x _)).mono OC,(p.out.trans d).alloc _⟩
  ·go_wp2_with fail;refine(Bn l 5 OC OC OC).mono ?_;rintro e x ⟨v3,rfl,D,k,d⟩;have E:=d.size;have q3:=k.cells.1;by_cases hv0:v3=0
   ·subst hv0;go_wp2_with fail;refine(Tl 5 [] 0 none 0 x (fun i v hi=>by simp at hi) (fun v K=>by simp at K) OF OF).mono ?_;rintro e y ⟨a4,n4,c4,rfl,A,r⟩;go_wp2_with fail;go_ret;exact⟨_,_,_,rfl,A.mono OC OF,(k.below r).mono OC,(p.out.trans d).trans (Bg.of_below r)⟩
   ·have J:((v3:Int) == 0)=false:=OH;go_wp2_with fail;refine(Qae k OC).mono ?_;rintro e y ⟨V,rfl,C,o,j⟩;have G:=j.size;go_wp2_with fail;refine(D8 V C y).mono ?_;rintro e X ⟨N,T,c5,rfl,m,f⟩;go_wp2_with fail;go_ret;exact⟨_,_,_,rfl,m.mono OC ON,(o.below f).mono OC,((p.out.trans d).trans j).trans (Bg.of_below f)⟩
  ·have e1:(t == 1)=false:=(by simpa using O);have e2:(t == 2)=false:=(by simpa using Q);go_wp2_with fail;refine(U8 l OC t).mono ?_;rintro e y ⟨U,rfl,S,o,j⟩;have G:=j.size;go_wp2_with fail;refine(J5 t U y).mono ?_;rintro e X ⟨N,T,c5,rfl,m,f⟩;go_wp2_with fail;go_ret;exact⟨_,_,_,rfl,m.mono OC ON,(o.below f).mono OC,(p.out.trans j).trans (Bg.of_below f)⟩
theorem Ru (w:World) (vs:List Value) (T:TypeId):∀ i v,vs[i]? = some v->∃ b,some ((OK w.heap.size 0):Addr)=some (OK b 0)/\(w.alloc (.cells vs.toArray T)).cell? (OK b i)=some v:=fun i v hi=>⟨w.heap.size,rfl,by rw[Lib.cell_of_heap (World.alloc_heap_new w _)];simpa using hi⟩
theorem Tq (d:Ae) (hd:Fi d) (vs:List Value) (K:Nat) (w:World) (hr:∀ v ∈ vs,∃ A,As A w v K) (hl:vs.length<=100) (hK:vs.length * K<=1000000000) :
  Calls prog 54 #[.agg #[.int .i64 d.kind,.int .i64 d.op,.int .i64 d.type,.int .i64 d.n,.string d.text,.int .i64 d.kids],.slice (some (OK w.heap.size 0)) vs.length vs.length] (w.alloc (.cells vs.toArray 23)) fun e w' => ∃ a n c,e = .returned (.slice a n c)/\As w.heap.size w' (.slice a n c) (vs.length * K+1)/\Below w.heap.size w w':=by
 have b:Below w.heap.size w (w.alloc (.cells vs.toArray 23)):=OP w _;refine(Pi d hd vs K (some (OK w.heap.size 0)) vs.length _ (Ru w vs _) (fun v hv=>by obtain⟨A,h⟩:=hr v hv;exact⟨A,h.fr (B:=0) (Bg.of_below b)⟩) hl hK).mono ?_;rintro e w' ⟨a,n,c,rfl,f,g⟩;exact⟨a,n,c,rfl,f.mono b.size ON,b.trans (g.mono b.size)⟩
theorem Rr (op:Int) (vs:List Value) (K:Nat) (w:World) (hr:∀ v ∈ vs,∃ A,As A w v K) (hl:vs.length<=100) (hK:vs.length * K<=1000000000) :
  Calls prog 164 #[.int .i64 op,.slice (some (OK w.heap.size 0)) vs.length vs.length] (w.alloc (.cells vs.toArray 23)) fun e w' => ∃ a n c,e = .returned (.slice a n c)/\As w.heap.size w' (.slice a n c) (vs.length * K+1)/\Below w.heap.size w w':=by
 have b:Below w.heap.size w (w.alloc (.cells vs.toArray 23)):=OP w _;refine(Tl op vs K (some (OK w.heap.size 0)) vs.length _ (Ru w vs _) (fun v hv=>by obtain⟨A,h⟩:=hr v hv;exact⟨A,h.fr (B:=0) (Bg.of_below b)⟩) hl hK).mono ?_;rintro e w' ⟨a,n,c,rfl,d,f⟩;exact⟨a,n,c,rfl,d.mono b.size ON,b.trans (f.mono b.size)⟩
def Jm (K:Nat) (w:World) (e:Ending) (w':World):Prop := ∃ a n c,e = .returned (.slice a n c)/\As w.heap.size w' (.slice a n c) K/\Below w.heap.size w w'
theorem D9 (d:Ae) (hd:Fi d) {a:Option Addr} {n c K A:Nat} {w:World} (h:As A w (.slice a n c) K) (hK:K<=300000000) :
  Calls prog 54 #[.agg #[.int .i64 d.kind,.int .i64 d.op,.int .i64 d.type,.int .i64 d.n,.string d.text,.int .i64 d.kids],.slice (some (OK w.heap.size 0)) 1 1] (w.alloc (.cells #[.slice a n c] 23)) (Jm (K+1) w):=by
 have:=Tq d hd [.slice a n c] K w (fun v hv=>by simp at hv;subst hv;exact⟨A,h⟩) OF OH;exact this.mono fun e w' ⟨a,n,c,h1,h2,h3⟩=>⟨a,n,c,h1,h2.mono ON OF,h3⟩
theorem M0 (op:Int) {a:Option Addr} {n c K A:Nat} {w:World} (h:As A w (.slice a n c) K) (hK:K<=300000000) :
  Calls prog 164 #[.int .i64 op,.slice (some (OK w.heap.size 0)) 1 1] (w.alloc (.cells #[.slice a n c] 23)) (Jm (K+1) w):=by
 have:=Rr op [.slice a n c] K w (fun v hv=>by simp at hv;subst hv;exact⟨A,h⟩) OF OH;exact this.mono fun e w' ⟨a,n,c,h1,h2,h3⟩=>⟨a,n,c,h1,h2.mono ON OF,h3⟩
theorem Qqu (d:Ae) (hd:Fi d) {a a':Option Addr} {n c n' c' K A A':Nat} {w:World} (h:As A w (.slice a n c) K) (h':As A' w (.slice a' n' c') K) (hK:K<=300000000) :
  Calls prog 54 #[.agg #[.int .i64 d.kind,.int .i64 d.op,.int .i64 d.type,.int .i64 d.n,.string d.text,.int .i64 d.kids],.slice (some (OK w.heap.size 0)) 2 2] (w.alloc (.cells #[.slice a n c,.slice a' n' c'] 23)) (Jm (2 * K+1) w):=by
 have:=Tq d hd [.slice a n c,.slice a' n' c'] K w (fun v hv=>by simp at hv;rcases hv with rfl|rfl <;> first|exact⟨A,h⟩|exact⟨A',h'⟩) OF OH;exact this.mono fun e w' ⟨a,n,c,h1,h2,h3⟩=>⟨a,n,c,h1,h2.mono ON OF,h3⟩
theorem Yv (op:Int) {a a':Option Addr} {n c n' c' K A A':Nat} {w:World} (h:As A w (.slice a n c) K) (h':As A' w (.slice a' n' c') K) (hK:K<=300000000) :
  Calls prog 164 #[.int .i64 op,.slice (some (OK w.heap.size 0)) 2 2] (w.alloc (.cells #[.slice a n c,.slice a' n' c'] 23)) (Jm (2 * K+1) w):=by
 have:=Rr op [.slice a n c,.slice a' n' c'] K w (fun v hv=>by simp at hv;rcases hv with rfl|rfl <;> first|exact⟨A,h⟩|exact⟨A',h'⟩) OF OH;exact this.mono fun e w' ⟨a,n,c,h1,h2,h3⟩=>⟨a,n,c,h1,h2.mono ON OF,h3⟩
theorem Qqv (d:Ae) (hd:Fi d) {a a' a2:Option Addr} {n c n' c' n2 c2 K A A' A2:Nat} {w:World} (h:As A w (.slice a n c) K) (h':As A' w (.slice a' n' c') K) (h2:As A2 w (.slice a2 n2 c2) K) (hK:K<=300000000) :
  Calls prog 54 #[.agg #[.int .i64 d.kind,.int .i64 d.op,.int .i64 d.type,.int .i64 d.n,.string d.text,.int .i64 d.kids],.slice (some (OK w.heap.size 0)) 3 3] (w.alloc (.cells #[.slice a n c,.slice a' n' c',.slice a2 n2 c2] 23)) (Jm (3 * K+1) w):=by
 have:=Tq d hd [.slice a n c,.slice a' n' c',.slice a2 n2 c2] K w (fun v hv=>by simp at hv;rcases hv with rfl|rfl|rfl <;> first|exact⟨A,h⟩|exact⟨A',h'⟩|exact⟨A2,h2⟩) OF OH;exact this.mono fun e w' ⟨a,n,c,h1,h2,h3⟩=>⟨a,n,c,h1,h2.mono ON OF,h3⟩
theorem Qfh (op:Int) {a a' a2:Option Addr} {n c n' c' n2 c2 K A A' A2:Nat} {w:World} (h:As A w (.slice a n c) K) (h':As A' w (.slice a' n' c') K) (h2:As A2 w (.slice a2 n2 c2) K) (hK:K<=300000000) :
  Calls prog 164 #[.int .i64 op,.slice (some (OK w.heap.size 0)) 3 3] (w.alloc (.cells #[.slice a n c,.slice a' n' c',.slice a2 n2 c2] 23)) (Jm (3 * K+1) w):=by
 have:=Rr op [.slice a n c,.slice a' n' c',.slice a2 n2 c2] K w (fun v hv=>by simp at hv;rcases hv with rfl|rfl|rfl <;> first|exact⟨A,h⟩|exact⟨A',h'⟩|exact⟨A2,h2⟩) OF OH;exact this.mono fun e w' ⟨a,n,c,h1,h2,h3⟩=>⟨a,n,c,h1,h2.mono ON OF,h3⟩
theorem Yu (op:Int) {a a':Option Addr} {n c n' c' K A A':Nat} {w:World} (h:As A w (.slice a n c) K) (h':As A' w (.slice a' n' c') K) (hK:K<=300000000) :
  Calls prog 97 #[.int .i64 op,.slice a n c,.slice a' n' c'] w (Jm (2 * K+1) w):=Qmz op a n c a' n' c' K w ⟨A,h⟩ ⟨A',h'⟩ OC
def Tj (B g R P K:Nat) (w:World) (nv:Value) (nl:List (ByteArray × Int)) (fv:Value) (F:List Ca) (ret loops count:Int) (e:Ending) (w':World):Prop := ∃ a n c size,e = .returned (.slice a n c)/\As w.heap.size w' (.slice a n c) K/\Aw B g R P w' nv nl fv F ret loops count size/\Bg B w w'
def Bm (d:Nat):Nat:=100 * 5 ^ d
theorem Qky (d:Nat):Bm (d+1)=5 * Bm d:=by unfold Bm;rw[Nat.pow_succ];omega
theorem Q5 (d:Nat):100<=Bm d:=by unfold Bm;have:=Nat.one_le_pow d 5 OC;omega
def F6 (B g R:Nat) (d:Nat):Prop := ∀ (P:Nat) (w:World) (nv:Value) (nl:List (ByteArray × Int)) (fv:Value) (F:List Ca) (ret loops count size:Int) (t:Int),Aw B g R P w nv nl fv F ret loops count size->P+Bm d<=700000000->Calls prog 101 #[.pointer (some (OK g 0)),.int .i64 t,.int .i64 (d:Int)] w (Tj B g R (P+Bm d) (Bm d) w nv nl fv F ret loops count)
theorem W9 {B g R P:Nat} {w:World} {nv:Value} {nl:List (ByteArray × Int)} {fv:Value} {F:List Ca} {ret loops count size:Int} (HE:Hid (F6 B g R 0)) (h:Aw B g R P w nv nl fv F ret loops count size) (hP:P+110<=700000000) :
  Calls prog 167 #[.pointer (some (OK g 0))] w (Tj B g R (P+110) 100 w nv nl fv F ret loops count):=by
 have r:Hid (Aw B g R P w nv nl fv F ret loops count size):=h;have s:=h.cells.1;have t:Bm 0=100:=rfl;clear h;go_enter func167,ntmps167;go_wp2_with fail;refine(Bn r.out 12 OC OC OC).mono ?_;rintro e z ⟨v,rfl,C,f,d⟩;have A:=f.cells.1;have p:=d.size;clear s;by_cases hv0:v=0
 ·subst hv0;go_wp2_with fail;refine(HE.out (P+1) z nv nl fv F ret loops count size 2 f OC).mono ?_;rintro e q ⟨a,n,c,j,rfl,l,i,b⟩;go_wp2_with fail;go_ret;exact⟨a,n,c,j,rfl,l.mono p ON,i.mono OC,d.trans b⟩
 ·have u:((v:Int) == 0)=false:=by simp;omega
  go_wp2_with fail;refine(Qiw f OC).mono ?_;rintro e q ⟨y,rfl,o,i,b⟩;have x:=b.size;go_wp2_with fail;refine(D8 y o q).mono ?_;rintro e D ⟨a,n,c,rfl,m,k⟩;go_wp2_with fail;go_ret;exact⟨a,n,c,size,rfl,m.mono OC OC,(i.below k).mono OC,(d.trans b).trans (Bg.of_below k)⟩
theorem DdGenGx76 {P:Prop} (h:P:=by
 rintro e z ⟨G,H,c4,rfl,j,A⟩
 go_wp2_with fail
 go_ret
 exact⟨G,H,c4,m,rfl,j.mono OC OC,(c.below A).mono OC,((o.trans p).trans a).trans (Bg.of_below A)⟩
 ):P:=h
theorem DdGenGx104 {P:Prop} (h:P:=by
 rintro e w5 ⟨a5,n5,c5,x,rfl,I,K,q⟩
 have Z:=q.size
 go_wp2_with fail
 refine(Yu _ (j.fr q) I OC).mono ?_
 rintro e w6 ⟨O,n6,Q,rfl,J,C⟩
 go_wp2_with fail
 go_ret
 exact⟨O,n6,Q,x,rfl,J.mono OC OC,(K.below C).mono OC,((((o.trans p).trans a).trans i).trans q).trans (Bg.of_below C)⟩
 ):P:=h
theorem DeGenGx130 {P:Prop} (h:P:=by
 rintro e y ⟨u,rfl,L,c,a⟩
 have n:=a.size
 have s:wrap64 ((d:Int)+1 - 1)=(d:Int):=by rw[show (d:Int)+1 - 1=(d:Int) by omega];exact IntWalk.wrap64_in _ OC
 have l:(d:Int)+1 - 1=(d:Int):=OC
 go_wp2_with fail
 refine(HE.out (P+2+1+1) y nv nl fv F ret loops count size t c OC).mono ?_
 rintro e z ⟨G,H,c4,b,rfl,j,k,i⟩
 have E:=i.size
 go_wp2_with fail
 refine(HE.out _ z nv nl fv F ret loops count b t k OC).mono ?_
 exact DdGenGx104
 ):P:=h
theorem DeGenGx103 {P:Prop} (h:P:=by
 refine(Bn f 2 OC OC OC).mono ?_
 rintro e y ⟨u,rfl,L,c,a⟩
 have n:=a.size
 have s:wrap64 ((d:Int)+1 - 1)=(d:Int):=by rw[show (d:Int)+1 - 1=(d:Int) by omega];exact IntWalk.wrap64_in _ OC
 have l:(d:Int)+1 - 1=(d:Int):=OC
 go_wp2_with fail
 refine(HE.out (P+2+1+1) y nv nl fv F ret loops count size 1 c OC).mono ?_
 rintro e z ⟨G,H,c4,b,rfl,j,k,i⟩
 have E:=i.size
 go_wp2_with fail
 refine(HE.out _ z nv nl fv F ret loops count b 1 k OC).mono ?_
 exact DdGenGx104
 ):P:=h
theorem Qbv {B g R P d:Nat} {w:World} {nv:Value} {nl:List (ByteArray × Int)} {fv:Value} {F:List Ca} {ret loops count size:Int} (HE0:Hid (F6 B g R 0)) (HE:Hid (F6 B g R d)) (h:Aw B g R P w nv nl fv F ret loops count size) (hP:P+4 * Bm d+50<=700000000) :
  Calls prog 132 #[.pointer (some (OK g 0)),.int .i64 ((d:Int)+1)] w (Tj B g R (P+4 * Bm d+50) (4 * Bm d+50) w nv nl fv F ret loops count):=by
 have M:Hid (Aw B g R P w nv nl fv F ret loops count size):=h;have V:=Q5 d;clear h;go_enter func132,ntmps132;go_wp2_with fail;refine(K3 M.out OC).mono ?_;rintro e w1 ⟨t,rfl,ht,D,o⟩;have S:=D.cells.1;have X:=o.size;go_wp2_with fail;refine(Bn D 9 OC OC OC).mono ?_;rintro e w2 ⟨v,rfl,hv,f,p⟩;have g2:=f.cells.1;have Y:=p.size;clear S;have T:v=0\/v=1\/v=2\/v=3\/v=4\/5<=v:=OC
 have U:d<=700000000:=by
  have:d < 5 ^ d:=Nat.lt_pow_self OC;unfold Bm at hP;omega
 rcases T with rfl|rfl|rfl|rfl|rfl|W
 ·go_wp2_with fail;refine(W9 HE0 f OC).mono ?_;rintro e y ⟨N,n3,c3,m,rfl,r,c,a⟩;have n:=a.size;go_wp2_with fail;refine(M0 2 r OC).mono ?_;exact DdGenGx76
 ·have s:wrap64 ((d:Int)+1 - 1)=(d:Int):=by rw[show (d:Int)+1 - 1=(d:Int) by omega];exact IntWalk.wrap64_in _ OC
  have l:(d:Int)+1 - 1=(d:Int):=OC
  go_wp2_with fail;refine(HE.out (P+2+1) w2 nv nl fv F ret loops count size 1 f OC).mono ?_;rintro e y ⟨N,n3,c3,m,rfl,r,c,a⟩;have n:=a.size;go_wp2_with fail;refine(D9 ⟨5,2,0,0,⟨#[]⟩,0⟩ Bh r OC).mono ?_;exact DdGenGx76
 ·go_wp2_with fail;exact DeGenGx103
 ·go_wp2_with fail;exact DeGenGx103
 ·go_wp2_with fail;refine(Bn f 2 OC OC OC).mono ?_;exact DeGenGx130
 ·have f0:((v:Int) == 0)=false:=by simp;omega
  have f1:((v:Int) == 1)=false:=by simp;omega
  have f2:((v:Int) == 2)=false:=by simp;omega
  have f3:((v:Int) == 3)=false:=by simp;omega
  have f4:((v:Int) == 4)=false:=by simp;omega
  by_cases ht1:t=1
  ·subst ht1;go_wp2_with fail;refine(Bn f 6 OC OC OC).mono ?_;rintro e y ⟨u,rfl,L,c,a⟩;have n:=a.size;have s:wrap64 ((d:Int)+1 - 1)=(d:Int):=(by rw[show (d:Int)+1 - 1=(d:Int) by omega];exact IntWalk.wrap64_in _ OC);have l:(d:Int)+1 - 1=(d:Int):=OC;go_wp2_with fail;refine(HE.out (P+2+1+1) y nv nl fv F ret loops count size 2 c OC).mono ?_;rintro e z ⟨G,H,c4,b,rfl,j,k,i⟩;have E:=i.size;go_wp2_with fail;refine(HE.out _ z nv nl fv F ret loops count b 2 k OC).mono ?_;exact DdGenGx104
  ·have e1:(t == 1)=false:=(by simpa using ht1);go_wp2_with fail;refine(Bn f 6 OC OC OC).mono ?_;exact DeGenGx130
end Go.Proofs.YtjlaedokfbcbpaaGreatDoor
