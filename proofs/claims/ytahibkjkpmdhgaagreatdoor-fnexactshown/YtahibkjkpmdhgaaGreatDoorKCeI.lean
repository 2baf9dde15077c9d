import Derived.Test.YtahibkjkpmdhgaaGreatDoorKCeE
import Derived.Test.YtahibkjkpmdhgaaGreatDoorKScanG
set_option maxRecDepth 100000
set_option maxHeartbeats 2000000
namespace Go.Proofs.YtahibkjkpmdhgaaGreatDoor
open Go.RowKit
theorem Al.front {B:Nat} {w:World} {a:Option Addr} {n cap:Nat} {c:List Af} (h:Al B w (.slice a n cap) c) {m:Nat} (hm:m<=c.length):Al B w (.slice a m cap) (c.take m):=by
 obtain⟨q,r,e,l⟩:=h;injection e with e1 e2 e3;subst e1;refine⟨a,cap,by rw[List.length_take,Nat.min_eq_left hm],fun k hk => ?_⟩;rw[List.length_take]at hk;obtain⟨g,p,o,b,d,f,i,j⟩:=l k Ou;exact⟨g,p,o,b,d,by rw[List.getElem_take];exact f,by rw[List.getElem_take];exact i,by rw[List.getElem_take];exact j⟩
theorem M7 {w w':World} {b:Nat} (h:G8 w b) (hb:OH w w'):G8 w' b :=
 World.ownsMap.kept (row:=none) h ⟨hb.os,hb.tape,hb.output,hb.size,fun k hk _=>hb.block k hk⟩ OB
theorem Qdr (c:List Af) (name:ByteArray):decide (0<=D4 c name)=c.any (fun g=>g.name.toList == name.toList):=by
 unfold D4;rcases Jt name c 0 with⟨a,b⟩|⟨j,k,a,b,l⟩
 ·have:c.any (fun g=>g.name.toList == name.toList)=false:=by
   rw[List.any_eq_false];intro f d;obtain⟨i,h,rfl⟩:=List.getElem_of_mem d;rw[b i h];simp
  rw[a,this];rfl
 ·have:c.any (fun g=>g.name.toList == name.toList)=true:=by
   rw[List.any_eq_true];exact⟨_,List.getElem_mem k,b⟩
  rw[a,this];simp
theorem Uw (c:List Af) (k:Nat) (hk:k < c.length) (f:Af) (hf:c[k]=f) (a:Option Addr) (cap mb:Nat) (hcl:c.length<=1048576) (hcap:c.length<=cap) (hnm:f.name.size<=1048576) (hpl:f.params.length<=1048576) (hil:f.ins.length<=1048576) (B:Nat) (w:World) (hB:B<=w.heap.size) (hC:Al B w (.slice a c.length cap) c) (hM:G8 w mb) :
  Calls Tryz.prog 124 #[.agg #[.slice a c.length cap],.int .i64 (k:Int),.map (some mb)] w fun e w'=>e = .returned (.bool (Bz c k f))/\OH w w':=by
 obtain⟨g,aq,pa,pc,ia,ic,ev,hg,d0,d1,d2,d3,d4,hP,-⟩:=hC.fn k hk;injection ev with ev1 ev2 ev3;subst ev1;rw[hf]at d0 d1 d2 d3 d4 hP;have HC:Hid (Al B w (.slice (some (OI g 0)) c.length cap) c):=hC;have aj:Hid (Ac B w (.slice pa f.params.length pc) f.params):=hP;have HM:Hid (G8 w mb):=hM;clear hC hP hM hf ev2 ev3;obtain⟨Y1,af⟩:∃ Y,w.alloc (.cells #[.slice (some (OI g 0)) c.length cap] 59)=Y:=⟨_,rfl⟩;have T:OH w Y1:=by rw[<- af];exact Ao w _
 have ak:Y1.heap.size=w.heap.size+1:=by rw[<- af];exact World.size_alloc _ _
 have V:Y1.heap[w.heap.size]? = some (.cells #[.slice (some (OI g 0)) c.length cap] 59):=by rw[<- af];exact Ae w _
 have ap:Y1.cell? (OK w 0)=some (.slice (some (OI g 0)) c.length cap):=by rw[Lib.cell_of_heap V];rfl
 have U:g < w.heap.size:=Ou
 have e0:=(T.cell (p:=(OI g (k * 5))) U).trans d0;have e1:=(T.cell (p:=(OI g (k * 5+1))) U).trans d1;have e2:=(T.cell (p:=(OI g (k * 5+2))) U).trans d2;have e3:=(T.cell (p:=(OI g (k * 5+3))) U).trans d3;have e4:=(T.cell (p:=(OI g (k * 5+4))) U).trans d4;obtain⟨l,X⟩:∃ Y,Y1.alloc (.cells #[.string f.name,.slice pa f.params.length pc,.int .i64 f.result,.int .i64 f.slots,.slice ia f.ins.length ic] 130)=Y:=⟨_,rfl⟩;have s:OH w l:=by rw[<- X];exact Ab T _
 have aw:l.heap.size=w.heap.size+2:=by rw[<- X,World.size_alloc];omega
 have ab:l.heap[w.heap.size]? = some (.cells #[.slice (some (OI g 0)) c.length cap] 59):=by rw[<- X];exact Ak _ V
 have ac:l.heap[w.heap.size+1]? = some (.cells #[.string f.name,.slice pa f.params.length pc,.int .i64 f.result,.int .i64 f.slots,.slice ia f.ins.length ic] 130):=by rw[<- X,<- ak];exact Ae _ _
 have m:Hid (∀ W,OH l W->W.cell? (OK w 0)=some (.slice (some (OI g 0)) c.length cap)/\W.cell? (OJ w 1 0)=some (.string f.name)/\W.cell? (OJ w 1 1)=some (.slice pa f.params.length pc)/\W.cell? (OJ w 1 2)=some (.int .i64 f.result)/\W.cell? (OJ w 1 3)=some (.int .i64 f.slots)/\W.cell? (OJ w 1 4)=some (.slice ia f.ins.length ic)):=fun W hW=>by
  have h0:=(hW.block w.heap.size Ou).trans ab;have h1:=(hW.block (w.heap.size+1) Ou).trans ac;refine⟨?_, ?_, ?_, ?_, ?_, ?_⟩
  ·rw[Lib.cell_of_heap h0];rfl
  ·rw[Lib.cell_of_heap h1];rfl
  ·rw[Lib.cell_of_heap h1];rfl
  ·rw[Lib.cell_of_heap h1];rfl
  ·rw[Lib.cell_of_heap h1];rfl
  ·rw[Lib.cell_of_heap h1];rfl
 obtain⟨y0,y1,y2,y3,y4,y5⟩:=m.out l (Below.refl _ _);clear V ab ac d0 d1 d2 d3 d4;have ar:(k:Int) < (c.length:Int):=Ou
 have au:(k:Int)<=(cap:Int):=Ou
 obtain⟨r,R⟩:∃ r,Hid (Bz c k f=r):=⟨_,(rfl:Bz c k f=_)⟩;rw[R.out];have u:Hid (∀ W,OH l W->Calls Tryz.prog 94 #[.slice (some (OI g 0)) k cap,.string f.name] W fun e w'=>e = .returned (.int .i64 (D4 (c.take k) f.name))/\OH W w'):=fun W hW=>by
  have Z:=(show OH w W from s.trans (hW.mono s.size));have h:=Ly (c.take k) (some (OI g 0)) cap f.name (by rw[List.length_take];omega) B W (Nat.le_trans hB Z.size) (by
   rw[List.length_take,Nat.min_eq_left Ou]
   exact(HC.out.below (Z.mono hB)).front Ou)
  rw[List.length_take,Nat.min_eq_left Ou]at h;exact h
 have ad:=Qdr (c.take k) f.name;obtain⟨nn,ai⟩:∃ n,Hid (D4 (c.take k) f.name=n):=⟨_,(rfl:D4 (c.take k) f.name=_)⟩;rw[ai.out]at u ad;have C:Hid (∀ W,OH l W->Calls Tryz.prog 149 #[.slice pa f.params.length pc,.func (Fn.func 150) #[] #[]] W fun e w'=>e = .returned (.bool (!(f.params.all E1)))/\W=w'):=fun W hW=>by
  have Z:=(show OH w W from s.trans (hW.mono s.size));exact Xe f.params pa pc hpl B W (aj.out.below (Z.mono hB))
 obtain⟨nb,ae⟩:∃ b,Hid (Br f.name=b):=⟨_,(rfl:Br f.name=_)⟩;obtain⟨al,z⟩:∃ b,Hid (f.params.all E1=b):=⟨_,(rfl:f.params.all E1=_)⟩;obtain⟨rt,y⟩:∃ b,Hid (E1 f.result=b):=⟨_,(rfl:E1 f.result=_)⟩;have ag:Hid (decide (0<=nn)=(c.take k).any (fun g=>g.name.toList == f.name.toList)):=ad;have aa:Hid (f.params.all (fun t=>As t 1 10)=al):=z.out;clear ad;have A:Hid (∀ W,OH l W->Calls Tryz.prog 148 #[.string f.name,.map (some mb)] W fun e w'=>e = .returned (.bool nb)/\OH W w'):=fun W hW=>isName_is f.name nb ae mb W hnm (M7 HM.out (s.trans (hW.mono s.size)))
 go_enter Tryz.func124,Tryz.ntmps124;cases nb with
 | false =>
  have x:Hid (false=r):=by rw[Hid,<- R.out];unfold Bz;rw[ae.out];rfl
  go_wp2_with fail;refine wp_region_held_drew (S:=fun W=>W.cell? (OJ w 1 0)=some (.string f.name)) OA (y1) fun _=>?_
  refine Tk 0 (.pointer (some (OJ w 1 0))) ?_;refine Tk 1 (.string f.name) ?_;refine Tk 2 (.map (some mb)) ?_;(try simp[Act.put]);refine Tr 3 rfl fun KK hK=>?_
  go_simp;(go_at_call 148;refine(A.out _ OE).mono ?_;rintro e v ⟨rfl,j⟩;have d:=(show OH l v from Below.trans OE j);obtain⟨G,E,J,K,L,M⟩:=m.out v d);go_wp2;refine hK.out _ _ (E) fun _=>?_
  clear hK;(try simp[Act.put]);refine Tk 4 (.bool true) ?_;refine Tk 5 (.bool true) ?_;refine Ts 6 ?_;(try simp[Act.put]);refine Ts 7 ?_;refine Ts 8 ?_;refine Ts 9 ?_;(try simp[Act.put]);refine Ts 10 ?_;refine Ts 11 ?_;refine Ts 12 ?_;(try simp[Act.put]);refine Ts 13 ?_;refine Tk 14 (.bool true) ?_;(try simp[Act.put]);refine wpAnyH_done OA ?_ _;all_goals go_wp2_with (first|(go_at_call 148;refine(A.out _ OE).mono ?_;rintro e v ⟨rfl,j⟩;have d:=(show OH l v from Below.trans OE j);obtain⟨G,E,J,K,L,M⟩:=m.out v d)|(go_at_call 94;refine(u.out _ (by first|exact d|exact d.drew)).mono ?_;rintro e q ⟨rfl,o⟩;have i:=(show OH l q from Below.trans (by first|exact d|exact d.drew) (o.mono d.size));obtain⟨H,I,N,O,P,Q⟩:=m.out q i)|(go_at_call 149;refine(C.out q i).mono ?_;rintro e D ⟨rfl,rfl⟩;rw[z.out])|(go_at_call 151;refine(B7 _ _).mono ?_;rintro e D ⟨rfl,rfl⟩;rw[y.out]))
  all_goals go_ret
  all_goals exact⟨Ap x.out,s.trans (d.mono s.size)⟩
 | true =>
  by_cases q2:0<=nn
  ·have x:Hid (false=r):=by
    rw[Hid,<- R.out];unfold Bz;rw[<- ag.out];simp[q2]
   go_wp2_with fail;first|(go_region_held3 (fun W=>W.cell? (OK w 0)=some (.slice (some (OI g 0)) c.length cap)/\W.cell? (OJ w 1 0)=some (.string f.name)) (first|exact⟨y0,y1⟩|exact⟨G,E⟩|exact⟨H,I⟩) (first|(go_at_call 148;refine(A.out _ OE).mono ?_;rintro e v ⟨rfl,j⟩;have d:=(show OH l v from Below.trans OE j);obtain⟨G,E,J,K,L,M⟩:=m.out v d)|(go_at_call 94;refine(u.out _ (by first|exact d|exact d.drew)).mono ?_;rintro e q ⟨rfl,o⟩;have i:=(show OH l q from Below.trans (by first|exact d|exact d.drew) (o.mono d.size));obtain⟨H,I,N,O,P,Q⟩:=m.out q i)|(go_at_call 149;refine(C.out q i).mono ?_;rintro e D ⟨rfl,rfl⟩;rw[z.out])|(go_at_call 151;refine(B7 _ _).mono ?_;rintro e D ⟨rfl,rfl⟩;rw[y.out])))|fail
   all_goals go_wp2_with (first|(go_at_call 148;refine(A.out _ OE).mono ?_;rintro e v ⟨rfl,j⟩;have d:=(show OH l v from Below.trans OE j);obtain⟨G,E,J,K,L,M⟩:=m.out v d)|(go_at_call 94;refine(u.out _ (by first|exact d|exact d.drew)).mono ?_;rintro e q ⟨rfl,o⟩;have i:=(show OH l q from Below.trans (by first|exact d|exact d.drew) (o.mono d.size));obtain⟨H,I,N,O,P,Q⟩:=m.out q i)|(go_at_call 149;refine(C.out q i).mono ?_;rintro e D ⟨rfl,rfl⟩;rw[z.out])|(go_at_call 151;refine(B7 _ _).mono ?_;rintro e D ⟨rfl,rfl⟩;rw[y.out]))
   all_goals go_ret
   all_goals exact⟨Ap (by first|exact x.out|(rw[<- x.out];simp;omega)),s.trans (i.mono s.size)⟩
  ·have ax:¬ (0:Int)<=nn:=q2;have ah:Hid ((c.take k).any (fun g=>g.name.toList == f.name.toList)=false):=(by rw[Hid,<- ag.out];simp;omega);by_cases q3:f.params.length<=8
   ·have am:¬ (8:Int) < (f.params.length:Int):=Ou;cases al with
    | false =>
     have x:Hid (false=r):=by
      rw[Hid,<- R.out];unfold Bz;rw[aa.out];simp
     go_wp2_with fail;first|(go_region_held3 (fun W=>W.cell? (OK w 0)=some (.slice (some (OI g 0)) c.length cap)/\W.cell? (OJ w 1 0)=some (.string f.name)) (first|exact⟨y0,y1⟩|exact⟨G,E⟩|exact⟨H,I⟩) (first|(go_at_call 148;refine(A.out _ OE).mono ?_;rintro e v ⟨rfl,j⟩;have d:=(show OH l v from Below.trans OE j);obtain⟨G,E,J,K,L,M⟩:=m.out v d)|(go_at_call 94;refine(u.out _ (by first|exact d|exact d.drew)).mono ?_;rintro e q ⟨rfl,o⟩;have i:=(show OH l q from Below.trans (by first|exact d|exact d.drew) (o.mono d.size));obtain⟨H,I,N,O,P,Q⟩:=m.out q i)|(go_at_call 149;refine(C.out q i).mono ?_;rintro e D ⟨rfl,rfl⟩;rw[z.out])|(go_at_call 151;refine(B7 _ _).mono ?_;rintro e D ⟨rfl,rfl⟩;rw[y.out])))|fail
     all_goals go_wp2_with (first|(go_at_call 148;refine(A.out _ OE).mono ?_;rintro e v ⟨rfl,j⟩;have d:=(show OH l v from Below.trans OE j);obtain⟨G,E,J,K,L,M⟩:=m.out v d)|(go_at_call 94;refine(u.out _ (by first|exact d|exact d.drew)).mono ?_;rintro e q ⟨rfl,o⟩;have i:=(show OH l q from Below.trans (by first|exact d|exact d.drew) (o.mono d.size));obtain⟨H,I,N,O,P,Q⟩:=m.out q i)|(go_at_call 149;refine(C.out q i).mono ?_;rintro e D ⟨rfl,rfl⟩;rw[z.out])|(go_at_call 151;refine(B7 _ _).mono ?_;rintro e D ⟨rfl,rfl⟩;rw[y.out]))
     all_goals go_ret
     all_goals exact⟨Ap (by first|exact x.out|(rw[<- x.out];simp;omega)),s.trans (i.mono s.size)⟩
    | true =>
     have F:Hid (Bz c k f=(As f.result 0 10 && As f.slots (f.params.length:Int) 200 && As (f.ins.length:Int) 1 50000)):=by
      rw[Hid];unfold Bz;rw[ae.out,aa.out,ah.out];simp[q3]
     go_wp2_with fail;first|(go_region_held3 (fun W=>W.cell? (OK w 0)=some (.slice (some (OI g 0)) c.length cap)/\W.cell? (OJ w 1 0)=some (.string f.name)) (first|exact⟨y0,y1⟩|exact⟨G,E⟩|exact⟨H,I⟩) (first|(go_at_call 148;refine(A.out _ OE).mono ?_;rintro e v ⟨rfl,j⟩;have d:=(show OH l v from Below.trans OE j);obtain⟨G,E,J,K,L,M⟩:=m.out v d)|(go_at_call 94;refine(u.out _ (by first|exact d|exact d.drew)).mono ?_;rintro e q ⟨rfl,o⟩;have i:=(show OH l q from Below.trans (by first|exact d|exact d.drew) (o.mono d.size));obtain⟨H,I,N,O,P,Q⟩:=m.out q i)|(go_at_call 149;refine(C.out q i).mono ?_;rintro e D ⟨rfl,rfl⟩;rw[z.out])|(go_at_call 151;refine(B7 _ _).mono ?_;rintro e D ⟨rfl,rfl⟩;rw[y.out])))|fail
     all_goals
      by_cases r0:f.result=0
      ·have an:(f.result != 0)=false:=(by simp[r0]);have ao:0<=f.result/\f.result<=10:=Ou;clear r0;by_cases s1:(f.params.length:Int)<=f.slots
       ·by_cases s2:f.slots<=200
        ·by_cases s3:(1:Int)<=(f.ins.length:Int)
         ·by_cases s4:(f.ins.length:Int)<=50000
          ·have x:Hid (true=r):=by rw[Hid,<- R.out,F.out];unfold As;simp;try omega
           go_wp2_with (first|(go_at_call 148;refine(A.out _ OE).mono ?_;rintro e v ⟨rfl,j⟩;have d:=(show OH l v from Below.trans OE j);obtain⟨G,E,J,K,L,M⟩:=m.out v d)|(go_at_call 94;refine(u.out _ (by first|exact d|exact d.drew)).mono ?_;rintro e q ⟨rfl,o⟩;have i:=(show OH l q from Below.trans (by first|exact d|exact d.drew) (o.mono d.size));obtain⟨H,I,N,O,P,Q⟩:=m.out q i)|(go_at_call 149;refine(C.out q i).mono ?_;rintro e D ⟨rfl,rfl⟩;rw[z.out])|(go_at_call 151;refine(B7 _ _).mono ?_;rintro e D ⟨rfl,rfl⟩;rw[y.out]));all_goals go_ret
           all_goals exact⟨Ap (by first|exact x.out|(rw[<- x.out];simp;omega)),s.trans (i.mono s.size)⟩
          ·have x:Hid (false=r):=by rw[Hid,<- R.out,F.out];unfold As;simp;try omega
           go_wp2_with (first|(go_at_call 148;refine(A.out _ OE).mono ?_;rintro e v ⟨rfl,j⟩;have d:=(show OH l v from Below.trans OE j);obtain⟨G,E,J,K,L,M⟩:=m.out v d)|(go_at_call 94;refine(u.out _ (by first|exact d|exact d.drew)).mono ?_;rintro e q ⟨rfl,o⟩;have i:=(show OH l q from Below.trans (by first|exact d|exact d.drew) (o.mono d.size));obtain⟨H,I,N,O,P,Q⟩:=m.out q i)|(go_at_call 149;refine(C.out q i).mono ?_;rintro e D ⟨rfl,rfl⟩;rw[z.out])|(go_at_call 151;refine(B7 _ _).mono ?_;rintro e D ⟨rfl,rfl⟩;rw[y.out]));all_goals go_ret
           all_goals exact⟨Ap (by first|exact x.out|(rw[<- x.out];simp;omega)),s.trans (i.mono s.size)⟩
         ·have x:Hid (false=r):=by rw[Hid,<- R.out,F.out];unfold As;simp;try omega
          go_wp2_with (first|(go_at_call 148;refine(A.out _ OE).mono ?_;rintro e v ⟨rfl,j⟩;have d:=(show OH l v from Below.trans OE j);obtain⟨G,E,J,K,L,M⟩:=m.out v d)|(go_at_call 94;refine(u.out _ (by first|exact d|exact d.drew)).mono ?_;rintro e q ⟨rfl,o⟩;have i:=(show OH l q from Below.trans (by first|exact d|exact d.drew) (o.mono d.size));obtain⟨H,I,N,O,P,Q⟩:=m.out q i)|(go_at_call 149;refine(C.out q i).mono ?_;rintro e D ⟨rfl,rfl⟩;rw[z.out])|(go_at_call 151;refine(B7 _ _).mono ?_;rintro e D ⟨rfl,rfl⟩;rw[y.out]));all_goals go_ret
          all_goals exact⟨Ap (by first|exact x.out|(rw[<- x.out];simp;omega)),s.trans (i.mono s.size)⟩
        ·have x:Hid (false=r):=by rw[Hid,<- R.out,F.out];unfold As;simp;try omega
         go_wp2_with (first|(go_at_call 148;refine(A.out _ OE).mono ?_;rintro e v ⟨rfl,j⟩;have d:=(show OH l v from Below.trans OE j);obtain⟨G,E,J,K,L,M⟩:=m.out v d)|(go_at_call 94;refine(u.out _ (by first|exact d|exact d.drew)).mono ?_;rintro e q ⟨rfl,o⟩;have i:=(show OH l q from Below.trans (by first|exact d|exact d.drew) (o.mono d.size));obtain⟨H,I,N,O,P,Q⟩:=m.out q i)|(go_at_call 149;refine(C.out q i).mono ?_;rintro e D ⟨rfl,rfl⟩;rw[z.out])|(go_at_call 151;refine(B7 _ _).mono ?_;rintro e D ⟨rfl,rfl⟩;rw[y.out]));all_goals go_ret
         all_goals exact⟨Ap (by first|exact x.out|(rw[<- x.out];simp;omega)),s.trans (i.mono s.size)⟩
       ·have x:Hid (false=r):=by rw[Hid,<- R.out,F.out];unfold As;simp;try omega
        go_wp2_with (first|(go_at_call 148;refine(A.out _ OE).mono ?_;rintro e v ⟨rfl,j⟩;have d:=(show OH l v from Below.trans OE j);obtain⟨G,E,J,K,L,M⟩:=m.out v d)|(go_at_call 94;refine(u.out _ (by first|exact d|exact d.drew)).mono ?_;rintro e q ⟨rfl,o⟩;have i:=(show OH l q from Below.trans (by first|exact d|exact d.drew) (o.mono d.size));obtain⟨H,I,N,O,P,Q⟩:=m.out q i)|(go_at_call 149;refine(C.out q i).mono ?_;rintro e D ⟨rfl,rfl⟩;rw[z.out])|(go_at_call 151;refine(B7 _ _).mono ?_;rintro e D ⟨rfl,rfl⟩;rw[y.out]));all_goals go_ret
        all_goals exact⟨Ap (by first|exact x.out|(rw[<- x.out];simp;omega)),s.trans (i.mono s.size)⟩
      ·have an:(f.result != 0)=true:=(by simp[r0]);cases rt with
       | false =>
        have av:¬ (0<=f.result/\f.result<=10):=by
         have h:=y.out;unfold E1 As at h;simp at h;omega
        clear r0;have x:Hid (false=r):=by rw[Hid,<- R.out,F.out];unfold As;simp;try omega
        go_wp2_with (first|(go_at_call 148;refine(A.out _ OE).mono ?_;rintro e v ⟨rfl,j⟩;have d:=(show OH l v from Below.trans OE j);obtain⟨G,E,J,K,L,M⟩:=m.out v d)|(go_at_call 94;refine(u.out _ (by first|exact d|exact d.drew)).mono ?_;rintro e q ⟨rfl,o⟩;have i:=(show OH l q from Below.trans (by first|exact d|exact d.drew) (o.mono d.size));obtain⟨H,I,N,O,P,Q⟩:=m.out q i)|(go_at_call 149;refine(C.out q i).mono ?_;rintro e D ⟨rfl,rfl⟩;rw[z.out])|(go_at_call 151;refine(B7 _ _).mono ?_;rintro e D ⟨rfl,rfl⟩;rw[y.out]));all_goals go_ret
        all_goals exact⟨Ap (by first|exact x.out|(rw[<- x.out];simp;omega)),s.trans (i.mono s.size)⟩
       | true =>
        have ao:0<=f.result/\f.result<=10:=by
         have h:=y.out;unfold E1 As at h;simp at h;omega
        clear r0;by_cases s1:(f.params.length:Int)<=f.slots
        ·by_cases s2:f.slots<=200
         ·by_cases s3:(1:Int)<=(f.ins.length:Int)
          ·by_cases s4:(f.ins.length:Int)<=50000
           ·have x:Hid (true=r):=by rw[Hid,<- R.out,F.out];unfold As;simp;try omega
            go_wp2_with (first|(go_at_call 148;refine(A.out _ OE).mono ?_;rintro e v ⟨rfl,j⟩;have d:=(show OH l v from Below.trans OE j);obtain⟨G,E,J,K,L,M⟩:=m.out v d)|(go_at_call 94;refine(u.out _ (by first|exact d|exact d.drew)).mono ?_;rintro e q ⟨rfl,o⟩;have i:=(show OH l q from Below.trans (by first|exact d|exact d.drew) (o.mono d.size));obtain⟨H,I,N,O,P,Q⟩:=m.out q i)|(go_at_call 149;refine(C.out q i).mono ?_;rintro e D ⟨rfl,rfl⟩;rw[z.out])|(go_at_call 151;refine(B7 _ _).mono ?_;rintro e D ⟨rfl,rfl⟩;rw[y.out]));all_goals go_ret
            all_goals exact⟨Ap (by first|exact x.out|(rw[<- x.out];simp;omega)),s.trans (i.mono s.size)⟩
           ·have x:Hid (false=r):=by rw[Hid,<- R.out,F.out];unfold As;simp;try omega
            go_wp2_with (first|(go_at_call 148;refine(A.out _ OE).mono ?_;rintro e v ⟨rfl,j⟩;have d:=(show OH l v from Below.trans OE j);obtain⟨G,E,J,K,L,M⟩:=m.out v d)|(go_at_call 94;refine(u.out _ (by first|exact d|exact d.drew)).mono ?_;rintro e q ⟨rfl,o⟩;have i:=(show OH l q from Below.trans (by first|exact d|exact d.drew) (o.mono d.size));obtain⟨H,I,N,O,P,Q⟩:=m.out q i)|(go_at_call 149;refine(C.out q i).mono ?_;rintro e D ⟨rfl,rfl⟩;rw[z.out])|(go_at_call 151;refine(B7 _ _).mono ?_;rintro e D ⟨rfl,rfl⟩;rw[y.out]));all_goals go_ret
            all_goals exact⟨Ap (by first|exact x.out|(rw[<- x.out];simp;omega)),s.trans (i.mono s.size)⟩
          ·have x:Hid (false=r):=by rw[Hid,<- R.out,F.out];unfold As;simp;try omega
           go_wp2_with (first|(go_at_call 148;refine(A.out _ OE).mono ?_;rintro e v ⟨rfl,j⟩;have d:=(show OH l v from Below.trans OE j);obtain⟨G,E,J,K,L,M⟩:=m.out v d)|(go_at_call 94;refine(u.out _ (by first|exact d|exact d.drew)).mono ?_;rintro e q ⟨rfl,o⟩;have i:=(show OH l q from Below.trans (by first|exact d|exact d.drew) (o.mono d.size));obtain⟨H,I,N,O,P,Q⟩:=m.out q i)|(go_at_call 149;refine(C.out q i).mono ?_;rintro e D ⟨rfl,rfl⟩;rw[z.out])|(go_at_call 151;refine(B7 _ _).mono ?_;rintro e D ⟨rfl,rfl⟩;rw[y.out]));all_goals go_ret
           all_goals exact⟨Ap (by first|exact x.out|(rw[<- x.out];simp;omega)),s.trans (i.mono s.size)⟩
         ·have x:Hid (false=r):=by rw[Hid,<- R.out,F.out];unfold As;simp;try omega
          go_wp2_with (first|(go_at_call 148;refine(A.out _ OE).mono ?_;rintro e v ⟨rfl,j⟩;have d:=(show OH l v from Below.trans OE j);obtain⟨G,E,J,K,L,M⟩:=m.out v d)|(go_at_call 94;refine(u.out _ (by first|exact d|exact d.drew)).mono ?_;rintro e q ⟨rfl,o⟩;have i:=(show OH l q from Below.trans (by first|exact d|exact d.drew) (o.mono d.size));obtain⟨H,I,N,O,P,Q⟩:=m.out q i)|(go_at_call 149;refine(C.out q i).mono ?_;rintro e D ⟨rfl,rfl⟩;rw[z.out])|(go_at_call 151;refine(B7 _ _).mono ?_;rintro e D ⟨rfl,rfl⟩;rw[y.out]));all_goals go_ret
          all_goals exact⟨Ap (by first|exact x.out|(rw[<- x.out];simp;omega)),s.trans (i.mono s.size)⟩
        ·have x:Hid (false=r):=by rw[Hid,<- R.out,F.out];unfold As;simp;try omega
         go_wp2_with (first|(go_at_call 148;refine(A.out _ OE).mono ?_;rintro e v ⟨rfl,j⟩;have d:=(show OH l v from Below.trans OE j);obtain⟨G,E,J,K,L,M⟩:=m.out v d)|(go_at_call 94;refine(u.out _ (by first|exact d|exact d.drew)).mono ?_;rintro e q ⟨rfl,o⟩;have i:=(show OH l q from Below.trans (by first|exact d|exact d.drew) (o.mono d.size));obtain⟨H,I,N,O,P,Q⟩:=m.out q i)|(go_at_call 149;refine(C.out q i).mono ?_;rintro e D ⟨rfl,rfl⟩;rw[z.out])|(go_at_call 151;refine(B7 _ _).mono ?_;rintro e D ⟨rfl,rfl⟩;rw[y.out]));all_goals go_ret
         all_goals exact⟨Ap (by first|exact x.out|(rw[<- x.out];simp;omega)),s.trans (i.mono s.size)⟩
   ·have am:(8:Int) < (f.params.length:Int):=Ou;have x:Hid (false=r):=by
     rw[Hid,<- R.out];unfold Bz;simp[q3]
    go_wp2_with fail;first|(go_region_held3 (fun W=>W.cell? (OK w 0)=some (.slice (some (OI g 0)) c.length cap)/\W.cell? (OJ w 1 0)=some (.string f.name)) (first|exact⟨y0,y1⟩|exact⟨G,E⟩|exact⟨H,I⟩) (first|(go_at_call 148;refine(A.out _ OE).mono ?_;rintro e v ⟨rfl,j⟩;have d:=(show OH l v from Below.trans OE j);obtain⟨G,E,J,K,L,M⟩:=m.out v d)|(go_at_call 94;refine(u.out _ (by first|exact d|exact d.drew)).mono ?_;rintro e q ⟨rfl,o⟩;have i:=(show OH l q from Below.trans (by first|exact d|exact d.drew) (o.mono d.size));obtain⟨H,I,N,O,P,Q⟩:=m.out q i)|(go_at_call 149;refine(C.out q i).mono ?_;rintro e D ⟨rfl,rfl⟩;rw[z.out])|(go_at_call 151;refine(B7 _ _).mono ?_;rintro e D ⟨rfl,rfl⟩;rw[y.out])))|fail
    all_goals go_wp2_with (first|(go_at_call 148;refine(A.out _ OE).mono ?_;rintro e v ⟨rfl,j⟩;have d:=(show OH l v from Below.trans OE j);obtain⟨G,E,J,K,L,M⟩:=m.out v d)|(go_at_call 94;refine(u.out _ (by first|exact d|exact d.drew)).mono ?_;rintro e q ⟨rfl,o⟩;have i:=(show OH l q from Below.trans (by first|exact d|exact d.drew) (o.mono d.size));obtain⟨H,I,N,O,P,Q⟩:=m.out q i)|(go_at_call 149;refine(C.out q i).mono ?_;rintro e D ⟨rfl,rfl⟩;rw[z.out])|(go_at_call 151;refine(B7 _ _).mono ?_;rintro e D ⟨rfl,rfl⟩;rw[y.out]))
    all_goals go_ret
    all_goals exact⟨Ap (by first|exact x.out|(rw[<- x.out];simp;omega)),s.trans (i.mono s.size)⟩
end Go.Proofs.YtahibkjkpmdhgaaGreatDoor
